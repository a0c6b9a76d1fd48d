import Derived.Test.YtmapdpcfanecdabGreatDoorU52
import Derived.RangeFuncBound
import Derived.RangeFuncCalls
import Derived.OwnWalkIn
import Derived.TacticsInMore
import Derived.LoopNIn
import Derived.LoopIn
open Array renaming getElem?_eq_some_iff→j8
open Bool renaming eq_false_or_eq_true→q9
open Go.Ending renaming returned→Rt
open Go.IntKind renaming i64→Y
open Go.Obj renaming cells→Cc
open Go.Proofs.Tryz renaming prog→pG
open Go.RowKit.Below renaming refl→bR
open Go.Value renaming agg→Ag,bool→Bb,int→I,pointer→Pp,slice→U,tuple→Tu
open Go.World renaming putObj→q7,putObj_heap_other→j9,putObj_heap_same→z0,size_alloc→j7
open Int renaming eq_ofNat_of_zero_le→q4
open List renaming append_toArray→x9,cons_append→J0,foldl_append→q5,getElem_mem→gM,length_cons→x4,length_map→z7,length_nil→x5,nil_append→j6,push_toArray→x8,range_succ→z8,size_toArray→z9,take_succ_eq_append_getElem→J3
open Nat renaming add_le_add_right→J4,le_of_lt→q8,le_refl→lR,le_trans→lT,lt_of_lt_of_le→lL,reduceAdd→x6,reduceSub→x7,zero_le→q6
open Option renaming none→nO,some→sO
set_option linter.unusedSimpArgs false
set_option linter.unusedVariables false
set_option maxHeartbeats 16000000
set_option maxRecDepth 100000
namespace Go.Proofs.YtmapdpcfanecdabGreatDoor
section
open Go.RowKit
attribute [local go_sem ↓] Go.wp_at_zero Go.wp_at_succ
theorem Mf (sb:Nat)(i:Ins)(V F:Int)(s:oA)(c:lI)(cap:Nat)(at_:Int)(x:Pic)(vs:oA)(vc:Nat)(fs:oA)(fc:Nat)(w0 w:World)(hS:Cells w sb (aT i V F s c cap at_ x vs vc fs fc (U nO 0 0) false false))(hc0:CodeAt w0 s c)(hx0:PicAt w0 x vs fs)(hz0:w0.heap.size<=sb)(hB0:bl w0 w)(K:SCtx V F c x vc fc i at_)(hk:i.k=11):
  Calls pG 47 #[Pp (sO ⟨sb,0,nO⟩)] w λe w'=>e=Rt (Tu #[])/\cx sb w' (λev'=>aT i V F s c cap at_ x vs vc fs fc ev' false false) [] ([⟨at_+1,(aU (fC at_ x) i.tgt ⟨false,⟨true,0,0⟩,false,false,[at_]⟩)⟩])/\Below sb w w':=by
 have hm:∃m:Nat,at_=m/\m < x.fq.length:=by
  obtain⟨m,em⟩:=q4 K.a0;have h1:=K.a1;have h2:=K.kx.fq;exact⟨m,em,aa⟩
 have HC:=ae (Az (aU (fC at_ x) i.tgt ⟨false,⟨true,0,0⟩,false,false,[at_]⟩) [] nO 0 sb i V F s c cap at_ x vs vc fs fc false false w0 w hS hc0 hx0 hz0 hB0 K (ERow.nil sb sb w) ah (λwx hb hs hp=>Mm sb sb _ i V F s c cap at_ x vs vc fs fc _ false false w.heap.size wx hs hp (K.varTo gq) hm (q8 (lL hS.2.1 hb.size)) (λb h=>aX)));have s0:=hS.1 0 _ rfl;rw[hk] at s0;clear hS hc0 hx0 hB0 K hz0 hk;go_enter Tryz.func47,Tryz.ntmps47;go_wp2_with fail;refine HC.out.mono ?_;rintro e w1 ⟨rfl,HA0,hb1⟩;have HA:=ae HA0;clear HA0 HC s0;go_wp2;first|go_end0|refine bodyPost_ret (results_none rfl _ _ _) rfl ?_
 exact⟨rfl,HA.out,hb1⟩
theorem Mc (sb:Nat)(i:Ins)(V F:Int)(s:oA)(c:lI)(cap:Nat)(at_:Int)(x:Pic)(vs:oA)(vc:Nat)(fs:oA)(fc:Nat)(w0 w:World)(hS:Cells w sb (aT i V F s c cap at_ x vs vc fs fc (U nO 0 0) false false))(hc0:CodeAt w0 s c)(hx0:PicAt w0 x vs fs)(hz0:w0.heap.size<=sb)(hB0:bl w0 w)(K:SCtx V F c x vc fc i at_)(hk:i.k=13):
  Calls pG 47 #[Pp (sO ⟨sb,0,nO⟩)] w λe w'=>e=Rt (Tu #[])/\cx sb w' (λev'=>aT i V F s c cap at_ x vs vc fs fc ev' (bJ (gAt x i.a)) false) [] (if (gAt x i.a).s.length=0 then [] else [⟨at_+1,(c8 x i.n (gAt x i.b) (gAt x i.a).s)⟩])/\Below sb w w':=by
 obtain⟨LST,hlst⟩:∃q:List Edg,q=if (gAt x i.a).s.length=0 then [] else [⟨at_+1,(c8 x i.n (gAt x i.b) (gAt x i.a).s)⟩]:=⟨_,rfl⟩
 rw[<-hlst];have HLS:=ae hlst;clear hlst;have hN:∃p:Nat,i.n=p/\(p:Int) < F:=by
  have hn:=(cd K.one).2.2.2.2.1 (.inr hk);obtain⟨p,ep⟩:=q4 hn.1;exact⟨p,ep,aa⟩
 have HC:=ae (MI (c8 x i.n (gAt x i.b) (gAt x i.a).s) [] nO 0 sb i V F s c cap at_ x vs vc fs fc false false w0 w hS hc0 hx0 hz0 hB0 K (ERow.nil sb sb w) ah gq (λwx ss gc tb hb hs hp hq hi=>ML sb sb _ i V F s c cap at_ x vs vc fs fc _ _ false tb w.heap.size ss gc w0 wx hs hp hq hc0 hx0 hi hb K gq gq hN (q8 hs.2.1) (λb h=>aX)));have s0:=hS.1 0 _ rfl;rw[hk] at s0;clear hS hc0 hx0 hB0 K hz0 hk;go_enter Tryz.func47,Tryz.ntmps47;go_wp2_with fail;refine HC.out.mono ?_;rintro e w1 ⟨rfl,HA0,hb1⟩;have HA:=ae HA0;clear HA0 HC s0;go_wp2;first|go_end0|refine bodyPost_ret (results_none rfl _ _ _) rfl ?_
 exact⟨rfl,by rw[HLS.out];exact HA.out,hb1⟩
theorem Lf (sb:Nat)(i:Ins)(V F:Int)(s:oA)(c:lI)(cap:Nat)(at_:Int)(x:Pic)(vs:oA)(vc:Nat)(fs:oA)(fc:Nat)(w0 w:World)(hS:Cells w sb (aT i V F s c cap at_ x vs vc fs fc (U nO 0 0) false false))(hc0:CodeAt w0 s c)(hx0:PicAt w0 x vs fs)(hz0:w0.heap.size<=sb)(hB0:bl w0 w)(K:SCtx V F c x vc fc i at_)(hk:i.k=15):
  Calls pG 47 #[Pp (sO ⟨sb,0,nO⟩)] w λe w'=>e=Rt (Tu #[])/\cx sb w' (λev'=>aT i V F s c cap at_ x vs vc fs fc ev' false false) [] ((if b8 (gAt x i.a) then [⟨i.g,aU x i.a (bt (gAt x i.a))⟩] else [])++(if cF (gAt x i.a) then [⟨at_+1,aU x i.a (bX (gAt x i.a))⟩] else []))/\Below sb w w':=by
 obtain⟨LST,hlst⟩:∃q:List Edg,q=(if b8 (gAt x i.a) then [⟨i.g,aU x i.a (bt (gAt x i.a))⟩] else [])++(if cF (gAt x i.a) then [⟨at_+1,aU x i.a (bX (gAt x i.a))⟩] else []):=⟨_,rfl⟩;rw[<-hlst];have HLS:=ae hlst;clear hlst;have ha0:=K.a0;have ha1:at_<=1000:=kQ;have HC:=ae (ug i.g [] nO 0 sb i V F s c cap at_ x vs vc fs fc false false w0 w hS hc0 hx0 hz0 hB0 K (ERow.nil sb sb w) ah gq);have hA:nA i.k=true:=gq;have s0:=hS.1 0 _ rfl;rw[hk] at s0;have s5:=hS.1 5 _ rfl;have HH:=ae (And.intro hc0 (And.intro hx0 (And.intro hz0 (And.intro hB0 (And.intro K hA)))));clear hS hc0 hx0 hB0 K hz0 hk hA;go_enter Tryz.func47,Tryz.ntmps47;go_wp2_with fail;refine HC.out.mono ?_;rintro e w1 ⟨rfl,HA0,hb1⟩;obtain⟨hc0,hx0,hz0,hB0,K,hA⟩:=HH.out;obtain⟨ev,QL,C1,E1,eq1⟩:=HA0;rw[j6] at E1;obtain⟨es,ec,rfl,-,-⟩:=E1.form;have hq:QL.length<=10:=by
  have h:=congrArg List.length eq1;rw[z7] at h;rw[h];split<;>simp
 have hB1:=hB0.trans (hb1.mono hz0);have HN:=ae (Bc (at_+1) QL es ec sb i V F s c cap at_ x vs vc fs fc false false w0 w1 C1 hc0 hx0 hz0 hB1 K E1 hq hA);have HQ:=ae eq1;have HC1:=ae C1;clear C1 E1 eq1 HC HH hc0 hx0 hz0 hB0 K hA hB1 hq s0 s5;go_wp2_with fail;refine(iG sb at_ _ w1 HC1.out rfl ha0 ha1).mono ?_;rintro e wz ⟨rfl,ew⟩;rw[ew];clear ew wz;go_wp2_with fail;refine HN.out.mono ?_;rintro e w2 ⟨rfl,⟨ev2,QL2,C2,E2,eq2⟩,hb2⟩;have HF:Hid (cx sb w2 (λev'=>aT i V F s c cap at_ x vs vc fs fc ev' false false) [] ((if b8 (gAt x i.a) then [⟨i.g,aU x i.a (bt (gAt x i.a))⟩] else [])++(if cF (gAt x i.a) then [⟨at_+1,aU x i.a (bX (gAt x i.a))⟩] else []))):=⟨ev2,QL++QL2,C2,by rw[j6];exact E2,by rw[List.map_append,HQ.out,eq2]⟩;clear C2 E2 eq2 HN HC1 HQ;go_wp2;first|go_end0|refine bodyPost_ret (results_none rfl _ _ _) rfl ?_
 exact⟨rfl,by rw[HLS.out];exact HF.out,hb1.trans hb2⟩
theorem ur {p:Prop}(h:p:=by
 go_wp2_with fail;refine(HC.out w rfl).mono ?_;rintro e w1 ⟨rfl,HA0,hb1⟩;have HA:=ae HA0;clear HA0 HC s0;go_wp2;first|go_end0|refine bodyPost_ret (results_none rfl _ _ _) rfl ?_
 exact⟨rfl,HA.out,hb1⟩):p:=h
theorem LT (sb:Nat)(i:Ins)(V F:Int)(s:oA)(c:lI)(cap:Nat)(at_:Int)(x:Pic)(vs:oA)(vc:Nat)(fs:oA)(fc:Nat)(w0 w:World)(hS:Cells w sb (aT i V F s c cap at_ x vs vc fs fc (U nO 0 0) false false))(hc0:CodeAt w0 s c)(hx0:PicAt w0 x vs fs)(hz0:w0.heap.size<=sb)(hB0:bl w0 w)(K:SCtx V F c x vc fc i at_)(hk:i.k=16):
  Calls pG 47 #[Pp (sO ⟨sb,0,nO⟩)] w λe w'=>e=Rt (Tu #[])/\cx sb w' (λev'=>aT i V F s c cap at_ x vs vc fs fc ev' false false) [] ([⟨i.g,x⟩])/\Below sb w w':=by
 have HC:Hid (∀wx,wx=w->Calls pG 93 #[Pp (sO ⟨sb,0,nO⟩),I Y (i.g),.func (.func 94) #[] #[]] wx λe w'=>e=Rt (Tu #[])/\cx sb w' (λev'=>aT i V F s c cap at_ x vs vc fs fc ev' false false) [] [⟨i.g,x⟩]/\Below sb wx w'):=λwx hw=>by
  subst hw;refine(Hv sb (i.g) x [] nO 0 sb i V F s c cap at_ x vs vc fs fc false false w0 wx hS hc0 hx0 hz0 hB0 K rfl (ERow.nil sb sb wx) ah (Md sb sb _ wx x)).mono ?_;rintro e w' ⟨h1,⟨ev',q,h2,h3,h4⟩,h5⟩;exact⟨h1,⟨ev',[q],h2,h3,by simp[h4]⟩,h5⟩
 have s0:=hS.1 0 _ rfl;rw[hk] at s0;have s5:=hS.1 5 _ rfl;clear hS hc0 hx0 hB0 K hz0 hk;go_enter Tryz.func47,Tryz.ntmps47;exact ur
theorem Lj (sb:Nat)(i:Ins)(V F:Int)(s:oA)(c:lI)(cap:Nat)(at_:Int)(x:Pic)(vs:oA)(vc:Nat)(fs:oA)(fc:Nat)(w0 w:World)(hS:Cells w sb (aT i V F s c cap at_ x vs vc fs fc (U nO 0 0) false false))(hc0:CodeAt w0 s c)(hx0:PicAt w0 x vs fs)(hz0:w0.heap.size<=sb)(hB0:bl w0 w)(K:SCtx V F c x vc fc i at_)(hk:i.k=17):
  Calls pG 47 #[Pp (sO ⟨sb,0,nO⟩)] w λe w'=>e=Rt (Tu #[])/\cx sb w' (λev'=>aT i V F s c cap at_ x vs vc fs fc ev' false (cF (gAt x i.a))) [] ((if b8 (gAt x i.a) then [⟨at_+1,aU x i.a (bt (gAt x i.a))⟩] else []))/\Below sb w w':=by
 obtain⟨LST,hlst⟩:∃q:List Edg,q=(if b8 (gAt x i.a) then [⟨at_+1,aU x i.a (bt (gAt x i.a))⟩] else []):=⟨_,rfl⟩;rw[<-hlst];have HLS:=ae hlst;clear hlst;have ha0:=K.a0;have ha1:at_<=1000:=kQ;have HC:=ae (ug (at_+1) [] nO 0 sb i V F s c cap at_ x vs vc fs fc false false w0 w hS hc0 hx0 hz0 hB0 K (ERow.nil sb sb w) ah gq);have hA:nA i.k=true:=gq;have s0:=hS.1 0 _ rfl;rw[hk] at s0;have HSS:=ae hS;have HH:=ae (And.intro hc0 (And.intro hx0 (And.intro hz0 (And.intro hB0 (And.intro K hA)))));clear hS hc0 hx0 hB0 K hz0 hk hA;go_enter Tryz.func47,Tryz.ntmps47;go_wp2_with fail;refine(iG sb at_ _ w HSS.out rfl ha0 ha1).mono ?_;rintro e wz ⟨rfl,ew⟩;rw[ew];clear ew wz;go_wp2_with fail;refine HC.out.mono ?_;rintro e w1 ⟨rfl,HA0,hb1⟩;obtain⟨hc0,hx0,hz0,hB0,K,hA⟩:=HH.out;obtain⟨ev,QL,C1,E1,eq1⟩:=HA0;rw[j6] at E1;obtain⟨es,ec,rfl,-,-⟩:=E1.form;have hq:QL.length<=10:=by
  have h:=congrArg List.length eq1;rw[z7] at h;rw[h];split<;>simp
 have hB1:=hB0.trans (hb1.mono hz0);have HT:=ae (mK sb i V F s c cap at_ x vs vc fs fc _ false false w1 C1 (hc0.below hB1 (lR _)) (hx0.below hB1 (lR _)) K hA);have HQ:=ae eq1;have HCE:=ae (And.intro C1 E1);clear C1 E1 eq1 HC HH hc0 hx0 hz0 hB0 K hA hB1 hq s0 HSS;go_wp2_with fail;refine HT.out.mono ?_;rintro e w2 ⟨rfl,hb2⟩;have C2:=HCE.out.1.call hb2;have E2:=HCE.out.2.call hb2;have s15:=C2.1 15 _ rfl;have f15:=C2.2.2 15;have HF:Hid (cx sb (w2.setCell ⟨sb,15,nO⟩ (Bb (cF (gAt x i.a)))) (λev'=>aT i V F s c cap at_ x vs vc fs fc ev' false (cF (gAt x i.a))) [] (if b8 (gAt x i.a) then [⟨at_+1,aU x i.a (bt (gAt x i.a))⟩] else [])):=⟨_,QL,C2.put 15 (by simp[aT]) _,by rw[j6];exact E2.same (λb _ hne _=>Below.heap_setCell _ _ _ _ hne) (by simp[World.setCell]),HQ.out⟩;have hbf:Below sb w (w2.setCell ⟨sb,15,nO⟩ (Bb (cF (gAt x i.a)))):=(hb1.trans (hb2.mono (q8 HCE.out.1.2.1))).setCell (lR _) _;clear C2 E2 HT HCE HQ;go_wp2;first|go_end0|refine bodyPost_ret (results_none rfl _ _ _) rfl ?_
 exact⟨rfl,by rw[HLS.out];exact HF.out,hbf⟩
theorem Ll (sb:Nat)(i:Ins)(V F:Int)(s:oA)(c:lI)(cap:Nat)(at_:Int)(x:Pic)(vs:oA)(vc:Nat)(fs:oA)(fc:Nat)(w0 w:World)(hS:Cells w sb (aT i V F s c cap at_ x vs vc fs fc (U nO 0 0) false false))(hc0:CodeAt w0 s c)(hx0:PicAt w0 x vs fs)(hz0:w0.heap.size<=sb)(hB0:bl w0 w)(K:SCtx V F c x vc fc i at_)(hk:i.k=18):
  Calls pG 47 #[Pp (sO ⟨sb,0,nO⟩)] w λe w'=>e=Rt (Tu #[])/\cx sb w' (λev'=>aT i V F s c cap at_ x vs vc fs fc ev' false false) [] ([⟨at_+1,x⟩])/\Below sb w w':=by
 have ha0:=K.a0;have ha1:at_<=1000:=kQ;have HC:Hid (∀wx,wx=w->Calls pG 93 #[Pp (sO ⟨sb,0,nO⟩),I Y (at_+1),.func (.func 96) #[] #[]] wx λe w'=>e=Rt (Tu #[])/\cx sb w' (λev'=>aT i V F s c cap at_ x vs vc fs fc ev' false false) [] [⟨at_+1,x⟩]/\Below sb wx w'):=λwx hw=>by
  subst hw;refine(Ep sb (at_+1) x [] nO 0 sb i V F s c cap at_ x vs vc fs fc false false w0 wx hS hc0 hx0 hz0 hB0 K rfl (ERow.nil sb sb wx) ah (Iw sb sb _ wx x)).mono ?_;rintro e w' ⟨h1,⟨ev',q,h2,h3,h4⟩,h5⟩;exact⟨h1,⟨ev',[q],h2,h3,by simp[h4]⟩,h5⟩
 have s0:=hS.1 0 _ rfl;rw[hk] at s0;have HSS:=ae hS;clear hS hc0 hx0 hB0 K hz0 hk;go_enter Tryz.func47,Tryz.ntmps47;go_wp2_with fail;refine(iG sb at_ _ w HSS.out rfl ha0 ha1).mono ?_;rintro e wz ⟨rfl,ew⟩;rw[ew];clear ew wz;exact ur
theorem LE (sb:Nat)(i:Ins)(V F:Int)(s:oA)(c:lI)(cap:Nat)(at_:Int)(x:Pic)(vs:oA)(vc:Nat)(fs:oA)(fc:Nat)(w0 w:World)(hS:Cells w sb (aT i V F s c cap at_ x vs vc fs fc (U nO 0 0) false false))(hc0:CodeAt w0 s c)(hx0:PicAt w0 x vs fs)(hz0:w0.heap.size<=sb)(hB0:bl w0 w)(K:SCtx V F c x vc fc i at_)(hk:i.k=19):
  Calls pG 47 #[Pp (sO ⟨sb,0,nO⟩)] w λe w'=>e=Rt (Tu #[])/\cx sb w' (λev'=>aT i V F s c cap at_ x vs vc fs fc ev' false false) [] ([])/\Below sb w w':=by
 have HA:Hid (cx sb w (λev'=>aT i V F s c cap at_ x vs vc fs fc ev' false false) [] []):=⟨_,[],hS,ERow.nil sb sb w,rfl⟩;have s0:=hS.1 0 _ rfl;rw[hk] at s0;clear hS hc0 hx0 hB0 K hz0 hk;go_enter Tryz.func47,Tryz.ntmps47;go_wp2;first|go_end0|refine bodyPost_ret (results_none rfl _ _ _) rfl ?_
 exact⟨rfl,HA.out,bR _ _⟩
theorem GD (sb:Nat)(i:Ins)(V F:Int)(s:oA)(c:lI)(cap:Nat)(at_:Int)(x:Pic)(vs:oA)(vc:Nat)(fs:oA)(fc:Nat)(ev:Value)(fl:Bool)(w0 w:World)(hS:Cells w sb (aT i V F s c cap at_ x vs vc fs fc ev false fl))(hc0:CodeAt w0 s c)(hx0:PicAt w0 x vs fs)(hz0:w0.heap.size<=sb)(hB0:bl w0 w)(K:SCtx V F c x vc fc i at_)(hT:nTo i.k=true)(h11:i.k≠11):
  Calls pG 98 #[Pp (sO ⟨sb,0,nO⟩)] w λe w'=>km w.heap.size sb w' e (aW i at_ x).1 (aT i V F s c cap at_ x vs vc fs fc ev (aW i at_ x).2 fl)/\ModS sb w w':=by
 have h:i.k=1\/i.k=2\/i.k=3\/(4<=i.k/\i.k<=10)\/i.k=12\/i.k=14:=by
  unfold nTo btw at hT;simp at hT;omega
 rcases h with h|h|h|h|h|h
 ·exact Lo sb i V F s c cap at_ x vs vc fs fc ev fl w0 w hS hc0 hx0 hz0 hB0 K h
 ·exact Le sb i V F s c cap at_ x vs vc fs fc ev fl w0 w hS hc0 hx0 hz0 hB0 K h
 ·exact K6 sb i V F s c cap at_ x vs vc fs fc ev fl w0 w hS hc0 hx0 hz0 hB0 K h
 ·exact Ku sb i V F s c cap at_ x vs vc fs fc ev fl w0 w hS hc0 hx0 hz0 hB0 K h.1 h.2
 ·exact Iy sb i V F s c cap at_ x vs vc fs fc ev fl w0 w hS hc0 hx0 hz0 hB0 K h
 ·exact Iu sb i V F s c cap at_ x vs vc fs fc ev fl w0 w hS hc0 hx0 hz0 hB0 K h
theorem Iq (sb:Nat)(i:Ins)(V F:Int)(s:oA)(c:lI)(cap:Nat)(at_:Int)(x:Pic)(vs:oA)(vc:Nat)(fs:oA)(fc:Nat)(w0 w:World)(hS:Cells w sb (aT i V F s c cap at_ x vs vc fs fc (U nO 0 0) false false))(hc0:CodeAt w0 s c)(hx0:PicAt w0 x vs fs)(hz0:w0.heap.size<=sb)(hB0:bl w0 w)(K:SCtx V F c x vc fc i at_)(hT:nTo i.k=true)(h11:i.k≠11):
  Calls pG 47 #[Pp (sO ⟨sb,0,nO⟩)] w λe w'=>e=Rt (Tu #[])/\cx sb w' (λev'=>aT i V F s c cap at_ x vs vc fs fc ev' (aW i at_ x).2 false) [] (if ap (aW i at_ x).1 then [] else [⟨at_+1,aU x i.tgt (aW i at_ x).1⟩])/\Below sb w w':=by
 obtain⟨LST,hlst⟩:∃q:List Edg,q=if ap (aW i at_ x).1 then [] else [⟨at_+1,aU x i.tgt (aW i at_ x).1⟩]:=⟨_,rfl⟩
 rw[<-hlst];have HLS:=ae hlst;clear hlst;have HC:=ae (GD sb i V F s c cap at_ x vs vc fs fc _ false w0 w hS hc0 hx0 hz0 hB0 K hT h11);have hck:aE c (aW i at_ x).1=0:=by
  have h:=sy (de K.h0) K.kx K.a0 K.a1;rw[<-K.hi] at h;exact h
 have s0:=hS.1 0 _ rfl;have HSB:=ae hS.2.1;have hr:i.k=1\/i.k=2\/i.k=3\/(4<=i.k/\i.k<=10)\/i.k=12\/i.k=14:=by
  have h:=hT;unfold nTo btw at h;simp at h;omega
 have q11:(i.k==11)=false:=an;have q13:(i.k==13)=false:=an;have q15:(i.k==15)=false:=an;have q16:(i.k==16)=false:=an;have q17:(i.k==17)=false:=an;have q18:(i.k==18)=false:=an;have q19:(i.k==19)=false:=an;have HH:=ae (And.intro hc0 (And.intro hx0 (And.intro hz0 (And.intro hB0 (And.intro K hT)))));clear hS hc0 hx0 hB0 K hz0 hr h11 hT;obtain⟨⟨g,wr⟩,hg⟩:∃q,q=aW i at_ x:=⟨_,rfl⟩;rw[<-hg] at HC hck |-;have HGE:=ae hg;clear hg;go_enter Tryz.func47,Tryz.ntmps47;go_wp2_with fail;clear s0 q11 q13 q15 q16 q17 q18 q19;refine HC.out.mono ?_;rintro e w1 ⟨⟨⟨ss,gc,rfl,JI,J1,J2⟩,C1⟩,M1⟩;obtain⟨hc0,hx0,hz0,hB0,K,hT⟩:=HH.out;have HN:=ae (LQ g ss gc [] nO 0 sb i V F s c cap at_ x vs vc fs fc wr false w0 w1 C1 hc0 hx0 hz0 (hB0.trans (M1.1.mono hz0)) K (ERow.nil sb sb w1) ah (JI.mono λb hb _=>⟨lV,lV,λh=>aX⟩) J1 J2 hck hT);clear HC HH hc0 hx0 hz0 hB0 K hT JI J1 J2 C1 hck;go_wp2_with fail;refine HN.out.mono ?_;rintro e w2 ⟨rfl,HA0,hb2⟩;have HA:=ae HA0;clear HA0 HN;go_wp2;first|go_end0|refine bodyPost_ret (results_none rfl _ _ _) rfl ?_
 exact⟨rfl,by rw[HLS.out,<-HGE.out];exact HA.out,M1.1.trans hb2⟩
theorem IU (sb:Nat)(i:Ins)(V F:Int)(s:oA)(c:lI)(cap:Nat)(at_:Int)(x:Pic)(vs:oA)(vc:Nat)(fs:oA)(fc:Nat)(w0 w:World)(hS:Cells w sb (aT i V F s c cap at_ x vs vc fs fc (U nO 0 0) false false))(hc0:CodeAt w0 s c)(hx0:PicAt w0 x vs fs)(hz0:w0.heap.size<=sb)(hB0:bl w0 w)(K:SCtx V F c x vc fc i at_):
  Calls pG 47 #[Pp (sO ⟨sb,0,nO⟩)] w λe w'=>e=Rt (Tu #[])/\cx sb w' (λev'=>aT i V F s c cap at_ x vs vc fs fc ev' (aA i at_ x).2.1 (aA i at_ x).2.2) [] ((aA i at_ x).1)/\Below sb w w':=by
 have hn:=K.kx.none;have hk:=(cd K.one).1;unfold btw at hk;simp only[Bool.and_eq_true,decide_eq_true_eq] at hk;by_cases h11:i.k=11
 ·have e:aA i at_ x=([⟨at_+1,(aU (fC at_ x) i.tgt ⟨false,⟨true,0,0⟩,false,false,[at_]⟩)⟩],false,false):=by simp[aA,hn,h11,aW,ap,aL]
  rw[e];exact Mf sb i V F s c cap at_ x vs vc fs fc w0 w hS hc0 hx0 hz0 hB0 K h11
 by_cases h13:i.k=13
 ·have e:aA i at_ x=(if (gAt x i.a).s.length=0 then [] else [⟨at_+1,(c8 x i.n (gAt x i.b) (gAt x i.a).s)⟩],bJ (gAt x i.a),false):=by
   simp only[aA,hn,h13];simp only[Bool.false_eq_true,if_false];by_cases h:(gAt x i.a).s.length=0
   ·simp[h]
   ·simp[h]
  rw[e];exact Mc sb i V F s c cap at_ x vs vc fs fc w0 w hS hc0 hx0 hz0 hB0 K h13
 by_cases h15:i.k=15
 ·have e:aA i at_ x=((if b8 (gAt x i.a) then [⟨i.g,aU x i.a (bt (gAt x i.a))⟩] else [])++(if cF (gAt x i.a) then [⟨at_+1,aU x i.a (bX (gAt x i.a))⟩] else []),false,false):=by simp[aA,hn,h15]
  rw[e];exact Lf sb i V F s c cap at_ x vs vc fs fc w0 w hS hc0 hx0 hz0 hB0 K h15
 by_cases h16:i.k=16
 ·have e:aA i at_ x=([⟨i.g,x⟩],false,false):=by simp[aA,hn,h16]
  rw[e];exact LT sb i V F s c cap at_ x vs vc fs fc w0 w hS hc0 hx0 hz0 hB0 K h16
 by_cases h17:i.k=17
 ·have e:aA i at_ x=((if b8 (gAt x i.a) then [⟨at_+1,aU x i.a (bt (gAt x i.a))⟩] else []),false,cF (gAt x i.a)):=by simp[aA,hn,h17]
  rw[e];exact Lj sb i V F s c cap at_ x vs vc fs fc w0 w hS hc0 hx0 hz0 hB0 K h17
 by_cases h18:i.k=18
 ·have e:aA i at_ x=([⟨at_+1,x⟩],false,false):=by simp[aA,hn,h18]
  rw[e];exact Ll sb i V F s c cap at_ x vs vc fs fc w0 w hS hc0 hx0 hz0 hB0 K h18
 by_cases h19:i.k=19
 ·have e:aA i at_ x=([],false,false):=by simp[aA,hn,h19]
  rw[e];exact LE sb i V F s c cap at_ x vs vc fs fc w0 w hS hc0 hx0 hz0 hB0 K h19
 have hT:nTo i.k=true:=by
  unfold nTo btw;simp;omega
 have e:aA i at_ x=(if ap (aW i at_ x).1 then [] else [⟨at_+1,aU x i.tgt (aW i at_ x).1⟩],(aW i at_ x).2,false):=by
  simp only[aA,hn,h11,h13,h15,h16,h17,h18,h19,Bool.false_eq_true,if_false];split<;>rfl
 rw[e];exact Iq sb i V F s c cap at_ x vs vc fs fc w0 w hS hc0 hx0 hz0 hB0 K hT h11
def gO (V F:Int)(c:lI)(at_:Int)(x:Pic):Int:=if aR V F c [x]=0 then(if at_ < 0\/(c.length:Int)<=at_ then 5 else 0) else aR V F c [x]
def ik (V F:Int)(c:lI)(at_:Int)(x:Pic):List Edg×Bool×Bool:=if gO V F c at_ x=0 then aA (bK c at_) at_ x else([],false,false)
def yY (B:Nat)(w':World)(e:Ending)(r:List Edg×Bool×Bool)(er:Int):Prop:=∃es ec,e=Rt (Tu #[U es r.1.length ec,Bb r.2.1,Bb r.2.2,I Y er])/\EdsOn (λb=>B<=b) w' es r.1
theorem Fk {V F:Int}{c:lI}{x:Pic}(h:aR V F c [x]=0):aw V F c=0/\aK V F c x=0:=by
 unfold aR at h;by_cases h0:aw V F c=0
 ·rw[if_pos h0] at h
  unfold cJ at h;by_cases h1:aK V F c x=0
  ·exact⟨h0,h1⟩
  ·rw[if_neg h1] at h;exact absurd h h1
 ·rw[if_neg h0] at h;exact absurd h h0
theorem i7 {p:Prop}(h:p:=by
 have h:=Cells.new (w.alloc (.cells #[.int .i64 V,.int .i64 F,.slice s c.length cap] 24)) 28 [.bool x.none,.slice vs x.vq.length vc,.slice fs x.fq.length fc];rw[World.size_alloc] at h;exact h):p:=h
theorem FU (V F:Int)(s:oA)(c:lI)(cap:Nat)(at_:Int)(x:Pic)(vs:oA)(vc:Nat)(fs:oA)(fc:Nat)(w:World)(hc:CodeAt w s c)(hx:PicAt w x vs fs)(h1:x.vq.length<=vc/\vc<=maxLen)(h2:x.fq.length<=fc/\fc<=maxLen)(hu:aR V F c [x]≠0):
  Calls pG 15 #[pv V F s c cap,I Y at_,xv x vs vc fs fc] w λe w'=>yY w.heap.size w' e ([],false,false) (aR V F c [x])/\bl w w':=by
 have hb0:Below w.heap.size w ((w.alloc (Cc #[I Y V,I Y F,U s c.length cap] 24)).alloc (Cc #[Bb x.none,U vs x.vq.length vc,U fs x.fq.length fc] 28)):=ai;have P0:Cells ((w.alloc (Cc #[I Y V,I Y F,U s c.length cap] 24)).alloc (Cc #[Bb x.none,U vs x.vq.length vc,U fs x.fq.length fc] 28)) w.heap.size [I Y V,I Y F,U s c.length cap]:=(Cells.new w 24 [I Y V,I Y F,U s c.length cap]).call ai;have X0:Cells ((w.alloc (Cc #[I Y V,I Y F,U s c.length cap] 24)).alloc (Cc #[Bb x.none,U vs x.vq.length vc,U fs x.fq.length fc] 28)) (w.heap.size+1) [Bb x.none,U vs x.vq.length vc,U fs x.fq.length fc]:=by
  exact i7
 have HC:=ae (kf V F s c cap x vs vc fs fc ((w.alloc (Cc #[I Y V,I Y F,U s c.length cap] 24)).alloc (Cc #[Bb x.none,U vs x.vq.length vc,U fs x.fq.length fc] 28)) (hc.below hb0 (lR _)) (hx.below hb0 (lR _)) h1 h2);generalize aR V F c [x]=u at *;have hub:(u !=0)=true:=by simpa using hu
 clear hu hc hx;go_enter Tryz.func15,Tryz.ntmps15;go_wp2_with fail;refine HC.out.mono ?_;rintro e w1 ⟨rfl,hb1⟩;generalize ((w.alloc (Cc #[I Y V,I Y F,U s c.length cap] 24)).alloc (Cc #[Bb x.none,U vs x.vq.length vc,U fs x.fq.length fc] 28))=w0 at *;have B1:=hb0.trans (hb1.mono hb0.size);have P1:=P0.call hb1;have X1:=X0.call hb1;clear P0 X0 hb0 hb1 HC;go_wp2;refine bodyPost_ret (v:=Tu #[U nO 0 0,Bb false,Bb false,I Y u]) oY rfl ⟨⟨nO,0,rfl,EdsOn.nil⟩,B1⟩
theorem tz {p:Prop}(h:p:=by
 go_wp2;refine bodyPost_ret (v:=.tuple #[.slice none 0 0,.bool false,.bool false,.int .i64 5]) oY rfl ⟨⟨none,0,rfl,EdsOn.nil⟩,B1⟩):p:=h
theorem Ca (V F:Int)(s:oA)(c:lI)(cap:Nat)(at_:Int)(x:Pic)(vs:oA)(vc:Nat)(fs:oA)(fc:Nat)(w:World)(hc:CodeAt w s c)(hx:PicAt w x vs fs)(h1:x.vq.length<=vc/\vc<=maxLen)(h2:x.fq.length<=fc/\fc<=maxLen)(hu:aR V F c [x]=0)(hr:at_ < 0\/(c.length:Int)<=at_):
  Calls pG 15 #[pv V F s c cap,I Y at_,xv x vs vc fs fc] w λe w'=>yY w.heap.size w' e ([],false,false) 5/\bl w w':=by
 have hb0:Below w.heap.size w ((w.alloc (Cc #[I Y V,I Y F,U s c.length cap] 24)).alloc (Cc #[Bb x.none,U vs x.vq.length vc,U fs x.fq.length fc] 28)):=ai;have P0:Cells ((w.alloc (Cc #[I Y V,I Y F,U s c.length cap] 24)).alloc (Cc #[Bb x.none,U vs x.vq.length vc,U fs x.fq.length fc] 28)) w.heap.size [I Y V,I Y F,U s c.length cap]:=(Cells.new w 24 [I Y V,I Y F,U s c.length cap]).call ai;have X0:Cells ((w.alloc (Cc #[I Y V,I Y F,U s c.length cap] 24)).alloc (Cc #[Bb x.none,U vs x.vq.length vc,U fs x.fq.length fc] 28)) (w.heap.size+1) [Bb x.none,U vs x.vq.length vc,U fs x.fq.length fc]:=by
  exact i7
 have HC:=ae (kf V F s c cap x vs vc fs fc ((w.alloc (Cc #[I Y V,I Y F,U s c.length cap] 24)).alloc (Cc #[Bb x.none,U vs x.vq.length vc,U fs x.fq.length fc] 28)) (hc.below hb0 (lR _)) (hx.below hb0 (lR _)) h1 h2);rw[hu] at HC;clear hu hc hx;go_enter Tryz.func15,Tryz.ntmps15;go_wp2_with fail;refine HC.out.mono ?_;rintro e w1 ⟨rfl,hb1⟩;generalize ((w.alloc (Cc #[I Y V,I Y F,U s c.length cap] 24)).alloc (Cc #[Bb x.none,U vs x.vq.length vc,U fs x.fq.length fc] 28))=w0 at *;have B1:=hb0.trans (hb1.mono hb0.size);have P1:=P0.call hb1;have X1:=X0.call hb1;clear P0 X0 hb0 hb1 HC;have p2:=P1.1 2 _ rfl;by_cases h0:at_ < 0
 ·clear hr
  exact tz
 ·have h3:(c.length:Int)<=at_:=by omega
  clear hr;exact tz
theorem EU (V F:Int)(s:oA)(c:lI)(cap:Nat)(at_:Int)(x:Pic)(vs:oA)(vc:Nat)(fs:oA)(fc:Nat)(w:World)(hc:CodeAt w s c)(hx:PicAt w x vs fs)(h1:x.vq.length<=vc/\vc<=maxLen)(h2:x.fq.length<=fc/\fc<=maxLen)(hu:aR V F c [x]=0)(hr:¬(at_ < 0\/(c.length:Int)<=at_))(hn:x.none=true):
  Calls pG 15 #[pv V F s c cap,I Y at_,xv x vs vc fs fc] w λe w'=>yY w.heap.size w' e ([],false,false) 0/\bl w w':=by
 have hb0:Below w.heap.size w ((w.alloc (Cc #[I Y V,I Y F,U s c.length cap] 24)).alloc (Cc #[Bb x.none,U vs x.vq.length vc,U fs x.fq.length fc] 28)):=ai;have P0:Cells ((w.alloc (Cc #[I Y V,I Y F,U s c.length cap] 24)).alloc (Cc #[Bb x.none,U vs x.vq.length vc,U fs x.fq.length fc] 28)) w.heap.size [I Y V,I Y F,U s c.length cap]:=(Cells.new w 24 [I Y V,I Y F,U s c.length cap]).call ai;have X0:Cells ((w.alloc (Cc #[I Y V,I Y F,U s c.length cap] 24)).alloc (Cc #[Bb x.none,U vs x.vq.length vc,U fs x.fq.length fc] 28)) (w.heap.size+1) [Bb x.none,U vs x.vq.length vc,U fs x.fq.length fc]:=by
  exact i7
 have HC:=ae (kf V F s c cap x vs vc fs fc ((w.alloc (Cc #[I Y V,I Y F,U s c.length cap] 24)).alloc (Cc #[Bb x.none,U vs x.vq.length vc,U fs x.fq.length fc] 28)) (hc.below hb0 (lR _)) (hx.below hb0 (lR _)) h1 h2);rw[hu] at HC;have HNX:=ae hn;have r0:¬at_ < 0:=aa;have r1:¬(c.length:Int)<=at_:=aa;clear hu hc hx hn hr;go_enter Tryz.func15,Tryz.ntmps15;go_wp2_with fail;refine HC.out.mono ?_;rintro e w1 ⟨rfl,hb1⟩;generalize ((w.alloc (Cc #[I Y V,I Y F,U s c.length cap] 24)).alloc (Cc #[Bb x.none,U vs x.vq.length vc,U fs x.fq.length fc] 28))=w0 at *;have B1:=hb0.trans (hb1.mono hb0.size);have P1:=P0.call hb1;have X1:=X0.call hb1;clear P0 X0 hb0 hb1 HC;have p2:=P1.1 2 _ rfl;have x0:=X1.1 0 _ rfl;rw[HNX.out] at x0;go_wp2;refine bodyPost_ret (v:=Tu #[U nO 0 0,Bb false,Bb false,I Y 0]) oY rfl ⟨⟨nO,0,rfl,EdsOn.nil⟩,B1⟩
theorem Ky (V F:Int)(s:oA)(c:lI)(cap:Nat)(at_:Int)(x:Pic)(vs:oA)(vc:Nat)(fs:oA)(fc:Nat)(w:World)(hc:CodeAt w s c)(hx:PicAt w x vs fs)(h1:x.vq.length<=vc/\vc<=maxLen)(h2:x.fq.length<=fc/\fc<=maxLen)(hu:aR V F c [x]=0)(hr:¬(at_ < 0\/(c.length:Int)<=at_))(hn:x.none=false):
  Calls pG 15 #[pv V F s c cap,I Y at_,xv x vs vc fs fc] w λe w'=>yY w.heap.size w' e (aA (bK c at_) at_ x) 0/\bl w w':=by
 obtain⟨i,hi⟩:∃i,i=bK c at_:=⟨_,rfl⟩;rw[<-hi];obtain⟨k0,kx⟩:=Fk hu;have K:SCtx V F c x vc fc i at_:=⟨k0,cr kx hn,hi,aa,aa,h1,h2⟩;obtain⟨m,em⟩:=q4 K.a0;have ha1:=K.a1;have hm:m < c.length:=aa;have hcm:c[m]=i:=by rw[hi,em];unfold bK;simp[List.getD,hm]
 have HST:Hid (∀sb wx,Cells wx sb (aT i V F s c cap at_ x vs vc fs fc (U nO 0 0) false false)->w.heap.size<=sb->bl w wx->Calls pG 47 #[Pp (sO ⟨sb,0,nO⟩)] wx λe w'=>e=Rt (Tu #[])/\cx sb w' (λev'=>aT i V F s c cap at_ x vs vc fs fc ev' (aA i at_ x).2.1 (aA i at_ x).2.2) [] (aA i at_ x).1/\Below sb wx w'):=λsb wx hs hz hb=>IU sb i V F s c cap at_ x vs vc fs fc w wx hs hc hx hz hb K;have HCA:=ae hc;have r0:¬at_ < 0:=aa;have r1:¬(c.length:Int)<=at_:=aa;have n0:(0:Int)<=(m:Int):=aa;have n1:(m:Int) < (c.length:Int):=aa;have HCM:=ae hcm;have HNX:=ae hn;have hb0:Below w.heap.size w ((w.alloc (Cc #[I Y V,I Y F,U s c.length cap] 24)).alloc (Cc #[Bb x.none,U vs x.vq.length vc,U fs x.fq.length fc] 28)):=ai;have P0:Cells ((w.alloc (Cc #[I Y V,I Y F,U s c.length cap] 24)).alloc (Cc #[Bb x.none,U vs x.vq.length vc,U fs x.fq.length fc] 28)) w.heap.size [I Y V,I Y F,U s c.length cap]:=(Cells.new w 24 [I Y V,I Y F,U s c.length cap]).call ai;have X0:Cells ((w.alloc (Cc #[I Y V,I Y F,U s c.length cap] 24)).alloc (Cc #[Bb x.none,U vs x.vq.length vc,U fs x.fq.length fc] 28)) (w.heap.size+1) [Bb x.none,U vs x.vq.length vc,U fs x.fq.length fc]:=by
  exact i7
 have HC:=ae (kf V F s c cap x vs vc fs fc ((w.alloc (Cc #[I Y V,I Y F,U s c.length cap] 24)).alloc (Cc #[Bb x.none,U vs x.vq.length vc,U fs x.fq.length fc] 28)) (hc.below hb0 (lR _)) (hx.below hb0 (lR _)) h1 h2);rw[hu] at HC;clear hu hc hx hn hr hi hcm K kx k0 ha1;obtain⟨⟨SL,wr,fl⟩,hst⟩:∃q,q=aA i at_ x:=⟨_,rfl⟩;rw[<-hst] at HST |-;clear hst;go_enter Tryz.func15,Tryz.ntmps15;go_wp2_with fail;refine HC.out.mono ?_;rintro e w1 ⟨rfl,hb1⟩;generalize ((w.alloc (Cc #[I Y V,I Y F,U s c.length cap] 24)).alloc (Cc #[Bb x.none,U vs x.vq.length vc,U fs x.fq.length fc] 28))=w0 at *;have B1:=hb0.trans (hb1.mono hb0.size);have P1:=P0.call hb1;have X1:=X0.call hb1;clear P0 X0 hb0 hb1 HC;obtain⟨cb0,co,es,hcb,hci⟩:=HCA.out.get m hm;obtain⟨j0,j1,j2,j3,j4,j5⟩:=(hci m hm).below B1 hcb;rw[HCM.out] at j0 j1 j2 j3 j4 j5;have p2:=P1.1 2 _ rfl;have x0:=X1.1 0 _ rfl;rw[HNX.out] at x0;have hzz:w1.heap.size<=w1.drew.heap.size:=(bR w1.heap.size w1).drew.size;have D1:bl w1 w1.drew:=(bR _ _).drew;have P2:=P1.call D1;have X2:=X1.call D1;have B2:=B1.trans (D1.mono B1.size);rw[HNX.out] at X2;have HKZ:Hid (∀wx,Below w1.drew.heap.size w1.drew wx->(wx.cell? ⟨w.heap.size,0,nO⟩=sO (I Y V)/\wx.cell? ⟨w.heap.size,1,nO⟩=sO (I Y F)/\wx.cell? ⟨w.heap.size,2,nO⟩=sO (U (sO ⟨cb0,co,nO⟩) c.length cap))/\(wx.cell? ⟨w.heap.size+1,0,nO⟩=sO (Bb false)/\wx.cell? ⟨w.heap.size+1,1,nO⟩=sO (U vs x.vq.length vc)/\wx.cell? ⟨w.heap.size+1,2,nO⟩=sO (U fs x.fq.length fc))/\(wx.cell? ⟨cb0,co+m * 6,nO⟩=sO (I Y i.k)/\wx.cell? ⟨cb0,co+m * 6+1,nO⟩=sO (I Y i.tgt)/\wx.cell? ⟨cb0,co+m * 6+2,nO⟩=sO (I Y i.a)/\wx.cell? ⟨cb0,co+m * 6+3,nO⟩=sO (I Y i.b)/\wx.cell? ⟨cb0,co+m * 6+4,nO⟩=sO (I Y i.n)/\wx.cell? ⟨cb0,co+m * 6+5,nO⟩=sO (I Y i.g))):=λwx hb=>by
  have p:=P2.call hb;have q:=X2.call hb;have bb:=B2.trans (hb.mono B2.size);have pp:=p.1 2 _ rfl;rw[es] at pp;refine⟨⟨p.1 0 _ rfl,p.1 1 _ rfl,pp⟩,⟨q.1 0 _ rfl,q.1 1 _ rfl,q.1 2 _ rfl⟩,?_⟩;have:=(hci m hm).below bb hcb;rw[HCM.out] at this;exact this
 have HES:=ae es;clear es hci j0 j1 j2 j3 j4 j5 P1 X1 D1 hzz;subst em;go_upto_region 8 with fail
 clear p2 x0 r0 r1;refine aD (S:=(λwx=>(wx.cell? ⟨w.heap.size,0,nO⟩=sO (I Y V)/\wx.cell? ⟨w.heap.size,1,nO⟩=sO (I Y F)/\wx.cell? ⟨w.heap.size,2,nO⟩=sO (U (sO ⟨cb0,co,nO⟩) c.length cap))/\(wx.cell? ⟨w.heap.size+1,0,nO⟩=sO (Bb false)/\wx.cell? ⟨w.heap.size+1,1,nO⟩=sO (U vs x.vq.length vc)/\wx.cell? ⟨w.heap.size+1,2,nO⟩=sO (U fs x.fq.length fc))/\(wx.cell? ⟨cb0,co+m * 6,nO⟩=sO (I Y i.k)/\wx.cell? ⟨cb0,co+m * 6+1,nO⟩=sO (I Y i.tgt)/\wx.cell? ⟨cb0,co+m * 6+2,nO⟩=sO (I Y i.a)/\wx.cell? ⟨cb0,co+m * 6+3,nO⟩=sO (I Y i.b)/\wx.cell? ⟨cb0,co+m * 6+4,nO⟩=sO (I Y i.n)/\wx.cell? ⟨cb0,co+m * 6+5,nO⟩=sO (I Y i.g)))) [10] ag (HKZ.out _ (bR _ _)) (λhHeld=> ?_);generalize w1.drew=w2 at *;refine vZ 0 ?_ ?_;refine vZ 1 ?_ ?_;refine vZ 2 ?_ ?_;refine vZ 3 ?_ ?_;refine vZ 4 ?_ ?_;refine vZ 5 ?_ ?_;refine vZ 6 ?_ ?_;refine vZ 7 ?_ ?_;refine vZ 8 ?_ ?_;refine aB (i:=9) rfl ag (λK hK=> ?_);go_simp;have hb3:Below w2.heap.size w2 (w2.alloc (Cc #[I Y 0,I Y 0,I Y 0,I Y 0,I Y 0,I Y 0,I Y 0,I Y 0,U nO 0 0,I Y 0,Bb false,U nO 0 0,U nO 0 0,U nO 0 0,Bb false,Bb false] 102)):=ai;have S3:Cells (w2.alloc (Cc #[I Y 0,I Y 0,I Y 0,I Y 0,I Y 0,I Y 0,I Y 0,I Y 0,U nO 0 0,I Y 0,Bb false,U nO 0 0,U nO 0 0,U nO 0 0,Bb false,Bb false] 102)) w2.heap.size [I Y 0,I Y 0,I Y 0,I Y 0,I Y 0,I Y 0,I Y 0,I Y 0,U nO 0 0,I Y 0,Bb false,U nO 0 0,U nO 0 0,U nO 0 0,Bb false,Bb false]:=Cells.new w2 102 [I Y 0,I Y 0,I Y 0,I Y 0,I Y 0,I Y 0,I Y 0,I Y 0,U nO 0 0,I Y 0,Bb false,U nO 0 0,U nO 0 0,U nO 0 0,Bb false,Bb false];refine hK.out _ _ (HKZ.out _ hb3) (λhHeld=> ?_);clear hK K;refine sm ?_;generalize w2.alloc (Cc #[I Y 0,I Y 0,I Y 0,I Y 0,I Y 0,I Y 0,I Y 0,I Y 0,U nO 0 0,I Y 0,Bb false,U nO 0 0,U nO 0 0,U nO 0 0,Bb false,Bb false] 102)=w3 at *;generalize eSB:w2.heap.size=sb at *;refine bA (i:=10) rfl ag ag (λK hK=> ?_);have r0:=S3.1 0 _ rfl;have f0:=S3.2.2 0;have r1:=S3.1 1 _ rfl;have f1:=S3.2.2 1;have r2:=S3.1 2 _ rfl;have f2:=S3.2.2 2;have r3:=S3.1 3 _ rfl;have f3:=S3.2.2 3;have r4:=S3.1 4 _ rfl;have f4:=S3.2.2 4;have r5:=S3.1 5 _ rfl;have f5:=S3.2.2 5;have r6:=S3.1 6 _ rfl;have f6:=S3.2.2 6;have r7:=S3.1 7 _ rfl;have f7:=S3.2.2 7;have r8:=S3.1 8 _ rfl;have f8:=S3.2.2 8;have r9:=S3.1 9 _ rfl;have f9:=S3.2.2 9;have r10:=S3.1 10 _ rfl;have f10:=S3.2.2 10;have r11:=S3.1 11 _ rfl;have f11:=S3.2.2 11;have r12:=S3.1 12 _ rfl;have f12:=S3.2.2 12;have r13:=S3.1 13 _ rfl;have f13:=S3.2.2 13;have r14:=S3.1 14 _ rfl;have f14:=S3.2.2 14;have r15:=S3.1 15 _ rfl;have f15:=S3.2.2 15;go_simp;refine hK.out _ _ ?_;clear hK K r0 f0 r1 f1 r2 f2 r3 f3 r4 f4 r5 f5 r6 f6 r7 f7 r8 f8 r9 f9 r10 f10 r11 f11 r12 f12 r13 f13 r14 f14 r15 f15;refine sm ?_;refine aC ag ?_ _;have hs2:w2.heap.size<=sb:=aa;have C4:Cells ((((((((((((((((w3.setCell ⟨sb,0,nO⟩ (I Y i.k)).setCell ⟨sb,1,nO⟩ (I Y i.tgt)).setCell ⟨sb,2,nO⟩ (I Y i.a)).setCell ⟨sb,3,nO⟩ (I Y i.b)).setCell ⟨sb,4,nO⟩ (I Y i.n)).setCell ⟨sb,5,nO⟩ (I Y i.g)).setCell ⟨sb,6,nO⟩ (I Y V)).setCell ⟨sb,7,nO⟩ (I Y F)).setCell ⟨sb,8,nO⟩ (U (sO ⟨cb0,co,nO⟩) c.length cap)).setCell ⟨sb,9,nO⟩ (I Y (m:Int))).setCell ⟨sb,10,nO⟩ (Bb false)).setCell ⟨sb,11,nO⟩ (U vs x.vq.length vc)).setCell ⟨sb,12,nO⟩ (U fs x.fq.length fc)).setCell ⟨sb,13,nO⟩ (U nO 0 0)).setCell ⟨sb,14,nO⟩ (Bb false)).setCell ⟨sb,15,nO⟩ (Bb false)) sb (aT i V F s c cap (m:Int) x vs vc fs fc (U nO 0 0) false false):=by
  have h:=((((((((((((((((S3.put 0 dp (I Y i.k)).put 1 dp (I Y i.tgt)).put 2 dp (I Y i.a)).put 3 dp (I Y i.b)).put 4 dp (I Y i.n)).put 5 dp (I Y i.g)).put 6 dp (I Y V)).put 7 dp (I Y F)).put 8 dp (U (sO ⟨cb0,co,nO⟩) c.length cap)).put 9 dp (I Y (m:Int))).put 10 dp (Bb false)).put 11 dp (U vs x.vq.length vc)).put 12 dp (U fs x.fq.length fc)).put 13 dp (U nO 0 0)).put 14 dp (Bb false)).put 15 dp (Bb false));have e:aT i V F s c cap (m:Int) x vs vc fs fc (U nO 0 0) false false=[I Y i.k,I Y i.tgt,I Y i.a,I Y i.b,I Y i.n,I Y i.g,I Y V,I Y F,U (sO ⟨cb0,co,nO⟩) c.length cap,I Y (m:Int),Bb false,U vs x.vq.length vc,U fs x.fq.length fc,U nO 0 0,Bb false,Bb false]:=by unfold aT;rw[HNX.out,HES.out]
  rw[e];simp only[List.set_cons_zero,List.set_cons_succ] at h;exact h
 have B4:Below sb w2 ((((((((((((((((w3.setCell ⟨sb,0,nO⟩ (I Y i.k)).setCell ⟨sb,1,nO⟩ (I Y i.tgt)).setCell ⟨sb,2,nO⟩ (I Y i.a)).setCell ⟨sb,3,nO⟩ (I Y i.b)).setCell ⟨sb,4,nO⟩ (I Y i.n)).setCell ⟨sb,5,nO⟩ (I Y i.g)).setCell ⟨sb,6,nO⟩ (I Y V)).setCell ⟨sb,7,nO⟩ (I Y F)).setCell ⟨sb,8,nO⟩ (U (sO ⟨cb0,co,nO⟩) c.length cap)).setCell ⟨sb,9,nO⟩ (I Y (m:Int))).setCell ⟨sb,10,nO⟩ (Bb false)).setCell ⟨sb,11,nO⟩ (U vs x.vq.length vc)).setCell ⟨sb,12,nO⟩ (U fs x.fq.length fc)).setCell ⟨sb,13,nO⟩ (U nO 0 0)).setCell ⟨sb,14,nO⟩ (Bb false)).setCell ⟨sb,15,nO⟩ (Bb false)):=((((((((((((((((hb3.setCell (lR _) _).setCell (lR _) _).setCell (lR _) _).setCell (lR _) _).setCell (lR _) _).setCell (lR _) _).setCell (lR _) _).setCell (lR _) _).setCell (lR _) _).setCell (lR _) _).setCell (lR _) _).setCell (lR _) _).setCell (lR _) _).setCell (lR _) _).setCell (lR _) _).setCell (lR _) _);have hsb:w.heap.size<=sb:=pU;have BB:=B2.trans (B4.mono hsb);clear S3 hb3 B4 HKZ P2 X2;generalize ((((((((((((((((w3.setCell ⟨sb,0,nO⟩ (I Y i.k)).setCell ⟨sb,1,nO⟩ (I Y i.tgt)).setCell ⟨sb,2,nO⟩ (I Y i.a)).setCell ⟨sb,3,nO⟩ (I Y i.b)).setCell ⟨sb,4,nO⟩ (I Y i.n)).setCell ⟨sb,5,nO⟩ (I Y i.g)).setCell ⟨sb,6,nO⟩ (I Y V)).setCell ⟨sb,7,nO⟩ (I Y F)).setCell ⟨sb,8,nO⟩ (U (sO ⟨cb0,co,nO⟩) c.length cap)).setCell ⟨sb,9,nO⟩ (I Y (m:Int))).setCell ⟨sb,10,nO⟩ (Bb false)).setCell ⟨sb,11,nO⟩ (U vs x.vq.length vc)).setCell ⟨sb,12,nO⟩ (U fs x.fq.length fc)).setCell ⟨sb,13,nO⟩ (U nO 0 0)).setCell ⟨sb,14,nO⟩ (Bb false)).setCell ⟨sb,15,nO⟩ (Bb false))=w4 at *;go_wp2_with fail;refine(HST.out sb w4 C4 hsb BB).mono ?_;rintro e w5 ⟨rfl,⟨ev,QL,C5,E5,eq5⟩,hb5⟩;rw[j6] at E5;obtain⟨es,ec,rfl,-,-⟩:=E5.form;have hd:bl w5 w5.drew:=(bR _ _).drew;have CD:=C5.call hd;have ED:=E5.call hd;have BD:=(BB.trans (hb5.mono hsb)).drew;have HEQ:=ae eq5;clear C5 E5 C4 HST eq5;go_upto_region 10 with fail
 refine aD (S:=(λwx=>wx.cell? ⟨sb,13,nO⟩=sO (U es QL.length ec)/\wx.cell? ⟨sb,14,nO⟩=sO (Bb wr)/\wx.cell? ⟨sb,15,nO⟩=sO (Bb fl))) [] ag ⟨CD.1 13 _ rfl,CD.1 14 _ rfl,CD.1 15 _ rfl⟩ (λhHeld=> ?_);refine vZ 0 ?_ ?_;refine vZ 1 ?_ ?_;refine vZ 2 ?_ ?_;refine vZ 3 ?_ ?_;refine vZ 4 ?_ ?_;refine vZ 5 ?_ ?_;refine vZ 6 ?_ ?_;refine vZ 7 ?_ ?_;refine vZ 8 ?_ ?_;refine vZ 9 ?_ ?_;refine aC ag ?_ _;go_wp2;have hl:QL.length=SL.length:=by rw[<-HEQ.out];simp
 refine bodyPost_ret (v:=Tu #[U es QL.length ec,Bb wr,Bb fl,I Y 0]) oY rfl ⟨⟨es,ec,by rw[hl],?_⟩,BD⟩;have h:=ED.eds;rw[HEQ.out] at h;exact h.mono λb hb _=>aa
theorem wO (V F:Int)(s:oA)(c:lI)(cap:Nat)(at_:Int)(x:Pic)(vs:oA)(vc:Nat)(fs:oA)(fc:Nat)(w:World)(hc:CodeAt w s c)(hx:PicAt w x vs fs)(h1:x.vq.length<=vc/\vc<=maxLen)(h2:x.fq.length<=fc/\fc<=maxLen):
  Calls pG 15 #[pv V F s c cap,I Y at_,xv x vs vc fs fc] w λe w'=>yY w.heap.size w' e (ik V F c at_ x) (gO V F c at_ x)/\bl w w':=by
 by_cases hu:aR V F c [x]=0
 ·by_cases hr:at_ < 0\/(c.length:Int)<=at_
  ·have e1:gO V F c at_ x=5:=by unfold gO;rw[if_pos hu,if_pos hr]
   have e2:ik V F c at_ x=([],false,false):=by unfold ik;rw[e1,if_neg (by decide)]
   rw[e1,e2];exact Ca V F s c cap at_ x vs vc fs fc w hc hx h1 h2 hu hr
  ·have e1:gO V F c at_ x=0:=by unfold gO;rw[if_pos hu,if_neg hr]
   have e2:ik V F c at_ x=aA (bK c at_) at_ x:=by unfold ik;rw[e1,if_pos rfl]
   rw[e1,e2];by_cases hn:x.none=true
   ·have e3:aA (bK c at_) at_ x=([],false,false):=by unfold aA;rw[if_pos hn]
    rw[e3];exact EU V F s c cap at_ x vs vc fs fc w hc hx h1 h2 hu hr hn
   ·exact Ky V F s c cap at_ x vs vc fs fc w hc hx h1 h2 hu hr lO
 ·have e1:gO V F c at_ x=aR V F c [x]:=by unfold gO;rw[if_neg hu]
  have e2:ik V F c at_ x=([],false,false):=by unfold ik;rw[e1,if_neg hu]
  rw[e1,e2];exact FU V F s c cap at_ x vs vc fs fc w hc hx h1 h2 hu
def KeptC (Ch:Nat->Prop)(W W':World):Prop:=W.heap.size<=W'.heap.size/\∀b,¬Ch b->b < W.heap.size->W'.heap[b]? =W.heap[b]?
theorem KeptC.refl (Ch:Nat->Prop)(W:World):KeptC Ch W W:=⟨lR _,λ_ _ _=>rfl⟩
theorem KeptC.trans {Ch:Nat->Prop}{A B C:World}(h:KeptC Ch A B)(k:KeptC Ch B C):KeptC Ch A C:=⟨lT h.1 k.1,λb hb hlt=>(k.2 b hb (lL hlt h.1)).trans (h.2 b hb hlt)⟩
theorem KeptC.of {Ch:Nat->Prop}{A B:World}(h:bl A B):KeptC Ch A B:=⟨h.size,λb _ hlt=>h.block b hlt⟩
theorem KeptC.cells {Ch:Nat->Prop}{A B:World}(h:KeptC Ch A B){b:Nat}{cs:List Value}(hc:Cells A b cs)(hb:¬Ch b):Cells B b cs:=hc.same (h.2 b hb hc.2.1) h.1
def mL {σ:Type}(c:lI)(pics:σ->List Pic)(due:σ->Nat->Bool)(next:Nat->Edg->σ->σ)(t:σ)(k:Nat):σ:=if due t k then(cN c k (bm (pics t) k)).foldl (λt e=>next k e t) t else t
def ij {σ:Type}(c:lI)(pics:σ->List Pic)(due:σ->Nat->Bool)(next:Nat->Edg->σ->σ)(t:σ)(k:Nat):σ:=(List.range k).foldl (mL c pics due next) t
theorem rd {σ:Type}{c:lI}{pics:σ->List Pic}{due:σ->Nat->Bool}{next:Nat->Edg->σ->σ}{t:σ}{k:Nat}:ij c pics due next t (k+1)=mL c pics due next (ij c pics due next t k) k:=by unfold ij;rw[z8,q5];rfl
theorem FL {σ:Type}{V F:Int}{s:oA}{c:lI}{cap pb ib lb l n fd lc:Nat}{ls:oA}{cs:Array Value}{ar:Value->Array Value}(har:∀p,#[p]++cs=ar p)(hf:∀args wx,Sem.run pG (callFunc fd args) wx=.ok (.enter fd args) wx){pics:σ->List Pic}{due:σ->Nat->Bool}{next:Nat->Edg->σ->σ}{St:σ->World->Prop}{Stop:World->Prop}{Ch:Nat->Prop}
  (h0:aw V F c=0)(t0:σ)(W:World)
  (hSt:∀t W W',St t W->bl W W'->St t W')
  (hRow:∀t W,St t W->XsAt W ls (pics t)/\XsOk V F c (pics t))
  (hDue:∀t W (k:Nat),St t W->k < c.length->Calls pG fd (ar (I Y (k:Int))) W λe W'=>e=Rt (Bb (due t k))/\bl W W')
  (hY:∀t W (k:Nat) (e:Edg) vs vc fs fc,St t W->k < c.length->(∃t1,e∈cN c k (bm (pics t1) k))->gP V F c e->PicOn (λb=>¬Ch b) W e.pic vs fs->(e.pic.vq.length<=vc/\vc<=maxLen)->(e.pic.fq.length<=fc/\fc<=maxLen)->YieldAt Fence.wide (n - 1) pG l #[I Y (k:Int),Ag #[I Y e.tgt,Bb e.pic.none,U vs e.pic.vq.length vc,U fs e.pic.fq.length fc]] W λr W'=>(r=Rt (Bb true)/\St (next k e t) W'/\KeptC Ch W W')\/(r=Rt (Bb false)/\Stop W'))
  (hcode:∀W W',KeptC Ch W W'->CodeAt W s c->CodeAt W' s c)(hCh:∀b,Ch b->b < W.heap.size)(hpb:¬Ch pb)(hib:¬Ch ib)(hlb:¬Ch lb)
  (hW:St t0 W)(hP:Cells W pb [I Y V,I Y F,U s c.length cap])(hI:Cells W ib [.func (.func fd) #[] cs])(hL:Cells W lb [U ls (c.length+1) lc])(hC:CodeAt W s c):
  CallsIn Fence.wide n pG 103 #[.func (.yield l) #[] #[],Pp (sO ⟨pb,0,nO⟩),Pp (sO ⟨ib,0,nO⟩),Pp (sO ⟨lb,0,nO⟩)] W λe W'=>(∃v,e=Rt v)/\((St (ij c pics due next t0 c.length) W'/\KeptC Ch W W')\/Stop W'):=by
 have h60:=(bI h0).2.2;have HSt:=ae hSt;have HRow:=ae hRow;have HDue:=ae hDue;have HY:=ae hY;have HCO:=ae hcode;have HW:=ae hW;have HCK:=ae h0;clear hSt hRow hDue hY hcode hW h0;refine callsIn_of_wp Tryz.func103 rfl trivial (wpIn_wide.2 ?_);simp only[Tryz.ntmps103,z9,x4,x5,x6,x7,Array.replicate_succ,Array.replicate_zero,x8,x9,j6,J0];have p2:=hP.1 2 _ rfl;go_wp2;clear p2;go_loopw [15] (λi wr=>∃k:Nat,k<=c.length/\i=I Y k/\Hid (St (ij c pics due next t0 k) wr)/\KeptC Ch W wr) (λi _=>c.length - (intOf i).toNat)
 case atStart=>exact⟨0,q6 _,rfl,HW.out,KeptC.refl _ _⟩
 case round=>
  obtain⟨k,hk,rfl,HS,hkr⟩:=hrel;have P1:=hkr.cells hP hpb;have I1:=hkr.cells hI hib;have L1:=hkr.cells hL hlb;by_cases hlt:k < c.length;rotate_left
  ·have n1:¬(k:Int) < (c.length:Int):=by omega
   have ek:k=c.length:=aa;have HF:Hid (St (ij c pics due next t0 c.length) wr):=by show St _ _;rw[<-ek];exact HS.out
   clear ek HS;go_wp2;go_end0;exact⟨⟨_,rfl⟩,.inl ⟨HF.out,hkr⟩⟩
  have n0:(0:Int)<=(k:Int):=aa;have n1:(k:Int) < (c.length:Int):=aa;have i0:=I1.1 0 _ rfl;go_wp2_with fail;refine(HDue.out _ wr k HS.out hlt).mono ?_;rintro e w1 ⟨rfl,hb1⟩;have k1:KeptC Ch W w1:=hkr.trans (KeptC.of hb1);have HS1:=ae (HSt.out _ _ _ HS.out hb1);have P2:=P1.call hb1;have L2:=L1.call hb1;clear HS hb1 i0 P1 I1 L1;obtain⟨t,et⟩:∃t,t=ij c pics due next t0 k:=⟨_,rfl⟩
  have HT:=ae (rd (c:=c) (pics:=pics) (due:=due) (next:=next) (t:=t0) (k:=k));rw[<-et] at HS1 HT |-;clear et;rcases q9 (due t k) with hd|hd;rotate_left
  ·have HD:=ae hd
   rw[hd];clear hd;go_wp2;go_roundw
   case rel=>exact⟨k+1,aa,aJ,by show St _ _;rw[HT.out];unfold mL;rw[HD.out];exact HS1.out,k1⟩
   case measure=>simp[intOf];omega
  ·have HD:=ae hd
   rw[hd];clear hd;obtain⟨hX,hXO⟩:=HRow.out _ _ HS1.out;have hxl:k < (pics t).length:=by rw[hXO.len];omega
   obtain⟨rb,ro,els,zrb,vx,vxc,fx,fxc,⟨q0,q1,q2⟩,hPx,hvx,hfx⟩:=hX k hxl;obtain⟨x,ex⟩:∃x,x=(pics t)[k]:=⟨_,rfl⟩;have hckx:aK V F c x=0:=by rw[ex];exact hXO.ck _ (gM hxl)
   have HEX:Hid (bm (pics t) (k:Int)=x):=by show _=_;rw[fQ hxl,ex]
   rw[<-ex] at q0 q1 q2 hPx hvx hfx;clear ex;have C1:=HCO.out _ _ k1 hC;have HSF:Hid (∀wx,bl w1 wx->Calls pG 15 #[pv V F s c cap,I Y (k:Int),xv x vx vxc fx fxc] wx λe w'=>(∃es ec,e=Rt (Tu #[U es (cN c k x).length ec,Bb (aA (bK c k) k x).2.1,Bb (aA (bK c k) k x).2.2,I Y 0])/\EdsOn (λb=>w1.heap.size<=b) w' es (cN c k x))/\bl wx w'):=λwx hb=>by
    have hu:aR V F c [x]=0:=by unfold aR;rw[if_pos HCK.out];unfold cJ;rw[if_pos hckx];rfl
    have e0:gO V F c (k:Int) x=0:=by unfold gO;rw[if_pos hu,if_neg (by omega)]
    have e1:ik V F c (k:Int) x=aA (bK c k) k x:=by unfold ik;rw[if_pos e0]
    have h:=wO V F s c cap (k:Int) x vx vxc fx fxc wx (C1.below hb (lR _)) (hPx.below hb (lR _)) hvx hfx;rw[e0,e1] at h;refine h.mono ?_;rintro e w' ⟨⟨es,ec,rfl,hE⟩,hb'⟩;exact⟨⟨es,ec,rfl,hE.mono λb h _=>lT hb.size h⟩,hb'⟩
   have HEO:=ae (iq HCK.out hckx hlt);subst els;have HKZ:Hid (∀wx,bl w1 wx->(wx.cell? ⟨pb,0,nO⟩=sO (I Y V)/\wx.cell? ⟨pb,1,nO⟩=sO (I Y F)/\wx.cell? ⟨pb,2,nO⟩=sO (U s c.length cap))/\wx.cell? ⟨lb,0,nO⟩=sO (U (sO ⟨rb,ro,nO⟩) (c.length+1) lc)/\(wx.cell? ⟨rb,ro+k * 3,nO⟩=sO (Bb x.none)/\wx.cell? ⟨rb,ro+k * 3+1,nO⟩=sO (U vx x.vq.length vxc)/\wx.cell? ⟨rb,ro+k * 3+2,nO⟩=sO (U fx x.fq.length fxc))):=λwx hb=>by
    have p:=P2.call hb;have q:=L2.call hb;refine⟨⟨p.1 0 _ rfl,p.1 1 _ rfl,p.1 2 _ rfl⟩,q.1 0 _ rfl,?_,?_,?_⟩
    ·rw[hb.cell (by simp only;exact zrb)];exact q0
    ·rw[hb.cell (by simp only;exact zrb)];exact q1
    ·rw[hb.cell (by simp only;exact zrb)];exact q2
   have B12:bl w1 w1.drew:=(bR _ _).drew;have m1:(k:Int) < (c.length:Int)+1:=aa;generalize (aA (bK c k) k x).2.1=sw at *;generalize (aA (bK c k) k x).2.2=sf at *;have HST:Hid (mL c pics due next t k=(cN c k x).foldl (λt e=>next k e t) t):=by show _=_;unfold mL;rw[HD.out,if_pos rfl,HEX.out]
   have HELE:Hid ((cN c k x).length<=10):=lT (rj _ _ _) aj;have HM:Hid (∀e∈cN c k x,∃t1,e∈cN c k (bm (pics t1) k)):=λe he=>⟨t,by rw[HEX.out];exact he⟩;generalize cN c k x=E at *;go_upto_region 4 with fail
   refine aD (S:=(λwx=>(wx.cell? ⟨pb,0,nO⟩=sO (I Y V)/\wx.cell? ⟨pb,1,nO⟩=sO (I Y F)/\wx.cell? ⟨pb,2,nO⟩=sO (U s c.length cap))/\wx.cell? ⟨lb,0,nO⟩=sO (U (sO ⟨rb,ro,nO⟩) (c.length+1) lc)/\(wx.cell? ⟨rb,ro+k * 3,nO⟩=sO (Bb x.none)/\wx.cell? ⟨rb,ro+k * 3+1,nO⟩=sO (U vx x.vq.length vxc)/\wx.cell? ⟨rb,ro+k * 3+2,nO⟩=sO (U fx x.fq.length fxc)))) [] ag (HKZ.out _ B12) (λhHeld=> ?_);generalize w1.drew=w2 at *;refine vZ 0 ?_ ?_;refine vZ 1 ?_ ?_;refine vZ 2 ?_ ?_;refine vZ 3 ?_ ?_;refine vZ 4 ?_ ?_;refine vZ 5 ?_ ?_;refine aB (i:=6) rfl ag (λK hK=> ?_);go_simp;go_at_call 15;refine(HSF.out w2 B12).mono ?_;rintro e w3 ⟨⟨es,ec,rfl,E3⟩,hb3⟩;go_wp2_with fail;refine hK.out _ _ (HKZ.out _ (B12.trans (hb3.mono B12.size))) (λhHeld=> ?_);clear hK K;refine sm ?_;refine vZ 7 ?_ ?_;refine vZ 8 ?_ ?_;refine vZ 9 ?_ ?_;refine vZ 10 ?_ ?_;refine vZ 11 ?_ ?_;refine vZ 12 ?_ ?_;refine vZ 13 ?_ ?_;refine vZ 14 ?_ ?_;refine vZ 15 ?_ ?_;refine aC ag ?_ _;have HS3:=ae (HSt.out _ _ _ HS1.out (B12.trans (hb3.mono B12.size)));have k3:KeptC Ch W w3:=k1.trans (KeptC.of (B12.trans (hb3.mono B12.size)));have HN:Hid (∀b,w1.heap.size<=b->¬Ch b):=λb hb hc=>by have:=hCh b hc;have:=k1.1;omega
   have HEL:Hid (E.length<=10):=HELE.out;clear B12 hb3 HS1 P2 L2 hX hXO C1 HSF HKZ q0 q1 q2 hPx hvx hfx hckx;go_wp2;go_loopw [36] (λi wr=>∃j:Nat,j<=E.length/\i=I Y j/\Hid (St ((E.take j).foldl (λt e=>next k e t) t) wr)/\KeptC Ch w3 wr) (λi _=>E.length - (intOf i).toNat)
   case atStart=>exact⟨0,q6 _,rfl,HS3.out,KeptC.refl _ _⟩
   case round=>
    obtain⟨j,hj,rfl,HSj,hkj⟩:=hrel;have hl10:=HEL.out;by_cases hltj:j < E.length;rotate_left
    ·have n2:¬(j:Int) < (E.length:Int):=by omega
     have HF:Hid (St (ij c pics due next t0 (k+1)) wr):=by
      show St _ _;have h:=HSj.out;rw[List.take_of_length_le aa] at h;rw[HT.out,HST.out];exact h
     have k4:=k3.trans hkj;clear HSj HS3;go_wp2;go_roundw
     case rel=>exact⟨k+1,aa,aJ,HF.out,k4⟩
     case measure=>simp[intOf];omega
    have j0:(0:Int)<=(j:Int):=aa;have j1:(j:Int) < (E.length:Int):=aa;have EJ:=E3.same (w':=wr) (λb hb hlt=>hkj.2 b (HN.out b hb) hlt) hkj.1;obtain⟨eb,eo,ees,hSb,zeb,vs,vc,fs,fc,⟨c0,c1,c2,c3⟩,hPe,hve,hfe⟩:=EJ j hltj;have hba:Below wr.heap.size wr (wr.alloc (Cc #[I Y E[j].tgt,Bb E[j].pic.none,U vs E[j].pic.vq.length vc,U fs E[j].pic.fq.length fc] 45)):=ai;obtain⟨fn,tmps,assign,body,hy,hR⟩:=HY.out _ _ k E[j] vs vc fs fc (HSt.out _ _ _ HSj.out hba) hlt (HM.out _ (gM hltj)) (HEO.out _ (gM hltj)) ((hPe.mono λb hb _=>HN.out b hb).call hba) hve hfe;have HTK:Hid ((E.take (j+1)).foldl (λt e=>next k e t) t=next k E[j] ((E.take j).foldl (λt e=>next k e t) t)):=by show _=_;rw[J3 hltj,q5];rfl
    have kba:KeptC Ch w3 (wr.alloc (Cc #[I Y E[j].tgt,Bb E[j].pic.none,U vs E[j].pic.vq.length vc,U fs E[j].pic.fq.length fc] 45)):=hkj.trans (KeptC.of hba);subst ees;have NX:Cells (wr.alloc (Cc #[I Y E[j].tgt,Bb E[j].pic.none,U vs E[j].pic.vq.length vc,U fs E[j].pic.fq.length fc] 45)) wr.heap.size [I Y E[j].tgt,Bb E[j].pic.none,U vs E[j].pic.vq.length vc,U fs E[j].pic.fq.length fc]:=Cells.new wr _ [I Y E[j].tgt,Bb E[j].pic.none,U vs E[j].pic.vq.length vc,U fs E[j].pic.fq.length fc];clear EJ hPe HSj HS3;go_upto_region 8 with fail
    clear c0 c1 c2 c3;generalize wr.alloc (Cc #[I Y E[j].tgt,Bb E[j].pic.none,U vs E[j].pic.vq.length vc,U fs E[j].pic.fq.length fc] 45)=wy at *;have c0:=NX.1 0 _ rfl;have c1:=NX.1 1 _ rfl;have c2:=NX.1 2 _ rfl;have c3:=NX.1 3 _ rfl;refine(wpIn_wide (n:=n)).1 ?_
    gi_wp2
    refine⟨λh=>(by cases h),hR.mono ?_⟩;rintro e W3 (⟨rfl,hS4,hk4⟩|⟨rfl,hstop⟩)
    ·have HS4:=ae hS4
     clear hS4 hR hy c0 c1 c2 c3 NX;have k5:=kba.trans hk4
     gi_wp2
     go_wp2;go_roundw
     case rel=>exact⟨j+1,aa,aJ,by show St _ _;rw[HTK.out];exact HS4.out,k5⟩
     case measure=>simp[intOf];omega
    ·clear hR hy c0 c1 c2 c3 NX
     have HSP:=ae hstop;clear hstop
     gi_wp2
     go_wp2;refine bodyPost_ret (results_none rfl _ _ _) rfl ?_;exact⟨⟨_,rfl⟩,.inr HSP.out⟩
theorem Hb (V F:Int)(s:oA)(c:lI)(cap:Nat)(ls:oA)(pl pc dc sb db vb nb k:Nat)(n:Int)(D:List Int)(w:World)(hV:Cells w vb [Pp (sO ⟨sb,0,nO⟩)])(hN:Cells w nb [I Y n])(hst:Cells w sb [I Y V,I Y F,U s c.length cap,U ls pl pc,U (sO ⟨db,0,nO⟩) D.length dc])(hD:DRow w db D)(hk:k < D.length)(hm:D.length<=maxLen):
  Calls pG 99 #[I Y (k:Int),Pp (sO ⟨vb,0,nO⟩),Pp (sO ⟨nb,0,nO⟩)] w λe w'=>e=Rt (Bb (D[k]==n))/\bl w w':=by
 have HS:Hid (w.drew.cell? ⟨vb,0,nO⟩=sO (Pp (sO ⟨sb,0,nO⟩))/\w.drew.cell? ⟨nb,0,nO⟩=sO (I Y n)/\w.drew.cell? ⟨sb,4,nO⟩=sO (U (sO ⟨db,0,nO⟩) D.length dc)/\w.drew.cell? ⟨db,k,nO⟩=sO (I Y D[k])):=by
  have b:bl w w.drew:=(bR _ _).drew;exact⟨(hV.call b).1 0 _ rfl,(hN.call b).1 0 _ rfl,(hst.call b).1 4 _ rfl,(hD.call b).get hk⟩
 have B34:bl w w.drew:=(bR _ _).drew;generalize D[k]=d at *;have m0:(0:Int)<=(k:Int):=aa;have m1:(k:Int) < (D.length:Int):=aa;go_enter Tryz.func99,Tryz.ntmps99;go_upto_region 1 with fail
 refine aD (S:=(λwx=>wx.cell? ⟨vb,0,nO⟩=sO (Pp (sO ⟨sb,0,nO⟩))/\wx.cell? ⟨nb,0,nO⟩=sO (I Y n)/\wx.cell? ⟨sb,4,nO⟩=sO (U (sO ⟨db,0,nO⟩) D.length dc)/\wx.cell? ⟨db,k,nO⟩=sO (I Y d))) [] ag HS.out (λhHeld=> ?_);refine vZ 0 ?_ ?_;refine vZ 1 ?_ ?_;refine vZ 2 ?_ ?_;refine vZ 3 ?_ ?_;refine vZ 4 ?_ ?_;refine vZ 5 ?_ ?_;refine vZ 6 ?_ ?_;refine vZ 7 ?_ ?_;refine vZ 8 ?_ ?_;refine vZ 9 ?_ ?_;refine aC ag ?_ _;go_wp2;go_ret;exact⟨rfl,B34⟩
theorem FC (V F:Int)(s:oA)(c:lI)(cap:Nat)(ls:oA)(len lc fd:Nat)(cs:Array Value)(w:World):
  Calls pG 53 #[pv V F s c cap,U ls len lc,.func (.func fd) #[] cs] w λe w'=>e=Rt (.func (.func 103) #[] #[Pp (sO ⟨w.heap.size,0,nO⟩),Pp (sO ⟨w.heap.size+1+1,0,nO⟩),Pp (sO ⟨w.heap.size+1,0,nO⟩)])/\(Cells w' w.heap.size [I Y V,I Y F,U s c.length cap]/\Cells w' (w.heap.size+1) [U ls len lc]/\Cells w' (w.heap.size+1+1) [.func (.func fd) #[] cs])/\bl w w':=by
 go_enter Tryz.func53,Tryz.ntmps53;go_wp2;go_ret;refine⟨rfl,⟨(Cells.new w _ [_,_,_]).call ai,?_,?_⟩,ai⟩
 ·have h:=Cells.new (w.alloc (Cc #[I Y V,I Y F,U s c.length cap] 24)) 47 [U ls len lc]
  rw[j7] at h;exact h.call ai
 ·have h:=Cells.new ((w.alloc (Cc #[I Y V,I Y F,U s c.length cap] 24)).alloc (Cc #[U ls len lc] 47)) 70 [.func (.func fd) #[] cs]
  rw[j7,j7] at h;exact h
theorem Lz {P:Program}{d:Code}{K:Act->World->Prop}{Q:Exit->Act->World->Prop}{a:Act}{w:World}(h:d.wp P (Exit.then K (λ_ _ _=>False)) a w):d.wp P (Exit.then K Q) a w:=wp_mono h λe a w q=>by
 cases e<;>first|exact q|exact q.elim
section
variable {w W W':World} {V F:Int} {s:oA} {c:lI} {cap:Nat} {ls:oA} {len lc:Nat}
end
attribute [local go_sem] Oper.semAt_some
end
section
open Go.RowKit
attribute [local go_sem ↓] Go.wp_at_zero Go.wp_at_succ
theorem Lk {c:lI}{n:Int}{t:List Pic×List Int×Bool}{k:Nat}:mL c (λt:List Pic×List Int×Bool=>t.1) (λt k=>t.2.1.getD k 0==n) (λk e t=>cG n k t e) t k=gx c n t k:=by
 unfold mL gx;by_cases h:t.2.1.getD k 0=n
 ·rw[if_pos h,if_pos cj]
 ·rw[if_neg h,if_neg cj]
theorem AA {c:lI}{n:Int}{t:List Pic×List Int×Bool}:∀{k:Nat},ij c (λt:List Pic×List Int×Bool=>t.1) (λt k=>t.2.1.getD k 0==n) (λk e t=>cG n k t e) t k=(List.range k).foldl (gx c n) t
 |0=>rfl
 |k+1=>by rw[rd,AA,Lk,z8,q5];rfl
theorem KI {V F:Int}{c:lI}(h0:aw V F c=0){n i:Int}{t:List Pic×List Int×Bool}{e:Edg}(h:XsOk V F c t.1)(hd:t.2.1.length=c.length+1)(he:gP V F c e):XsOk V F c (cG n i t e).1/\(cG n i t e).2.1.length=c.length+1:=by
 obtain⟨b1,-⟩:=mz (n:=n) (i:=i) (s:=(t.1,t.2.2)) h0 h he;have e1:(bT n i (t.1,t.2.2) e).1=(cG n i t e).1:=by rw[<-mQ]
 rw[e1] at b1;refine⟨b1,?_⟩;unfold cG;split
 ·exact hd
 ·simpa using hd
theorem KeptC.code {Ch:Nat->Prop}{W W':World}{s:oA}{c:lI}(h:KeptC Ch W W')(hs:∀a,s=sO a->¬Ch a.block)(hc:CodeAt W s c):CodeAt W' s c:=by
 rcases hc with hi|⟨b,off,e,hb,hc⟩
 ·exact .inl hi
 ·refine .inr ⟨b,off,e,lL hb h.1,λk hk=> ?_⟩
  obtain⟨h0,h1,h2,h3,h4,h5⟩:=hc k hk;have hB:=h.2 b (hs _ e) hb;refine⟨?_,?_,?_,?_,?_,?_⟩<;>rw[World.cell?_of_block hB]<;>assumption
theorem KeptC.mono {Ch Ch':Nat->Prop}{W W':World}(h:KeptC Ch W W')(hs:∀b,Ch b->Ch' b):KeptC Ch' W W':=⟨h.1,λb hb hlt=>h.2 b (λhc=>hb (hs b hc)) hlt⟩
theorem Hz {w:World}{s:oA}{c:lI}{pb db cb:Nat}(hC:CodeAt w s c)(hsC:c≠[]->∀a,s=sO a->a.block≠pb/\a.block≠db)(hcb:w.heap.size<=cb):∀W W',KeptC (λb=>b=pb\/b=db\/b=cb) W W'->CodeAt W s c->CodeAt W' s c:=by
 by_cases hcn:c=[]
 ·exact λ_ _ _ _=>.inl hcn
 ·rcases hC with h|⟨b,off,e,hb,-⟩
  ·exact absurd h hcn
  intro W W' hk h;refine hk.code (λa ha=> ?_) h;have h1:=hsC hcn a ha;have h2:a.block=b:=by rw[e] at ha;cases ha;rfl
  rintro (h|h|h)
  ·exact h1.1 h
  ·exact h1.2 h
  ·omega
theorem PicOn.drop {S:Nat->Prop}{W:World}{x:Pic}{vs fs:oA}{l:Nat}{r:Loop}(h:PicOn S W x vs fs)(hl:W.heap[l]? =sO (.loop r)):PicOn (λb=>S b/\b≠l) W x vs fs:=λw2 h2 hz=>by
 have hlz:=(j8.1 hl).1;have h3:PicAt (w2.putObj l (.loop r)) x vs fs:=h _ (λb hb hlt=>by
  by_cases e:b=l
  ·subst e;rw[z0 aa,hl]
  ·rw[j9 e];exact h2 b ⟨hb,e⟩ hlt) (by simpa[q7] using hz)
 refine CellsKept.pic (W:=w2.putObj l (.loop r)) ⟨by simp[q7],λb k v hv=> ?_⟩ h3;by_cases e:b=l
 ·subst e
  exfalso;have e2:(w2.putObj b (.loop r)).heap[b]? =sO (.loop r):=z0 aa;simp only[World.cell?,e2] at hv;cases hv
 ·rw[World.cell?_of_block (a:=⟨b,k,nO⟩) (j9 e)] at hv
  exact hv
theorem KA {F:Fence}{m:Nat}{P:Program}{c d:Code}{Q:Exit->Act->World->Prop}{a:Act}{w:World}(h:∀K:Act->World->Prop,Hid (∀a w,d.wpIn F m P Q a w->K a w)->c.wpIn F m P (Exit.then K (λ_ _ _=>False)) a w):(c.seq d).wpIn F m P Q a w:=wpIn_seq (wQ (h _ λ_ _ h=>h))
theorem AY {V F:Int}{s:oA}{c:lI}{cap:Nat}{x y:Pic}{vs1:oA}{vc1:Nat}{fs1:oA}{fc1:Nat}{vs2:oA}{vc2:Nat}{fs2:oA}{fc2:Nat}{w:World}(h0:aw V F c=0)(hx0:aK V F c x=0)(hy0:aK V F c y=0)(hcd:CodeAt w s c)(hx:PicAt w x vs1 fs1)(h1:x.vq.length<=vc1/\vc1<=maxLen)(h2:x.fq.length<=fc1/\fc1<=maxLen)(hy:PicAt w y vs2 fs2)(h3:y.vq.length<=vc2/\vc2<=maxLen)(h4:y.fq.length<=fc2/\fc2<=maxLen):Calls pG 32 #[pv V F s c cap,xv x vs1 vc1 fs1 fc1,xv y vs2 vc2 fs2 fc2] w λe w'=>i6 w.heap.size w' e (aG (am false) x y) 0/\bl w w':=by
 have hk:aR V F c [x,y]=0:=Dc;have h:=MG V F s c cap x vs1 vc1 fs1 fc1 y vs2 vc2 fs2 fc2 w hcd hx h1 h2 hy h3 h4;rw[if_pos hk,hk,(iK h0 hx0 hy0).1] at h;exact h
theorem Kn {V F:Int}{s:oA}{c:lI}{cap:Nat}{x y:Pic}{vs1:oA}{vc1:Nat}{fs1:oA}{fc1:Nat}{vs2:oA}{vc2:Nat}{fs2:oA}{fc2:Nat}{w:World}(h0:aw V F c=0)(hx0:aK V F c x=0)(hy0:aK V F c y=0)(hcd:CodeAt w s c)(hx:PicAt w x vs1 fs1)(h1:x.vq.length<=vc1/\vc1<=maxLen)(h2:x.fq.length<=fc1/\fc1<=maxLen)(hy:PicAt w y vs2 fs2)(h3:y.vq.length<=vc2/\vc2<=maxLen)(h4:y.fq.length<=fc2/\fc2<=maxLen):Calls pG 33 #[pv V F s c cap,xv x vs1 vc1 fs1 fc1,xv y vs2 vc2 fs2 fc2] w λe w'=>i6 w.heap.size w' e (aG (am true) x y) 0/\bl w w':=by
 have hk:aR V F c [x,y]=0:=Dc;have h:=MA V F s c cap x vs1 vc1 fs1 fc1 y vs2 vc2 fs2 fc2 w hcd hx h1 h2 hy h3 h4;rw[if_pos hk,hk,(iK h0 hx0 hy0).2] at h;exact h
structure RndAt (S:Nat->Prop) (w:World) (V F:Int) (s:oA) (c:lI) (cap sb pb pc db dc:Nat) (n:Int) (t:List Pic×List Int×Bool) (W:World):Prop where
 vs:Cells W w.heap.size [Pp (sO ⟨sb,0,nO⟩)]
 vn:Cells W (w.heap.size+1) [I Y n]
 vc:Cells W (w.heap.size+1+1) [Bb t.2.2]
 st:Cells W sb [I Y V,I Y F,U s c.length cap,U (sO ⟨pb,0,nO⟩) t.1.length pc,U (sO ⟨db,0,nO⟩) t.2.1.length dc]
 pr:PRow S W pb t.1
 dr:DRow W db t.2.1
 xs:XsOk V F c t.1
 ln:t.2.1.length=c.length+1
 kp:KeptC (λb=>b=pb\/b=db) w W
 lo:∀{B:Nat} {a:World},B<=pb->B<=db->B<=w.heap.size->Below B a w->Below B a W
section
variable {S:Nat->Prop} {w W W':World} {V F:Int} {s:oA} {c:lI} {cap sb pb pc db dc:Nat} {n:Int} {t:List Pic×List Int×Bool}
theorem RndAt.below (h:RndAt S w V F s c cap sb pb pc db dc n t W)(hb:bl W W'):RndAt S w V F s c cap sb pb pc db dc n t W':=⟨h.vs.call hb,h.vn.call hb,h.vc.call hb,h.st.call hb,h.pr.call hb,h.dr.call hb,h.xs,h.ln,h.kp.trans (KeptC.of hb),λh1 h2 h3 h4=>(h.lo h1 h2 h3 h4).trans (hb.mono (lT h3 h.kp.1))⟩
theorem RndAt.mono {S':Nat->Prop}(h:RndAt S w V F s c cap sb pb pc db dc n t W)(hs:∀b,S b->b < W.heap.size->S' b):RndAt S' w V F s c cap sb pb pc db dc n t W:=⟨h.vs,h.vn,h.vc,h.st,h.pr.mono hs,h.dr,h.xs,h.ln,h.kp,h.lo⟩
theorem RndAt.round {l:Nat}(h:RndAt S w V F s c cap sb pb pc db dc n t W)(hO:RoundAt l W W')(hl:w.heap.size+1+1 < l)(hsb:sb≠l)(hpb:pb≠l)(hdb:db≠l)(hS:∀b,S b->b≠l):RndAt S w V F s c cap sb pb pc db dc n t W':=
 have hz:W.heap.size<=W'.heap.size:=by rw[hO.size];exact lR _
 ⟨h.vs.same (hO.far _ aa) hz,h.vn.same (hO.far _ aa) hz,h.vc.same (hO.far _ aa) hz,h.st.same (hO.far _ hsb) hz,h.pr.far (hO.far _ hpb) (λb hb _=>hO.far b (hS b hb)) hz,h.dr.far (hO.far _ hdb) hz,h.xs,h.ln,⟨lT h.kp.1 hz,λb hb hlt=>(hO.far b aa).trans (h.kp.2 b hb hlt)⟩,λh1 h2 h3 h4=>hO.low aa (h.lo h1 h2 h3 h4)⟩
theorem Kr {W5 wq W6:World}{L:List Pic}{D:List Int}(h:RndAt S w V F s c cap sb pb pc db dc n t W5)(e:Hid (wq=bw W5 (w.heap.size+1+1) 0 [Bb true]))(hs:gw S wq W6 pb db L D)(hn:pb < w.heap.size/\db < w.heap.size/\sb≠pb/\sb≠db/\sb < w.heap.size)(hl:L.length=t.1.length/\D.length=t.2.1.length)(hx:XsOk V F c L/\D.length=c.length+1)(hS:∀b,S b->b≠w.heap.size+1+1):
  RndAt S w V F s c cap sb pb pc db dc n (L,D,true) W6/\KeptC (λb=>b=pb\/b=db\/b=w.heap.size+1+1) W5 W6/\∀b,b≠pb->b≠db->b≠w.heap.size+1+1->b < W5.heap.size->W6.heap[b]? =W5.heap[b]? :=by
 have PQ:=bM h.vc 0 _ e.out;obtain⟨s1,s2,s3,s4,s5⟩:=hs;obtain⟨a1,a2,a3,a4,a5⟩:=hn;have F:∀b,b≠pb->b≠db->b≠w.heap.size+1+1->b < W5.heap.size->W6.heap[b]? =W5.heap[b]? :=λb h1 h2 h3 h4=>(s3 b h1 h2 (lL h4 PQ.size)).trans (PQ.far b h3);have Z:W5.heap.size<=W6.heap.size:=lT PQ.size s4;refine⟨⟨h.vs.same (F _ aa aa aa h.vs.2.1) Z,h.vn.same (F _ aa aa aa h.vn.2.1) Z,PQ.cells.same (s3 _ aa aa PQ.cells.2.1) s4,?_,s1,s2,hx.1,hx.2,⟨lT h.kp.1 Z,λb hb hlt=> ?_⟩,λh1 h2 h3 h4=>s5 h1 h2 (lT h3 (lT h.kp.1 PQ.size)) (PQ.low aa (h.lo h1 h2 h3 h4))⟩,⟨Z,λb hb hlt=> ?_⟩,F⟩
 ·have q:=h.st.same (F sb a3 a4 aa h.st.2.1) Z
  rw[<-hl.1,<-hl.2] at q;exact q
 ·have hb':¬(b=pb\/b=db):=hb
  have:=h.kp.1;rw[F b aa aa aa aa];exact h.kp.2 b hb hlt
 ·have hb':¬(b=pb\/b=db\/b=w.heap.size+1+1):=hb
  exact F b aa aa aa hlt
theorem uv {Ch:Nat->Prop}{Wa W2 W3:World}{l D:Nat}{r:Loop}(hl:LoopAt W l D r)(hb:bl W Wa)(hO:RoundAt l Wa W2)(h3:KeptC Ch W2 W3):KeptC Ch W (W3.putObj l (.loop r)):=by
 have z:W.heap.size<=W3.heap.size:=lT hb.size (by rw[<-hO.size];exact h3.1);have hlz:=(j8.1 hl.lp).1;refine⟨by simpa[q7] using z,λb hc hlt=> ?_⟩;by_cases e:b=l
 ·subst e
  rw[z0 aa,hl.lp]
 ·rw[j9 e,h3.2 b hc (by rw[hO.size];have:=hb.size;omega),hO.far b e,hb.block b hlt]
end
theorem FT {S:Nat->Prop}{V F:Int}{s:oA}{c:lI}{cap sb pb pc db dc:Nat}{n:Int}{L:List Pic}{D:List Int}{w w5 w6 W1:World}{fn:FuncId}{tmps:Array Value}{ps:Array Tmp}{assign body:Code}
  (h0:aw V F c=0)(hC:CodeAt w s c)(hCK:∀W W',KeptC (λb=>b=pb\/b=db\/b=w.heap.size+1+1) W W'->CodeAt W s c->CodeAt W' s c)(hz:w.heap.size+1+1 < w5.heap.size)(hpb:pb < w.heap.size)(hdb:db < w.heap.size)(hb:bl w6 W1)(hl:LoopAt W1 (w6.heap.size+1) w6.heap.size (dx fn tmps ps assign body w6.heap.size .ready nO))(hR:RndAt S w V F s c cap sb pb pc db dc n (L,D,false) W1)
  (EP:Cells w6 w5.heap.size [I Y V,I Y F,U s c.length cap])(EL:Cells w6 (w5.heap.size+1) [U (sO ⟨pb,0,nO⟩) L.length pc])(EF:Cells w6 (w5.heap.size+1+1) [.func (.func 99) #[] #[Pp (sO ⟨w.heap.size,0,nO⟩),Pp (sO ⟨w.heap.size+1,0,nO⟩)]])
  (hY:∀(t:List Pic×List Int×Bool) W (k:Nat) (e:Edg) vs vc fs fc,RndAt S w V F s c cap sb pb pc db dc n t W->LoopAt W (w6.heap.size+1) w6.heap.size (dx fn tmps ps assign body w6.heap.size .ready nO)->gP V F c e->PicOn (λb=>¬(b=pb\/b=db\/b=w.heap.size+1+1)) W e.pic vs fs->(e.pic.vq.length<=vc/\vc<=maxLen)->(e.pic.fq.length<=fc/\fc<=maxLen)->YieldAt Fence.wide (5 - 1 - 1) pG (w6.heap.size+1) #[I Y (k:Int),Ag #[I Y e.tgt,Bb e.pic.none,U vs e.pic.vq.length vc,U fs e.pic.fq.length fc]] W λr W'=>r=Rt (Bb true)/\LoopAt W' (w6.heap.size+1) w6.heap.size (dx fn tmps ps assign body w6.heap.size .ready nO)/\RndAt S w V F s c cap sb pb pc db dc n (cG n k t e) W'/\KeptC (λb=>b=pb\/b=db\/b=w.heap.size+1+1) W W'):
  CallsIn Fence.wide (5 - 1) pG 103 (#[.func (.yield (w6.heap.size+1)) #[] #[]]++#[Pp (sO ⟨w5.heap.size,0,nO⟩),Pp (sO ⟨w5.heap.size+1+1,0,nO⟩),Pp (sO ⟨w5.heap.size+1,0,nO⟩)]) W1 λe W'=>(∃v,e=Rt v)/\((LoopAt W' (w6.heap.size+1) w6.heap.size (dx fn tmps ps assign body w6.heap.size .ready nO)/\RndAt S w V F s c cap sb pb pc db dc n (eJ c n (L,D)) W')\/∃c',LoopAt W' (w6.heap.size+1) w6.heap.size (dx fn tmps ps assign body w6.heap.size .done (sO c'))/\False):=by
 have hz6:=EF.2.1;have hzb:=hb.size;refine(FL (σ:=List Pic×List Int×Bool) (V:=V) (F:=F) (s:=s) (c:=c) (cap:=cap) (pb:=w5.heap.size) (ib:=w5.heap.size+1+1) (lb:=w5.heap.size+1) (l:=w6.heap.size+1) (n:=5 - 1) (fd:=99) (lc:=pc) (ls:=sO ⟨pb,0,nO⟩) (cs:=#[Pp (sO ⟨w.heap.size,0,nO⟩),Pp (sO ⟨w.heap.size+1,0,nO⟩)]) (ar:=λp=>#[p,Pp (sO ⟨w.heap.size,0,nO⟩),Pp (sO ⟨w.heap.size+1,0,nO⟩)]) (λ_=>ah) (enters_of Tryz.func99 ag rfl) (pics:=λt=>t.1) (due:=λt k=>t.2.1.getD k 0==n) (next:=λk e t=>cG n k t e)
  (St:=λt W=>RndAt S w V F s c cap sb pb pc db dc n t W/\LoopAt W (w6.heap.size+1) w6.heap.size (dx fn tmps ps assign body w6.heap.size .ready nO))
  (Stop:=λ_=>False)
  (Ch:=λb=>b=pb\/b=db\/b=w.heap.size+1+1) h0 (L,D,false) W1 ?_ ?_ ?_ ?_ hCK (λb h=>aa) aa aa aa ⟨hR,hl⟩ (EP.call hb) (EF.call hb) (by rw[<-hR.xs.len];exact EL.call hb) (hCK _ _ (hR.kp.mono λb h=>h.imp id Or.inl) hC)).mono ?_
 ·exact λt W W' h hb=>⟨h.1.below hb,h.2.below hb⟩
 ·exact λt W h=>⟨h.1.pr.xs,h.1.xs⟩
 ·intro t W k h hk
  have hk':k < t.2.1.length:=by rw[h.1.ln];omega
  have h60:=(bI h0).2.2;have q:=Hb V F s c cap _ _ pc dc sb db _ _ k n t.2.1 W h.1.vs h.1.vn h.1.st h.1.dr hk' (by rw[h.1.ln];unfold maxLen;omega);have e:t.2.1.getD k 0=t.2.1[k]:=by simp[List.getD,hk']
  rw[e];exact q
 ·rintro t W k e vs vc fs fc ⟨hR1,hl1⟩ hk - hok hp hv hf
  refine(hY t W k e vs vc fs fc hR1 hl1 hok hp hv hf).mono ?_;rintro r W' ⟨e1,e2,e3,e4⟩;exact .inl ⟨e1,⟨e3,e2⟩,e4⟩
 ·rintro e W' ⟨hv,⟨⟨h1,h2⟩,h4⟩|h⟩
  ·rw[AA] at h1
   exact⟨hv,.inl ⟨h2,h1⟩⟩
  ·exact h.elim
theorem Bf {X:World}{D0:Nat}{b:Bool}{tmps:Array Value}{R:Ending->World->Prop}(hD:X.heap[D0]? =sO (.deferred (sO [])))(h4:tmps[4]?.getD undef=Bb b)(hR:R (Rt (Bb b)) (X.putObj D0 (.deferred nO))):
  bodyPostM Fence.wide 5 pG Tryz.f49 R .ret ⟨tmps,[{target:=.collected D0,args:=#[]}]⟩ X:=
 ⟨ah,.inl ⟨D0,_,rfl,run_takeDeferred hD,Bb b,by simp[results,Tryz.results49,go_sem,h4],hR⟩⟩
attribute [local go_sem] Oper.semAt_some
theorem mF {p:Prop}(h:p:=by
 gi_wp2_with fail
 refine⟨trivial,(CallsIn.inRound _ (callsIn_wide.2 HCL.out)).mono ?_⟩;rintro e6 W6 ⟨⟨ve,rfl⟩,SS⟩;obtain⟨N1,N2,N3⟩:=Kr R5 ewq0 SS ⟨hpb,hdb,hsp.1,hsp.2,hsb⟩ ⟨ah,ah⟩ (by have:=KI (n:=n) (i:=k) h0 R5.xs R5.ln hok;rw[HED.out] at this;exact this) (λb hb=>(hS b hb).2.2.1);have hl6:=hl5.far (N3 _ aa aa aa hlz5) (N3 _ aa aa aa hDz5);clear HCL SS
 gi_wp2
 exact⟨hl6,hl6.put aa _,by rw[HED.out];exact N1.round (hl6.round _) (by omega) (by omega) (by omega) (by omega) (λb hb=>(hS b hb).2.2.2),uv Hl.out HBA.out HO.out ((KeptC.of HB25.out).trans N2)⟩):p:=h
theorem DW {S0:Nat->Prop}(V F:Int)(s:oA)(c:lI)(cap sb pb pc db dc:Nat)(n:Int)(L:List Pic)(D:List Int)(w:World)(h0:aw V F c=0)(hst:Cells w sb [I Y V,I Y F,U s c.length cap,U (sO ⟨pb,0,nO⟩) L.length pc,U (sO ⟨db,0,nO⟩) D.length dc])(hP:PRow S0 w pb L)(hDr:DRow w db D)(hC:CodeAt w s c)(hpd:pb≠db)(hsp:sb≠pb/\sb≠db)(hS0:∀b,S0 b->b≠pb/\b≠db)(hS2:∀b,w.heap.size<=b->S0 b)(hsC:c≠[]->∀a,s=sO a->a.block≠pb/\a.block≠db)(hX:XsOk V F c L)(hDl:D.length=c.length+1)(hnw:IntKind.i64.wrap (n+1)=n+1):
  Calls pG 49 #[Pp (sO ⟨sb,0,nO⟩),I Y n] w λe w'=>e=Rt (Bb (eJ c n (L,D)).2.2)/\gw S0 w w' pb db (eJ c n (L,D)).1 (eJ c n (L,D)).2.1:=by
 have hpb:pb < w.heap.size:=hP.choose_spec.1.2.1;have hdb:db < w.heap.size:=hDr.choose_spec.1.2.1;have hsb:sb < w.heap.size:=hst.2.1;have hCK:=Hz hC hsC (cb:=w.heap.size+1+1) aa;have h60:=(bI h0).2.2;have hmx:61<=maxLen:=aj;have R3:RndAt (λb=>S0 b/\b < w.heap.size) w V F s c cap sb pb pc db dc n (L,D,false) (((w.alloc (Cc #[Pp (sO ⟨sb,0,nO⟩)] 103)).alloc (Cc #[I Y n] 3)).alloc (Cc #[Bb false] 4)):=by
  have B:Below w.heap.size w (((w.alloc (Cc #[Pp (sO ⟨sb,0,nO⟩)] 103)).alloc (Cc #[I Y n] 3)).alloc (Cc #[Bb false] 4)):=ai;refine⟨(Cells.new w _ [_]).call ai,?_,?_,hst.call B,(hP.mono λb h1 h2=>⟨h1,h2⟩).call B,hDr.call B,hX,hDl,KeptC.of B,λh1 h2 h3 h4=>h4.trans (B.mono h3)⟩
  ·have h:=Cells.new (w.alloc (Cc #[Pp (sO ⟨sb,0,nO⟩)] 103)) 3 [I Y n]
   rw[j7] at h;exact h.call ai
  ·have h:=Cells.new ((w.alloc (Cc #[Pp (sO ⟨sb,0,nO⟩)] 103)).alloc (Cc #[I Y n] 3)) 4 [Bb false]
   rw[j7,j7] at h;exact h
 obtain⟨t1,et1⟩:∃t,t=eJ c n (L,D):=⟨_,rfl⟩;have HT1:=ae et1;rw[<-et1];clear et1;refine callsIn_wide.1 (callsIn_of_wp_marks (n:=5) Tryz.func49 rfl trivial (wpIn_wide.2 ?_) rfl);simp only[Tryz.ntmps49,z9,x4,x5,x6,x7,Array.replicate_succ,Array.replicate_zero,x8,x9,j6,J0];go_upto_region 3 with fail
 generalize (((w.alloc (Cc #[Pp (sO ⟨sb,0,nO⟩)] 103)).alloc (Cc #[I Y n] 3)).alloc (Cc #[Bb false] 4))=w3 at *;have HKZ:Hid (∀wx,bl w3 wx->wx.cell? ⟨w.heap.size,0,nO⟩=sO (Pp (sO ⟨sb,0,nO⟩))/\(wx.cell? ⟨sb,0,nO⟩=sO (I Y V)/\wx.cell? ⟨sb,1,nO⟩=sO (I Y F)/\wx.cell? ⟨sb,2,nO⟩=sO (U s c.length cap)/\wx.cell? ⟨sb,3,nO⟩=sO (U (sO ⟨pb,0,nO⟩) L.length pc))):=λwx hb=>by
  have v:=R3.vs.call hb;have p:=R3.st.call hb;exact⟨v.1 0 _ rfl,p.1 0 _ rfl,p.1 1 _ rfl,p.1 2 _ rfl,p.1 3 _ rfl⟩
 have B34:bl w3 w3.drew:=(bR _ _).drew;have HR3:=ae R3;have z3:=R3.vc.2.1;clear R3;refine Lz ?_;refine aD (S:=(λwx=>wx.cell? ⟨w.heap.size,0,nO⟩=sO (Pp (sO ⟨sb,0,nO⟩))/\(wx.cell? ⟨sb,0,nO⟩=sO (I Y V)/\wx.cell? ⟨sb,1,nO⟩=sO (I Y F)/\wx.cell? ⟨sb,2,nO⟩=sO (U s c.length cap)/\wx.cell? ⟨sb,3,nO⟩=sO (U (sO ⟨pb,0,nO⟩) L.length pc)))) [] ag (HKZ.out _ B34) (λhHeld=> ?_);generalize w3.drew=w4 at *;refine vZ 0 ?_ ?_;refine vZ 1 ?_ ?_;refine vZ 2 ?_ ?_;refine vZ 3 ?_ ?_;refine vZ 4 ?_ ?_;refine vZ 5 ?_ ?_;refine vZ 6 ?_ ?_;refine vZ 7 ?_ ?_;refine vZ 8 ?_ ?_;refine aB (i:=9) rfl ag (λK hK=> ?_);go_simp;go_at_call 53;refine(FC V F s c cap _ L.length pc 99 #[Pp (sO ⟨w.heap.size,0,nO⟩),Pp (sO ⟨w.heap.size+1,0,nO⟩)] w4).mono ?_;rintro e w6 ⟨rfl,⟨EP,EL,EF⟩,hb6⟩;go_wp2_with fail;refine hK.out _ _ (HKZ.out _ (B34.trans (hb6.mono B34.size))) (λhHeld=> ?_);clear hK K;refine sm ?_;refine aC ag ?_ _;have hb36:=B34.trans (hb6.mono B34.size);have z4:=B34.size;have z6:=EF.2.1;have HR6:=ae (HR3.out.below hb36);have HOLD:=ae hst;clear HR3 HKZ hHeld hb36 hb6 hst hP hDr;go_wp2;refine wpIn_wide.1 (FF (n:=5) (gf:=103) (lb:=#[Pp (sO ⟨w4.heap.size,0,nO⟩),Pp (sO ⟨w4.heap.size+1+1,0,nO⟩),Pp (sO ⟨w4.heap.size+1,0,nO⟩)]) rfl (enters_of Tryz.func103 ag rfl) (λ_ _ _ W=>RndAt (λb=>S0 b/\b≠w.heap.size+1+1/\b≠w6.heap.size+1/\b≠w6.heap.size) w V F s c cap sb pb pc db dc n t1 W) (λ_ _ _ _ _=>False) ?hit ?hdone ?hstop)
 case hstop=>
  intro r c' W hl hf;exact hf.elim
 case hdone=>
  rintro r W hl hR r';have hl2:=hl.round r';have hR2:=hR.round hl2 aa aa aa aa (λb hb=>hb.2.2.1);have hD:(W.putObj (w6.heap.size+1) r').heap[w6.heap.size]? =sO (.deferred (sO [])):=(j9 aa).trans hl.dfr;clear hR hl hl2 EP EL EF HR6 HOLD;generalize W.putObj (w6.heap.size+1) r'=X at *;have r0:=hR2.vc.1 0 _ rfl;go_simp;go_wp2;refine Bf hD rfl ?_;have hs:X.heap.size<=(X.putObj w6.heap.size (.deferred nO)).heap.size:=by simp[q7]
  have far:∀b,b≠w6.heap.size->(X.putObj w6.heap.size (.deferred nO)).heap[b]? =X.heap[b]? :=λb hb=>j9 hb;refine⟨rfl,?_,hR2.dr.far (far db aa) hs,λb h1 h2 hlt=>(far b aa).trans (hR2.kp.2 b aa hlt),lT hR2.kp.1 hs,λ{B} {a} h1 h2 h3 h4=>(hR2.lo h1 h2 h3 h4).trans (belowK_b (n₀:=B) (w:=w) h3 X w6.heap.size _ _ aa hD rfl rfl)⟩;exact(hR2.pr.far (far pb aa) (λb hb _=>far b hb.2.2.2) hs).mono λb hb _=>hb.1
 case hit=>
  intro fn W1 hl hbW;rw[HT1.out];refine FT (S:=λb=>S0 b/\b≠w.heap.size+1+1/\b≠w6.heap.size+1/\b≠w6.heap.size) h0 hC hCK aa hpb hdb hbW hl ((HR6.out.mono λb hb _=>⟨hb.1,aa,aa,aa⟩).below hbW) EP EL EF ?_;clear hl hbW HR6 EP EL EF W1 HOLD;obtain⟨S,hSe⟩:∃S:Nat->Prop,S=λb=>S0 b/\b≠w.heap.size+1+1/\b≠w6.heap.size+1/\b≠w6.heap.size:=⟨_,rfl⟩;have hS2:∀b,w6.heap.size+1 < b->S b:=λb hb=>by rw[hSe];exact⟨hS2 b (by omega),by omega,by omega,by omega⟩
  have hS:∀b,S b->b≠pb/\b≠db/\b≠w.heap.size+1+1/\b≠w6.heap.size+1:=λb hb=>by rw[hSe] at hb;exact⟨(hS0 b hb.1).1,(hS0 b hb.1).2,hb.2.1,hb.2.2.1⟩
  rw[<-hSe];clear hSe;have hpb:pb < w.heap.size:=hpb;intro t W k e vs vc fs fc hR hl hok hp hv hf;refine Ib hl rfl ?_
  gi_wp2
  have hba:Below W.heap.size W (W.alloc (Cc #[I Y e.tgt,Bb e.pic.none,U vs e.pic.vq.length vc,U fs e.pic.fq.length fc] 45)):=ai;have hbox:Cells (W.alloc (Cc #[I Y e.tgt,Bb e.pic.none,U vs e.pic.vq.length vc,U fs e.pic.fq.length fc] 45)) W.heap.size [I Y e.tgt,Bb e.pic.none,U vs e.pic.vq.length vc,U fs e.pic.fq.length fc]:=Cells.new W _ [_,_,_,_];have hlz:=(j8.1 hl.lp).1;have Hl:=ae hl;refine Cp hl aa hba ?_;clear hl;intro W2 hl2 hO;have zO:=hO.size;have za:=hba.size;have zc:=hR.vc.2.1;have R2:=(hR.below hba).round hO aa aa aa aa (λb hb=>(hS b hb).2.2.2);have BX2:=hbox.same (hO.far _ aa) aa;have hp2:=(((hp.drop Hl.out.lp).call hba).same (λb hb _=>hO.far b hb.2) aa).mono λb hb _=>hb.1;have C2:=hCK _ _ (R2.kp.mono λb hb=>hb.imp id Or.inl) hC;obtain⟨q,hq⟩:=q4 hok.2.1;have hqL:q < t.1.length:=by have:=R2.xs.len;have:=hok.2.2;omega
  obtain⟨vy,vyc,fy,fyc,⟨q0,q1,q2⟩,hPy,hvy,hfy,hpz,-⟩:=R2.pr.cell hqL;obtain⟨y,ey⟩:∃y,y=t.1[q]:=⟨_,rfl⟩;have HEY:Hid (bm t.1 e.tgt=y):=by show _=_;rw[hq,ey];exact fQ hqL
  have hcky:aK V F c y=0:=by rw[ey];exact R2.xs.ck _ (gM hqL)
  rw[<-ey] at q0 q1 q2 hPy hvy hfy;have HY0:=ae ey;clear ey;have hck2:aR V F c [e.pic,y]=0:=by unfold aR;rw[if_pos h0];unfold cJ;rw[if_pos hok.1];unfold cJ;rw[if_pos hcky];rfl
  have HWI:Hid (∀wx,bl W2 wx->Calls pG 51 #[pv V F s c cap,xv e.pic vs vc fs fc,xv y vy vyc fy fyc] wx λe' w'=>e'=Rt (Bb (bG e.pic y))/\bl wx w'):=λwx hb=>by
   have h:=yi V F s c cap e.pic vs vc fs fc y vy vyc fy fyc wx (C2.below hb (lR _)) (hp2.at.below hb (lR _)) hv hf (hPy.at.below hb (lR _)) hvy hfy;rw[if_pos hck2] at h;exact h
  rw[hq] at BX2;have HKZ:Hid (∀wx,bl W2 wx->wx.cell? ⟨w.heap.size,0,nO⟩=sO (Pp (sO ⟨sb,0,nO⟩))/\(wx.cell? ⟨sb,0,nO⟩=sO (I Y V)/\wx.cell? ⟨sb,1,nO⟩=sO (I Y F)/\wx.cell? ⟨sb,2,nO⟩=sO (U s c.length cap)/\wx.cell? ⟨sb,3,nO⟩=sO (U (sO ⟨pb,0,nO⟩) t.1.length pc))/\(wx.cell? ⟨W.heap.size,0,nO⟩=sO (I Y (q:Int))/\wx.cell? ⟨W.heap.size,1,nO⟩=sO (Bb e.pic.none)/\wx.cell? ⟨W.heap.size,2,nO⟩=sO (U vs e.pic.vq.length vc)/\wx.cell? ⟨W.heap.size,3,nO⟩=sO (U fs e.pic.fq.length fc))/\(wx.cell? ⟨pb,q * 3,nO⟩=sO (Bb y.none)/\wx.cell? ⟨pb,q * 3+1,nO⟩=sO (U vy y.vq.length vyc)/\wx.cell? ⟨pb,q * 3+2,nO⟩=sO (U fy y.fq.length fyc))):=λwx hb=>by
   have v:=R2.vs.call hb;have p:=R2.st.call hb;have g:=BX2.call hb;exact⟨v.1 0 _ rfl,⟨p.1 0 _ rfl,p.1 1 _ rfl,p.1 2 _ rfl,p.1 3 _ rfl⟩,⟨g.1 0 _ rfl,g.1 1 _ rfl,g.1 2 _ rfl,g.1 3 _ rfl⟩,by rw[hb.cell hpz];exact q0,by rw[hb.cell hpz];exact q1,by rw[hb.cell hpz];exact q2⟩
  have B34:bl W2 W2.drew:=(bR _ _).drew;have m0:(0:Int)<=(q:Int):=aa;have m1:(q:Int) < (t.1.length:Int):=aa;have HIB:Hid (bG e.pic (bm t.1 e.tgt)=bG e.pic y):=by show _=_;rw[HEY.out]
  generalize bG e.pic y=ib at *;refine wpIn_block (wpIn_seq (wpIn_seq (wQ ?_)));refine Ly (S:=(λwx=>wx.cell? ⟨w.heap.size,0,nO⟩=sO (Pp (sO ⟨sb,0,nO⟩))/\(wx.cell? ⟨sb,0,nO⟩=sO (I Y V)/\wx.cell? ⟨sb,1,nO⟩=sO (I Y F)/\wx.cell? ⟨sb,2,nO⟩=sO (U s c.length cap)/\wx.cell? ⟨sb,3,nO⟩=sO (U (sO ⟨pb,0,nO⟩) t.1.length pc))/\(wx.cell? ⟨W.heap.size,0,nO⟩=sO (I Y (q:Int))/\wx.cell? ⟨W.heap.size,1,nO⟩=sO (Bb e.pic.none)/\wx.cell? ⟨W.heap.size,2,nO⟩=sO (U vs e.pic.vq.length vc)/\wx.cell? ⟨W.heap.size,3,nO⟩=sO (U fs e.pic.fq.length fc))/\(wx.cell? ⟨pb,q * 3,nO⟩=sO (Bb y.none)/\wx.cell? ⟨pb,q * 3+1,nO⟩=sO (U vy y.vq.length vyc)/\wx.cell? ⟨pb,q * 3+2,nO⟩=sO (U fy y.fq.length fyc)))) [] ag (by simp[vX]) Mr (HKZ.out _ B34) (λhHeld=> ?_);generalize W2.drew=w4 at *;refine vZ 0 ?_ ?_;refine vZ 1 ?_ ?_;refine vZ 2 ?_ ?_;refine vZ 3 ?_ ?_;refine vZ 4 ?_ ?_;refine vZ 5 ?_ ?_;refine vZ 6 ?_ ?_;refine vZ 7 ?_ ?_;refine vZ 8 ?_ ?_;refine vZ 9 ?_ ?_;refine vZ 10 ?_ ?_;refine vZ 11 ?_ ?_;refine vZ 12 ?_ ?_;refine vZ 13 ?_ ?_;refine aB (i:=14) rfl ag (λK hK=> ?_);go_simp;go_at_call 51;refine(HWI.out w4 B34).mono ?_;rintro e5 w5' ⟨rfl,hb5⟩;go_wp2_with fail;refine hK.out _ _ (HKZ.out _ (B34.trans (hb5.mono B34.size))) (λhHeld=> ?_);clear hK K;refine sm ?_;refine aC ag ?_ _;have hb25:=B34.trans (hb5.mono B34.size);have R5:=R2.below hb25;have hl5:=hl2.below hb25;have BX5:=BX2.call hb25;have hp5:=hp2.call hb25;have C5:=C2.call hb25;have hKE:=uv (Ch:=λb=>b=pb\/b=db\/b=w.heap.size+1+1) Hl.out hba hO (KeptC.of hb25);have HO:=ae hO;have HBA:=ae hba;have HB25:=ae hb25;clear hO hba hb25 B34 hb5 hHeld HKZ HWI hPy hvy hfy q0 q1 q2 R2 BX2 hp2 C2 hbox hl2 hp hR;rcases q9 ib with hib|hib
  ·subst hib
   have HE:Hid (cG n k t e=t):=by show _=_;unfold cG;rw[if_pos HIB.out]
   refine wpIn_cond_true rfl (wpIn_exit ?_);show _/\_;refine⟨hl5,?_⟩;exact⟨hl5.put aa _,by rw[HE.out];exact R5.round (hl5.round _) (by omega) (by omega) (by omega) (by omega) (λb hb=>(hS b hb).2.2.2),hKE⟩
  ·subst hib
   refine wpIn_cond_false rfl (wpIn_skip ?_);refine KA (λK hK=> ?_);have r0:=R5.vc.1 0 _ rfl;have r1:=R5.vc.2.2 0
   gi_wp2
   refine hK.out _ _ ?_;clear hK K r0 r1;have hpz5:=R5.vc.2.1;obtain⟨wq,ewq⟩:∃q',q'=bw w5' (w.heap.size+1+1) 0 [Bb true]:=⟨_,rfl⟩;have ewq0:=ae ewq;have PQ:=bM R5.vc 0 _ ewq;simp only[bw] at ewq;rw[<-ewq];clear ewq;have STq:=PQ.keep R5.st aa;have PRq:=R5.pr.far (PQ.far pb aa) (λb hb _=>PQ.far b (hS b hb).2.2.1) PQ.size;have DRq:=R5.dr.far (PQ.far db aa) PQ.size;have Bq:KeptC (λb=>b=w.heap.size+1+1) w5' wq:=⟨PQ.size,λb hb _=>PQ.far b hb⟩;have Cq:CodeAt wq s c:=hCK _ _ (Bq.mono λb hb=>.inr (.inr hb)) C5;have VSq:=PQ.keep R5.vs aa;have VNq:=PQ.keep R5.vn aa;have BXq:=PQ.keep BX5 aa;have hpq:PicAt wq e.pic vs fs:=(hp5.same (λb hb _=>PQ.far b λe=>hb.1 (.inr (.inr e))) PQ.size).at;have hlz5:=(j8.1 hl5.lp).1;have hDz5:=(j8.1 hl5.dfr).1;have zq:=PQ.size;have z5:=HB25.out.size;have v0:=VSq.1 0 _ rfl;have v1:=VNq.1 0 _ rfl;have x0:=BXq.1 0 _ rfl;have x1:=BXq.1 1 _ rfl;have x2:=BXq.1 2 _ rfl;have x3:=BXq.1 3 _ rfl;by_cases hkq:(k:Int) < (q:Int)
   ·have HED:Hid (cG n k t e=(t.1.set q (aG (am false) y e.pic),t.2.1.set q (n),true)):=by
     show _=_;unfold cG cY;rw[HIB.out,if_neg aj,HEY.out,hq];rw[if_pos aa,show decide ((q:Int)<=(k:Int))=false by simpa using hkq,Bool.and_false];rfl
    have HCL:=ae (ID (S:=S) V F s c cap sb pb pc db dc q n t.1 t.2.1 e.pic vs vc fs fc (aG (am false) y e.pic) wq STq PRq DRq hpd hsp.1 (λb hb=>⟨(hS b hb).1,(hS b hb).2.1⟩) (λb hb=>hS2 b aa) hqL u7 (by have:=R5.ln;omega) (λwx vx vxc fx fxc hb k1 k2 k3=>by
     have hx:=HY0.out;rw[<-hx] at k1 k2 k3 |-;exact AY h0 hcky hok.1 (Cq.below hb (lR _)) k1 k2 k3 (hpq.below hb (lR _)) hv hf))
    have g1:(k:Int) < (q:Int):=aa;exact mF
   ·by_cases hn4:n < 4
    ·have HED:Hid (cG n k t e=(t.1.set q (aG (am false) y e.pic),t.2.1.set q (n+1),true)):=by
      show _=_;unfold cG cY;rw[HIB.out,if_neg aj,HEY.out,hq];rw[if_neg aa,show decide ((4:Int)<=n)=false by simpa using hn4,Bool.false_and];rfl
     have HCL:=ae (Cr (S:=S) V F s c cap sb pb pc db dc q n t.1 t.2.1 e.pic vs vc fs fc (aG (am false) y e.pic) wq STq PRq DRq hpd hsp.1 (λb hb=>⟨(hS b hb).1,(hS b hb).2.1⟩) (λb hb=>hS2 b aa) hqL u7 (by have:=R5.ln;omega) hn4 hnw (λwx vx vxc fx fxc hb k1 k2 k3=>by
      have hx:=HY0.out;rw[<-hx] at k1 k2 k3 |-;exact AY h0 hcky hok.1 (Cq.below hb (lR _)) k1 k2 k3 (hpq.below hb (lR _)) hv hf))
     have g1:¬(k:Int) < (q:Int):=aa;exact mF
    ·have HED:Hid (cG n k t e=(t.1.set q (aG (am true) y e.pic),t.2.1.set q (n+1),true)):=by
      show _=_;unfold cG cY;rw[HIB.out,if_neg aj,HEY.out,hq];rw[if_neg aa,show decide ((4:Int)<=n)=true by simp;omega,show decide ((q:Int)<=(k:Int))=true by simp;omega,Bool.true_and];rfl
     have HCL:=ae (BJ (S:=S) V F s c cap sb pb pc db dc q n t.1 t.2.1 e.pic vs vc fs fc (aG (am true) y e.pic) wq STq PRq DRq hpd hsp.1 (λb hb=>⟨(hS b hb).1,(hS b hb).2.1⟩) (λb hb=>hS2 b aa) hqL u7 (by have:=R5.ln;omega) hn4 hnw (λwx vx vxc fx fxc hb k1 k2 k3=>by
      have hx:=HY0.out;rw[<-hx] at k1 k2 k3 |-;exact Kn h0 hcky hok.1 (Cq.below hb (lR _)) k1 k2 k3 (hpq.below hb (lR _)) hv hf))
     have g1:¬(k:Int) < (q:Int):=aa;exact mF
end
section
open Go.RowKit
attribute [local go_sem ↓] Go.wp_at_zero Go.wp_at_succ
def Gt (V F:Int)(c:lI)(e:Ending)(w':World):Prop:=(aw V F c≠0/\e=Rt (Tu #[U nO 0 0,I Y 0,I Y (aw V F c)]))\/(aw V F c=0/\∃(m pb pc:Nat),SolvedAt V F c m/\m<=200000000000000/\e=Rt (Tu #[U (sO ⟨pb,0,nO⟩) (c.length+1) pc,I Y ((m+1:Nat):Int),I Y 0])/\XsAt w' (sO ⟨pb,0,nO⟩) (aI V F c m))
structure SolAt (w:World) (V F:Int) (s:oA) (c:lI) (cap sb pb pc db dc m:Nat) (W:World):Prop where
 st:Cells W sb [I Y V,I Y F,U s c.length cap,U (sO ⟨pb,0,nO⟩) (c.length+1) pc,U (sO ⟨db,0,nO⟩) (c.length+1) dc]
 pr:PRow (λb=>b≠pb/\b≠db) W pb (aI V F c m)
 dr:∃D,DRow W db D/\Due V F c ((m+1:Nat):Int) 0 (aI V F c m) D
 all:∀k,k < m->(dh c ((k+1:Nat):Int) (aI V F c k)).2=true
 lo:bl w W
theorem SolAt.next {w W W':World}{V F:Int}{s:oA}{c:lI}{cap sb pb pc db dc m:Nat}{D:List Int}(h0:aw V F c=0)(h:SolAt w V F s c cap sb pb pc db dc m W)(hD:Due V F c ((m+1:Nat):Int) 0 (aI V F c m) D)(hs:gw (λb=>b≠pb/\b≠db) W W' pb db (eJ c ((m+1:Nat):Int) (aI V F c m,D)).1 (eJ c ((m+1:Nat):Int) (aI V F c m,D)).2.1)(hsp:sb≠pb/\sb≠db)(hn:w.heap.size<=pb/\w.heap.size<=db):
  Cells W' sb [I Y V,I Y F,U s c.length cap,U (sO ⟨pb,0,nO⟩) (c.length+1) pc,U (sO ⟨db,0,nO⟩) (c.length+1) dc]/\bl w W'/\PRow (λb=>b≠pb/\b≠db) W' pb (aI V F c (m+1))/\((dh c ((m+1:Nat):Int) (aI V F c m)).2=true->SolAt w V F s c cap sb pb pc db dc (m+1) W'):=by
 obtain⟨s1,s2,s3,s4,s5⟩:=hs;obtain⟨d1,d2,d3⟩:=p9 h0 hD;rw[d2] at s1;have c1:=h.st.same (s3 sb hsp.1 hsp.2 h.st.2.1) s4;have l1:=s5 hn.1 hn.2 h.lo.size h.lo;refine⟨c1,l1,s1,λht=>⟨c1,s1,⟨_,s2,?_⟩,λk hk=> ?_,l1⟩⟩
 ·rw[d2] at d1
  exact d1
 ·by_cases e:k=m
  ·rw[e];exact ht
  ·exact h.all k aa
theorem E4 (V F:Int)(s:oA)(c:lI)(cap:Nat)(w:World)(hc:CodeAt w s c):
  Calls pG 17 #[pv V F s c cap] w λe w'=>Gt V F c e w'/\bl w w':=by
 have B0:Below w.heap.size w (w.alloc (Cc #[I Y V,I Y F,U s c.length cap] 24)):=ai;have P0:Cells (w.alloc (Cc #[I Y V,I Y F,U s c.length cap] 24)) w.heap.size [I Y V,I Y F,U s c.length cap]:=Cells.new w _ [_,_,_];have C0:=hc.call B0;have HC:=ae hc;clear hc;go_enter Tryz.func17,Tryz.ntmps17;go_upto_region 1 with fail
 generalize w.alloc (Cc #[I Y V,I Y F,U s c.length cap] 24)=w0 at *;have p0:=P0.1 0 _ rfl;have p1:=P0.1 1 _ rfl;have p2:=P0.1 2 _ rfl;have HBG:=ae (Lx V F s c cap w0 C0);go_wp2_with fail;refine HBG.out.mono ?_;rintro e w1 ⟨⟨bs,bc,bf,be,rfl,PB,hbv,hbf⟩,hb1⟩;clear HBG p0 p1 p2;have B1:=B0.trans (hb1.mono B0.size);have P1:=P0.call hb1;have C1:=C0.call hb1;clear P0 C0 B0 hb1;by_cases h0:aw V F c=0;rotate_left
 ·have HE:Hid (∀w',Gt V F c (Rt (Tu #[U nO 0 0,I Y 0,I Y (aw V F c)])) w'):=λw'=>.inl ⟨h0,rfl⟩
  generalize (if aw V F c=0 then bE V F c else eh)=bg at *;generalize aw V F c=r at *;have f1:(r !=0)=true:=iw;clear h0;go_upto_region 3 with fail
  have hba:Below w1.heap.size w1 (w1.alloc (Cc #[Bb bg.none,U bs bg.vq.length bc,U bf bg.fq.length be] 28)):=ai;have B2:=B1.trans (hba.mono B1.size);clear P1 C1 B1 PB hba;generalize w1.alloc (Cc #[Bb bg.none,U bs bg.vq.length bc,U bf bg.fq.length be] 28)=w2 at *;go_wp2;refine bodyPost_ret (v:=Tu #[U nO 0 0,I Y 0,I Y r]) (by simp[results,Tryz.results17,go_sem]) rfl ?_;exact⟨HE.out _,B2⟩
 obtain⟨⟨hV1,hV8⟩,⟨hF0,hF3⟩,h60⟩:=bI h0;rw[if_pos h0] at PB hbv hbf;have HZ:Hid (aw V F c=0):=h0;rw[h0,if_pos rfl];obtain⟨bg,ebg⟩:∃b,b=bE V F c:=⟨_,rfl⟩;have HBG:=ae ebg;rw[<-ebg] at PB hbv hbf |-;clear ebg h0;have hba:Below w1.heap.size w1 (w1.alloc (Cc #[Bb bg.none,U bs bg.vq.length bc,U bf bg.fq.length be] 28)):=ai;have G2:Cells (w1.alloc (Cc #[Bb bg.none,U bs bg.vq.length bc,U bf bg.fq.length be] 28)) w1.heap.size [Bb bg.none,U bs bg.vq.length bc,U bf bg.fq.length be]:=Cells.new w1 _ [_,_,_];have PB2:=PB.at.call hba;have P2:=P1.call hba;have C2:=C1.call hba;have B2:=B1.trans (hba.mono B1.size);clear P1 C1 B1 PB hba;go_upto_region 4 with fail
 generalize w1.alloc (Cc #[Bb bg.none,U bs bg.vq.length bc,U bf bg.fq.length be] 28)=w2 at *;have p0:=P2.1 0 _ rfl;have p1:=P2.1 1 _ rfl;have p2:=P2.1 2 _ rfl;have g0:=G2.1 0 _ rfl;have g1:=G2.1 1 _ rfl;have g2:=G2.1 2 _ rfl;have HNS:=ae (Ij V F s c cap bg bs bc bf be w2 PB2 hbv hbf h60);go_wp2_with fail;refine HNS.out.mono ?_;rintro e w3 ⟨pb,pc,db,dc,rfl,ST3,PR3,DR3,hpn,hne,hb3⟩;clear HNS p0 p1 p2 g0 g1 g2;have z2:=B2.size;have B3:=B2.trans (hb3.mono B2.size);obtain⟨sb,esb⟩:∃sb,sb=w2.heap.size+1+1+1+1:=⟨_,rfl⟩;rw[<-esb] at ST3 hne |-;have hsb:w.heap.size<=sb:=aa;clear esb;have HN:Hid (w.heap.size<=pb/\w.heap.size<=db):=⟨aa,aa⟩;have HNE:Hid (pb≠db/\sb≠pb/\sb≠db):=⟨hne.1,Ne.symm hne.2.1,Ne.symm hne.2.2⟩;have HSC:Hid (c≠[]->∀a,s=sO a->a.block≠pb/\a.block≠db):=λhcn a ha=>by
  rcases HC.out with h|⟨b,off,e,hb,-⟩
  ·exact absurd h hcn
  ·rw[e] at ha;cases ha
   have:=HN.out;exact⟨au,au⟩
 have S3:SolAt w V F s c cap sb pb pc db dc 0 w3:=by
  refine⟨ST3,?_,⟨_,DR3,?_⟩,λk hk=>absurd hk aa,B3⟩
  ·have e:aI V F c 0=bg::List.replicate c.length nonePic:=by rw[HBG.out];rfl
   rw[e];exact PR3.mono λb hb _=>⟨by have:=hpn.1;omega,by have:=hpn.2;omega⟩
  ·exact Ee HZ.out
 clear ST3 PR3 DR3 hb3 B3 G2 PB2 P2 C2 B2 hbv hbf HBG hpn hne;go_wp2;obtain⟨M,hM⟩:∃M:Nat,M=200000000000003:=⟨_,rfl⟩;have HM:=ae hM;clear hM;have HMB:Hid (∀m:Nat,m<=200000000000000->m+2 < M):=λm h=>by rw[HM.out];exact Nat.lt_of_le_of_lt (J4 h 2) (by decide)
 clear HM;go_loopw [8] (λi wr=>∃m:Nat,i=I Y ((m+1:Nat):Int)/\Hid (SolAt w V F s c cap sb pb pc db dc m wr)) (λi _=>M - (intOf i).toNat)
 case atStart=>exact⟨0,rfl,S3⟩
 case round=>
  clear S3;obtain⟨m,rfl,HS⟩:=hrel;obtain⟨D,hDR,hDue⟩:=HS.out.dr;have hfew:=kn HZ.out HS.out.all;have hnw:IntKind.i64.wrap (((m+1:Nat):Int)+1)=((m+1:Nat):Int)+1:=pA;have hxs:=dD HZ.out m;have HRD:Hid (Calls pG 49 #[Pp (sO ⟨sb,0,nO⟩),I Y ((m+1:Nat):Int)] wr λe w'=>e=Rt (Bb (eJ c ((m+1:Nat):Int) (aI V F c m,D)).2.2)/\gw (λb=>b≠pb/\b≠db) wr w' pb db (eJ c ((m+1:Nat):Int) (aI V F c m,D)).1 (eJ c ((m+1:Nat):Int) (aI V F c m,D)).2.1):=by
   have hC:CodeAt wr s c:=HC.out.below HS.out.lo (lR _);have hpz:pb < wr.heap.size:=HS.out.pr.choose_spec.1.2.1;have hdz:db < wr.heap.size:=hDR.choose_spec.1.2.1;have hst:Cells wr sb [I Y V,I Y F,U s c.length cap,U (sO ⟨pb,0,nO⟩) (aI V F c m).length pc,U (sO ⟨db,0,nO⟩) D.length dc]:=by rw[hxs.len,hDue.len];exact HS.out.st
   exact DW V F s c cap sb pb pc db dc ((m+1:Nat):Int) (aI V F c m) D wr HZ.out hst HS.out.pr hDR hC HNE.out.1 HNE.out.2 (λb hb=>hb) (λb hb=>⟨aa,aa⟩) HSC.out hxs hDue.len hnw
  have HDD:=ae (p9 HZ.out hDue);have HMM:Hid (m<=200000000000000):=by show _<=_;omega
  have HMX:=ae (HMB.out m HMM.out);have hmb:(m:Int)<=200000000000000:=by have:=HMM.out;omega
  go_wp2_with fail;refine HRD.out.mono ?_;rintro e w5 ⟨rfl,SS⟩;obtain⟨N1,N2,N3,N4⟩:=HS.out.next HZ.out hDue SS HNE.out.2 HN.out;rw[HDD.out.2.2];clear HRD SS hDue hDR hfew hxs;rcases q9 (dh c ((m+1:Nat):Int) (aI V F c m)).2 with ht|ht
  ·have HNX:=ae (N4 ht)
   rw[ht];clear ht N1 N2 N3 N4;go_wp2;go_roundw
   case rel=>exact⟨m+1,aJ,HNX.out⟩
   case measure=>have:=HMX.out;simp[intOf];omega
  ·have HSV:Hid (SolvedAt V F c m):=⟨HS.out.all,ht⟩
   rw[ht];clear ht N4;have q3:=N1.1 3 _ rfl;have HPR:Hid (XsAt w5 (sO ⟨pb,0,nO⟩) (aI V F c m)):=by
    show XsAt _ _ _;rw[<-(ru HZ.out HSV.out).1];exact N3.xs
   clear N3 N1 HS;go_wp2;refine bodyPost_ret (v:=Tu #[U (sO ⟨pb,0,nO⟩) (c.length+1) pc,I Y ((m+1:Nat):Int),I Y 0]) (by simp[results,Tryz.results17,go_sem]) rfl ?_;exact⟨.inr ⟨HZ.out,m,pb,pc,HSV.out,HMM.out,rfl,HPR.out⟩,N2⟩
def AO (V F:Int)(c:lI)(B:Nat)(e:Ending)(w':World):Prop:=(aw V F c≠0/\e=Rt (Tu #[U nO 0 0,I Y (aw V F c)]))\/(aw V F c=0/\∃(m:Nat) (a:oA) (ac:Nat),SolvedAt V F c m/\e=Rt (Tu #[U a (aO c (aI V F c m) c.length).length ac,I Y 0])/\w'.ownsRow B 62 2 (U a (aO c (aI V F c m) c.length).length ac) (aO c (aI V F c m) c.length).length (alC (aO c (aI V F c m) c.length)))
theorem iN (V F:Int)(s:oA)(c:lI)(cap:Nat)(w:World)(hc:CodeAt w s c):
  Calls pG 20 #[pv V F s c cap] w λe w'=>AO V F c w.heap.size e w'/\bl w w':=by
 have B0:Below w.heap.size w (w.alloc (Cc #[I Y V,I Y F,U s c.length cap] 24)):=ai;have P0:Cells (w.alloc (Cc #[I Y V,I Y F,U s c.length cap] 24)) w.heap.size [I Y V,I Y F,U s c.length cap]:=Cells.new w _ [_,_,_];go_enter Tryz.func20,Tryz.ntmps20;go_upto_region 1 with fail
 generalize w.alloc (Cc #[I Y V,I Y F,U s c.length cap] 24)=w0 at *;have p0:=P0.1 0 _ rfl;have p1:=P0.1 1 _ rfl;have p2:=P0.1 2 _ rfl;have HSO:=ae (E4 V F s c cap w0 (hc.call B0));go_wp2_with fail;refine HSO.out.mono ?_;rintro e w4 ⟨hans,hb4⟩;clear HSO p0 p1 p2;have B4:=B0.trans (hb4.mono B0.size);have P4:=P0.call hb4;clear P0 B0 hb4;rcases hans with⟨h0,rfl⟩|⟨h0,m,pb,pc,hsv,-,rfl,hX⟩
 ·have HE:Hid (∀w',AO V F c w.heap.size (Rt (Tu #[U nO 0 0,I Y (aw V F c)])) w'):=λw'=>.inl ⟨h0,rfl⟩
  generalize aw V F c=r at *;have f1:(r !=0)=true:=iw;clear h0 P4;go_wp2;refine bodyPost_ret (v:=Tu #[U nO 0 0,I Y r]) (by simp[results,Tryz.results20,go_sem]) rfl ?_;exact⟨HE.out _,B4⟩
 have h60:=(bI h0).2.2;have HXO:=ae (dD h0 m);have H0:=ae h0;have HANS:Hid (∀(a:oA) (ac:Nat) (w':World),w'.ownsRow w.heap.size 62 2 (U a (aO c (aI V F c m) c.length).length ac) (aO c (aI V F c m) c.length).length (alC (aO c (aI V F c m) c.length))->AO V F c w.heap.size (Rt (Tu #[U a (aO c (aI V F c m) c.length).length ac,I Y 0])) w'):=λa ac w' h=>.inr ⟨h0,m,a,ac,hsv,rfl,h⟩;generalize aI V F c m=L at *;have HX:=ae hX;have HC:=ae (hc.below B4 (lR _));clear h0 hX hc hsv;have zn:=P4.2.1;have A0:AlmAt (w4.alloc (Cc #[U nO 0 0] 55)) w4.heap.size w4.heap.size (aO c L 0):=⟨_,Cells.new w4 _ [_],World.ownsRow_nil _ _ _ _,ge⟩;have hb0:Below w4.heap.size w4 (w4.alloc (Cc #[U nO 0 0] 55)):=ai;have p2:=(P4.call hb0).1 2 _ rfl;go_upto_region 5 with fail
 generalize w4.alloc (Cc #[U nO 0 0] 55)=w5 at *;go_wp2;clear p2;go_loopw [26] (λi wr=>∃k:Nat,k<=c.length/\i=I Y k/\AlmAt wr w4.heap.size w4.heap.size (aO c L k)/\bl w4 wr) (λi _=>c.length - (intOf i).toNat)
 case atStart=>exact⟨0,q6 _,rfl,A0,hb0⟩
 case round=>
  clear A0 hb0;obtain⟨k,hk,rfl,AR,BR⟩:=hrel;by_cases hlt:k < c.length;rotate_left
  ·have n1:¬(k:Int) < (c.length:Int):=by omega
   have ek:k=c.length:=aa;obtain⟨v,hV,hO,-⟩:=AR;have hform:∃a cp,v=U a (aO c L k).length cp:=by
    rcases hO.2 with⟨h,h2⟩|⟨g,cp,_,h,_⟩
    ·exact⟨nO,0,by rw[h,h2]⟩
    ·exact⟨_,_,h⟩
   obtain⟨va,vcp,ev⟩:=hform;subst ev;rw[ek] at hV hO;have v0:=hV.1 0 _ rfl;have HO:=ae (AB hO (B':=w.heap.size) (by have:=B4.size;omega))
   clear hO hV ek;go_wp2;refine bodyPost_ret (v:=Tu #[U va (aO c L c.length).length vcp,I Y 0]) (by simp[results,Tryz.results20,go_sem]) rfl ?_;exact⟨HANS.out _ _ _ HO.out,B4.trans (BR.mono B4.size)⟩
  have n0:(0:Int)<=(k:Int):=aa;have n1:(k:Int) < (c.length:Int):=aa;have n2:(k:Int) < (c.length:Int)+1:=aa;have hba:Below wr.heap.size wr (wr.alloc (Cc #[I Y (k:Int)] 3)):=ai;have AT:=AR.new.call hba;have TT:Cells (wr.alloc (Cc #[I Y (k:Int)] 3)) wr.heap.size [I Y (k:Int)]:=Cells.new wr _ [_];have BT:=BR.trans (hba.mono BR.size);have zr:=BR.size;have zA:w4.heap.size < wr.heap.size:=AR.choose_spec.1.2.1;clear AR BR;go_upto_region 9 with fail
  generalize wr.alloc (Cc #[I Y (k:Int)] 3)=wt at *;obtain⟨tb,etb⟩:∃tb,tb=wr.heap.size:=⟨_,rfl⟩;rw[<-etb] at AT TT zA |-;have hne:w4.heap.size≠tb:=aa;have hxl:k < L.length:=by rw[HXO.out.len];omega
  obtain⟨rb',ro',els,zpb,vx,vxc,fx,fxc,⟨q0,q1,q2⟩,hPx,hvx,hfx⟩:=HX.out k hxl;cases els;simp only[Nat.zero_add] at q0 q1 q2;obtain⟨x,ex⟩:∃x,x=L[k]:=⟨_,rfl⟩;have hckx:aK V F c x=0:=Do;have HEX:Hid (bm L (k:Int)=x):=by show _=_;rw[fQ hxl,ex]
  rw[<-ex] at q0 q1 q2 hPx hvx hfx;clear ex etb;have HSF:Hid (∀wx,bl wt wx->Calls pG 15 #[pv V F s c cap,I Y (k:Int),xv x vx vxc fx fxc] wx λe w'=>(∃es ec,e=Rt (Tu #[U es (cN c k x).length ec,Bb (aA (bK c k) k x).2.1,Bb (aA (bK c k) k x).2.2,I Y 0]))/\bl wx w'):=λwx hb=>by
   have hu:aR V F c [x]=0:=by unfold aR;rw[if_pos H0.out];unfold cJ;rw[if_pos hckx];rfl
   have e0:gO V F c (k:Int) x=0:=by unfold gO;rw[if_pos hu,if_neg (by omega)]
   have e1:ik V F c (k:Int) x=aA (bK c k) k x:=by unfold ik;rw[if_pos e0]
   have b:=BT.trans (hb.mono BT.size);have h:=wO V F s c cap (k:Int) x vx vxc fx fxc wx (HC.out.below b (lR _)) (hPx.below b (lR _)) hvx hfx;rw[e0,e1] at h;refine h.mono ?_;rintro e w' ⟨⟨es,ec,rfl,-⟩,hb'⟩;exact⟨⟨es,ec,rfl⟩,hb'⟩
  have HKZ:Hid (∀wx,bl wt wx->(wx.cell? ⟨w.heap.size,0,nO⟩=sO (I Y V)/\wx.cell? ⟨w.heap.size,1,nO⟩=sO (I Y F)/\wx.cell? ⟨w.heap.size,2,nO⟩=sO (U s c.length cap))/\wx.cell? ⟨tb,0,nO⟩=sO (I Y (k:Int))/\(wx.cell? ⟨pb,k * 3,nO⟩=sO (Bb x.none)/\wx.cell? ⟨pb,k * 3+1,nO⟩=sO (U vx x.vq.length vxc)/\wx.cell? ⟨pb,k * 3+2,nO⟩=sO (U fx x.fq.length fxc))):=λwx hb=>by
   have b:=BT.trans (hb.mono BT.size);have p:=P4.call b;exact⟨⟨p.1 0 _ rfl,p.1 1 _ rfl,p.1 2 _ rfl⟩,(TT.call hb).1 0 _ rfl,by rw[b.cell (by simp only;exact zpb)];exact q0,by rw[b.cell (by simp only;exact zpb)];exact q1,by rw[b.cell (by simp only;exact zpb)];exact q2⟩
  have BD:bl wt wt.drew:=(bR _ _).drew;have HNX:Hid (aO c L (k+1)=bY (bY (bY (aO c L k) k 1 (aA (bK c k) k x).2.1) k 2 (aA (bK c k) k x).2.2) k 3 x.none):=by show _=_;rw[gS];unfold kO;rw[HEX.out]
  have HLEN:Hid ((aO c L k).length+2<=500/\∀(A:List (Int×Int)) (a d:Int) (b:Bool),(bY A a d b).length<=A.length+1):=⟨by have:=fS (c:=c) (L:=L) (k:=k);omega,λ_ _ _ _=>gi⟩
  generalize (aA (bK c k) k x).2.1=sw at *;generalize (aA (bK c k) k x).2.2=sf at *;generalize (cN c k x).length=el at *;have m1:(k:Int) < (L.length:Int):=aa;refine aD (S:=(λwx=>(wx.cell? ⟨w.heap.size,0,nO⟩=sO (I Y V)/\wx.cell? ⟨w.heap.size,1,nO⟩=sO (I Y F)/\wx.cell? ⟨w.heap.size,2,nO⟩=sO (U s c.length cap))/\wx.cell? ⟨tb,0,nO⟩=sO (I Y (k:Int))/\(wx.cell? ⟨pb,k * 3,nO⟩=sO (Bb x.none)/\wx.cell? ⟨pb,k * 3+1,nO⟩=sO (U vx x.vq.length vxc)/\wx.cell? ⟨pb,k * 3+2,nO⟩=sO (U fx x.fq.length fxc)))) [] ag (HKZ.out _ BD) (λhHeld=> ?_);generalize wt.drew=wd at *;refine vZ 0 ?_ ?_;refine vZ 1 ?_ ?_;refine vZ 2 ?_ ?_;refine vZ 3 ?_ ?_;refine vZ 4 ?_ ?_;refine vZ 5 ?_ ?_;refine aB (i:=6) rfl ag (λK hK=> ?_);go_simp;go_at_call 15;refine(HSF.out wd BD).mono ?_;rintro e w6 ⟨⟨es,ec,rfl⟩,hb6⟩;go_wp2_with fail;refine hK.out _ _ (HKZ.out _ (BD.trans (hb6.mono BD.size))) (λhHeld=> ?_);clear hK K;refine sm ?_;refine vZ 7 ?_ ?_;refine vZ 8 ?_ ?_;refine vZ 9 ?_ ?_;refine vZ 10 ?_ ?_;refine vZ 11 ?_ ?_;refine vZ 12 ?_ ?_;refine vZ 13 ?_ ?_;refine vZ 14 ?_ ?_;refine vZ 15 ?_ ?_;refine aC ag ?_ _;have b6:=BD.trans (hb6.mono BD.size);have A6:=AT.call b6;have T6:=TT.call b6;have B6:=BT.trans (b6.mono BT.size);clear AT TT BD hb6 b6 HKZ HSF hHeld;go_wp2_with fail;refine(oy 1 (k:Int) sw w4.heap.size tb _ w6 A6 hne T6 vM).mono ?_;rintro e w7 ⟨⟨ve7,rfl⟩,A7,hb7,T7⟩;have B7:=B6.trans hb7;clear A6 T6 B6 hb7;go_wp2_with fail;refine(oy 2 (k:Int) sf w4.heap.size tb _ w7 A7 hne T7 (lT (HLEN.out.2 _ _ _ _) vM)).mono ?_;rintro e w8 ⟨⟨ve8,rfl⟩,A8,hb8,T8⟩;have B8:=B7.trans hb8;clear A7 T7 B7 hb8;have x0:w8.cell? ⟨pb,k * 3,nO⟩=sO (Bb x.none):=by rw[B8.cell (by simp only;exact zpb)];exact q0
  have t0:=T8.1 0 _ rfl;go_wp2_with fail;refine(oy 3 (k:Int) x.none w4.heap.size tb _ w8 A8 hne T8 (lT (HLEN.out.2 _ _ _ _) (lT (J4 (HLEN.out.2 _ _ _ _) 1) vM))).mono ?_;rintro e w9 ⟨⟨ve9,rfl⟩,A9,hb9,T9⟩;have B9:=B8.trans hb9;clear A8 T8 B8 hb9;clear x0 t0;have HA9:Hid (AlmAt w9 w4.heap.size w4.heap.size (aO c L (k+1))):=by
   rw[HNX.out];obtain⟨v,a1,a2,-⟩:=A9;exact⟨v,a1,a2,λe=>by have:=(a2.lt _ e).1;omega⟩
  clear A9;go_wp2;go_roundw
  case rel=>exact⟨k+1,aa,aJ,HA9.out,B9⟩
  case measure=>simp[intOf];omega
def AlsAt (W:World)(a:oA)(A:List (Int×Int)):Prop:=∀k (h:k < A.length),∃b,a=sO ⟨b,0,nO⟩/\b < W.heap.size/\W.cell? ⟨b,k * 2,nO⟩=sO (I Y A[k].1)/\W.cell? ⟨b,k * 2+1,nO⟩=sO (I Y A[k].2)
theorem AlsAt.below {W W':World}{a:oA}{A:List (Int×Int)}(h:AlsAt W a A)(hb:bl W W'):AlsAt W' a A:=λk hk=>by
 obtain⟨b,e,hz,h0,h1⟩:=h k hk;exact⟨b,e,lL hz hb.size,by rw[hb.cell (by simp only;exact hz)];exact h0,by rw[hb.cell (by simp only;exact hz)];exact h1⟩
theorem vQ:∀{A:List (Int×Int)} {k:Nat} (h:k < A.length),(alC A)[k * 2]? =sO (I Y A[k].1)/\(alC A)[k * 2+1]? =sO (I Y A[k].2)
 |[],_,h=>absurd h ah
 |a::A,0,_=>⟨rfl,rfl⟩
 |a::A,k+1,h=>by
  have ih:=vQ (A:=A) (k:=k) cj;have e:alC (a::A)=I Y a.1::I Y a.2::alC A:=rfl;rw[e,show (k+1) * 2=k * 2+1+1 by omega];simpa using ih
theorem iU {W:World}{B ac:Nat}{a:oA}{A:List (Int×Int)}(h:W.ownsRow B 62 2 (U a A.length ac) A.length (alC A)):AlsAt W a A:=λk hk=>by
 rcases h.2 with⟨_,h0⟩|⟨g,cp,_,e,_⟩
 ·omega
 ·cases e
  have z:=(h.lt g rfl).2;exact⟨g,rfl,z,(h.cellAt _ aa).trans (vQ hk).1,(h.cellAt _ aa).trans (vQ hk).2⟩
theorem GQ (A:List (Int×Int))(p:Int×Int->Bool)(k:Nat)(h:k < A.length):(A.drop k).any p=(p A[k]||(A.drop (k+1)).any p):=by rw[List.drop_eq_getElem_cons h];rfl
theorem GL (a d:Int)(w:World):Calls pG 55 #[Ag #[I Y a,I Y d]] w λe w'=>e=Rt (Bb (d !=3))/\bl w w':=by
 go_enter Tryz.func55,Tryz.ntmps55;go_wp2;go_ret;exact⟨by first|rfl|simp,ai⟩
theorem yk (a:oA)(ac:Nat)(A:List (Int×Int))(w:World)(hl:A.length<=1000)(hs:AlsAt w a A):
  Calls pG 104 #[U a A.length ac,.func (.func 55) #[] #[]] w λe w'=>∃n:Int,e=Rt (I Y n)/\decide (0<=n)=A.any (λx=>x.2 !=3)/\bl w w':=by
 have HS:=ae hs;clear hs;go_enter Tryz.func104,Tryz.ntmps104;go_wp2;go_loopw [8] (λi wr=>∃k:Nat,k<=A.length/\i=I Y k/\bl w wr/\Hid (A.any (λx=>x.2 !=3)=(A.drop k).any (λx=>x.2 !=3))) (λi _=>A.length - (intOf i).toNat)
 case atStart=>exact⟨0,q6 _,rfl,bR _ _,by show _=_;rw[List.drop_zero]⟩
 case round=>
  obtain⟨k,hk,rfl,hbr,HA⟩:=hrel;by_cases hlt:k < A.length
  ·have n0:(0:Int)<=(k:Int):=by omega
   have n1:(k:Int) < (A.length:Int):=aa;have s0:=hbr.size;obtain⟨b,rfl,hz,c0,c1⟩:=HS.out.below hbr k hlt;have HN:=ae (GQ A (λx=>x.2 !=3) k hlt);clear HS;generalize A[k].1=a1 at *;obtain⟨d1,ed⟩:∃d,d=A[k].2:=⟨_,rfl⟩;have HD:=ae ed;rw[<-ed] at c1;clear ed;go_wp2_with fail;refine(GL a1 d1 _).mono ?_;rintro e w1 ⟨rfl,hb1⟩;have hb2:=hbr.trans (hb1.mono s0);cases hp:(d1 !=3) with
   |true=>
    have HT:Hid (A.any (λx=>x.2 !=3)=true):=Db;clear HN HA;go_wp2;go_ret;exact⟨_,rfl,iH,hb2⟩
   |false=>
    have HT:Hid (A.any (λx=>x.2 !=3)=(A.drop (k+1)).any (λx=>x.2 !=3)):=Db;clear HN HA;go_wp2;go_roundw
    case rel=>exact⟨k+1,aa,aJ,hb2,HT⟩
    case measure=>simp[intOf];omega
  ·have n1:¬(k:Int) < (A.length:Int):=by omega
   go_wp2;go_ret;exact⟨_,rfl,ia,hbr⟩
theorem rW (a:oA)(ac:Nat)(A:List (Int×Int))(w:World)(hl:A.length<=1000)(hs:AlsAt w a A):
  Calls pG 56 #[U a A.length ac,.func (.func 55) #[] #[]] w λe w'=>e=Rt (Bb (A.any (λx=>x.2 !=3)))/\bl w w':=by
 have HI:=ae (yk a ac A w hl hs);clear hs;generalize A.any (λx=>x.2 !=3)=r at *;go_enter Tryz.func56,Tryz.ntmps56;go_wp2_with fail;refine HI.out.mono ?_;rintro e w1 ⟨q,rfl,hq,hb1⟩;go_wp2;go_ret;exact⟨bj (by rw[<-hq]),hb1⟩
def vP (V F:Int)(c:lI)(e:Ending):Prop:=(aw V F c≠0/\e=Rt (Tu #[Bb false,I Y (aw V F c)]))\/(aw V F c=0/\∃m:Nat,SolvedAt V F c m/\e=Rt (Tu #[Bb (!(aO c (aI V F c m) c.length).any (λx=>x.2 !=3)),I Y 0]))
theorem yW (V F:Int)(s:oA)(c:lI)(cap:Nat)(w:World)(hc:CodeAt w s c):
  Calls pG 21 #[pv V F s c cap] w λe w'=>vP V F c e/\bl w w':=by
 have B0:Below w.heap.size w (w.alloc (Cc #[I Y V,I Y F,U s c.length cap] 24)):=ai;have P0:Cells (w.alloc (Cc #[I Y V,I Y F,U s c.length cap] 24)) w.heap.size [I Y V,I Y F,U s c.length cap]:=Cells.new w _ [_,_,_];go_enter Tryz.func21,Tryz.ntmps21;go_upto_region 1 with fail
 generalize w.alloc (Cc #[I Y V,I Y F,U s c.length cap] 24)=w0 at *;have p0:=P0.1 0 _ rfl;have p1:=P0.1 1 _ rfl;have p2:=P0.1 2 _ rfl;have HAL:=ae (iN V F s c cap w0 (hc.call B0));go_wp2_with fail;refine HAL.out.mono ?_;rintro e w4 ⟨hans,hb4⟩;clear HAL p0 p1 p2 P0;have B4:=B0.trans (hb4.mono B0.size);clear B0 hb4;rcases hans with⟨h0,rfl⟩|⟨h0,m,a,ac,hsv,rfl,hO⟩
 ·have HE:Hid (vP V F c (Rt (Tu #[Bb false,I Y (aw V F c)]))):=.inl ⟨h0,rfl⟩
  generalize aw V F c=r at *;have f1:(r !=0)=true:=iw;clear h0;go_wp2;refine bodyPost_ret (v:=Tu #[Bb false,I Y r]) (by simp[results,Tryz.results21,go_sem]) rfl ?_;exact⟨HE.out,B4⟩
 have HE:Hid (vP V F c (Rt (Tu #[Bb (!(aO c (aI V F c m) c.length).any (λx=>x.2 !=3)),I Y 0]))):=.inr ⟨h0,m,hsv,rfl⟩;have hl:(aO c (aI V F c m) c.length).length<=1000:=CH;have HCF:=ae (rW a ac _ w4 hl (iU hO));clear h0 hsv hO hl;generalize (aO c (aI V F c m) c.length).any (λx=>x.2 !=3)=r at *;generalize (aO c (aI V F c m) c.length).length=ln at *;go_wp2_with fail;refine HCF.out.mono ?_;rintro e w5 ⟨rfl,hb5⟩;have B5:=B4.trans (hb5.mono B4.size);go_wp2;refine bodyPost_ret (v:=Tu #[Bb (!r),I Y 0]) (by simp[results,Tryz.results21,go_sem]) rfl ?_;exact⟨HE.out,B5⟩
def oV (d:Int):ByteArray:=if d=1 then⟨#[119,114,111,110,103]⟩ else if d=2 then⟨#[102,97,105,108,101,100]⟩ else⟨#[105,100,108,101]⟩
def iW (a:Int×Int):ByteArray:=gR a.1++⟨#[32]⟩++oV a.2++⟨#[10]⟩
def dn (A:List (Int×Int)):ByteArray:=A.foldl (λt a=>t++iW a) ⟨#[]⟩
def DP (k:Int):ByteArray:=⟨#[101,114,114,111,114,32]⟩++gR k++⟨#[10]⟩
theorem oP {A:List (Int×Int)}{k:Nat}(h:k < A.length):dn (A.take (k+1))=dn (A.take k)++iW A[k]:=by
 unfold dn;rw[J3 h,q5];rfl
theorem wf (d:Int):(oV d).size<=6:=by
 unfold oV;split
 ·decide
 ·split<;>decide
theorem rH {a:Int×Int}(h:lA a.1):(iW a).size<=40:=by
 have h1:=nu a.1 h;have h2:=wf a.2;unfold iW;have s1:(⟨#[32]⟩:ByteArray).size=1:=rfl;have s2:(⟨#[10]⟩:ByteArray).size=1:=rfl;rw[ByteArray.size_append,ByteArray.size_append,ByteArray.size_append,s1,s2];omega
theorem ot {A:List (Int×Int)}(h:∀a∈A,lA a.1):∀{k:Nat},k<=A.length->(dn (A.take k)).size<=40 * k
 |0,_=>lR 0
 |k+1,hk=>by
  rw[oP hk,ByteArray.size_append];have h1:=ot h (k:=k) aa;have h2:=rH (h _ (gM hk));omega
theorem mV {A:List (Int×Int)}{k kind:Int}{b:Bool}{a:Int×Int}(h:a∈bY A k kind b):a∈A\/a=(k,kind):=by
 unfold bY at h;split at h
 ·simpa using h
 ·exact .inl h
theorem n7 {c:lI}{L:List Pic}:∀{k:Nat} {a:Int×Int},a∈aO c L k->0<=a.1/\a.1 < k
 |0,a,h=>by simp[aO] at h
 |k+1,a,h=>by
  rw[gS] at h;unfold kO at h;rcases mV h with h|rfl
  ·rcases mV h with h|rfl
   ·rcases mV h with h|rfl
    ·have:=n7 h;omega
    ·simp only;omega
   ·simp only;omega
  ·simp only;omega
theorem nv {p:Prop}(h:p:=by
 go_enter Tryz.func120,Tryz.ntmps120;go_wp2;go_ret;exact⟨rfl,Below.refl _ _⟩):p:=h
theorem Br (d:Int)(w:World):Calls pG 120 #[I Y d] w λe w'=>e=Rt (.string (oV d))/\bl w w':=by
 by_cases h1:d=1
 ·subst h1
  exact nv
 by_cases h2:d=2
 ·subst h2
  exact nv
 have e:oV d=⟨#[105,100,108,101]⟩:=by unfold oV;rw[if_neg h1,if_neg h2]
 rw[e];have b1:(d==1)=false:=fJ;have b2:(d==2)=false:=iJ;clear e h1 h2;exact nv
theorem vp (a d:Int)(w:World)(hf:lA a)(ht:Tab w):Calls pG 63 #[Ag #[I Y a,I Y d]] w λe w'=>e=Rt (.string (iW (a,d)))/\bl w w':=by
 have B1:Below w.heap.size w (w.alloc (Cc #[I Y a,I Y d] 62)):=ai;have X1:Cells (w.alloc (Cc #[I Y a,I Y d] 62)) w.heap.size [I Y a,I Y d]:=Cells.new w _ [_,_];have z1:=nu a hf;have z2:=wf d;go_enter Tryz.func63,Tryz.ntmps63;go_upto_region 1 with fail
 generalize w.alloc (Cc #[I Y a,I Y d] 62)=w1 at *;have HKZ:Hid (∀wx,bl w1 wx->wx.cell? ⟨w.heap.size,0,nO⟩=sO (I Y a)/\wx.cell? ⟨w.heap.size,1,nO⟩=sO (I Y d)):=λwx hb=>⟨(X1.call hb).1 0 _ rfl,(X1.call hb).1 1 _ rfl⟩;have B4:bl w1 w1.drew:=(bR _ _).drew;refine aD (S:=(λwx=>wx.cell? ⟨w.heap.size,0,nO⟩=sO (I Y a)/\wx.cell? ⟨w.heap.size,1,nO⟩=sO (I Y d))) [] ag (HKZ.out _ B4) (λhHeld=> ?_);generalize w1.drew=w4 at *;refine vZ 0 ?_ ?_;refine vZ 1 ?_ ?_;refine vZ 4 ?_ ?_;refine vZ 5 ?_ ?_;refine aB (i:=2) rfl ag (λK hK=> ?_);go_simp;go_at_call 118;refine(m8 a w4 hf (ht.below (B1.trans (B4.mono B1.size)))).mono ?_;rintro e w5 ⟨rfl,hb5⟩;have B5:=B4.trans (hb5.mono B4.size);go_wp2_with fail;refine hK.out _ _ (HKZ.out _ B5) (λhHeld=> ?_);clear hK K;refine sm ?_;refine tZ 3 (.string (gR a++⟨#[32]⟩)) ?_ (hy:=vL);refine sm ?_;refine aB (i:=6) rfl ag (λK hK=> ?_);go_simp;go_at_call 120;refine(Br d w5).mono ?_;rintro e w6 ⟨rfl,hb6⟩;have B6:=B5.trans (hb6.mono B5.size);go_wp2_with fail;refine hK.out _ _ (HKZ.out _ B6) (λhHeld=> ?_);clear hK K;refine sm ?_;refine tZ 7 (.string (gR a++⟨#[32]⟩++oV d)) ?_ (hy:=vL);refine sm ?_;refine tZ 8 (.string (gR a++⟨#[32]⟩++oV d++⟨#[10]⟩)) ?_ (hy:=vL);refine sm ?_;refine vZ 9 ?_ ?_;refine aC ag ?_ _;go_wp2;go_ret;exact⟨rfl,B1.trans (B6.mono B1.size)⟩
theorem vV (k:Int)(w:World)(hf:lA k)(ht:Tab w):Calls pG 61 #[I Y k] w λe w'=>e=Rt (.string (DP k))/\bl w w':=by
 have z1:=nu k hf;go_enter Tryz.func61,Tryz.ntmps61;go_wp2_with fail;refine(m8 k w hf ht).mono ?_;rintro e w1 ⟨rfl,hb1⟩;go_wp2;go_ret;exact⟨rfl,hb1⟩
theorem y9:SolvedAt 1 0 smallC 1:=by
 refine⟨λk hk=> ?_,fF⟩;have:k=0:=aa;subst this;decide+kernel
theorem EC:aw 1 0 smallC=0:=fF
end
end Go.Proofs.YtmapdpcfanecdabGreatDoor
