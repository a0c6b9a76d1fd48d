import Derived.Test.YtmapdpcfanecdabGreatDoorM50
open Go.Ending renaming returned→Rt
open Go.IntKind renaming i64→Y
open Go.Proofs.Tryz renaming prog→pG
open Go.RowKit.Below renaming heap_setCell→hSe,refl→bR
open Go.Value renaming bool→Bb,int→I,pointer→Pp,slice→U,tuple→Tu
open List renaming length_map→j2,nil_append→j0
open Nat renaming le_of_lt→j1,le_refl→lR,lt_of_lt_of_le→lL
open Option renaming none→nO,some→sO
set_option linter.unusedSimpArgs false
set_option linter.unusedVariables false
set_option maxHeartbeats 8000000
set_option maxRecDepth 100000
namespace Go.Proofs.YtmapdpcfanecdabGreatDoor
section
open Go.RowKit
attribute [local go_sem ↓] Go.wp_at_zero Go.wp_at_succ
theorem GH (sb:Nat)(i:Ins)(V F:Int)(s:Option Addr)(c:List Ins)(cap:Nat)(at_:Int)(x:Pic)(vs:Option Addr)(vc:Nat)(fs:Option Addr)(fc:Nat)(w0 w:World)(hS:Cells w sb (aP i V F s c cap at_ x vs vc fs fc (U nO 0 0) false false))(hc0:CodeAt w0 s c)(hx0:PicAt w0 x vs fs)(hz0:w0.heap.size≤sb)(hB0:Below w0.heap.size w0 w)(K:SCtx V F c x vc fc i at_)(hk:i.k=11):
  Calls pG 47 #[Pp (sO ⟨sb,0,nO⟩)] w λe w'=>e=Rt (Tu #[])∧cw sb w' (λev'=>aP i V F s c cap at_ x vs vc fs fc ev' false false) [] ([⟨at_+1,(bd (fg at_ x) i.tgt ⟨false,⟨true,0,0⟩,false,false,[at_]⟩)⟩])∧Below sb w w':=by
 have hm:∃m:Nat,at_=m∧m < x.flds.length:=by
  obtain⟨m,em⟩:=Int.eq_ofNat_of_zero_le K.a0
  have h1:=K.a1
  have h2:=K.kx.flds
  exact⟨m,em,by omega⟩
 have HC:=aa (wn (bd (fg at_ x) i.tgt ⟨false,⟨true,0,0⟩,false,false,[at_]⟩) [] nO 0 sb i V F s c cap at_ x vs vc fs fc false false w0 w hS hc0 hx0 hz0 hB0 K (ERow.nil sb sb w) (by simp) (λwx hb hs hp=>Ij sb sb _ i V F s c cap at_ x vs vc fs fc _ false false w.heap.size wx hs hp (K.varTo (by rw[hk];rfl)) hm (j1 (lL hS.2.1 hb.size)) (λb h=>by cases h)))
 have s0:=hS.1 0 _ rfl
 rw[hk] at s0
 clear hS hc0 hx0 hB0 K hz0 hk
 go_enter Tryz.func47,Tryz.ntmps47
 go_wp2_with (go_at_call 88;fail)
 refine HC.out.mono ?_
 rintro e w1 ⟨rfl,HA0,hb1⟩
 have HA:=aa HA0
 clear HA0 HC s0
 go_wp2
 first|go_end0|refine bodyPost_ret (results_none rfl _ _ _) rfl ?_
 exact⟨rfl,HA.out,hb1⟩
theorem GJ (sb:Nat)(i:Ins)(V F:Int)(s:Option Addr)(c:List Ins)(cap:Nat)(at_:Int)(x:Pic)(vs:Option Addr)(vc:Nat)(fs:Option Addr)(fc:Nat)(w0 w:World)(hS:Cells w sb (aP i V F s c cap at_ x vs vc fs fc (U nO 0 0) false false))(hc0:CodeAt w0 s c)(hx0:PicAt w0 x vs fs)(hz0:w0.heap.size≤sb)(hB0:Below w0.heap.size w0 w)(K:SCtx V F c x vc fc i at_)(hk:i.k=13):
  Calls pG 47 #[Pp (sO ⟨sb,0,nO⟩)] w λe w'=>e=Rt (Tu #[])∧cw sb w' (λev'=>aP i V F s c cap at_ x vs vc fs fc ev' (bI (gAt x i.a)) false) [] (if (gAt x i.a).s.length=0 then [] else [⟨at_+1,(cN x i.n (gAt x i.b) (gAt x i.a).s)⟩])∧Below sb w w':=by
 obtain⟨LST,hlst⟩:∃q:List Edg,q=if (gAt x i.a).s.length=0 then [] else [⟨at_+1,(cN x i.n (gAt x i.b) (gAt x i.a).s)⟩]:=⟨_,rfl⟩
 rw[←hlst]
 have HLS:=aa hlst
 clear hlst
 have hN:∃p:Nat,i.n=p∧(p:Int) < F:=by
  have hn:=(bn K.one).2.2.2.2.1 (.inr hk)
  obtain⟨p,ep⟩:=Int.eq_ofNat_of_zero_le hn.1
  exact⟨p,ep,by omega⟩
 have HC:=aa (IB (cN x i.n (gAt x i.b) (gAt x i.a).s) [] nO 0 sb i V F s c cap at_ x vs vc fs fc false false w0 w hS hc0 hx0 hz0 hB0 K (ERow.nil sb sb w) (by simp) (by rw[hk];rfl) (λwx ss gc tb hb hs hp hq hi=>IF sb sb _ i V F s c cap at_ x vs vc fs fc _ _ false tb w.heap.size ss gc w0 wx hs hp hq hc0 hx0 hi hb K (by rw[hk];rfl) (by rw[hk];rfl) hN (j1 hs.2.1) (λb h=>by cases h)))
 have s0:=hS.1 0 _ rfl
 rw[hk] at s0
 clear hS hc0 hx0 hB0 K hz0 hk
 go_enter Tryz.func47,Tryz.ntmps47
 go_wp2_with (go_at_call 89;fail)
 refine HC.out.mono ?_
 rintro e w1 ⟨rfl,HA0,hb1⟩
 have HA:=aa HA0
 clear HA0 HC s0
 go_wp2
 first|go_end0|refine bodyPost_ret (results_none rfl _ _ _) rfl ?_
 exact⟨rfl,by rw[HLS.out];exact HA.out,hb1⟩
theorem Gj (sb:Nat)(i:Ins)(V F:Int)(s:Option Addr)(c:List Ins)(cap:Nat)(at_:Int)(x:Pic)(vs:Option Addr)(vc:Nat)(fs:Option Addr)(fc:Nat)(w0 w:World)(hS:Cells w sb (aP i V F s c cap at_ x vs vc fs fc (U nO 0 0) false false))(hc0:CodeAt w0 s c)(hx0:PicAt w0 x vs fs)(hz0:w0.heap.size≤sb)(hB0:Below w0.heap.size w0 w)(K:SCtx V F c x vc fc i at_)(hk:i.k=15):
  Calls pG 47 #[Pp (sO ⟨sb,0,nO⟩)] w λe w'=>e=Rt (Tu #[])∧cw sb w' (λev'=>aP i V F s c cap at_ x vs vc fs fc ev' false false) [] ((if ca (gAt x i.a) then [⟨i.g,bd x i.a (cW (gAt x i.a))⟩] else [])++(if cT (gAt x i.a) then [⟨at_+1,bd x i.a (da (gAt x i.a))⟩] else []))∧Below sb w w':=by
 obtain⟨LST,hlst⟩:∃q:List Edg,q=(if ca (gAt x i.a) then [⟨i.g,bd x i.a (cW (gAt x i.a))⟩] else [])++(if cT (gAt x i.a) then [⟨at_+1,bd x i.a (da (gAt x i.a))⟩] else []):=⟨_,rfl⟩
 rw[←hlst]
 have HLS:=aa hlst
 clear hlst
 have ha0:=K.a0
 have ha1:at_≤1000:=by have:=K.a1;have:=K.lens;omega
 have HC:=aa (td i.g [] nO 0 sb i V F s c cap at_ x vs vc fs fc false false w0 w hS hc0 hx0 hz0 hB0 K (ERow.nil sb sb w) (by simp) (by rw[hk];rfl))
 have hA:nA i.k=true:=by rw[hk];rfl
 have s0:=hS.1 0 _ rfl
 rw[hk] at s0
 have s5:=hS.1 5 _ rfl
 have HH:=aa (And.intro hc0 (And.intro hx0 (And.intro hz0 (And.intro hB0 (And.intro K hA)))))
 clear hS hc0 hx0 hB0 K hz0 hk hA
 go_enter Tryz.func47,Tryz.ntmps47
 go_wp2_with (go_at_call 90;fail)
 refine HC.out.mono ?_
 rintro e w1 ⟨rfl,HA0,hb1⟩
 obtain⟨hc0,hx0,hz0,hB0,K,hA⟩:=HH.out
 obtain⟨ev,QL,C1,E1,eq1⟩:=HA0
 rw[j0] at E1
 obtain⟨es,ec,rfl,-,-⟩:=E1.form
 have hq:QL.length≤10:=by
  have h:=congrArg List.length eq1
  rw[j2] at h
  rw[h]
  split<;>simp
 have hB1:=hB0.trans (hb1.mono hz0)
 have HN:=aa (Aa (at_+1) QL es ec sb i V F s c cap at_ x vs vc fs fc false false w0 w1 C1 hc0 hx0 hz0 hB1 K E1 hq hA)
 have HQ:=aa eq1
 have HC1:=aa C1
 clear C1 E1 eq1 HC HH hc0 hx0 hz0 hB0 K hA hB1 hq s0 s5
 go_wp2_with (go_at_call 92;fail)
 refine(iF sb at_ _ w1 HC1.out rfl ha0 ha1).mono ?_
 rintro e wz ⟨rfl,ew⟩
 rw[ew]
 clear ew wz
 go_wp2_with (go_at_call 91;fail)
 refine HN.out.mono ?_
 rintro e w2 ⟨rfl,⟨ev2,QL2,C2,E2,eq2⟩,hb2⟩
 have HF:Hid (cw sb w2 (λev'=>aP i V F s c cap at_ x vs vc fs fc ev' false false) [] ((if ca (gAt x i.a) then [⟨i.g,bd x i.a (cW (gAt x i.a))⟩] else [])++(if cT (gAt x i.a) then [⟨at_+1,bd x i.a (da (gAt x i.a))⟩] else []))):=⟨ev2,QL++QL2,C2,by rw[j0];exact E2,by rw[List.map_append,HQ.out,eq2]⟩
 clear C2 E2 eq2 HN HC1 HQ
 go_wp2
 first|go_end0|refine bodyPost_ret (results_none rfl _ _ _) rfl ?_
 exact⟨rfl,by rw[HLS.out];exact HF.out,hb1.trans hb2⟩
theorem sx {p:Prop}(h:p:=by
 go_wp2_with (go_at_call 93;fail)
 refine(HC.out w rfl).mono ?_
 rintro e w1 ⟨rfl,HA0,hb1⟩
 have HA:=aa HA0
 clear HA0 HC s0
 go_wp2
 first|go_end0|refine bodyPost_ret (results_none rfl _ _ _) rfl ?_
 exact⟨rfl,HA.out,hb1⟩):p:=h
theorem Hz (sb:Nat)(i:Ins)(V F:Int)(s:Option Addr)(c:List Ins)(cap:Nat)(at_:Int)(x:Pic)(vs:Option Addr)(vc:Nat)(fs:Option Addr)(fc:Nat)(w0 w:World)(hS:Cells w sb (aP i V F s c cap at_ x vs vc fs fc (U nO 0 0) false false))(hc0:CodeAt w0 s c)(hx0:PicAt w0 x vs fs)(hz0:w0.heap.size≤sb)(hB0:Below w0.heap.size w0 w)(K:SCtx V F c x vc fc i at_)(hk:i.k=16):
  Calls pG 47 #[Pp (sO ⟨sb,0,nO⟩)] w λe w'=>e=Rt (Tu #[])∧cw sb w' (λev'=>aP i V F s c cap at_ x vs vc fs fc ev' false false) [] ([⟨i.g,x⟩])∧Below sb w w':=by
 have HC:Hid (∀wx,wx=w→Calls pG 93 #[Pp (sO ⟨sb,0,nO⟩),I Y (i.g),.func (.func 94) #[] #[]] wx λe w'=>e=Rt (Tu #[])∧cw sb w' (λev'=>aP i V F s c cap at_ x vs vc fs fc ev' false false) [] [⟨i.g,x⟩]∧Below sb wx w'):=λwx hw=>by
  subst hw
  refine(DK sb (i.g) x [] nO 0 sb i V F s c cap at_ x vs vc fs fc false false w0 wx hS hc0 hx0 hz0 hB0 K rfl (ERow.nil sb sb wx) (by simp) (GE sb sb _ wx x)).mono ?_
  rintro e w' ⟨h1,⟨ev',q,h2,h3,h4⟩,h5⟩
  exact⟨h1,⟨ev',[q],h2,h3,by simp[h4]⟩,h5⟩
 have s0:=hS.1 0 _ rfl
 rw[hk] at s0
 have s5:=hS.1 5 _ rfl
 clear hS hc0 hx0 hB0 K hz0 hk
 go_enter Tryz.func47,Tryz.ntmps47
 exact sx
theorem Hr (sb:Nat)(i:Ins)(V F:Int)(s:Option Addr)(c:List Ins)(cap:Nat)(at_:Int)(x:Pic)(vs:Option Addr)(vc:Nat)(fs:Option Addr)(fc:Nat)(w0 w:World)(hS:Cells w sb (aP i V F s c cap at_ x vs vc fs fc (U nO 0 0) false false))(hc0:CodeAt w0 s c)(hx0:PicAt w0 x vs fs)(hz0:w0.heap.size≤sb)(hB0:Below w0.heap.size w0 w)(K:SCtx V F c x vc fc i at_)(hk:i.k=17):
  Calls pG 47 #[Pp (sO ⟨sb,0,nO⟩)] w λe w'=>e=Rt (Tu #[])∧cw sb w' (λev'=>aP i V F s c cap at_ x vs vc fs fc ev' false (cT (gAt x i.a))) [] ((if ca (gAt x i.a) then [⟨at_+1,bd x i.a (cW (gAt x i.a))⟩] else []))∧Below sb w w':=by
 obtain⟨LST,hlst⟩:∃q:List Edg,q=(if ca (gAt x i.a) then [⟨at_+1,bd x i.a (cW (gAt x i.a))⟩] else []):=⟨_,rfl⟩
 rw[←hlst]
 have HLS:=aa hlst
 clear hlst
 have ha0:=K.a0
 have ha1:at_≤1000:=by have:=K.a1;have:=K.lens;omega
 have HC:=aa (td (at_+1) [] nO 0 sb i V F s c cap at_ x vs vc fs fc false false w0 w hS hc0 hx0 hz0 hB0 K (ERow.nil sb sb w) (by simp) (by rw[hk];rfl))
 have hA:nA i.k=true:=by rw[hk];rfl
 have s0:=hS.1 0 _ rfl
 rw[hk] at s0
 have HSS:=aa hS
 have HH:=aa (And.intro hc0 (And.intro hx0 (And.intro hz0 (And.intro hB0 (And.intro K hA)))))
 clear hS hc0 hx0 hB0 K hz0 hk hA
 go_enter Tryz.func47,Tryz.ntmps47
 go_wp2_with (go_at_call 92;fail)
 refine(iF sb at_ _ w HSS.out rfl ha0 ha1).mono ?_
 rintro e wz ⟨rfl,ew⟩
 rw[ew]
 clear ew wz
 go_wp2_with (go_at_call 90;fail)
 refine HC.out.mono ?_
 rintro e w1 ⟨rfl,HA0,hb1⟩
 obtain⟨hc0,hx0,hz0,hB0,K,hA⟩:=HH.out
 obtain⟨ev,QL,C1,E1,eq1⟩:=HA0
 rw[j0] at E1
 obtain⟨es,ec,rfl,-,-⟩:=E1.form
 have hq:QL.length≤10:=by
  have h:=congrArg List.length eq1
  rw[j2] at h
  rw[h]
  split<;>simp
 have hB1:=hB0.trans (hb1.mono hz0)
 have HT:=aa (mE sb i V F s c cap at_ x vs vc fs fc _ false false w1 C1 (hc0.below hB1 (lR _)) (hx0.below hB1 (lR _)) K hA)
 have HQ:=aa eq1
 have HCE:=aa (And.intro C1 E1)
 clear C1 E1 eq1 HC HH hc0 hx0 hz0 hB0 K hA hB1 hq s0 HSS
 go_wp2_with (go_at_call 95;fail)
 refine HT.out.mono ?_
 rintro e w2 ⟨rfl,hb2⟩
 have C2:=HCE.out.1.call hb2
 have E2:=HCE.out.2.call hb2
 have s15:=C2.1 15 _ rfl
 have f15:=C2.2.2 15
 have HF:Hid (cw sb (w2.setCell ⟨sb,15,nO⟩ (Bb (cT (gAt x i.a)))) (λev'=>aP i V F s c cap at_ x vs vc fs fc ev' false (cT (gAt x i.a))) [] (if ca (gAt x i.a) then [⟨at_+1,bd x i.a (cW (gAt x i.a))⟩] else [])):=⟨_,QL,C2.put 15 (by simp[aP]) _,by rw[j0];exact E2.same (λb _ hne _=>hSe _ _ _ _ hne) (by simp[World.setCell]),HQ.out⟩
 have hbf:Below sb w (w2.setCell ⟨sb,15,nO⟩ (Bb (cT (gAt x i.a)))):=(hb1.trans (hb2.mono (j1 HCE.out.1.2.1))).setCell (lR _) _
 clear C2 E2 HT HCE HQ
 go_wp2
 first|go_end0|refine bodyPost_ret (results_none rfl _ _ _) rfl ?_
 exact⟨rfl,by rw[HLS.out];exact HF.out,hbf⟩
theorem Hw (sb:Nat)(i:Ins)(V F:Int)(s:Option Addr)(c:List Ins)(cap:Nat)(at_:Int)(x:Pic)(vs:Option Addr)(vc:Nat)(fs:Option Addr)(fc:Nat)(w0 w:World)(hS:Cells w sb (aP i V F s c cap at_ x vs vc fs fc (U nO 0 0) false false))(hc0:CodeAt w0 s c)(hx0:PicAt w0 x vs fs)(hz0:w0.heap.size≤sb)(hB0:Below w0.heap.size w0 w)(K:SCtx V F c x vc fc i at_)(hk:i.k=18):
  Calls pG 47 #[Pp (sO ⟨sb,0,nO⟩)] w λe w'=>e=Rt (Tu #[])∧cw sb w' (λev'=>aP i V F s c cap at_ x vs vc fs fc ev' false false) [] ([⟨at_+1,x⟩])∧Below sb w w':=by
 have ha0:=K.a0
 have ha1:at_≤1000:=by have:=K.a1;have:=K.lens;omega
 have HC:Hid (∀wx,wx=w→Calls pG 93 #[Pp (sO ⟨sb,0,nO⟩),I Y (at_+1),.func (.func 96) #[] #[]] wx λe w'=>e=Rt (Tu #[])∧cw sb w' (λev'=>aP i V F s c cap at_ x vs vc fs fc ev' false false) [] [⟨at_+1,x⟩]∧Below sb wx w'):=λwx hw=>by
  subst hw
  refine(BQ sb (at_+1) x [] nO 0 sb i V F s c cap at_ x vs vc fs fc false false w0 wx hS hc0 hx0 hz0 hB0 K rfl (ERow.nil sb sb wx) (by simp) (FM sb sb _ wx x)).mono ?_
  rintro e w' ⟨h1,⟨ev',q,h2,h3,h4⟩,h5⟩
  exact⟨h1,⟨ev',[q],h2,h3,by simp[h4]⟩,h5⟩
 have s0:=hS.1 0 _ rfl
 rw[hk] at s0
 have HSS:=aa hS
 clear hS hc0 hx0 hB0 K hz0 hk
 go_enter Tryz.func47,Tryz.ntmps47
 go_wp2_with (go_at_call 92;fail)
 refine(iF sb at_ _ w HSS.out rfl ha0 ha1).mono ?_
 rintro e wz ⟨rfl,ew⟩
 rw[ew]
 clear ew wz
 exact sx
theorem GC (sb:Nat)(i:Ins)(V F:Int)(s:Option Addr)(c:List Ins)(cap:Nat)(at_:Int)(x:Pic)(vs:Option Addr)(vc:Nat)(fs:Option Addr)(fc:Nat)(w0 w:World)(hS:Cells w sb (aP i V F s c cap at_ x vs vc fs fc (U nO 0 0) false false))(hc0:CodeAt w0 s c)(hx0:PicAt w0 x vs fs)(hz0:w0.heap.size≤sb)(hB0:Below w0.heap.size w0 w)(K:SCtx V F c x vc fc i at_)(hk:i.k=19):
  Calls pG 47 #[Pp (sO ⟨sb,0,nO⟩)] w λe w'=>e=Rt (Tu #[])∧cw sb w' (λev'=>aP i V F s c cap at_ x vs vc fs fc ev' false false) [] ([])∧Below sb w w':=by
 have HA:Hid (cw sb w (λev'=>aP i V F s c cap at_ x vs vc fs fc ev' false false) [] []):=⟨_,[],hS,ERow.nil sb sb w,rfl⟩
 have s0:=hS.1 0 _ rfl
 rw[hk] at s0
 clear hS hc0 hx0 hB0 K hz0 hk
 go_enter Tryz.func47,Tryz.ntmps47
 go_wp2
 first|go_end0|refine bodyPost_ret (results_none rfl _ _ _) rfl ?_
 exact⟨rfl,HA.out,bR _ _⟩
theorem CO (sb:Nat)(i:Ins)(V F:Int)(s:Option Addr)(c:List Ins)(cap:Nat)(at_:Int)(x:Pic)(vs:Option Addr)(vc:Nat)(fs:Option Addr)(fc:Nat)(ev:Value)(fl:Bool)(w0 w:World)(hS:Cells w sb (aP i V F s c cap at_ x vs vc fs fc ev false fl))(hc0:CodeAt w0 s c)(hx0:PicAt w0 x vs fs)(hz0:w0.heap.size≤sb)(hB0:Below w0.heap.size w0 w)(K:SCtx V F c x vc fc i at_)(hT:nTo i.k=true)(h11:i.k≠11):
  Calls pG 98 #[Pp (sO ⟨sb,0,nO⟩)] w λe w'=>kJ w.heap.size sb w' e (aQ i at_ x).1 (aP i V F s c cap at_ x vs vc fs fc ev (aQ i at_ x).2 fl)∧ModS sb w w':=by
 have h:i.k=1∨i.k=2∨i.k=3∨(4≤i.k∧i.k≤10)∨i.k=12∨i.k=14:=by
  unfold nTo btw at hT
  simp at hT
  omega
 rcases h with h|h|h|h|h|h
 ·exact Hj sb i V F s c cap at_ x vs vc fs fc ev fl w0 w hS hc0 hx0 hz0 hB0 K h
 ·exact Hf sb i V F s c cap at_ x vs vc fs fc ev fl w0 w hS hc0 hx0 hz0 hB0 K h
 ·exact He sb i V F s c cap at_ x vs vc fs fc ev fl w0 w hS hc0 hx0 hz0 hB0 K h
 ·exact Eo sb i V F s c cap at_ x vs vc fs fc ev fl w0 w hS hc0 hx0 hz0 hB0 K h.1 h.2
 ·exact Ez sb i V F s c cap at_ x vs vc fs fc ev fl w0 w hS hc0 hx0 hz0 hB0 K h
 ·exact Ef sb i V F s c cap at_ x vs vc fs fc ev fl w0 w hS hc0 hx0 hz0 hB0 K h
theorem E6 (sb:Nat)(i:Ins)(V F:Int)(s:Option Addr)(c:List Ins)(cap:Nat)(at_:Int)(x:Pic)(vs:Option Addr)(vc:Nat)(fs:Option Addr)(fc:Nat)(w0 w:World)(hS:Cells w sb (aP i V F s c cap at_ x vs vc fs fc (U nO 0 0) false false))(hc0:CodeAt w0 s c)(hx0:PicAt w0 x vs fs)(hz0:w0.heap.size≤sb)(hB0:Below w0.heap.size w0 w)(K:SCtx V F c x vc fc i at_)(hT:nTo i.k=true)(h11:i.k≠11):
  Calls pG 47 #[Pp (sO ⟨sb,0,nO⟩)] w λe w'=>e=Rt (Tu #[])∧cw sb w' (λev'=>aP i V F s c cap at_ x vs vc fs fc ev' (aQ i at_ x).2 false) [] (if aB (aQ i at_ x).1 then [] else [⟨at_+1,bd x i.tgt (aQ i at_ x).1⟩])∧Below sb w w':=by
 obtain⟨LST,hlst⟩:∃q:List Edg,q=if aB (aQ i at_ x).1 then [] else [⟨at_+1,bd x i.tgt (aQ i at_ x).1⟩]:=⟨_,rfl⟩
 rw[←hlst]
 have HLS:=aa hlst
 clear hlst
 have HC:=aa (CO sb i V F s c cap at_ x vs vc fs fc _ false w0 w hS hc0 hx0 hz0 hB0 K hT h11)
 have hck:aC c (aQ i at_ x).1=0:=by
  have h:=sV (bK K.h0) K.kx K.a0 K.a1
  rw[←K.hi] at h
  exact h
 have s0:=hS.1 0 _ rfl
 have HSB:=aa hS.2.1
 have hr:i.k=1∨i.k=2∨i.k=3∨(4≤i.k∧i.k≤10)∨i.k=12∨i.k=14:=by
  have h:=hT
  unfold nTo btw at h
  simp at h
  omega
 have q11:(i.k==11)=false:=by simp;omega
 have q13:(i.k==13)=false:=by simp;omega
 have q15:(i.k==15)=false:=by simp;omega
 have q16:(i.k==16)=false:=by simp;omega
 have q17:(i.k==17)=false:=by simp;omega
 have q18:(i.k==18)=false:=by simp;omega
 have q19:(i.k==19)=false:=by simp;omega
 have HH:=aa (And.intro hc0 (And.intro hx0 (And.intro hz0 (And.intro hB0 (And.intro K hT)))))
 clear hS hc0 hx0 hB0 K hz0 hr h11 hT
 obtain⟨⟨g,wr⟩,hg⟩:∃q,q=aQ i at_ x:=⟨_,rfl⟩
 rw[←hg] at HC hck ⊢
 have HGE:=aa hg
 clear hg
 go_enter Tryz.func47,Tryz.ntmps47
 go_wp2_with (go_at_call 98;fail)
 clear s0 q11 q13 q15 q16 q17 q18 q19
 refine HC.out.mono ?_
 rintro e w1 ⟨⟨⟨ss,gc,rfl,JI,J1,J2⟩,C1⟩,M1⟩
 obtain⟨hc0,hx0,hz0,hB0,K,hT⟩:=HH.out
 have HN:=aa (Gv g ss gc [] nO 0 sb i V F s c cap at_ x vs vc fs fc wr false w0 w1 C1 hc0 hx0 hz0 (hB0.trans (M1.1.mono hz0)) K (ERow.nil sb sb w1) (by simp) (JI.mono λb hb _=>⟨by have:=HSB.out;omega,by have:=HSB.out;omega,λh=>by cases h⟩) J1 J2 hck hT)
 clear HC HH hc0 hx0 hz0 hB0 K hT JI J1 J2 C1 hck
 go_wp2_with (go_at_call 97;fail)
 refine HN.out.mono ?_
 rintro e w2 ⟨rfl,HA0,hb2⟩
 have HA:=aa HA0
 clear HA0 HN
 go_wp2
 first|go_end0|refine bodyPost_ret (results_none rfl _ _ _) rfl ?_
 exact⟨rfl,by rw[HLS.out,←HGE.out];exact HA.out,M1.1.trans hb2⟩
theorem Eh (sb:Nat)(i:Ins)(V F:Int)(s:Option Addr)(c:List Ins)(cap:Nat)(at_:Int)(x:Pic)(vs:Option Addr)(vc:Nat)(fs:Option Addr)(fc:Nat)(w0 w:World)(hS:Cells w sb (aP i V F s c cap at_ x vs vc fs fc (U nO 0 0) false false))(hc0:CodeAt w0 s c)(hx0:PicAt w0 x vs fs)(hz0:w0.heap.size≤sb)(hB0:Below w0.heap.size w0 w)(K:SCtx V F c x vc fc i at_):
  Calls pG 47 #[Pp (sO ⟨sb,0,nO⟩)] w λe w'=>e=Rt (Tu #[])∧cw sb w' (λev'=>aP i V F s c cap at_ x vs vc fs fc ev' (aA i at_ x).2.1 (aA i at_ x).2.2) [] ((aA i at_ x).1)∧Below sb w w':=by
 have hn:=K.kx.none
 have hk:=(bn K.one).1
 unfold btw at hk
 simp only[Bool.and_eq_true,decide_eq_true_eq] at hk
 by_cases h11:i.k=11
 ·have e:aA i at_ x=([⟨at_+1,(bd (fg at_ x) i.tgt ⟨false,⟨true,0,0⟩,false,false,[at_]⟩)⟩],false,false):=by simp[aA,hn,h11,aQ,aB,aW]
  rw[e]
  exact GH sb i V F s c cap at_ x vs vc fs fc w0 w hS hc0 hx0 hz0 hB0 K h11
 by_cases h13:i.k=13
 ·have e:aA i at_ x=(if (gAt x i.a).s.length=0 then [] else [⟨at_+1,(cN x i.n (gAt x i.b) (gAt x i.a).s)⟩],bI (gAt x i.a),false):=by
   simp only[aA,hn,h13]
   simp only[Bool.false_eq_true,if_false]
   by_cases h:(gAt x i.a).s.length=0
   ·simp[h]
   ·simp[h]
  rw[e]
  exact GJ sb i V F s c cap at_ x vs vc fs fc w0 w hS hc0 hx0 hz0 hB0 K h13
 by_cases h15:i.k=15
 ·have e:aA i at_ x=((if ca (gAt x i.a) then [⟨i.g,bd x i.a (cW (gAt x i.a))⟩] else [])++(if cT (gAt x i.a) then [⟨at_+1,bd x i.a (da (gAt x i.a))⟩] else []),false,false):=by simp[aA,hn,h15]
  rw[e]
  exact Gj sb i V F s c cap at_ x vs vc fs fc w0 w hS hc0 hx0 hz0 hB0 K h15
 by_cases h16:i.k=16
 ·have e:aA i at_ x=([⟨i.g,x⟩],false,false):=by simp[aA,hn,h16]
  rw[e]
  exact Hz sb i V F s c cap at_ x vs vc fs fc w0 w hS hc0 hx0 hz0 hB0 K h16
 by_cases h17:i.k=17
 ·have e:aA i at_ x=((if ca (gAt x i.a) then [⟨at_+1,bd x i.a (cW (gAt x i.a))⟩] else []),false,cT (gAt x i.a)):=by simp[aA,hn,h17]
  rw[e]
  exact Hr sb i V F s c cap at_ x vs vc fs fc w0 w hS hc0 hx0 hz0 hB0 K h17
 by_cases h18:i.k=18
 ·have e:aA i at_ x=([⟨at_+1,x⟩],false,false):=by simp[aA,hn,h18]
  rw[e]
  exact Hw sb i V F s c cap at_ x vs vc fs fc w0 w hS hc0 hx0 hz0 hB0 K h18
 by_cases h19:i.k=19
 ·have e:aA i at_ x=([],false,false):=by simp[aA,hn,h19]
  rw[e]
  exact GC sb i V F s c cap at_ x vs vc fs fc w0 w hS hc0 hx0 hz0 hB0 K h19
 have hT:nTo i.k=true:=by
  unfold nTo btw
  simp
  omega
 have e:aA i at_ x=(if aB (aQ i at_ x).1 then [] else [⟨at_+1,bd x i.tgt (aQ i at_ x).1⟩],(aQ i at_ x).2,false):=by
  simp only[aA,hn,h11,h13,h15,h16,h17,h18,h19,Bool.false_eq_true,if_false]
  split<;>rfl
 rw[e]
 exact E6 sb i V F s c cap at_ x vs vc fs fc w0 w hS hc0 hx0 hz0 hB0 K hT h11
end
end Go.Proofs.YtmapdpcfanecdabGreatDoor
