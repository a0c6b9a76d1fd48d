import Derived.Test.YtmapdpcfanecdabGreatS34
open Go.Ending renaming returned→Rt
open Go.IntKind renaming i64→Y
open Go.Obj renaming cells→Cc
open Go.Proofs.Tryz renaming prog→pG
open Go.RowKit.Below renaming heap_setCell→hSe,refl→bR
open Go.Value renaming agg→Ag,bool→Bb,int→I,slice→U,tuple→Tu
open Go.World renaming setCell→j5,size_alloc→zA
open List renaming drop_eq_nil_of_le→j4,eq_nil_of_length_eq_zero→j7,flatten_cons→j8,getElem_mem→gM,length_append→j3,length_take→q9,map→j6,map_append→z3,mem_append→j9,mem_flatten→q7,pairwise_cons→q8,range→j2,take_of_length_le→z6
open Nat renaming le_refl→lR,le_trans→lT,lt_of_lt_of_le→lL,zero_add→j0,zero_le→j1
open Option renaming none→nO,some→sO
set_option linter.unusedSimpArgs false
set_option linter.unusedVariables false
set_option maxHeartbeats 32000000
set_option maxRecDepth 100000
namespace Go.Proofs.YtmapdpcfanecdabGreat
section
open Go.RowKit
attribute [local go_sem ↓] Go.wp_at_zero Go.wp_at_succ
theorem gj {V F:Int}{c:List Ins}{x:Pic}(h0:ag V F c=0)(h:bh V F c x=true):(bu x).length<=1000/\x.flds.length<=c.length:=by
 obtain⟨⟨hV1,hV8⟩,⟨hF0,hF3⟩,h60⟩:=bq h0;unfold bh at h;unfold bu;cases hn:x.none with
 |true=>
  rw[hn] at h;simp only[if_true,Bool.and_eq_true,decide_eq_true_eq] at h;have e1:x.vars=[]:=j7 h.1;have e2:x.flds=[]:=j7 h.2;rw[e1,e2];simp
 |false=>
  rw[hn] at h;simp only[Bool.false_eq_true,if_false,Bool.and_eq_true,decide_eq_true_eq,Bool.not_eq_true',List.any_eq_false] at h;obtain⟨f,rfl⟩:=Int.eq_ofNat_of_zero_le hF0;have hr:∀r∈x.flds,r.length=f:=λr hr=>by have:=h.2.2 r hr;simp at this;omega
  rw[j3,gY hr];have h2:=h.2.1;have:x.flds.length * f<=60 * 3:=Nat.mul_le_mul (by omega) (by omega);omega
theorem vL {V F:Int}{c:List Ins}{g:Gs}(h0:ag V F c=0):aP V F c [g]=ap c g:=by
 unfold aP;rw[if_pos h0];unfold bm;split
 ·rename_i h;rw[h];rfl
 ·rfl
theorem yu {c:List Ins}{k:Nat}(h:k < c.length):bk c (k:Int)=decide (c[k].k=11):=by
 unfold bk;simp[h,List.getD]
theorem nU (V F:Int)(s:oA)(c:List Ins)(cap:Nat)(x:Pic)(vs:oA)(vc:Nat)(fs:oA)(fc:Nat)(w:World)(hc:CodeAt w s c)(hP:PicAt w x vs fs)(hvc:x.vars.length<=vc)(hvm:vc<=maxLen)(h0:ag V F c=0)(hf:bh V F c x=false):
  Calls pG 78 #[pv V F s c cap,xv x vs vc fs fc] w λe w'=>e=Rt (I Y (an V F c x))/\Below w.heap.size w w':=by
 obtain⟨-,-,h60⟩:=bq h0;have B0:Below w.heap.size w ((w.alloc (Cc #[I Y V,I Y F,U s c.length cap] 24)).alloc (Cc #[Bb x.none,U vs x.vars.length vc,U fs x.flds.length fc] 28)):=by go_grown
 have HI:=aa (lm V F s c cap x vs vc fs fc ((w.alloc (Cc #[I Y V,I Y F,U s c.length cap] 24)).alloc (Cc #[Bb x.none,U vs x.vars.length vc,U fs x.flds.length fc] 28)) (hP.below B0 (lR _)) h60);have er:an V F c x=1:=by unfold an;rw[if_pos hf]
 rw[er];rw[hf] at HI;clear hP hc er hf;go_enter Tryz.func78,Tryz.ntmps78;go_wp2_with (go_at_call 105;fail);refine HI.out.mono ?_;rintro e w1 ⟨rfl,hb1⟩;go_wp2;go_ret;exact⟨rfl,B0.trans (hb1.mono B0.size)⟩

theorem pW (V F:Int)(s:oA)(c:List Ins)(cap:Nat)(x:Pic)(vs:oA)(vc:Nat)(fs:oA)(fc:Nat)(w:World)(hc:CodeAt w s c)(hP:PicAt w x vs fs)(hvc:x.vars.length<=vc)(hvm:vc<=maxLen)(h0:ag V F c=0)(hf:bh V F c x=true):
  Calls pG 78 #[pv V F s c cap,xv x vs vc fs fc] w λe w'=>e=Rt (I Y (an V F c x))/\Below w.heap.size w w':=by
 obtain⟨-,-,h60⟩:=bq h0;obtain⟨hal,hfl⟩:=gj h0 hf;have B0:Below w.heap.size w ((w.alloc (Cc #[I Y V,I Y F,U s c.length cap] 24)).alloc (Cc #[Bb x.none,U vs x.vars.length vc,U fs x.flds.length fc] 28)):=by go_grown
 have P0:=(PrAt.new w V F s c cap).call (w':=((w.alloc (Cc #[I Y V,I Y F,U s c.length cap] 24)).alloc (Cc #[Bb x.none,U vs x.vars.length vc,U fs x.flds.length fc] 28))) (by go_grown);have A0:=XAt.new (w.alloc (Cc #[I Y V,I Y F,U s c.length cap] 24)) x vs vc fs fc;rw[zA] at A0;have PX:=hP.below B0 (lR _);have HI:=aa (lm V F s c cap x vs vc fs fc ((w.alloc (Cc #[I Y V,I Y F,U s c.length cap] 24)).alloc (Cc #[Bb x.none,U vs x.vars.length vc,U fs x.flds.length fc] 28)) PX h60);rw[hf] at HI;have HA:Hid (∀wx,PicAt wx x vs fs->Calls pG 102 #[xv x vs vc fs fc] wx λe w'=>nk w' e (bu x)/\Below wx.heap.size wx w'):=λwx hx=>mZ x vs vc fs fc wx hx hvc hvm (by omega) hal;have HS:=aa ip;have HG:Hid (∀g ss gc wx,CodeAt wx s c->IntsAt wx ss g.s->g.s.length<=gc->gc<=maxLen->Calls pG 107 #[pv V F s c cap,gv g ss gc] wx λe w'=>e=Rt (I Y (ap c g))/\Below wx.heap.size wx w'):=λg ss gc wx h1 h2 h3 h4=>by rw[<-vL (V:=V) (F:=F) h0];exact wm V F s c cap g ss gc wx h1 h2 h3 h4
 have HCS:=aa mT;obtain⟨res,HR,hres⟩:∃r,Hid (r=if bm c (bu x)≠0 then bm c (bu x) else if bJ c cu 0 x.flds then 4 else 0)/\an V F c x=r:=⟨_,rfl,by rw[wu,hf];rfl⟩;rw[hres];have HC:=aa (hc.below B0 (lR _));clear hres hP hc hf hvc hvm;obtain⟨all,eall⟩:∃all,all=bu x:=⟨_,rfl⟩;rw[<-eall] at HR HA hal;clear eall;go_enter Tryz.func78,Tryz.ntmps78;go_wp2_with (go_at_call 105;fail);generalize ((w.alloc (Cc #[I Y V,I Y F,U s c.length cap] 24)).alloc (Cc #[Bb x.none,U vs x.vars.length vc,U fs x.flds.length fc] 28))=w1 at *;refine HI.out.mono ?_;rintro e w2 ⟨rfl,hb2⟩;clear HI;obtain⟨⟨a0,a1,a2⟩,az,-⟩:=id (A0.call hb2);go_wp2_with (go_at_call 102;fail);refine(HA.out _ (PX.call hb2)).mono ?_;rintro e w3 ⟨⟨rs,rc,rfl,GA,k1,k2⟩,hb3⟩;clear HA a0 a1 a2 az;have hb13:=hb2.trans (hb3.mono hb2.size);have P3:=P0.call hb13;have A3:=A0.call hb13;have C3:=HC.out.call hb13;have R3:=PX.2.below hb13 (lR _);have B3:=B0.trans (hb13.mono B0.size);clear P0 A0 PX HC hb13 hb2 hb3 B0;go_wp2;go_loopw [17] (λi wr=>∃k:Nat,k<=all.length/\i=I Y k/\Below w3.heap.size w3 wr/\Hid (bm c all=bm c (all.drop k))) (λi _=>all.length - (intOf i).toNat)
 case atStart=>exact⟨0,j1 _,rfl,bR _ _,rfl⟩
 case round=>
  obtain⟨k,hk,rfl,hbr,HK⟩:=hrel;by_cases hlt:k < all.length
  ·have n0:(0:Int)<=(k:Int):=by omega
   have n1:(k:Int) < (all.length:Int):=by omega
   obtain⟨b,off,rfl,ss,gc,GR,IR,g1,g2⟩:=GA.below hbr (lR _) k hlt;have HD:=aa (iZ c all k hlt);obtain⟨⟨q0,q1,q2,q3,q4,q5,q6⟩,qz⟩:=id GR;have G4:=GuAt.new wr all[k] ss gc;have hb4:Below wr.heap.size wr (wr.alloc (Cc #[Bb all[k].n,Bb all[k].sp.n,I Y all[k].sp.lo,I Y all[k].sp.hi,Bb all[k].t,Bb all[k].f,U ss all[k].s.length gc] 61)):=by go_grown
   have I4:=IR.call hb4;go_wp2_with (go_at_call 106;fail);generalize wr.alloc (Cc #[Bb all[k].n,Bb all[k].sp.n,I Y all[k].sp.lo,I Y all[k].sp.hi,Bb all[k].t,Bb all[k].f,U ss all[k].s.length gc] 61)=w4 at *;refine(HS.out all[k] ss gc _ I4 (lT g1 g2)).mono ?_;rintro e w5 ⟨rfl,hb5⟩;clear q0 q1 q2 q3 q4 q5 q6 qz GR IR;have G5:=G4.call hb5;have I5:=I4.call hb5;have hb45:Below wr.heap.size wr w5:=hb4.trans (hb5.mono hb4.size);have hb35:=hbr.trans (hb45.mono hbr.size);clear hb4 hb5 G4 I4;rcases (show cu all[k]=false\/cu all[k]=true by cases cu all[k]<;>simp) with hs|hs<;>have HSG:=aa hs<;>rw[hs]<;>clear hs
   ·have HZ:Hid (ap c all[k]=0):=by
     show _=_;have h1:=HSG.out;unfold cu at h1;have h2:cR all[k] noneG=true:=by simpa using h1
     rw[sameGs_iff.1 h2];rfl
    go_wp2;go_roundw
    case rel=>exact⟨k+1,by omega,by go_num,hb35,by show _=_;rw[HK.out,HD.out,if_pos HZ.out]⟩
    case measure=>simp[intOf];omega
   ·obtain⟨⟨p0,p1,p2⟩,pz⟩:=id (P3.call hb35)
    obtain⟨⟨q0,q1,q2,q3,q4,q5,q6⟩,qz⟩:=id G5;simp only[j0] at q0 q1 q2 q3 q4 q5 q6;go_wp2_with (go_at_call 107;fail);refine(HG.out all[k] ss gc _ (C3.call hb35) I5 g1 g2).mono ?_;rintro e w6 ⟨rfl,hb6⟩;have hb36:=hb35.trans (hb6.mono hb35.size);clear p0 p1 p2 pz q0 q1 q2 q3 q4 q5 q6 qz;generalize ap c all[k]=ce at *;by_cases hz:ce=0
    ·have e1:(ce !=0)=false:=by simpa using hz
     go_wp2;go_roundw
     case rel=>exact⟨k+1,by omega,by go_num,hb36,by show _=_;rw[HK.out,HD.out,if_pos hz]⟩
     case measure=>simp[intOf];omega
    ·have e1:(ce !=0)=true:=by simpa using hz
     go_wp2;go_ret;refine⟨bd ?_,B3.trans (hb36.mono B3.size)⟩;rw[HR.out,HK.out,HD.out,if_neg hz,if_pos hz]
  ·have n1:¬(k:Int) < (all.length:Int):=by omega
   have HZ:Hid (bm c all=0):=by show _=_;rw[HK.out,j4 (by omega)];rfl
   have HR2:Hid (res=if bJ c cu 0 x.flds then 4 else 0):=by show _=_;rw[HR.out,HZ.out];rfl
   have P4:=P3.call hbr;have A4:=A3.call hbr;have C4:=C3.call hbr;have R4:=R3.below hbr (lR _);have B4:=B3.trans (hbr.mono B3.size);generalize wr=w4 at *;clear wr P3 A3 C3 R3 B3 HK HR HZ GA hbr;obtain⟨⟨a0,a1,a2⟩,az,-⟩:=id A4;go_wp2;clear a0 a1 a2 az;go_loopw [34] (λi wr=>∃k:Nat,k<=x.flds.length/\i=I Y k/\Below w4.heap.size w4 wr/\Hid (bJ c cu 0 x.flds=bJ c cu k (x.flds.drop k))) (λi _=>x.flds.length - (intOf i).toNat)
   case atStart=>exact⟨0,j1 _,rfl,bR _ _,rfl⟩
   case round=>
    obtain⟨k2,hk2,rfl,hbq,HT⟩:=hrel;by_cases hlt2:k2 < x.flds.length
    ·have n0:(0:Int)<=(k2:Int):=by omega
     have n2:(k2:Int) < (x.flds.length:Int):=by omega
     have hkc:k2 < c.length:=by omega
     have n3:(k2:Int) < (c.length:Int):=by omega
     have HU:=aa (lk c cu x.flds k2 hlt2);obtain⟨⟨p0,p1',p2⟩,pz⟩:=id (P4.call hbq);obtain⟨p1,q1,e1,zp1,r1,rc1,D1,l1,l2,J1⟩:=(R4.below hbq (lR _)) k2 hlt2;obtain⟨cb,co,e2,zc,hcc⟩:=(C4.call hbq).get k2 hkc;subst e1 e2;obtain⟨i0,-⟩:=hcc k2 hkc;have HST:=aa (yu hkc);have hrl:x.flds[k2].length<=9223372036854775807:=by unfold maxLen at l2;omega
     clear hcc;by_cases h11:c[k2].k=11
     ·have e11:(c[k2].k !=11)=false:=by simpa using h11
      go_wp2;go_roundw
      case rel=>exact⟨k2+1,by omega,by go_num,hbq,by show _=_;rw[HT.out,HU.out,HST.out,decide_eq_true h11];rfl⟩
      case measure=>simp[intOf];omega
     ·have e11:(c[k2].k !=11)=true:=by simpa using h11
      go_wp2_with (go_at_call 108;fail);refine(HCS.out r1 x.flds[k2] rc1 _ hrl J1).mono ?_;rintro e w5 ⟨rfl,hb5⟩;have hb45:=hbq.trans (hb5.mono hbq.size);rcases (show x.flds[k2].any cu=false\/x.flds[k2].any cu=true by cases x.flds[k2].any cu<;>simp) with hs|hs<;>have HSG:=aa hs<;>rw[hs]<;>clear hs
      ·go_wp2
       go_roundw
       case rel=>exact⟨k2+1,by omega,by go_num,hb45,by show _=_;rw[HT.out,HU.out,HSG.out];simp⟩
       case measure=>simp[intOf];omega
      ·go_wp2
       go_ret;refine⟨bd ?_,B4.trans (hb45.mono B4.size)⟩;rw[HR2.out,HT.out,HU.out,HSG.out,HST.out,decide_eq_false h11];rfl
    ·have n2:¬(k2:Int) < (x.flds.length:Int):=by omega
     go_wp2;go_ret;refine⟨bd ?_,B4.trans (hbq.mono B4.size)⟩;rw[HR2.out,HT.out,j4 (by omega)];rfl

theorem oQ (V F:Int)(s:oA)(c:List Ins)(cap:Nat)(x:Pic)(vs:oA)(vc:Nat)(fs:oA)(fc:Nat)(w:World)(hc:CodeAt w s c)(hP:PicAt w x vs fs)(hvc:x.vars.length<=vc)(hvm:vc<=maxLen)(h0:ag V F c=0):
  Calls pG 78 #[pv V F s c cap,xv x vs vc fs fc] w λe w'=>e=Rt (I Y (an V F c x))/\Below w.heap.size w w':=by
 rcases (show bh V F c x=false\/bh V F c x=true by cases bh V F c x<;>simp) with hf|hf
 ·exact nU V F s c cap x vs vc fs fc w hc hP hvc hvm h0 hf
 ·exact pW V F s c cap x vs vc fs fc w hc hP hvc hvm h0 hf
theorem XsAt.new1 (w:World)(x:Pic)(vs:oA)(vc:Nat)(fs:oA)(fc:Nat)(hP:PicAt w x vs fs)(h1:x.vars.length<=vc/\vc<=maxLen)(h2:x.flds.length<=fc/\fc<=maxLen):
  XsAt (w.alloc (Cc #[Bb x.none,U vs x.vars.length vc,U fs x.flds.length fc] 28)) (sO ⟨w.heap.size,0,nO⟩) [x]:=by
 intro i hi;obtain rfl:i=0:=by simp at hi;omega
 exact⟨w.heap.size,0,rfl,by simp,vs,vc,fs,fc,by simp[go_sem],hP.call (by go_grown),h1,h2⟩
theorem XsAt.new2 (w:World)(x:Pic)(vs:oA)(vc:Nat)(fs:oA)(fc:Nat)(y:Pic)(us:oA)(uc:Nat)(gs:oA)(gc:Nat)(hP:PicAt w x vs fs)(h1:x.vars.length<=vc/\vc<=maxLen)(h2:x.flds.length<=fc/\fc<=maxLen)(hQ:PicAt w y us gs)(h3:y.vars.length<=uc/\uc<=maxLen)(h4:y.flds.length<=gc/\gc<=maxLen):
  XsAt (w.alloc (Cc #[Bb x.none,U vs x.vars.length vc,U fs x.flds.length fc,Bb y.none,U us y.vars.length uc,U gs y.flds.length gc] 28)) (sO ⟨w.heap.size,0,nO⟩) [x,y]:=by
 intro i hi;by_cases e:i=0
 ·subst e;exact⟨w.heap.size,0,rfl,by simp,vs,vc,fs,fc,by simp[go_sem],hP.call (by go_grown),h1,h2⟩
 ·obtain rfl:i=1:=by simp at hi;omega
  exact⟨w.heap.size,0,rfl,by simp,us,uc,gs,gc,by simp[go_sem],hQ.call (by go_grown),h3,h4⟩
theorem dA (V F:Int)(s:oA)(c:List Ins)(cap:Nat)(ls:oA)(L:List Pic)(lc:Nat)(w:World)(hc:CodeAt w s c)(hL:XsAt w ls L)(hl:L.length<=9223372036854775807):
  Calls pG 43 #[pv V F s c cap,U ls L.length lc] w λe w'=>e=Rt (I Y (aq V F c L))/\Below w.heap.size w w':=by
 have P0:=PrAt.new w V F s c cap;have B0:Below w.heap.size w (w.alloc (Cc #[I Y V,I Y F,U s c.length cap] 24)):=by go_grown
 have C0:=hc.below B0 (lR _);have L0:=hL.below B0 (lR _);have HC:=aa (fv V F s cap c _ C0);clear hc hL;by_cases h0:ag V F c=0
 ·have er:aq V F c L=bx V F c L:=by unfold aq;rw[if_pos h0]
  obtain⟨res,HR,hres⟩:∃r,Hid (r=bx V F c L)/\aq V F c L=r:=⟨_,rfl,er⟩;rw[hres];rw[h0] at HC;have H0:=aa h0;clear er hres h0;go_enter Tryz.func43,Tryz.ntmps43;go_wp2_with (go_at_call 64;fail);refine HC.out.mono ?_;rintro e w1 ⟨rfl,hb1⟩;have P1:=P0.call hb1;have C1:=C0.call hb1;have L1:=L0.below hb1 (lR _);have B1:=B0.trans (hb1.mono B0.size);clear hb1 P0 C0 L0 B0 HC;go_wp2;go_loopw [16] (λi wr=>∃k:Nat,k<=L.length/\i=I Y k/\Below w1.heap.size w1 wr/\Hid (res=bx V F c (L.drop k))) (λi _=>L.length - (intOf i).toNat)
  case atStart=>exact⟨0,j1 _,rfl,bR _ _,HR⟩
  case round=>
   obtain⟨k,hk,rfl,hbr,HK⟩:=hrel;by_cases hlt:k < L.length
   ·have n0:(0:Int)<=(k:Int):=by omega
    have n1:(k:Int) < (L.length:Int):=by omega
    have HS:=aa (mz V F c L k hlt);obtain⟨b,off,rfl,zb,vs,vc,fs,fc,⟨g0,g1,g2⟩,hP,hv,hf⟩:=(L1.below hbr (lR _)) k hlt;have X2:=XAt.new wr L[k] vs vc fs fc;have hb2:Below wr.heap.size wr (wr.alloc (Cc #[Bb L[k].none,U vs L[k].vars.length vc,U fs L[k].flds.length fc] 28)):=by go_grown
    have hb12:=hbr.trans (hb2.mono hbr.size);have P2:=P1.call hb12;have hP2:=hP.call hb2
    go_upto_region 7 with fail
    generalize wr.alloc (Cc #[Bb L[k].none,U vs L[k].vars.length vc,U fs L[k].flds.length fc] 28)=w2 at *;clear g0 g1 g2;obtain⟨⟨p0,p1,p2⟩,pz⟩:=id P2;obtain⟨⟨x0,x1,x2⟩,xz,-⟩:=id X2;go_wp2_with (go_at_call 78;fail);refine(oQ V F s c cap L[k] vs vc fs fc _ (C1.call hb12) hP2 hv.1 hv.2 H0.out).mono ?_;rintro e w3 ⟨rfl,hb3⟩;have hb13:=hb12.trans (hb3.mono hb12.size);clear p0 p1 p2 pz x0 x1 x2 xz;generalize an V F c L[k]=ce at *;by_cases hz:ce=0
    ·have e1:(ce !=0)=false:=by simpa using hz
     go_wp2;go_roundw
     case rel=>exact⟨k+1,by omega,by go_num,hb13,by show _=_;rw[HK.out,HS.out,if_pos hz]⟩
     case measure=>simp[intOf];omega
    ·have e1:(ce !=0)=true:=by simpa using hz
     go_wp2;go_ret;exact⟨bd (by rw[HK.out,HS.out,if_neg hz]),B1.trans (hb13.mono B1.size)⟩
   ·have n1:¬(k:Int) < (L.length:Int):=by omega
    go_wp2;go_ret;refine⟨bd ?_,B1.trans (hbr.mono B1.size)⟩;rw[HK.out,j4 (by omega)];rfl
 ·have er:aq V F c L=ag V F c:=by unfold aq;rw[if_neg h0]
  rw[er];have e1:(ag V F c !=0)=true:=by simpa using h0
  generalize ag V F c=ce at *;clear er h0;go_enter Tryz.func43,Tryz.ntmps43;go_wp2_with (go_at_call 64;fail);refine HC.out.mono ?_;rintro e w1 ⟨rfl,hb1⟩;go_wp2;go_ret;exact⟨rfl,B0.trans (hb1.mono B0.size)⟩

theorem fG (V F:Int)(s:oA)(c:List Ins)(cap:Nat)(x:Pic)(vs:oA)(vc:Nat)(fs:oA)(fc:Nat)(w:World)(hc:CodeAt w s c)(hP:PicAt w x vs fs)(h1:x.vars.length<=vc/\vc<=maxLen)(h2:x.flds.length<=fc/\fc<=maxLen):
  Calls pG 17 #[pv V F s c cap,xv x vs vc fs fc] w λe w'=>e=Rt (I Y (aq V F c [x]))/\Below w.heap.size w w':=by
 have B1:Below w.heap.size w (((w.alloc (Cc #[I Y V,I Y F,U s c.length cap] 24)).alloc (Cc #[Bb x.none,U vs x.vars.length vc,U fs x.flds.length fc] 28)).alloc (Cc #[Bb x.none,U vs x.vars.length vc,U fs x.flds.length fc] 28)):=by go_grown
 have HC:=aa (dA V F s c cap (sO ⟨((w.alloc (Cc #[I Y V,I Y F,U s c.length cap] 24)).alloc (Cc #[Bb x.none,U vs x.vars.length vc,U fs x.flds.length fc] 28)).heap.size,0,nO⟩) [x] 1 (((w.alloc (Cc #[I Y V,I Y F,U s c.length cap] 24)).alloc (Cc #[Bb x.none,U vs x.vars.length vc,U fs x.flds.length fc] 28)).alloc (Cc #[Bb x.none,U vs x.vars.length vc,U fs x.flds.length fc] 28)) (hc.below B1 (lR _)) (XsAt.new1 ((w.alloc (Cc #[I Y V,I Y F,U s c.length cap] 24)).alloc (Cc #[Bb x.none,U vs x.vars.length vc,U fs x.flds.length fc] 28)) x vs vc fs fc (hP.below (B:=w.heap.size) (by go_grown) (lR _)) h1 h2) (by simp));simp only[zA] at HC;go_enter Tryz.func17,Tryz.ntmps17;go_wp2_with (go_at_call 43;fail);refine HC.out.mono ?_;rintro e w1 ⟨rfl,hb1⟩;go_wp2;go_ret;exact⟨rfl,B1.trans (hb1.mono (by first|omega|exact B1.size))⟩
theorem yY {c:List Ins}{g:Gs}(h:ap c g=0):bT g g=true:=by
 have hs:bK g.sp=0:=by
  unfold ap at h;split at h
  ·exact h
  ·rename_i h1;simpa using h1
 have hok:=ckSp_ok.1 hs;obtain⟨n,⟨sn,lo,hi⟩,t,f,s⟩:=g;have h4:=hok.2.2.2;simp only at h4;unfold bT cZ Sp.has;cases n<;>cases t<;>cases f<;>cases sn<;>simp<;>omega
theorem lz {a b x y:List Gs}(h:a.length=b.length):cN (a++x) (b++y)=(cN a b&&cN x y):=by
 unfold cN;rw[List.zipWith_append h,List.all_append]
theorem mJ:∀{a b:List (List Gs)},a.length=b.length->(∀i (h:i < a.length) (h':i < b.length),a[i].length=b[i].length)->cN a.flatten b.flatten=fu a b
 |[],[],_,_=>rfl
 |[],_::_,h,_=>by simp at h
 |_::_,[],h,_=>by simp at h
 |r::a,q::b,h,hr=>by
  have h0:=hr 0 (by simp) (by simp);rw[j8,j8,lz (by simpa using h0),mJ (by simpa using h) λi h1 h2=>by
   have:=hr (i+1) (by simpa using h1) (by simpa using h2);simpa using this]
  rfl
theorem vY {V F:Int}{c:List Ins}{x y:Pic}(h1:an V F c x=0)(h2:an V F c y=0)(hn:x.none=false)(hm:y.none=false):cN (bu x) (bu y)=aH x y/\(bu x).length=(bu y).length/\(∀g∈bu x,ap c g=0)/\∀g∈bu y,ap c g=0:=by
 obtain⟨a1,a2,a3,a4,a5⟩:=dH h1 hn;obtain⟨b1,b2,b3,b4,b5⟩:=dH h2 hm;have hv:x.vars.length=y.vars.length:=by omega
 have hl:x.flds.length=y.flds.length:=by omega
 have hr:∀i (h:i < x.flds.length) (h':i < y.flds.length),x.flds[i].length=y.flds[i].length:=λi h h'=>by have:=a3 _ (gM h);have:=b3 _ (gM h');omega
 refine⟨?_,?_,λg hg=> ?_,λg hg=> ?_⟩
 ·unfold bu aH
  rw[lz hv,mJ hl hr,hn,hm];rfl
 ·unfold bu
  rw[j3,j3,hv];congr 1;have e1:∀r∈x.flds,r.length=F.toNat:=λr hr=>by have:=a3 r hr;omega
  have e2:∀r∈y.flds,r.length=F.toNat:=λr hr=>by have:=b3 r hr;omega
  rw[gY e1,gY e2,hl]
 ·unfold bu at hg
  rcases j9.1 hg with hg|hg
  ·exact a4 g hg
  ·obtain⟨r,hr,hg⟩:=q7.1 hg
   exact a5 r hr g hg
 ·unfold bu at hg
  rcases j9.1 hg with hg|hg
  ·exact b4 g hg
  ·obtain⟨r,hr,hg⟩:=q7.1 hg
   exact b5 r hr g hg
theorem sx (V F:Int)(s:oA)(c:List Ins)(cap:Nat)(g:Gs)(ss:oA)(gc:Nat)(h:Gs)(st:oA)(hc:Nat)(w:World)(hcd:CodeAt w s c)(hs:IntsAt w ss g.s)(h1:g.s.length<=gc)(h2:gc<=maxLen)(ht:IntsAt w st h.s)(h3:h.s.length<=hc)(h4:hc<=maxLen)(h0:ag V F c=0)(hg:ap c g=0)(hh:ap c h=0):
  Calls pG 103 #[pv V F s c cap,gv g ss gc,gv h st hc] w λe w'=>e=Rt (Bb (bT g h))/\Below w.heap.size w w':=by
 have B0:Below w.heap.size w (((w.alloc (Cc #[I Y V,I Y F,U s c.length cap] 24)).alloc (Cc #[Bb g.n,Bb g.sp.n,I Y g.sp.lo,I Y g.sp.hi,Bb g.t,Bb g.f,U ss g.s.length gc] 61)).alloc (Cc #[Bb h.n,Bb h.sp.n,I Y h.sp.lo,I Y h.sp.hi,Bb h.t,Bb h.f,U st h.s.length hc] 61)):=by go_grown
 have P0:=(PrAt.new w V F s c cap).call (w':=(((w.alloc (Cc #[I Y V,I Y F,U s c.length cap] 24)).alloc (Cc #[Bb g.n,Bb g.sp.n,I Y g.sp.lo,I Y g.sp.hi,Bb g.t,Bb g.f,U ss g.s.length gc] 61)).alloc (Cc #[Bb h.n,Bb h.sp.n,I Y h.sp.lo,I Y h.sp.hi,Bb h.t,Bb h.f,U st h.s.length hc] 61))) (by go_grown);have G0:=(GuAt.new (w.alloc (Cc #[I Y V,I Y F,U s c.length cap] 24)) g ss gc).call (w':=(((w.alloc (Cc #[I Y V,I Y F,U s c.length cap] 24)).alloc (Cc #[Bb g.n,Bb g.sp.n,I Y g.sp.lo,I Y g.sp.hi,Bb g.t,Bb g.f,U ss g.s.length gc] 61)).alloc (Cc #[Bb h.n,Bb h.sp.n,I Y h.sp.lo,I Y h.sp.hi,Bb h.t,Bb h.f,U st h.s.length hc] 61))) (by go_grown);have H0:=GuAt.new ((w.alloc (Cc #[I Y V,I Y F,U s c.length cap] 24)).alloc (Cc #[Bb g.n,Bb g.sp.n,I Y g.sp.lo,I Y g.sp.hi,Bb g.t,Bb g.f,U ss g.s.length gc] 61)) h st hc;rw[zA] at G0;rw[zA,zA] at H0;have C0:=hcd.below B0 (lR _);have I0:=hs.below B0 (lR _);have J0:=ht.below B0 (lR _);have HS:=aa (kh g ss gc h st hc (((w.alloc (Cc #[I Y V,I Y F,U s c.length cap] 24)).alloc (Cc #[Bb g.n,Bb g.sp.n,I Y g.sp.lo,I Y g.sp.hi,Bb g.t,Bb g.f,U ss g.s.length gc] 61)).alloc (Cc #[Bb h.n,Bb h.sp.n,I Y h.sp.lo,I Y h.sp.hi,Bb h.t,Bb h.f,U st h.s.length hc] 61)) I0 J0 (lT h1 h2) (lT h3 h4));have HW:Hid (∀wx,CodeAt wx s c->IntsAt wx ss g.s->IntsAt wx st h.s->Calls pG 89 #[pv V F s c cap,gv g ss gc,gv h st hc] wx λe w'=>e=Rt (Tu #[Bb (bT g h),I Y 0])/\Below wx.heap.size wx w'):=λwx x1 x2 x3=>by
  have hk:=fk h0 hg hh;have:=Dx V F s c cap g ss gc h st hc wx x1 x2 h1 h2 x3 h3 h4;rw[hk,if_pos rfl] at this;exact this
 have HQ:Hid (cR g h=true->bT g h=true):=λe=>by rw[<-sameGs_iff.1 e];exact yY hg
 clear hcd hs ht;go_enter Tryz.func103,Tryz.ntmps103;go_wp2_with (go_at_call 132;fail);generalize (((w.alloc (Cc #[I Y V,I Y F,U s c.length cap] 24)).alloc (Cc #[Bb g.n,Bb g.sp.n,I Y g.sp.lo,I Y g.sp.hi,Bb g.t,Bb g.f,U ss g.s.length gc] 61)).alloc (Cc #[Bb h.n,Bb h.sp.n,I Y h.sp.lo,I Y h.sp.hi,Bb h.t,Bb h.f,U st h.s.length hc] 61))=w1 at *;refine HS.out.mono ?_;rintro e w2 ⟨rfl,hb2⟩;rcases (show cR g h=false\/cR g h=true by cases cR g h<;>simp) with hq|hq<;>have HSG:=aa hq<;>rw[hq]<;>clear hq
 ·obtain⟨⟨p0,p1,p2⟩,pz⟩:=id (P0.call hb2)
  obtain⟨⟨q0,q1,q2,q3,q4,q5,q6⟩,qz⟩:=id (G0.call hb2);obtain⟨⟨r0,r1,r2,r3,r4,r5,r6⟩,rz⟩:=id (H0.call hb2);simp only[j0] at q0 q1 q2 q3 q4 q5 q6 r0 r1 r2 r3 r4 r5 r6;go_wp2_with (go_at_call 89;fail);refine(HW.out _ (C0.call hb2) (I0.call hb2) (J0.call hb2)).mono ?_;rintro e w3 ⟨rfl,hb3⟩;go_wp2;go_ret;exact⟨rfl,B0.trans ((hb2.trans (hb3.mono hb2.size)).mono B0.size)⟩
 ·go_wp2
  go_ret;exact⟨av (HQ.out HSG.out).symm,B0.trans (hb2.mono B0.size)⟩

theorem uk (V F:Int)(s:oA)(c:List Ins)(cap:Nat)(x:Pic)(vs1:oA)(vc1:Nat)(fs1:oA)(fc1:Nat)(y:Pic)(vs2:oA)(vc2:Nat)(fs2:oA)(fc2:Nat)(w:World)(hcd:CodeAt w s c)(hx:PicAt w x vs1 fs1)(h1:x.vars.length<=vc1/\vc1<=maxLen)(h2:x.flds.length<=fc1/\fc1<=maxLen)(hy:PicAt w y vs2 fs2)(h3:y.vars.length<=vc2/\vc2<=maxLen)(h4:y.flds.length<=fc2/\fc2<=maxLen)(h:aq V F c [x,y]≠0):
  Calls pG 71 #[pv V F s c cap,xv x vs1 vc1 fs1 fc1,xv y vs2 vc2 fs2 fc2] w λe w'=>e=Rt (Tu #[Bb false,I Y (aq V F c [x,y])])/\Below w.heap.size w w':=by
 have B0:Below w.heap.size w (((w.alloc (Cc #[I Y V,I Y F,U s c.length cap] 24)).alloc (Cc #[Bb x.none,U vs1 x.vars.length vc1,U fs1 x.flds.length fc1] 28)).alloc (Cc #[Bb y.none,U vs2 y.vars.length vc2,U fs2 y.flds.length fc2] 28)):=by go_grown
 have P0:=(PrAt.new w V F s c cap).call (w':=(((w.alloc (Cc #[I Y V,I Y F,U s c.length cap] 24)).alloc (Cc #[Bb x.none,U vs1 x.vars.length vc1,U fs1 x.flds.length fc1] 28)).alloc (Cc #[Bb y.none,U vs2 y.vars.length vc2,U fs2 y.flds.length fc2] 28))) (by go_grown);have X0:=(XAt.new (w.alloc (Cc #[I Y V,I Y F,U s c.length cap] 24)) x vs1 vc1 fs1 fc1).call (w':=(((w.alloc (Cc #[I Y V,I Y F,U s c.length cap] 24)).alloc (Cc #[Bb x.none,U vs1 x.vars.length vc1,U fs1 x.flds.length fc1] 28)).alloc (Cc #[Bb y.none,U vs2 y.vars.length vc2,U fs2 y.flds.length fc2] 28))) (by go_grown);have Y0:=XAt.new ((w.alloc (Cc #[I Y V,I Y F,U s c.length cap] 24)).alloc (Cc #[Bb x.none,U vs1 x.vars.length vc1,U fs1 x.flds.length fc1] 28)) y vs2 vc2 fs2 fc2;rw[zA] at X0;rw[zA,zA] at Y0;have C0:=hcd.below B0 (lR _);have PX:=hx.below B0 (lR _);have PY:=hy.below B0 (lR _);have HC:=aa (dA V F s c cap (sO ⟨(((w.alloc (Cc #[I Y V,I Y F,U s c.length cap] 24)).alloc (Cc #[Bb x.none,U vs1 x.vars.length vc1,U fs1 x.flds.length fc1] 28)).alloc (Cc #[Bb y.none,U vs2 y.vars.length vc2,U fs2 y.flds.length fc2] 28)).heap.size,0,nO⟩) [x,y] 2 ((((w.alloc (Cc #[I Y V,I Y F,U s c.length cap] 24)).alloc (Cc #[Bb x.none,U vs1 x.vars.length vc1,U fs1 x.flds.length fc1] 28)).alloc (Cc #[Bb y.none,U vs2 y.vars.length vc2,U fs2 y.flds.length fc2] 28)).alloc (Cc #[Bb x.none,U vs1 x.vars.length vc1,U fs1 x.flds.length fc1,Bb y.none,U vs2 y.vars.length vc2,U fs2 y.flds.length fc2] 28)) (C0.call (by go_grown)) (XsAt.new2 (((w.alloc (Cc #[I Y V,I Y F,U s c.length cap] 24)).alloc (Cc #[Bb x.none,U vs1 x.vars.length vc1,U fs1 x.flds.length fc1] 28)).alloc (Cc #[Bb y.none,U vs2 y.vars.length vc2,U fs2 y.flds.length fc2] 28)) x vs1 vc1 fs1 fc1 y vs2 vc2 fs2 fc2 PX h1 h2 PY h3 h4) (by simp));have hbz:Below (((w.alloc (Cc #[I Y V,I Y F,U s c.length cap] 24)).alloc (Cc #[Bb x.none,U vs1 x.vars.length vc1,U fs1 x.flds.length fc1] 28)).alloc (Cc #[Bb y.none,U vs2 y.vars.length vc2,U fs2 y.flds.length fc2] 28)).heap.size (((w.alloc (Cc #[I Y V,I Y F,U s c.length cap] 24)).alloc (Cc #[Bb x.none,U vs1 x.vars.length vc1,U fs1 x.flds.length fc1] 28)).alloc (Cc #[Bb y.none,U vs2 y.vars.length vc2,U fs2 y.flds.length fc2] 28)) ((((w.alloc (Cc #[I Y V,I Y F,U s c.length cap] 24)).alloc (Cc #[Bb x.none,U vs1 x.vars.length vc1,U fs1 x.flds.length fc1] 28)).alloc (Cc #[Bb y.none,U vs2 y.vars.length vc2,U fs2 y.flds.length fc2] 28)).alloc (Cc #[Bb x.none,U vs1 x.vars.length vc1,U fs1 x.flds.length fc1,Bb y.none,U vs2 y.vars.length vc2,U fs2 y.flds.length fc2] 28)):=by go_grown
 have e3:(((w.alloc (Cc #[I Y V,I Y F,U s c.length cap] 24)).alloc (Cc #[Bb x.none,U vs1 x.vars.length vc1,U fs1 x.flds.length fc1] 28)).alloc (Cc #[Bb y.none,U vs2 y.vars.length vc2,U fs2 y.flds.length fc2] 28)).heap.size=w.heap.size+1+1+1:=by simp
 have d1:(aq V F c [x,y]!=0)=true:=by simpa using h
 have HB:Hid (Below w.heap.size w ((((w.alloc (Cc #[I Y V,I Y F,U s c.length cap] 24)).alloc (Cc #[Bb x.none,U vs1 x.vars.length vc1,U fs1 x.flds.length fc1] 28)).alloc (Cc #[Bb y.none,U vs2 y.vars.length vc2,U fs2 y.flds.length fc2] 28)).alloc (Cc #[Bb x.none,U vs1 x.vars.length vc1,U fs1 x.flds.length fc1,Bb y.none,U vs2 y.vars.length vc2,U fs2 y.flds.length fc2] 28))):=B0.trans (hbz.mono B0.size);generalize aq V F c [x,y]=ce at *;clear h hx hy hcd PX PY P0 X0 Y0 C0 hbz;rw[e3] at HC;clear e3;go_enter Tryz.func71,Tryz.ntmps71;go_wp2_with (go_at_call 43;fail);refine HC.out.mono ?_;rintro e w1 ⟨rfl,hb1⟩;go_wp2;refine bodyPost_ret (v:=Tu #[Bb false,I Y ce]) (by simp[results,Tryz.results71,go_sem]) rfl ⟨rfl,HB.out.trans (hb1.mono (by first|omega|exact HB.out.size))⟩

theorem sY (V F:Int)(s:oA)(c:List Ins)(cap:Nat)(x:Pic)(vs1:oA)(vc1:Nat)(fs1:oA)(fc1:Nat)(y:Pic)(vs2:oA)(vc2:Nat)(fs2:oA)(fc2:Nat)(w:World)(hcd:CodeAt w s c)(hx:PicAt w x vs1 fs1)(h1:x.vars.length<=vc1/\vc1<=maxLen)(h2:x.flds.length<=fc1/\fc1<=maxLen)(hy:PicAt w y vs2 fs2)(h3:y.vars.length<=vc2/\vc2<=maxLen)(h4:y.flds.length<=fc2/\fc2<=maxLen)(h:aq V F c [x,y]=0)(hn:x.none=true\/y.none=true):
  Calls pG 71 #[pv V F s c cap,xv x vs1 vc1 fs1 fc1,xv y vs2 vc2 fs2 fc2] w λe w'=>e=Rt (Tu #[Bb (aH x y),I Y 0])/\Below w.heap.size w w':=by
 have B0:Below w.heap.size w (((w.alloc (Cc #[I Y V,I Y F,U s c.length cap] 24)).alloc (Cc #[Bb x.none,U vs1 x.vars.length vc1,U fs1 x.flds.length fc1] 28)).alloc (Cc #[Bb y.none,U vs2 y.vars.length vc2,U fs2 y.flds.length fc2] 28)):=by go_grown
 have P0:=(PrAt.new w V F s c cap).call (w':=(((w.alloc (Cc #[I Y V,I Y F,U s c.length cap] 24)).alloc (Cc #[Bb x.none,U vs1 x.vars.length vc1,U fs1 x.flds.length fc1] 28)).alloc (Cc #[Bb y.none,U vs2 y.vars.length vc2,U fs2 y.flds.length fc2] 28))) (by go_grown);have X0:=(XAt.new (w.alloc (Cc #[I Y V,I Y F,U s c.length cap] 24)) x vs1 vc1 fs1 fc1).call (w':=(((w.alloc (Cc #[I Y V,I Y F,U s c.length cap] 24)).alloc (Cc #[Bb x.none,U vs1 x.vars.length vc1,U fs1 x.flds.length fc1] 28)).alloc (Cc #[Bb y.none,U vs2 y.vars.length vc2,U fs2 y.flds.length fc2] 28))) (by go_grown);have Y0:=XAt.new ((w.alloc (Cc #[I Y V,I Y F,U s c.length cap] 24)).alloc (Cc #[Bb x.none,U vs1 x.vars.length vc1,U fs1 x.flds.length fc1] 28)) y vs2 vc2 fs2 fc2;rw[zA] at X0;rw[zA,zA] at Y0;have C0:=hcd.below B0 (lR _);have PX:=hx.below B0 (lR _);have PY:=hy.below B0 (lR _);have HC:=aa (dA V F s c cap (sO ⟨(((w.alloc (Cc #[I Y V,I Y F,U s c.length cap] 24)).alloc (Cc #[Bb x.none,U vs1 x.vars.length vc1,U fs1 x.flds.length fc1] 28)).alloc (Cc #[Bb y.none,U vs2 y.vars.length vc2,U fs2 y.flds.length fc2] 28)).heap.size,0,nO⟩) [x,y] 2 ((((w.alloc (Cc #[I Y V,I Y F,U s c.length cap] 24)).alloc (Cc #[Bb x.none,U vs1 x.vars.length vc1,U fs1 x.flds.length fc1] 28)).alloc (Cc #[Bb y.none,U vs2 y.vars.length vc2,U fs2 y.flds.length fc2] 28)).alloc (Cc #[Bb x.none,U vs1 x.vars.length vc1,U fs1 x.flds.length fc1,Bb y.none,U vs2 y.vars.length vc2,U fs2 y.flds.length fc2] 28)) (C0.call (by go_grown)) (XsAt.new2 (((w.alloc (Cc #[I Y V,I Y F,U s c.length cap] 24)).alloc (Cc #[Bb x.none,U vs1 x.vars.length vc1,U fs1 x.flds.length fc1] 28)).alloc (Cc #[Bb y.none,U vs2 y.vars.length vc2,U fs2 y.flds.length fc2] 28)) x vs1 vc1 fs1 fc1 y vs2 vc2 fs2 fc2 PX h1 h2 PY h3 h4) (by simp));have hbz:Below (((w.alloc (Cc #[I Y V,I Y F,U s c.length cap] 24)).alloc (Cc #[Bb x.none,U vs1 x.vars.length vc1,U fs1 x.flds.length fc1] 28)).alloc (Cc #[Bb y.none,U vs2 y.vars.length vc2,U fs2 y.flds.length fc2] 28)).heap.size (((w.alloc (Cc #[I Y V,I Y F,U s c.length cap] 24)).alloc (Cc #[Bb x.none,U vs1 x.vars.length vc1,U fs1 x.flds.length fc1] 28)).alloc (Cc #[Bb y.none,U vs2 y.vars.length vc2,U fs2 y.flds.length fc2] 28)) ((((w.alloc (Cc #[I Y V,I Y F,U s c.length cap] 24)).alloc (Cc #[Bb x.none,U vs1 x.vars.length vc1,U fs1 x.flds.length fc1] 28)).alloc (Cc #[Bb y.none,U vs2 y.vars.length vc2,U fs2 y.flds.length fc2] 28)).alloc (Cc #[Bb x.none,U vs1 x.vars.length vc1,U fs1 x.flds.length fc1,Bb y.none,U vs2 y.vars.length vc2,U fs2 y.flds.length fc2] 28)):=by go_grown
 have e3:(((w.alloc (Cc #[I Y V,I Y F,U s c.length cap] 24)).alloc (Cc #[Bb x.none,U vs1 x.vars.length vc1,U fs1 x.flds.length fc1] 28)).alloc (Cc #[Bb y.none,U vs2 y.vars.length vc2,U fs2 y.flds.length fc2] 28)).heap.size=w.heap.size+1+1+1:=by simp
 have HB:=aa hbz;have er:aH x y=x.none:=by
  unfold aH;rcases hn with hn|hn
  ·rw[hn];rfl
  ·rw[hn];cases x.none<;>rfl
 rw[er];rw[h,e3] at HC;clear er h hx hy hcd PX PY P0 C0 hbz e3;go_enter Tryz.func71,Tryz.ntmps71;go_wp2_with (go_at_call 43;fail);refine HC.out.mono ?_;rintro e w1 ⟨rfl,hb1⟩;have hb01:Below (((w.alloc (Cc #[I Y V,I Y F,U s c.length cap] 24)).alloc (Cc #[Bb x.none,U vs1 x.vars.length vc1,U fs1 x.flds.length fc1] 28)).alloc (Cc #[Bb y.none,U vs2 y.vars.length vc2,U fs2 y.flds.length fc2] 28)).heap.size (((w.alloc (Cc #[I Y V,I Y F,U s c.length cap] 24)).alloc (Cc #[Bb x.none,U vs1 x.vars.length vc1,U fs1 x.flds.length fc1] 28)).alloc (Cc #[Bb y.none,U vs2 y.vars.length vc2,U fs2 y.flds.length fc2] 28)) w1:=HB.out.trans (hb1.mono (by first|exact HB.out.size|(simp;omega)|omega));obtain⟨⟨a0,a1,a2⟩,az,-⟩:=id (X0.call hb01);obtain⟨⟨b0,b1,b2⟩,bz,-⟩:=id (Y0.call hb01);have B1:=B0.trans (hb01.mono B0.size);clear X0 Y0 HB hb1 hb01 B0;obtain⟨xn,vx,fx⟩:=x;obtain⟨yn,vy,fy⟩:=y;simp only at a0 a1 a2 b0 b1 b2 hn;cases xn with
 |true=>
  go_wp2;refine bodyPost_ret (v:=Tu #[Bb true,I Y 0]) (by simp[results,Tryz.results71,go_sem]) rfl ⟨rfl,B1⟩
 |false=>
  have hy:yn=true:=by simpa using hn
  subst hy;go_wp2;refine bodyPost_ret (v:=Tu #[Bb false,I Y 0]) (by simp[results,Tryz.results71,go_sem]) rfl ⟨rfl,B1⟩
theorem sK (V F:Int)(s:oA)(c:List Ins)(cap:Nat)(x:Pic)(vs1:oA)(vc1:Nat)(fs1:oA)(fc1:Nat)(y:Pic)(vs2:oA)(vc2:Nat)(fs2:oA)(fc2:Nat)(w:World)(hcd:CodeAt w s c)(hx:PicAt w x vs1 fs1)(h1:x.vars.length<=vc1/\vc1<=maxLen)(h2:x.flds.length<=fc1/\fc1<=maxLen)(hy:PicAt w y vs2 fs2)(h3:y.vars.length<=vc2/\vc2<=maxLen)(h4:y.flds.length<=fc2/\fc2<=maxLen)(h:aq V F c [x,y]=0)(h0:ag V F c=0)(hcx:an V F c x=0)(hcy:an V F c y=0)(hn:x.none=false)(hm:y.none=false):
  Calls pG 71 #[pv V F s c cap,xv x vs1 vc1 fs1 fc1,xv y vs2 vc2 fs2 fc2] w λe w'=>e=Rt (Tu #[Bb (aH x y),I Y 0])/\Below w.heap.size w w':=by
 have B0:Below w.heap.size w (((w.alloc (Cc #[I Y V,I Y F,U s c.length cap] 24)).alloc (Cc #[Bb x.none,U vs1 x.vars.length vc1,U fs1 x.flds.length fc1] 28)).alloc (Cc #[Bb y.none,U vs2 y.vars.length vc2,U fs2 y.flds.length fc2] 28)):=by go_grown
 have P0:=(PrAt.new w V F s c cap).call (w':=(((w.alloc (Cc #[I Y V,I Y F,U s c.length cap] 24)).alloc (Cc #[Bb x.none,U vs1 x.vars.length vc1,U fs1 x.flds.length fc1] 28)).alloc (Cc #[Bb y.none,U vs2 y.vars.length vc2,U fs2 y.flds.length fc2] 28))) (by go_grown);have X0:=(XAt.new (w.alloc (Cc #[I Y V,I Y F,U s c.length cap] 24)) x vs1 vc1 fs1 fc1).call (w':=(((w.alloc (Cc #[I Y V,I Y F,U s c.length cap] 24)).alloc (Cc #[Bb x.none,U vs1 x.vars.length vc1,U fs1 x.flds.length fc1] 28)).alloc (Cc #[Bb y.none,U vs2 y.vars.length vc2,U fs2 y.flds.length fc2] 28))) (by go_grown);have Y0:=XAt.new ((w.alloc (Cc #[I Y V,I Y F,U s c.length cap] 24)).alloc (Cc #[Bb x.none,U vs1 x.vars.length vc1,U fs1 x.flds.length fc1] 28)) y vs2 vc2 fs2 fc2;rw[zA] at X0;rw[zA,zA] at Y0;have C0:=hcd.below B0 (lR _);have PX:=hx.below B0 (lR _);have PY:=hy.below B0 (lR _);have HC:=aa (dA V F s c cap (sO ⟨(((w.alloc (Cc #[I Y V,I Y F,U s c.length cap] 24)).alloc (Cc #[Bb x.none,U vs1 x.vars.length vc1,U fs1 x.flds.length fc1] 28)).alloc (Cc #[Bb y.none,U vs2 y.vars.length vc2,U fs2 y.flds.length fc2] 28)).heap.size,0,nO⟩) [x,y] 2 ((((w.alloc (Cc #[I Y V,I Y F,U s c.length cap] 24)).alloc (Cc #[Bb x.none,U vs1 x.vars.length vc1,U fs1 x.flds.length fc1] 28)).alloc (Cc #[Bb y.none,U vs2 y.vars.length vc2,U fs2 y.flds.length fc2] 28)).alloc (Cc #[Bb x.none,U vs1 x.vars.length vc1,U fs1 x.flds.length fc1,Bb y.none,U vs2 y.vars.length vc2,U fs2 y.flds.length fc2] 28)) (C0.call (by go_grown)) (XsAt.new2 (((w.alloc (Cc #[I Y V,I Y F,U s c.length cap] 24)).alloc (Cc #[Bb x.none,U vs1 x.vars.length vc1,U fs1 x.flds.length fc1] 28)).alloc (Cc #[Bb y.none,U vs2 y.vars.length vc2,U fs2 y.flds.length fc2] 28)) x vs1 vc1 fs1 fc1 y vs2 vc2 fs2 fc2 PX h1 h2 PY h3 h4) (by simp));have hbz:Below (((w.alloc (Cc #[I Y V,I Y F,U s c.length cap] 24)).alloc (Cc #[Bb x.none,U vs1 x.vars.length vc1,U fs1 x.flds.length fc1] 28)).alloc (Cc #[Bb y.none,U vs2 y.vars.length vc2,U fs2 y.flds.length fc2] 28)).heap.size (((w.alloc (Cc #[I Y V,I Y F,U s c.length cap] 24)).alloc (Cc #[Bb x.none,U vs1 x.vars.length vc1,U fs1 x.flds.length fc1] 28)).alloc (Cc #[Bb y.none,U vs2 y.vars.length vc2,U fs2 y.flds.length fc2] 28)) ((((w.alloc (Cc #[I Y V,I Y F,U s c.length cap] 24)).alloc (Cc #[Bb x.none,U vs1 x.vars.length vc1,U fs1 x.flds.length fc1] 28)).alloc (Cc #[Bb y.none,U vs2 y.vars.length vc2,U fs2 y.flds.length fc2] 28)).alloc (Cc #[Bb x.none,U vs1 x.vars.length vc1,U fs1 x.flds.length fc1,Bb y.none,U vs2 y.vars.length vc2,U fs2 y.flds.length fc2] 28)):=by go_grown
 have e3:(((w.alloc (Cc #[I Y V,I Y F,U s c.length cap] 24)).alloc (Cc #[Bb x.none,U vs1 x.vars.length vc1,U fs1 x.flds.length fc1] 28)).alloc (Cc #[Bb y.none,U vs2 y.vars.length vc2,U fs2 y.flds.length fc2] 28)).heap.size=w.heap.size+1+1+1:=by simp
 have HB:=aa hbz;obtain⟨ei,el,rx,ry⟩:=vY hcx hcy hn hm;have hfx:bh V F c x=true:=by
  unfold an at hcx;split at hcx
  ·cases hcx
  ·rename_i hq;simpa using hq
 have hfy:bh V F c y=true:=by
  unfold an at hcy;split at hcy
  ·cases hcy
  ·rename_i hq;simpa using hq
 obtain⟨lx,lx'⟩:=gj h0 hfx;obtain⟨ly,ly'⟩:=gj h0 hfy;obtain⟨-,-,h60⟩:=bq h0;have HAX:Hid (∀wx,PicAt wx x vs1 fs1->Calls pG 102 #[xv x vs1 vc1 fs1 fc1] wx λe w'=>nk w' e (bu x)/\Below wx.heap.size wx w'):=λwx hx=>mZ x vs1 vc1 fs1 fc1 wx hx h1.1 h1.2 (by omega) lx;have HAY:Hid (∀wx,PicAt wx y vs2 fs2->Calls pG 102 #[xv y vs2 vc2 fs2 fc2] wx λe w'=>nk w' e (bu y)/\Below wx.heap.size wx w'):=λwx hx=>mZ y vs2 vc2 fs2 fc2 wx hx h3.1 h3.2 (by omega) ly;have HW:Hid (∀(g:Gs) (ss:oA) (gc:Nat) (h:Gs) (st:oA) (hc:Nat) (wx:World),CodeAt wx s c->IntsAt wx ss g.s->g.s.length<=gc->gc<=maxLen->IntsAt wx st h.s->h.s.length<=hc->hc<=maxLen->ap c g=0->ap c h=0->Calls pG 103 #[pv V F s c cap,gv g ss gc,gv h st hc] wx λe w'=>e=Rt (Bb (bT g h))/\Below wx.heap.size wx w'):=λg ss gc h st hc wx a1 a2 a3 a4 a5 a6 a7 a8 a9=>sx V F s c cap g ss gc h st hc wx a1 a2 a3 a4 a5 a6 a7 h0 a8 a9;rw[<-ei];obtain⟨ax,eax⟩:∃ax,ax=bu x:=⟨_,rfl⟩;obtain⟨ay,eay⟩:∃ay,ay=bu y:=⟨_,rfl⟩;rw[<-eax] at HAX rx el lx |-;rw[<-eay] at HAY ry el ly |-;obtain⟨res,HR,hres⟩:∃r,Hid (r=cN ax ay)/\cN ax ay=r:=⟨_,rfl,rfl⟩;rw[hres];have HNN:=aa hn;have HMM:=aa hm;have EL:=aa el;have RX:=aa rx;have RY:=aa ry;rw[h,e3] at HC;clear hn hm h ei el rx ry eax eay hres hcx hcy hfx hfy lx' ly' h0 hx hy hcd hbz e3;go_enter Tryz.func71,Tryz.ntmps71;go_wp2_with (go_at_call 43;fail);refine HC.out.mono ?_;rintro e w1 ⟨rfl,hb1⟩;have hb01:Below (((w.alloc (Cc #[I Y V,I Y F,U s c.length cap] 24)).alloc (Cc #[Bb x.none,U vs1 x.vars.length vc1,U fs1 x.flds.length fc1] 28)).alloc (Cc #[Bb y.none,U vs2 y.vars.length vc2,U fs2 y.flds.length fc2] 28)).heap.size (((w.alloc (Cc #[I Y V,I Y F,U s c.length cap] 24)).alloc (Cc #[Bb x.none,U vs1 x.vars.length vc1,U fs1 x.flds.length fc1] 28)).alloc (Cc #[Bb y.none,U vs2 y.vars.length vc2,U fs2 y.flds.length fc2] 28)) w1:=HB.out.trans (hb1.mono (by first|exact HB.out.size|(simp;omega)|omega));have X1:=X0.call hb01;have Y1:=Y0.call hb01;have P1:=P0.call hb01;have C1:=C0.call hb01;have QX:=PX.call hb01;have QY:=PY.call hb01;have B1:=B0.trans (hb01.mono B0.size);clear X0 Y0 P0 C0 PX PY HB hb1 hb01 B0 HC;have hn:=HNN.out;have hm:=HMM.out;clear HNN HMM;obtain⟨xn,vx,fx⟩:=x;obtain⟨yn,vy,fy⟩:=y;simp only at hn hm;subst hn hm;obtain⟨⟨a0,a1,a2⟩,az,-⟩:=id X1;obtain⟨⟨b0,b1,b2⟩,bz,-⟩:=id Y1;go_wp2_with (go_at_call 102;fail);refine(HAY.out _ QY).mono ?_;rintro e w2 ⟨⟨rs2,rc2,rfl,GY,ky1,ky2⟩,hb2⟩;clear a0 a1 a2 az b0 b1 b2 bz;obtain⟨⟨a0,a1,a2⟩,az,-⟩:=id (X1.call hb2);go_wp2_with (go_at_call 102;fail);refine(HAX.out _ (QX.call hb2)).mono ?_;rintro e w3 ⟨⟨rs1,rc1,rfl,GX,kx1,kx2⟩,hb3⟩;clear a0 a1 a2 az HAX HAY;have hb13:=hb2.trans (hb3.mono hb2.size);have P3:=P1.call hb13;have C4:=C1.call hb13;have GY3:=GY.call hb3;have B3:=B1.trans (hb13.mono B1.size);clear P1 C1 X1 Y1 QX QY GY hb2 hb3 hb13 B1;go_wp2;go_loopw [33] (λi wr=>∃k:Nat,k<=ax.length/\i=I Y k/\Below w3.heap.size w3 wr/\Hid (res=cN (ax.drop k) (ay.drop k))) (λi _=>ax.length - (intOf i).toNat)
 case atStart=>exact⟨0,j1 _,rfl,bR _ _,HR⟩
 case round=>
  obtain⟨k,hk,rfl,hbr,HK⟩:=hrel;by_cases hlt:k < ax.length
  ·have n0:(0:Int)<=(k:Int):=by omega
   have n1:(k:Int) < (ax.length:Int):=by omega
   have hlt':k < ay.length:=by have:=EL.out;omega
   have n2:(k:Int) < (ay.length:Int):=by omega
   obtain⟨b1,o1,e1,ss1,g1,G1,I1,k1,m1⟩:=(GX.below hbr (lR _)) k hlt;obtain⟨b2,o2,e2,ss2,g2,G2,J1,k2,m2⟩:=(GY3.below hbr (lR _)) k hlt';subst e1 e2;have hRx:=RX.out _ (gM hlt);have hRy:=RY.out _ (gM hlt');have HS:=aa (ke ax ay k hlt hlt');obtain⟨⟨q0,q1,q2,q3,q4,q5,q6⟩,qz⟩:=id G1;have Q4:=GuAt.new wr ax[k] ss1 g1;have hb4:Below wr.heap.size wr (wr.alloc (Cc #[Bb ax[k].n,Bb ax[k].sp.n,I Y ax[k].sp.lo,I Y ax[k].sp.hi,Bb ax[k].t,Bb ax[k].f,U ss1 ax[k].s.length g1] 61)):=by go_grown
   have I4:=I1.call hb4;have J4:=J1.call hb4;have G4:=G2.call hb4;have hb34:=hbr.trans (hb4.mono hbr.size)
   go_upto_region 10 with fail
   generalize wr.alloc (Cc #[Bb ax[k].n,Bb ax[k].sp.n,I Y ax[k].sp.lo,I Y ax[k].sp.hi,Bb ax[k].t,Bb ax[k].f,U ss1 ax[k].s.length g1] 61)=w4 at *;generalize wr.heap.size=qb at *;clear q0 q1 q2 q3 q4 q5 q6 qz G1 G2 I1 J1;have HKZ:Hid (∀wx,Below w4.heap.size w4 wx->(wx.cell? ⟨w.heap.size,0,nO⟩=sO (I Y V)/\wx.cell? ⟨w.heap.size,1,nO⟩=sO (I Y F)/\wx.cell? ⟨w.heap.size,2,nO⟩=sO (U s c.length cap))/\(wx.cell? ⟨qb,0,nO⟩=sO (Bb ax[k].n)/\wx.cell? ⟨qb,0+1,nO⟩=sO (Bb ax[k].sp.n)/\wx.cell? ⟨qb,0+2,nO⟩=sO (I Y ax[k].sp.lo)/\wx.cell? ⟨qb,0+3,nO⟩=sO (I Y ax[k].sp.hi)/\wx.cell? ⟨qb,0+4,nO⟩=sO (Bb ax[k].t)/\wx.cell? ⟨qb,0+5,nO⟩=sO (Bb ax[k].f)/\wx.cell? ⟨qb,0+6,nO⟩=sO (U ss1 ax[k].s.length g1))/\(wx.cell? ⟨b2,o2+k * 7,nO⟩=sO (Bb ay[k].n)/\wx.cell? ⟨b2,o2+k * 7+1,nO⟩=sO (Bb ay[k].sp.n)/\wx.cell? ⟨b2,o2+k * 7+2,nO⟩=sO (I Y ay[k].sp.lo)/\wx.cell? ⟨b2,o2+k * 7+3,nO⟩=sO (I Y ay[k].sp.hi)/\wx.cell? ⟨b2,o2+k * 7+4,nO⟩=sO (Bb ay[k].t)/\wx.cell? ⟨b2,o2+k * 7+5,nO⟩=sO (Bb ay[k].f)/\wx.cell? ⟨b2,o2+k * 7+6,nO⟩=sO (U ss2 ay[k].s.length g2))):=λwx hx=>⟨((P3.call hb34).call hx).1,(Q4.call hx).1,(G4.call hx).1⟩;have HD:Below w4.heap.size w4 w4.drew:=(bR _ _).drew;refine am (S:=(λwx=>(wx.cell? ⟨w.heap.size,0,nO⟩=sO (I Y V)/\wx.cell? ⟨w.heap.size,1,nO⟩=sO (I Y F)/\wx.cell? ⟨w.heap.size,2,nO⟩=sO (U s c.length cap))/\(wx.cell? ⟨qb,0,nO⟩=sO (Bb ax[k].n)/\wx.cell? ⟨qb,0+1,nO⟩=sO (Bb ax[k].sp.n)/\wx.cell? ⟨qb,0+2,nO⟩=sO (I Y ax[k].sp.lo)/\wx.cell? ⟨qb,0+3,nO⟩=sO (I Y ax[k].sp.hi)/\wx.cell? ⟨qb,0+4,nO⟩=sO (Bb ax[k].t)/\wx.cell? ⟨qb,0+5,nO⟩=sO (Bb ax[k].f)/\wx.cell? ⟨qb,0+6,nO⟩=sO (U ss1 ax[k].s.length g1))/\(wx.cell? ⟨b2,o2+k * 7,nO⟩=sO (Bb ay[k].n)/\wx.cell? ⟨b2,o2+k * 7+1,nO⟩=sO (Bb ay[k].sp.n)/\wx.cell? ⟨b2,o2+k * 7+2,nO⟩=sO (I Y ay[k].sp.lo)/\wx.cell? ⟨b2,o2+k * 7+3,nO⟩=sO (I Y ay[k].sp.hi)/\wx.cell? ⟨b2,o2+k * 7+4,nO⟩=sO (Bb ay[k].t)/\wx.cell? ⟨b2,o2+k * 7+5,nO⟩=sO (Bb ay[k].f)/\wx.cell? ⟨b2,o2+k * 7+6,nO⟩=sO (U ss2 ay[k].s.length g2)))) [] (by kernel_rfl) (HKZ.out _ HD) (λhHeld=> ?_);refine vZ 0 ?_ ?_;refine vZ 1 ?_ ?_;refine vZ 2 ?_ ?_;refine vZ 3 ?_ ?_;refine vZ 4 ?_ ?_;refine vZ 5 ?_ ?_;refine ai (i:=6) rfl (by kernel_rfl) (λK hK=> ?_);go_simp;go_at_call 103;refine(HW.out ax[k] ss1 g1 ay[k] ss2 g2 _ (C4.call (hb34.trans (HD.mono hb34.size))) (I4.call HD) k1 m1 (J4.call HD) k2 m2 hRx hRy).mono ?_;rintro e w5 ⟨rfl,hb5⟩;have HB5:Below w4.heap.size w4 w5:=HD.trans (hb5.mono HD.size);go_wp2_with fail;refine hK.out _ _ (HKZ.out _ HB5) (λhHeld=> ?_);clear hK K;refine sm ?_;refine vZ 7 ?_ ?_;refine aj (by kernel_rfl) ?_ _;have hb35:=hb34.trans (HB5.mono hb34.size);rcases (show bT ax[k] ay[k]=false\/bT ax[k] ay[k]=true by cases bT ax[k] ay[k]<;>simp) with hs|hs<;>have HSG:=aa hs<;>rw[hs]<;>clear hs
   ·go_wp2
    refine bodyPost_ret (v:=Tu #[Bb false,I Y 0]) (by simp[results,Tryz.results71,go_sem]) rfl ⟨?_,B3.trans (hb35.mono B3.size)⟩;rw[HK.out,HS.out,HSG.out];rfl
   ·go_wp2
    go_roundw
    case rel=>exact⟨k+1,by omega,by go_num,hb35,by show _=_;rw[HK.out,HS.out,HSG.out];rfl⟩
    case measure=>simp[intOf];omega
  ·have n1:¬(k:Int) < (ax.length:Int):=by omega
   go_wp2;refine bodyPost_ret (v:=Tu #[Bb true,I Y 0]) (by simp[results,Tryz.results71,go_sem]) rfl ⟨?_,B3.trans (hbr.mono B3.size)⟩;rw[HK.out,j4 (by omega)];rfl

theorem Bp (V F:Int)(s:oA)(c:List Ins)(cap:Nat)(x:Pic)(vs1:oA)(vc1:Nat)(fs1:oA)(fc1:Nat)(y:Pic)(vs2:oA)(vc2:Nat)(fs2:oA)(fc2:Nat)(w:World)(hcd:CodeAt w s c)(hx:PicAt w x vs1 fs1)(h1:x.vars.length<=vc1/\vc1<=maxLen)(h2:x.flds.length<=fc1/\fc1<=maxLen)(hy:PicAt w y vs2 fs2)(h3:y.vars.length<=vc2/\vc2<=maxLen)(h4:y.flds.length<=fc2/\fc2<=maxLen):
  Calls pG 71 #[pv V F s c cap,xv x vs1 vc1 fs1 fc1,xv y vs2 vc2 fs2 fc2] w λe w'=>e=Rt (Tu #[Bb (if aq V F c [x,y]=0 then aH x y else false),I Y (aq V F c [x,y])])/\Below w.heap.size w w':=by
 by_cases h:aq V F c [x,y]=0
 ·rw[h,if_pos rfl]
  have h0:ag V F c=0:=by
   unfold aq at h;split at h
   ·assumption
   ·exact h
  have hl:bx V F c [x,y]=0:=by
   unfold aq at h;rw[if_pos h0] at h;exact h
  have hcx:an V F c x=0:=by
   unfold bx at hl;split at hl
   ·assumption
   ·exact hl
  have hcy:an V F c y=0:=by
   unfold bx at hl;rw[if_pos hcx] at hl;unfold bx at hl;split at hl
   ·assumption
   ·exact hl
  by_cases hn:x.none=true\/y.none=true
  ·exact sY V F s c cap x vs1 vc1 fs1 fc1 y vs2 vc2 fs2 fc2 w hcd hx h1 h2 hy h3 h4 h hn
  ·exact sK V F s c cap x vs1 vc1 fs1 fc1 y vs2 vc2 fs2 fc2 w hcd hx h1 h2 hy h3 h4 h h0 hcx hcy (by cases hq:x.none<;>simp_all) (by cases hq:y.none<;>simp_all)
 ·rw[if_neg h]
  exact uk V F s c cap x vs1 vc1 fs1 fc1 y vs2 vc2 fs2 fc2 w hcd hx h1 h2 hy h3 h4 h
theorem gh (V F:Int)(s:oA)(c:List Ins)(cap:Nat)(x:Pic)(vs1:oA)(vc1:Nat)(fs1:oA)(fc1:Nat)(y:Pic)(vs2:oA)(vc2:Nat)(fs2:oA)(fc2:Nat)(w:World)(hcd:CodeAt w s c)(hx:PicAt w x vs1 fs1)(h1:x.vars.length<=vc1/\vc1<=maxLen)(h2:x.flds.length<=fc1/\fc1<=maxLen)(hy:PicAt w y vs2 fs2)(h3:y.vars.length<=vc2/\vc2<=maxLen)(h4:y.flds.length<=fc2/\fc2<=maxLen):
  Calls pG 35 #[pv V F s c cap,xv x vs1 vc1 fs1 fc1,xv y vs2 vc2 fs2 fc2] w λe w'=>e=Rt (Bb (if aq V F c [x,y]=0 then aH x y else false))/\Below w.heap.size w w':=by
 have B0:Below w.heap.size w (((w.alloc (Cc #[I Y V,I Y F,U s c.length cap] 24)).alloc (Cc #[Bb x.none,U vs1 x.vars.length vc1,U fs1 x.flds.length fc1] 28)).alloc (Cc #[Bb y.none,U vs2 y.vars.length vc2,U fs2 y.flds.length fc2] 28)):=by go_grown
 have HW:=aa (Bp V F s c cap x vs1 vc1 fs1 fc1 y vs2 vc2 fs2 fc2 (((w.alloc (Cc #[I Y V,I Y F,U s c.length cap] 24)).alloc (Cc #[Bb x.none,U vs1 x.vars.length vc1,U fs1 x.flds.length fc1] 28)).alloc (Cc #[Bb y.none,U vs2 y.vars.length vc2,U fs2 y.flds.length fc2] 28)) (hcd.below B0 (lR _)) (hx.below B0 (lR _)) h1 h2 (hy.below B0 (lR _)) h3 h4);clear hcd hx hy h1 h2 h3 h4;generalize (if aq V F c [x,y]=0 then aH x y else false)=r at *;go_enter Tryz.func35,Tryz.ntmps35;go_wp2_with (go_at_call 71;fail);refine HW.out.mono ?_;rintro e w1 ⟨rfl,hb1⟩;go_wp2;go_ret;exact⟨rfl,B0.trans (hb1.mono B0.size)⟩
def di (V F:Int)(c:List Ins):List Pic->Int
 |[]=>0
 |x::r=>if aq V F c [x]=0 then di V F c r else aq V F c [x]
theorem ut {V F:Int}{c:List Ins}{L:List Pic}{k:Nat}(h:k < L.length):di V F c (L.drop k)=if aq V F c [L[k]]=0 then di V F c (L.drop (k+1)) else aq V F c [L[k]]:=by
 rw[List.drop_eq_getElem_cons h];rfl
theorem rO (V F:Int)(s:oA)(c:List Ins)(cap:Nat)(ls:oA)(L:List Pic)(lc:Nat)(w:World)(hc:CodeAt w s c)(hL:XsAt w ls L)(hl:L.length<=maxLen)(hcl:c.length<=60):
  Calls pG 34 #[pv V F s c cap,U ls L.length lc] w λe w'=>e=Rt (I Y (if L.length=c.length+1 then di V F c L else 1))/\Below w.heap.size w w':=by
 have hm:maxLen<=9223372036854775807:=by decide
 have P0:=PrAt.new w V F s c cap;have B0:Below w.heap.size w (w.alloc (Cc #[I Y V,I Y F,U s c.length cap] 24)):=by go_grown
 have HCK:Hid (∀wx x vs vc fs fc,CodeAt wx s c->PicAt wx x vs fs->x.vars.length<=vc/\vc<=maxLen->x.flds.length<=fc/\fc<=maxLen->Calls pG 17 #[pv V F s c cap,xv x vs vc fs fc] wx λe w'=>e=Rt (I Y (aq V F c [x]))/\Below wx.heap.size wx w'):=λwx x vs vc fs fc q1 q2 q3 q4=>fG V F s c cap x vs vc fs fc wx q1 q2 q3 q4;have C0:=hc.below B0 (lR _);have X0:=hL.below B0 (lR _);clear hc hL;obtain⟨⟨p0,p1,p2⟩,pz⟩:=id P0;by_cases hn:L.length=c.length+1;rotate_left
 ·have e1:((L.length:Int)!=(c.length:Int)+1)=true:=by simpa using λh=>hn (by omega)
  rw[if_neg hn];clear hn;have w1:IntKind.i64.wrap ((c.length:Int)+1)=(c.length:Int)+1:=by rw[IntKind.wrap_i64];omega
  go_enter Tryz.func34,Tryz.ntmps34;go_wp2;go_ret;exact⟨rfl,B0⟩
 have e1:((L.length:Int)!=(c.length:Int)+1)=false:=by rw[hn];simp
 rw[if_pos hn];have HN:=aa hn;clear hn;have w1:IntKind.i64.wrap ((c.length:Int)+1)=(c.length:Int)+1:=by rw[IntKind.wrap_i64];omega
 go_enter Tryz.func34,Tryz.ntmps34
 go_upto_region 1 with fail
 generalize w.alloc (Cc #[I Y V,I Y F,U s c.length cap] 24)=w0 at *;go_wp2;clear p0 p1 p2 pz e1;go_loopw [17] (λi wr=>∃k:Nat,k<=L.length/\i=I Y k/\Hid (di V F c (L.drop k)=di V F c L)/\Below w0.heap.size w0 wr) (λi _=>L.length - (intOf i).toNat)
 case atStart=>exact⟨0,j1 _,rfl,rfl,bR _ _⟩
 case round=>
  obtain⟨k,hk,rfl,HE,hbr⟩:=hrel;have P1:=P0.call hbr;have C1:=C0.call hbr;by_cases hlt:k < L.length
  ·have n0:(0:Int)<=(k:Int):=by omega
   have n1:(k:Int) < (L.length:Int):=by omega
   obtain⟨b,off,rfl,zb,vs,vc,fs,fc,⟨q0,q1,q2⟩,hP,hQ1,hQ2⟩:=X0.below hbr (lR _) k hlt;have hba:Below wr.heap.size wr (wr.alloc (Cc #[Bb L[k].none,U vs L[k].vars.length vc,U fs L[k].flds.length fc] 28)):=by go_grown
   obtain⟨⟨p0,p1,p2⟩,pz⟩:=id P1;go_wp2_with (go_at_call 17;fail);refine(HCK.out _ L[k] vs vc fs fc (C1.call hba) (hP.call hba) hQ1 hQ2).mono ?_;rintro e w2 ⟨rfl,hb2⟩;have hb3:=hba.trans (hb2.mono hba.size);have hb4:=hbr.trans (hb3.mono hbr.size);have hb5:=B0.trans (hb4.mono B0.size);have HD:=aa (ut (V:=V) (F:=F) (c:=c) hlt);generalize aq V F c [L[k]]=r at *;clear p0 p1 p2 pz q0 q1 q2 hP hba hb2 hb3;by_cases hr:r=0
   ·have f1:(r !=0)=false:=by simpa using hr
    have HR:=aa hr;clear hr;go_wp2;go_roundw
    case rel=>exact⟨k+1,by omega,by go_num,by show _=_;rw[<-HE.out,HD.out,if_pos HR.out],hb4⟩
    case measure=>simp[intOf];omega
   ·have f1:(r !=0)=true:=by simpa using hr
    have HR:=aa hr;clear hr;go_wp2;go_ret;exact⟨bd (by rw[<-HE.out,HD.out,if_neg HR.out]),hb5⟩
  ·have n1:¬(k:Int) < (L.length:Int):=by omega
   go_wp2;go_ret;exact⟨bd (by rw[<-HE.out,j4 (by omega)];rfl),B0.trans (hbr.mono B0.size)⟩
theorem mM:∀{l:List Int},bS l=true->l.Pairwise (· < ·)
 |[],_=>List.Pairwise.nil
 |[a],_=>List.pairwise_singleton _ _
 |a::b::r,h=>by
  unfold bS at h;simp only[Bool.and_eq_true,decide_eq_true_eq] at h;have ih:=mM h.2;rw[q8];refine⟨λx hx=> ?_,ih⟩;rw[q8] at ih;rcases List.mem_cons.1 hx with rfl|hx
  ·exact h.1
  ·have:=ih.1 x hx
   omega
theorem vp {c:List Ins}{g:Gs}(h60:c.length<=60)(h:ap c g=0):bW [g,g]=g.s:=by
 obtain⟨h1,h2⟩:=cj h60 h;rw[gH g g h1 h1];refine kC _ _ (kY _ _ _) (mM h2) λx=> ?_;rw[pk];constructor
 ·rintro ⟨-,h|h⟩<;>exact h
 ·intro hx
  exact⟨h1 x hx,.inl hx⟩
theorem sR {c:List Ins}{g:Gs}{op:Sp->Sp->Sp}(hop:∀s,op s s=s)(h60:c.length<=60)(h:ap c g=0):cy op g g=g:=by
 unfold cy;rw[vp h60 h,hop];simp
theorem ug (s:Sp):aT s s=s:=by
 obtain⟨n,lo,hi⟩:=s;unfold aT;cases n<;>simp
theorem tP (s:Sp):aV s s=s:=by
 obtain⟨n,lo,hi⟩:=s;unfold aV;cases n<;>simp
theorem rp {w w':World}{js:oA}{l:List Int}{N:Nat}(h:IntsAt w js l)(hf:∀a,js=sO a->N<=a.block)(hs:∀b,N<=b->w'.heap[b]? =w.heap[b]?)(hz:w.heap.size<=w'.heap.size):IntsAt w' js l:=by
 rcases h with h|⟨b,off,e,hb,hc⟩
 ·exact .inl h
 ·have hn:=hf _ e
  exact .inr ⟨b,off,e,lL hb hz,λk hk=>by rw[World.cell?_of_block (a:=⟨b,off+k,nO⟩) (hs b hn)];exact hc k hk⟩
theorem GuAt.put6 {w:World}{b:Nat}{g:Gs}{ss js:oA}{gc jc:Nat}(h:GuAt w b 0 g ss gc):GuAt (w.setCell ⟨b,6,nO⟩ (U js g.s.length jc)) b 0 g js jc:=by
 obtain⟨⟨h0,h1,h2,h3,h4,h5,h6⟩,hz⟩:=h;simp only[j0] at h0 h1 h2 h3 h4 h5 h6;have ne:∀i,i≠6->(w.setCell ⟨b,6,nO⟩ (U js g.s.length jc)).cell? ⟨b,i,nO⟩=w.cell? ⟨b,i,nO⟩:=λi hi=>World.cell?_setCell_other _ _ _ _ (by intro e;cases e;exact hi rfl);simp only[GuAt,j0];exact⟨⟨(ne _ (by omega)).trans h0,(ne _ (by omega)).trans h1,(ne _ (by omega)).trans h2,(ne _ (by omega)).trans h3,(ne _ (by omega)).trans h4,(ne _ (by omega)).trans h5,World.cell?_setCell_same _ _ _ h6⟩,by simpa[j5] using hz⟩
theorem wB (ss:oA)(cap:Nat)(l:List Int)(w:World)(hl:l.length<=1000000)(hs:IntsAt w ss l):
  Calls pG 125 #[U ss l.length cap] w λe w'=>(∃js jc,e=Rt (U js l.length jc)/\IntsAt w' js l/\l.length<=jc/\jc<=maxLen/\∀a,js=sO a->w.heap.size<=a.block)/\Below w.heap.size w w':=by
 have key:Calls pG 125 #[U ss l.length cap] w λe w'=>∃v,e=Rt v/\w'.ownsRow w.heap.size 3 1 v l.length (l.map (.int .i64))/\Below w.heap.size w w':=by
  cases ss with
  |none=>
   have h0:l=[]:=by
    rcases hs with h|⟨_,_,h,_⟩
    ·exact h
    ·cases h
   subst h0;refine(Tryz.slices_Clone_int_nil _ _ _).mono ?_;rintro e w' ⟨rfl,rfl⟩;exact⟨_,rfl,⟨rfl,.inl ⟨rfl,rfl⟩⟩,bR _ _⟩
  |some a=>
   by_cases h0:l=[]
   ·subst h0
    refine(Tryz.slices_Clone_int_zero a cap w).mono ?_;rintro e w' ⟨v,rfl,ho,-,hb⟩;exact⟨_,rfl,ho,hb⟩
   ·obtain⟨b,off,e,hb,hc⟩:=hs.get 0 (List.length_pos_iff.2 h0)
    cases e;refine(Tryz.slices_Clone_int b off l.length cap l w (lR _) (by omega) (λj hj=> ?_)).mono ?_
    ·rw[hc j hj]
     simp[List.getD,List.getElem?_eq_getElem hj]
    ·rintro e w' ⟨v,rfl,ho,-,hb'⟩
     rw[List.take_length] at ho;exact⟨_,rfl,ho,hb'⟩
 refine key.mono ?_;rintro e w' ⟨v,rfl,ho,hb⟩;obtain⟨js,jc,rfl,hi,k1,k2,hf⟩:=IntsAt.own ho;exact⟨⟨js,jc,rfl,hi,k1,k2,hf⟩,hb⟩
end
section
open Go.RowKit Go
attribute [local go_sem ↓] Go.wp_at_zero Go.wp_at_succ
theorem ph (fh:Nat)(jn:Gs->Gs->Gs)(hfh:∀args wx,Sem.run pG (callFunc fh args) wx=.ok (.enter fh args) wx)(V F:Int)(s:oA)(c:List Ins)(cap:Nat)(a b:List Gs)(ra:oA)(rac:Nat)(rb:oA)(rbc:Nat)(w:World)(hcd:CodeAt w s c)(ha:GsAt w ra a)(hb:GsAt w rb b)(hl:a.length=b.length)(hl8:a.length<=1000)(h0:ag V F c=0)(hga:∀g∈a,ap c g=0)(hgb:∀g∈b,ap c g=0)(hop:∀g,ap c g=0->jn g g=g)
  (hJ:∀(g:Gs) (ss:oA) (gc:Nat) (h:Gs) (st:oA) (hc:Nat) (wx:World),CodeAt wx s c->IntsAt wx ss g.s->g.s.length<=gc->gc<=maxLen->IntsAt wx st h.s->h.s.length<=hc->hc<=maxLen->ap c g=0->ap c h=0->Calls pG fh #[pv V F s c cap,gv g ss gc,gv h st hc] wx λe w'=>(∃js jc,e=Rt (Tu #[gv (jn g h) js jc,I Y 0])/\IntsAt w' js (jn g h).s/\(jn g h).s.length<=jc/\jc<=maxLen/\∀a,js=sO a->wx.heap.size<=a.block)/\Below wx.heap.size wx w'):
  Calls pG 140 #[pv V F s c cap,U ra a.length rac,U rb b.length rbc,.func (.func fh) #[] #[]] w λe w'=>wI w w' e (aE jn a b)/\Below w.heap.size w w':=by
 obtain⟨ti,hi,hz0,hz1,hz2⟩:=info_parts Tryz.info_guess;obtain⟨-,-,h60⟩:=bq h0;have B0:Below w.heap.size w (w.alloc (Cc #[I Y V,I Y F,U s c.length cap] 24)):=by go_grown
 have P0:=PrAt.new w V F s c cap;have z01:w.heap.size<=(w.alloc (Cc #[I Y V,I Y F,U s c.length cap] 24)).heap.size:=by simp
 have HL:=aa hl;have HGA:=aa hga;have HGB:=aa hgb;have HA:=aa ha;have HB:=aa hb;have HCD:=aa hcd;have HJ:=aa hJ;have H0:=aa h0;have HOP:=aa hop;clear hop;have HCL:=aa wB;clear hl hga hgb ha hb hcd hJ h0;go_enter Tryz.func140,Tryz.ntmps140
 go_upto_region 1 with fail
 generalize w.alloc (Cc #[I Y V,I Y F,U s c.length cap] 24)=w1 at *;go_wp2;go_loopw [9,14] (λv i wr=>∃(k:Nat) (rs:oA) (rc:Nat) (l:List Gc),k<=a.length/\i=I Y k/\v=U rs l.length rc/\Below w1.heap.size w1 wr/\SRow wr w1.heap.size (U rs l.length rc) l/\Hid (l.map Gc.g=aE jn (a.take k) (b.take k))) (λ_ i _=>a.length - (intOf i).toNat)
 case atStart=>exact⟨0,nO,0,[],j1 _,rfl,rfl,bR _ _,SRow.nil _ _,rfl⟩
 case round=>
  obtain⟨k,rs,rc,l,hk,rfl,rfl,hbr,SR,HE⟩:=hrel;have LL:Hid (l.length=k):=by
   show _=_;have h1:=congrArg List.length HE.out;have h2:=HL.out;unfold aE at h1;rw[List.length_map,List.length_zipWith,q9,q9] at h1;omega
  have LR:=B0.trans (hbr.mono B0.size);by_cases hlt:k < a.length
  ·have n0:(0:Int)<=(k:Int):=by omega
   have n1:(k:Int) < (a.length:Int):=by omega
   have hlt':k < b.length:=by have:=HL.out;omega
   have n2:(k:Int) < (b.length:Int):=by omega
   obtain⟨b1,o1,e1,ss1,g1,G1,I1,k1,m1⟩:=(HA.out.below LR (lR _)) k hlt;obtain⟨b2,o2,e2,ss2,g2,G2,J1,k2,m2⟩:=(HB.out.below LR (lR _)) k hlt';subst e1 e2;have zb2:b2 < w.heap.size:=iO HB.out k hlt';have hRa:=HGA.out _ (gM hlt);have hRb:=HGB.out _ (gM hlt');obtain⟨⟨q0,q1,q2,q3,q4,q5,q6⟩,qz⟩:=id G1;have Q4:=GuAt.new wr a[k] ss1 g1;have F4:∀j,(wr.alloc (Cc #[Bb a[k].n,Bb a[k].sp.n,I Y a[k].sp.lo,I Y a[k].sp.hi,Bb a[k].t,Bb a[k].f,U ss1 a[k].s.length g1] 61)).frozen? ⟨wr.heap.size,j,nO⟩=false:=λj=>by simp[go_sem]
   have hb4:Below wr.heap.size wr (wr.alloc (Cc #[Bb a[k].n,Bb a[k].sp.n,I Y a[k].sp.lo,I Y a[k].sp.hi,Bb a[k].t,Bb a[k].f,U ss1 a[k].s.length g1] 61)):=by go_grown
   have I4:=I1.call hb4;have J4:=J1.call hb4;have G4:=G2.call hb4;have hq:wr.heap.size < (wr.alloc (Cc #[Bb a[k].n,Bb a[k].sp.n,I Y a[k].sp.lo,I Y a[k].sp.hi,Bb a[k].t,Bb a[k].f,U ss1 a[k].s.length g1] 61)).heap.size:=by simp
   go_upto_region 5 with fail
   generalize wr.alloc (Cc #[Bb a[k].n,Bb a[k].sp.n,I Y a[k].sp.lo,I Y a[k].sp.hi,Bb a[k].t,Bb a[k].f,U ss1 a[k].s.length g1] 61)=w4 at *;have hqb:∃qb,qb=wr.heap.size:=⟨_,rfl⟩;obtain⟨qb,eqb⟩:=hqb;rw[<-eqb] at Q4 F4 hq |-;have EQB:=aa eqb;clear q0 q1 q2 q3 q4 q5 q6 qz G1 G2 I1 J1 eqb;have HKZ:Hid (∀wx,Below w4.heap.size w4 wx->(wx.cell? ⟨qb,0,nO⟩=sO (Bb a[k].n)/\wx.cell? ⟨qb,0+1,nO⟩=sO (Bb a[k].sp.n)/\wx.cell? ⟨qb,0+2,nO⟩=sO (I Y a[k].sp.lo)/\wx.cell? ⟨qb,0+3,nO⟩=sO (I Y a[k].sp.hi)/\wx.cell? ⟨qb,0+4,nO⟩=sO (Bb a[k].t)/\wx.cell? ⟨qb,0+5,nO⟩=sO (Bb a[k].f)/\wx.cell? ⟨qb,0+6,nO⟩=sO (U ss1 a[k].s.length g1))/\(wx.cell? ⟨b2,o2+k * 7,nO⟩=sO (Bb b[k].n)/\wx.cell? ⟨b2,o2+k * 7+1,nO⟩=sO (Bb b[k].sp.n)/\wx.cell? ⟨b2,o2+k * 7+2,nO⟩=sO (I Y b[k].sp.lo)/\wx.cell? ⟨b2,o2+k * 7+3,nO⟩=sO (I Y b[k].sp.hi)/\wx.cell? ⟨b2,o2+k * 7+4,nO⟩=sO (Bb b[k].t)/\wx.cell? ⟨b2,o2+k * 7+5,nO⟩=sO (Bb b[k].f)/\wx.cell? ⟨b2,o2+k * 7+6,nO⟩=sO (U ss2 b[k].s.length g2))):=λwx hx=>⟨(Q4.call hx).1,(G4.call hx).1⟩;have HD:Below w4.heap.size w4 w4.drew:=(bR _ _).drew;refine am (S:=(λwx=>(wx.cell? ⟨qb,0,nO⟩=sO (Bb a[k].n)/\wx.cell? ⟨qb,0+1,nO⟩=sO (Bb a[k].sp.n)/\wx.cell? ⟨qb,0+2,nO⟩=sO (I Y a[k].sp.lo)/\wx.cell? ⟨qb,0+3,nO⟩=sO (I Y a[k].sp.hi)/\wx.cell? ⟨qb,0+4,nO⟩=sO (Bb a[k].t)/\wx.cell? ⟨qb,0+5,nO⟩=sO (Bb a[k].f)/\wx.cell? ⟨qb,0+6,nO⟩=sO (U ss1 a[k].s.length g1))/\(wx.cell? ⟨b2,o2+k * 7,nO⟩=sO (Bb b[k].n)/\wx.cell? ⟨b2,o2+k * 7+1,nO⟩=sO (Bb b[k].sp.n)/\wx.cell? ⟨b2,o2+k * 7+2,nO⟩=sO (I Y b[k].sp.lo)/\wx.cell? ⟨b2,o2+k * 7+3,nO⟩=sO (I Y b[k].sp.hi)/\wx.cell? ⟨b2,o2+k * 7+4,nO⟩=sO (Bb b[k].t)/\wx.cell? ⟨b2,o2+k * 7+5,nO⟩=sO (Bb b[k].f)/\wx.cell? ⟨b2,o2+k * 7+6,nO⟩=sO (U ss2 b[k].s.length g2)))) [] (by kernel_rfl) (HKZ.out _ HD) (λhHeld=> ?_);refine vZ 0 ?_ ?_;refine vZ 1 ?_ ?_;refine vZ 2 ?_ ?_;refine vZ 3 ?_ ?_;refine vZ 4 ?_ ?_;refine ai (i:=5) rfl (by kernel_rfl) (λK hK=> ?_);go_simp;go_at_call 132;refine(kh a[k] ss1 g1 b[k] ss2 g2 _ (I4.call HD) (J4.call HD) (lT k1 m1) (lT k2 m2)).mono ?_;rintro e w5 ⟨rfl,hb5⟩;have HB5:Below w4.heap.size w4 w5:=HD.trans (hb5.mono HD.size);go_wp2_with fail;refine hK.out _ _ (HKZ.out _ HB5) (λhHeld=> ?_);clear hK K;refine sm ?_;refine aj (by kernel_rfl) ?_ _;have Q5:=Q4.call HB5;have F5:∀j,w5.frozen? ⟨qb,j,nO⟩=false:=λj=>by rw[HB5.frozen (by simp only;exact hq)];exact F4 j
   have I5:=I4.call HB5;have J5:=J4.call HB5;have G5:=G4.call HB5;have hbr5:Below wr.heap.size wr w5:=hb4.trans (HB5.mono hb4.size);have L5:=LR.trans (hbr5.mono LR.size);have C5:=HCD.out.below L5 (lR _);have z5:wr.heap.size<=w5.heap.size:=hbr5.size;clear Q4 F4 I4 J4 G4 HKZ HD HB5 hb4;rcases (show cR a[k] b[k]=false\/cR a[k] b[k]=true by cases cR a[k] b[k]<;>simp) with hs|hs<;>have HSG:=aa hs<;>rw[hs]<;>clear hs
   ·have P5:=(P0.call (hbr.trans (hbr5.mono hbr.size)))
    have z0w:w.heap.size < w1.heap.size:=P0.2;have z15:w1.heap.size<=w5.heap.size:=lT hbr.size z5;have HKY:Hid (∀wx,Below w1.heap.size w5 wx->(wx.cell? ⟨w.heap.size,0,nO⟩=sO (I Y V)/\wx.cell? ⟨w.heap.size,1,nO⟩=sO (I Y F)/\wx.cell? ⟨w.heap.size,2,nO⟩=sO (U s c.length cap))/\(wx.cell? ⟨b2,o2+k * 7,nO⟩=sO (Bb b[k].n)/\wx.cell? ⟨b2,o2+k * 7+1,nO⟩=sO (Bb b[k].sp.n)/\wx.cell? ⟨b2,o2+k * 7+2,nO⟩=sO (I Y b[k].sp.lo)/\wx.cell? ⟨b2,o2+k * 7+3,nO⟩=sO (I Y b[k].sp.hi)/\wx.cell? ⟨b2,o2+k * 7+4,nO⟩=sO (Bb b[k].t)/\wx.cell? ⟨b2,o2+k * 7+5,nO⟩=sO (Bb b[k].f)/\wx.cell? ⟨b2,o2+k * 7+6,nO⟩=sO (U ss2 b[k].s.length g2))):=λwx hx=>⟨(P5.low hx z0w).1,(G5.low hx (by omega)).1⟩;have HE5:Below w5.heap.size w5 w5.drew:=(bR _ _).drew;go_wp2;refine am (S:=(λwx=>(wx.cell? ⟨w.heap.size,0,nO⟩=sO (I Y V)/\wx.cell? ⟨w.heap.size,1,nO⟩=sO (I Y F)/\wx.cell? ⟨w.heap.size,2,nO⟩=sO (U s c.length cap))/\(wx.cell? ⟨b2,o2+k * 7,nO⟩=sO (Bb b[k].n)/\wx.cell? ⟨b2,o2+k * 7+1,nO⟩=sO (Bb b[k].sp.n)/\wx.cell? ⟨b2,o2+k * 7+2,nO⟩=sO (I Y b[k].sp.lo)/\wx.cell? ⟨b2,o2+k * 7+3,nO⟩=sO (I Y b[k].sp.hi)/\wx.cell? ⟨b2,o2+k * 7+4,nO⟩=sO (Bb b[k].t)/\wx.cell? ⟨b2,o2+k * 7+5,nO⟩=sO (Bb b[k].f)/\wx.cell? ⟨b2,o2+k * 7+6,nO⟩=sO (U ss2 b[k].s.length g2)))) [] (by kernel_rfl) (HKY.out _ (HE5.mono z15)) (λhHeld=> ?_);refine vZ 0 ?_ ?_;refine vZ 1 ?_ ?_;refine vZ 3 ?_ ?_;refine vZ 4 ?_ ?_;refine vZ 5 ?_ ?_;refine vZ 6 ?_ ?_;refine ai (i:=2) rfl (by kernel_rfl) (λK hK=> ?_);have Qd:=Q5.drew;obtain⟨⟨q0,q1,q2,q3,q4,q5,q6⟩,qz⟩:=id Qd;simp only[j0] at q0 q1 q2 q3 q4 q5 q6;go_simp;refine hK.out _ _ (HKY.out _ (HE5.mono z15)) (λhHeld=> ?_);clear hK K q0 q1 q2 q3 q4 q5 q6 qz;refine sm ?_;refine ai (i:=7) rfl (by kernel_rfl) (λK hK=> ?_);go_simp;refine(HJ.out a[k] ss1 g1 b[k] ss2 g2 _ (C5.call HE5) (I5.call HE5) k1 m1 (J5.call HE5) k2 m2 hRa hRb).mono ?_;rintro e w6 ⟨⟨js,jc,rfl,HI6,HJ1,HJ2,HF7⟩,hb6⟩;have HB6:Below w5.heap.size w5 w6:=HE5.trans (hb6.mono HE5.size);go_wp2_with fail;refine hK.out _ _ (HKY.out _ (HB6.mono z15)) (λhHeld=> ?_);clear hK K;refine sm ?_;refine vZ 8 ?_ ?_;refine vZ 9 ?_ ?_;refine vZ 10 ?_ ?_;refine ai (i:=11) rfl (by kernel_rfl) (λK hK=> ?_);have Q6:=Q5.call HB6;have F6:∀j,w6.frozen? ⟨qb,j,nO⟩=false:=λj=>by rw[HB6.frozen (by simp only;exact Q5.2)];exact F5 j
    obtain⟨⟨q0,q1,q2,q3,q4,q5,q6⟩,qz⟩:=id Q6;simp only[j0] at q0 q1 q2 q3 q4 q5 q6;have f0:=F6 0;have f1:=F6 1;have f2:=F6 2;have f3:=F6 3;have f4:=F6 4;have f5:=F6 5;have f6:=F6 6;go_simp;have HBC:Below w1.heap.size w5 (((((((w6.setCell ⟨qb,0,nO⟩ (Bb (jn a[k] b[k]).n)).setCell ⟨qb,1,nO⟩ (Bb (jn a[k] b[k]).sp.n)).setCell ⟨qb,2,nO⟩ (I Y (jn a[k] b[k]).sp.lo)).setCell ⟨qb,3,nO⟩ (I Y (jn a[k] b[k]).sp.hi)).setCell ⟨qb,4,nO⟩ (Bb (jn a[k] b[k]).t)).setCell ⟨qb,5,nO⟩ (Bb (jn a[k] b[k]).f)).setCell ⟨qb,6,nO⟩ (U js (jn a[k] b[k]).s.length jc)):=((((((((HB6.mono z15)).setCell (by simp only;have:=EQB.out;have:=hbr.size;omega) _).setCell (by simp only;have:=EQB.out;have:=hbr.size;omega) _).setCell (by simp only;have:=EQB.out;have:=hbr.size;omega) _).setCell (by simp only;have:=EQB.out;have:=hbr.size;omega) _).setCell (by simp only;have:=EQB.out;have:=hbr.size;omega) _).setCell (by simp only;have:=EQB.out;have:=hbr.size;omega) _).setCell (by simp only;have:=EQB.out;have:=hbr.size;omega) _
    refine hK.out _ _ (HKY.out _ HBC) (λhHeld=> ?_);clear hK K HBC;refine sm ?_;refine aj (by kernel_rfl) ?_ _;have hch:∀bb,bb≠qb->(((((((w6.setCell ⟨qb,0,nO⟩ (Bb (jn a[k] b[k]).n)).setCell ⟨qb,1,nO⟩ (Bb (jn a[k] b[k]).sp.n)).setCell ⟨qb,2,nO⟩ (I Y (jn a[k] b[k]).sp.lo)).setCell ⟨qb,3,nO⟩ (I Y (jn a[k] b[k]).sp.hi)).setCell ⟨qb,4,nO⟩ (Bb (jn a[k] b[k]).t)).setCell ⟨qb,5,nO⟩ (Bb (jn a[k] b[k]).f)).setCell ⟨qb,6,nO⟩ (U js (jn a[k] b[k]).s.length jc)).heap[bb]? =w6.heap[bb]? :=λbb hbb=>by rw[hSe _ _ _ _ hbb,hSe _ _ _ _ hbb,hSe _ _ _ _ hbb,hSe _ _ _ _ hbb,hSe _ _ _ _ hbb,hSe _ _ _ _ hbb,hSe _ _ _ _ hbb]
    have hcz:w6.heap.size<=(((((((w6.setCell ⟨qb,0,nO⟩ (Bb (jn a[k] b[k]).n)).setCell ⟨qb,1,nO⟩ (Bb (jn a[k] b[k]).sp.n)).setCell ⟨qb,2,nO⟩ (I Y (jn a[k] b[k]).sp.lo)).setCell ⟨qb,3,nO⟩ (I Y (jn a[k] b[k]).sp.hi)).setCell ⟨qb,4,nO⟩ (Bb (jn a[k] b[k]).t)).setCell ⟨qb,5,nO⟩ (Bb (jn a[k] b[k]).f)).setCell ⟨qb,6,nO⟩ (U js (jn a[k] b[k]).s.length jc)).heap.size:=by simp[j5]
    have G7:GuAt (((((((w6.setCell ⟨qb,0,nO⟩ (Bb (jn a[k] b[k]).n)).setCell ⟨qb,1,nO⟩ (Bb (jn a[k] b[k]).sp.n)).setCell ⟨qb,2,nO⟩ (I Y (jn a[k] b[k]).sp.lo)).setCell ⟨qb,3,nO⟩ (I Y (jn a[k] b[k]).sp.hi)).setCell ⟨qb,4,nO⟩ (Bb (jn a[k] b[k]).t)).setCell ⟨qb,5,nO⟩ (Bb (jn a[k] b[k]).f)).setCell ⟨qb,6,nO⟩ (U js (jn a[k] b[k]).s.length jc)) qb 0 (jn a[k] b[k]) js jc:=by
     refine⟨?_,by simpa[j5] using qz⟩;simp[go_sem,q0,q1,q2,q3,q4,q5,q6]
    have HB7:Below wr.heap.size wr (((((((w6.setCell ⟨qb,0,nO⟩ (Bb (jn a[k] b[k]).n)).setCell ⟨qb,1,nO⟩ (Bb (jn a[k] b[k]).sp.n)).setCell ⟨qb,2,nO⟩ (I Y (jn a[k] b[k]).sp.lo)).setCell ⟨qb,3,nO⟩ (I Y (jn a[k] b[k]).sp.hi)).setCell ⟨qb,4,nO⟩ (Bb (jn a[k] b[k]).t)).setCell ⟨qb,5,nO⟩ (Bb (jn a[k] b[k]).f)).setCell ⟨qb,6,nO⟩ (U js (jn a[k] b[k]).s.length jc)):=(((((((hbr5.trans (HB6.mono z5)).setCell (by simp only;have:=EQB.out;omega) _).setCell (by simp only;have:=EQB.out;omega) _).setCell (by simp only;have:=EQB.out;omega) _).setCell (by simp only;have:=EQB.out;omega) _).setCell (by simp only;have:=EQB.out;omega) _).setCell (by simp only;have:=EQB.out;omega) _).setCell (by simp only;have:=EQB.out;omega) _
    have hqq:qb < w5.heap.size:=Q5.2;have HI7:IntsAt (((((((w6.setCell ⟨qb,0,nO⟩ (Bb (jn a[k] b[k]).n)).setCell ⟨qb,1,nO⟩ (Bb (jn a[k] b[k]).sp.n)).setCell ⟨qb,2,nO⟩ (I Y (jn a[k] b[k]).sp.lo)).setCell ⟨qb,3,nO⟩ (I Y (jn a[k] b[k]).sp.hi)).setCell ⟨qb,4,nO⟩ (Bb (jn a[k] b[k]).t)).setCell ⟨qb,5,nO⟩ (Bb (jn a[k] b[k]).f)).setCell ⟨qb,6,nO⟩ (U js (jn a[k] b[k]).s.length jc)) js (jn a[k] b[k]).s:=rp HI6 HF7 (λbb hbb=>hch bb (by have h9:w5.drew.heap.size=w5.heap.size:=rfl;omega)) hcz
    have zwd:wr.heap.size<=w5.drew.heap.size:=z5;clear q0 q1 q2 q3 q4 q5 q6 qz f0 f1 f2 f3 f4 f5 f6 F6 Q6 hch hcz;generalize (((((((w6.setCell ⟨qb,0,nO⟩ (Bb (jn a[k] b[k]).n)).setCell ⟨qb,1,nO⟩ (Bb (jn a[k] b[k]).sp.n)).setCell ⟨qb,2,nO⟩ (I Y (jn a[k] b[k]).sp.lo)).setCell ⟨qb,3,nO⟩ (I Y (jn a[k] b[k]).sp.hi)).setCell ⟨qb,4,nO⟩ (Bb (jn a[k] b[k]).t)).setCell ⟨qb,5,nO⟩ (Bb (jn a[k] b[k]).f)).setCell ⟨qb,6,nO⟩ (U js (jn a[k] b[k]).s.length jc))=w7 at *;have S7:=SR.call HB7;obtain⟨⟨q0,q1,q2,q3,q4,q5,q6⟩,qz⟩:=id G7;simp only[j0] at q0 q1 q2 q3 q4 q5 q6;have hb8:Below w7.heap.size w7 (w7.alloc (Cc #[Bb (jn a[k] b[k]).n,Bb (jn a[k] b[k]).sp.n,I Y (jn a[k] b[k]).sp.lo,I Y (jn a[k] b[k]).sp.hi,Bb (jn a[k] b[k]).t,Bb (jn a[k] b[k]).f,U js (jn a[k] b[k]).s.length jc] 61)):=by go_grown
    have S8:=S7.call hb8;have z17:w1.heap.size<=w7.heap.size:=lT hbr.size HB7.size;have GX:bA (λb=>w1.heap.size<=b/\(Value.slice rs l.length rc).ownBlock≠sO b) (w7.alloc (Cc #[Bb (jn a[k] b[k]).n,Bb (jn a[k] b[k]).sp.n,I Y (jn a[k] b[k]).sp.lo,I Y (jn a[k] b[k]).sp.hi,Bb (jn a[k] b[k]).t,Bb (jn a[k] b[k]).f,U js (jn a[k] b[k]).s.length jc] 61)) ⟨(jn a[k] b[k]),js,jc⟩:=fC HI7 HJ1 HJ2 HF7 hbr.size (λe=>(aC SR.1 e).1) hb8 zwd;go_wp2_with (at_builtin;refine aY _ rfl _ _ 25 rfl w1.heap.size 61 ti (Ag #[Bb false,Bb false,I Y 0,I Y 0,Bb false,Bb false,U nO 0 0]) 7 64 Tryz.underlying25 hi hz0 hz1 hz2 rfl (by decide) _ _ _ rfl S8.1 (sO ⟨w7.heap.size,0,nO⟩) 1 1 (ba ⟨(jn a[k] b[k]),js,jc⟩) rfl rfl (λh=>by cases h) ?qa2 (cM _) ?qa4 ?qa5 ?qa6 ?_)
    (try (case qa2=>exact iw w7 ⟨(jn a[k] b[k]),js,jc⟩ #[Bb (jn a[k] b[k]).n,Bb (jn a[k] b[k]).sp.n,I Y (jn a[k] b[k]).sp.lo,I Y (jn a[k] b[k]).sp.hi,Bb (jn a[k] b[k]).t,Bb (jn a[k] b[k]).f,U js (jn a[k] b[k]).s.length jc] _ rfl))
    case qa4=>unfold maxLen;have:=LL.out;omega
    case qa5=>have:=LL.out;omega
    (try (case qa6=>first|omega|(rw[zA];omega)|(simp;omega)|simp))
    intro v' w9 hown hgrow hat;have S9:=S8.grown (x:=⟨(jn a[k] b[k]),js,jc⟩) GX hown hgrow (by rw[zA];exact hat);have hb9:Below w1.heap.size w1 w9:=((hbr.trans (HB7.mono hbr.size)).alloc z17 _).grown hgrow (by simp;omega) (λk hk=>(aC S8.1 hk).2);obtain⟨rs',rc',rfl,-,-,-⟩:=S9.in;clear hown hgrow hat S8 S7 GX q0 q1 q2 q3 q4 q5 q6 qz hb8;go_wp2;go_roundw
    case rel=>exact⟨k+1,rs',rc',l++[⟨(jn a[k] b[k]),js,jc⟩],by omega,by go_num,by first|rfl|(rw[j3];rfl),hb9,S9,by show _=_;rw[z3,HE.out,fL _ a b k hlt hlt'];rfl⟩
    case measure=>simp[intOf];omega
   ·have ES:Hid ((jn a[k] b[k])=a[k]):=by
     show _=_;rw[<-sameGs_iff.1 HSG.out];exact HOP.out _ hRa
    obtain⟨⟨q0,q1,q2,q3,q4,q5,q6⟩,qz⟩:=id Q5;simp only[j0] at q0 q1 q2 q3 q4 q5 q6;have l60:=bZ (cj h60 hRa).2 (cj h60 hRa).1;go_wp2_with (go_at_call 125;fail);refine(HCL.out ss1 g1 a[k].s _ (by omega) I5).mono ?_;rintro e w6 ⟨⟨js,jc,rfl,HI6,HJ1,HJ2,HF7⟩,hb6⟩;clear q0 q1 q2 q3 q4 q5 q6 qz;have Q6:=Q5.call hb6;obtain⟨⟨q0,q1,q2,q3,q4,q5,q6⟩,qz⟩:=id Q6;simp only[j0] at q0 q1 q2 q3 q4 q5 q6;have f6:w6.frozen? ⟨qb,6,nO⟩=false:=by rw[hb6.frozen (by simp only;exact Q5.2)];exact F5 6
    have G7:=Q6.put6 (js:=js) (jc:=jc);have HB7:Below wr.heap.size wr (w6.setCell ⟨qb,6,nO⟩ (U js a[k].s.length jc)):=(hbr5.trans (hb6.mono z5)).setCell (by simp only;have:=EQB.out;omega) _
    have hqq:qb < w5.heap.size:=Q5.2;have HI7:IntsAt (w6.setCell ⟨qb,6,nO⟩ (U js a[k].s.length jc)) js a[k].s:=rp HI6 HF7 (λbb hbb=>hSe _ _ _ _ (by simp only;omega)) (by simp[j5]);have zwd:wr.heap.size<=w5.heap.size:=z5
    go_upto_region 8 with fail
    clear q0 q1 q2 q3 q4 q5 q6 qz f6;generalize w6.setCell ⟨qb,6,nO⟩ (U js a[k].s.length jc)=w7 at *;have S7:=SR.call HB7;obtain⟨⟨q0,q1,q2,q3,q4,q5,q6⟩,qz⟩:=id G7;simp only[j0] at q0 q1 q2 q3 q4 q5 q6;have hb8:Below w7.heap.size w7 (w7.alloc (Cc #[Bb a[k].n,Bb a[k].sp.n,I Y a[k].sp.lo,I Y a[k].sp.hi,Bb a[k].t,Bb a[k].f,U js a[k].s.length jc] 61)):=by go_grown
    have S8:=S7.call hb8;have z17:w1.heap.size<=w7.heap.size:=lT hbr.size HB7.size;have GX:bA (λb=>w1.heap.size<=b/\(Value.slice rs l.length rc).ownBlock≠sO b) (w7.alloc (Cc #[Bb a[k].n,Bb a[k].sp.n,I Y a[k].sp.lo,I Y a[k].sp.hi,Bb a[k].t,Bb a[k].f,U js a[k].s.length jc] 61)) ⟨a[k],js,jc⟩:=fC HI7 HJ1 HJ2 HF7 hbr.size (λe=>(aC SR.1 e).1) hb8 zwd;go_wp2_with (at_builtin;refine aY _ rfl _ _ 25 rfl w1.heap.size 61 ti (Ag #[Bb false,Bb false,I Y 0,I Y 0,Bb false,Bb false,U nO 0 0]) 7 64 Tryz.underlying25 hi hz0 hz1 hz2 rfl (by decide) _ _ _ rfl S8.1 (sO ⟨w7.heap.size,0,nO⟩) 1 1 (ba ⟨a[k],js,jc⟩) rfl rfl (λh=>by cases h) ?qa2 (cM _) ?qa4 ?qa5 ?qa6 ?_)
    (try (case qa2=>exact iw w7 ⟨a[k],js,jc⟩ #[Bb a[k].n,Bb a[k].sp.n,I Y a[k].sp.lo,I Y a[k].sp.hi,Bb a[k].t,Bb a[k].f,U js a[k].s.length jc] _ rfl))
    case qa4=>unfold maxLen;have:=LL.out;omega
    case qa5=>have:=LL.out;omega
    (try (case qa6=>first|omega|(rw[zA];omega)|(simp;omega)|simp))
    intro v' w9 hown hgrow hat;have S9:=S8.grown (x:=⟨a[k],js,jc⟩) GX hown hgrow (by rw[zA];exact hat);have hb9:Below w1.heap.size w1 w9:=((hbr.trans (HB7.mono hbr.size)).alloc z17 _).grown hgrow (by simp;omega) (λk hk=>(aC S8.1 hk).2);obtain⟨rs',rc',rfl,-,-,-⟩:=S9.in;clear hown hgrow hat S8 S7 GX q0 q1 q2 q3 q4 q5 q6 qz hb8;go_wp2;go_roundw
    case rel=>exact⟨k+1,rs',rc',l++[⟨a[k],js,jc⟩],by omega,by go_num,by first|rfl|(rw[j3];rfl),hb9,S9,by show _=_;rw[z3,HE.out,fL _ a b k hlt hlt'];rw[ES.out];rfl⟩
    case measure=>simp[intOf];omega
  ·have n1:¬(k:Int) < (a.length:Int):=by omega
   have et1:a.take k=a:=z6 (by omega);have et2:b.take k=b:=z6 (by have:=HL.out;omega)
   have HEE:Hid (l.map Gc.g=aE jn a b):=by show _=_;rw[HE.out,et1,et2]
   clear HE et1 et2;go_wp2;go_ret;exact⟨⟨rs,rc,l,rfl,HEE,⟨cX SR.1 z01,λx hx=>⟨(SR.2 x hx).1.mono λb hb _=>⟨lT z01 hb.1,hb.2⟩,(SR.2 x hx).2⟩⟩⟩,LR⟩
end
section
open Go.RowKit
attribute [local go_sem ↓] Go.wp_at_zero Go.wp_at_succ
theorem vB {p:Prop}(h:p:=by
 have B0:Below w.heap.size w ((((w.alloc (.cells #[.int .i64 V,.int .i64 F,.slice s c.length cap] 24)).alloc (.cells #[.bool x.none,.slice vs1 x.vars.length vc1,.slice fs1 x.flds.length fc1] 28)).alloc (.cells #[.bool y.none,.slice vs2 y.vars.length vc2,.slice fs2 y.flds.length fc2] 28)).alloc (.cells #[.bool false,.slice none 0 0,.slice none 0 0] 28)):=by go_grown
 have P0:=(PrAt.new w V F s c cap).call (w':=((((w.alloc (.cells #[.int .i64 V,.int .i64 F,.slice s c.length cap] 24)).alloc (.cells #[.bool x.none,.slice vs1 x.vars.length vc1,.slice fs1 x.flds.length fc1] 28)).alloc (.cells #[.bool y.none,.slice vs2 y.vars.length vc2,.slice fs2 y.flds.length fc2] 28)).alloc (.cells #[.bool false,.slice none 0 0,.slice none 0 0] 28))) (by go_grown);have X0:=(XAt.new (w.alloc (.cells #[.int .i64 V,.int .i64 F,.slice s c.length cap] 24)) x vs1 vc1 fs1 fc1).call (w':=((((w.alloc (.cells #[.int .i64 V,.int .i64 F,.slice s c.length cap] 24)).alloc (.cells #[.bool x.none,.slice vs1 x.vars.length vc1,.slice fs1 x.flds.length fc1] 28)).alloc (.cells #[.bool y.none,.slice vs2 y.vars.length vc2,.slice fs2 y.flds.length fc2] 28)).alloc (.cells #[.bool false,.slice none 0 0,.slice none 0 0] 28))) (by go_grown);have Y0:=(XAt.new ((w.alloc (.cells #[.int .i64 V,.int .i64 F,.slice s c.length cap] 24)).alloc (.cells #[.bool x.none,.slice vs1 x.vars.length vc1,.slice fs1 x.flds.length fc1] 28)) y vs2 vc2 fs2 fc2).call (w':=((((w.alloc (.cells #[.int .i64 V,.int .i64 F,.slice s c.length cap] 24)).alloc (.cells #[.bool x.none,.slice vs1 x.vars.length vc1,.slice fs1 x.flds.length fc1] 28)).alloc (.cells #[.bool y.none,.slice vs2 y.vars.length vc2,.slice fs2 y.flds.length fc2] 28)).alloc (.cells #[.bool false,.slice none 0 0,.slice none 0 0] 28))) (by go_grown);have Z0:=X3.new (((w.alloc (.cells #[.int .i64 V,.int .i64 F,.slice s c.length cap] 24)).alloc (.cells #[.bool x.none,.slice vs1 x.vars.length vc1,.slice fs1 x.flds.length fc1] 28)).alloc (.cells #[.bool y.none,.slice vs2 y.vars.length vc2,.slice fs2 y.flds.length fc2] 28)) 28 (.bool false) (.slice none 0 0) (.slice none 0 0);rw[World.size_alloc] at X0;rw[World.size_alloc,World.size_alloc] at Y0;rw[World.size_alloc,World.size_alloc,World.size_alloc] at Z0;have C0:=hcd.below B0 (Nat.le_refl _);have PX:=hx.below B0 (Nat.le_refl _);have PY:=hy.below B0 (Nat.le_refl _);have HC:=aa (dA V F s c cap (some ⟨((((w.alloc (.cells #[.int .i64 V,.int .i64 F,.slice s c.length cap] 24)).alloc (.cells #[.bool x.none,.slice vs1 x.vars.length vc1,.slice fs1 x.flds.length fc1] 28)).alloc (.cells #[.bool y.none,.slice vs2 y.vars.length vc2,.slice fs2 y.flds.length fc2] 28)).alloc (.cells #[.bool false,.slice none 0 0,.slice none 0 0] 28)).heap.size,0,none⟩) [x,y] 2 (((((w.alloc (.cells #[.int .i64 V,.int .i64 F,.slice s c.length cap] 24)).alloc (.cells #[.bool x.none,.slice vs1 x.vars.length vc1,.slice fs1 x.flds.length fc1] 28)).alloc (.cells #[.bool y.none,.slice vs2 y.vars.length vc2,.slice fs2 y.flds.length fc2] 28)).alloc (.cells #[.bool false,.slice none 0 0,.slice none 0 0] 28)).alloc (.cells #[.bool x.none,.slice vs1 x.vars.length vc1,.slice fs1 x.flds.length fc1,.bool y.none,.slice vs2 y.vars.length vc2,.slice fs2 y.flds.length fc2] 28)) (C0.call (by go_grown)) (XsAt.new2 ((((w.alloc (.cells #[.int .i64 V,.int .i64 F,.slice s c.length cap] 24)).alloc (.cells #[.bool x.none,.slice vs1 x.vars.length vc1,.slice fs1 x.flds.length fc1] 28)).alloc (.cells #[.bool y.none,.slice vs2 y.vars.length vc2,.slice fs2 y.flds.length fc2] 28)).alloc (.cells #[.bool false,.slice none 0 0,.slice none 0 0] 28)) x vs1 vc1 fs1 fc1 y vs2 vc2 fs2 fc2 PX h1 h2 PY h3 h4) (by simp));have hbz:Below ((((w.alloc (.cells #[.int .i64 V,.int .i64 F,.slice s c.length cap] 24)).alloc (.cells #[.bool x.none,.slice vs1 x.vars.length vc1,.slice fs1 x.flds.length fc1] 28)).alloc (.cells #[.bool y.none,.slice vs2 y.vars.length vc2,.slice fs2 y.flds.length fc2] 28)).alloc (.cells #[.bool false,.slice none 0 0,.slice none 0 0] 28)).heap.size ((((w.alloc (.cells #[.int .i64 V,.int .i64 F,.slice s c.length cap] 24)).alloc (.cells #[.bool x.none,.slice vs1 x.vars.length vc1,.slice fs1 x.flds.length fc1] 28)).alloc (.cells #[.bool y.none,.slice vs2 y.vars.length vc2,.slice fs2 y.flds.length fc2] 28)).alloc (.cells #[.bool false,.slice none 0 0,.slice none 0 0] 28)) (((((w.alloc (.cells #[.int .i64 V,.int .i64 F,.slice s c.length cap] 24)).alloc (.cells #[.bool x.none,.slice vs1 x.vars.length vc1,.slice fs1 x.flds.length fc1] 28)).alloc (.cells #[.bool y.none,.slice vs2 y.vars.length vc2,.slice fs2 y.flds.length fc2] 28)).alloc (.cells #[.bool false,.slice none 0 0,.slice none 0 0] 28)).alloc (.cells #[.bool x.none,.slice vs1 x.vars.length vc1,.slice fs1 x.flds.length fc1,.bool y.none,.slice vs2 y.vars.length vc2,.slice fs2 y.flds.length fc2] 28)):=by go_grown
 have e3:((((w.alloc (.cells #[.int .i64 V,.int .i64 F,.slice s c.length cap] 24)).alloc (.cells #[.bool x.none,.slice vs1 x.vars.length vc1,.slice fs1 x.flds.length fc1] 28)).alloc (.cells #[.bool y.none,.slice vs2 y.vars.length vc2,.slice fs2 y.flds.length fc2] 28)).alloc (.cells #[.bool false,.slice none 0 0,.slice none 0 0] 28)).heap.size=w.heap.size+1+1+1+1:=by simp
 have d1:(aq V F c [x,y]!=0)=true:=by simpa using h
 have HB:=aa hbz;generalize aq V F c [x,y]=ce at *;rw[e3] at HC;clear h hx hy hcd PX PY P0 X0 Y0 C0 hbz;go_enter Tryz.func113,Tryz.ntmps113;go_wp2_with (go_at_call 43;fail);refine HC.out.mono ?_;rintro e w1 ⟨rfl,hb1⟩;have hb01:Below ((((w.alloc (.cells #[.int .i64 V,.int .i64 F,.slice s c.length cap] 24)).alloc (.cells #[.bool x.none,.slice vs1 x.vars.length vc1,.slice fs1 x.flds.length fc1] 28)).alloc (.cells #[.bool y.none,.slice vs2 y.vars.length vc2,.slice fs2 y.flds.length fc2] 28)).alloc (.cells #[.bool false,.slice none 0 0,.slice none 0 0] 28)).heap.size ((((w.alloc (.cells #[.int .i64 V,.int .i64 F,.slice s c.length cap] 24)).alloc (.cells #[.bool x.none,.slice vs1 x.vars.length vc1,.slice fs1 x.flds.length fc1] 28)).alloc (.cells #[.bool y.none,.slice vs2 y.vars.length vc2,.slice fs2 y.flds.length fc2] 28)).alloc (.cells #[.bool false,.slice none 0 0,.slice none 0 0] 28)) w1:=HB.out.trans (hb1.mono (by first|exact HB.out.size|(simp;omega)|omega));have Z1:=Z0.call hb01;have B1:=B0.trans (hb01.mono B0.size);clear HB hb1 hb01 B0 Z0 HC e3;obtain⟨⟨z0,z1,z2⟩,zz,zf⟩:=id Z1;have f0:=zf 0;have f1:=zf 1;have f2:=zf 2;clear zf;go_wp2;refine bodyPost_ret (v:=.tuple #[.agg #[.bool false,.slice none 0 0,.slice none 0 0],.int .i64 ce]) (by simp[results,Tryz.results113,go_sem,z0,z1,z2]) rfl ⟨rfl,?_⟩;exact((B1.setCell (by simp only;omega) _).setCell (by simp only;omega) _).setCell (by simp only;omega) _):p:=h
theorem gW (fh:Nat)(V F:Int)(s:oA)(c:List Ins)(cap:Nat)(x:Pic)(vs1:oA)(vc1:Nat)(fs1:oA)(fc1:Nat)(y:Pic)(vs2:oA)(vc2:Nat)(fs2:oA)(fc2:Nat)(w:World)(hcd:CodeAt w s c)(hx:PicAt w x vs1 fs1)(h1:x.vars.length<=vc1/\vc1<=maxLen)(h2:x.flds.length<=fc1/\fc1<=maxLen)(hy:PicAt w y vs2 fs2)(h3:y.vars.length<=vc2/\vc2<=maxLen)(h4:y.flds.length<=fc2/\fc2<=maxLen)(h:aq V F c [x,y]≠0):
  Calls pG 113 #[pv V F s c cap,xv x vs1 vc1 fs1 fc1,xv y vs2 vc2 fs2 fc2,.func (.func fh) #[] #[]] w λe w'=>e=Rt (Tu #[Ag #[Bb false,U nO 0 0,U nO 0 0],I Y (aq V F c [x,y])])/\Below w.heap.size w w':=vB
theorem Bj {T:Nat->Prop}{V F:Int}{s:oA}{c:List Ins}{cap m:Nat}{i:Ins}{x:Pic}{vs:oA}{vc:Nat}{fs:oA}{fc:Nat}{w:World}{w3 w4 w7 w11 wp:World}{v:Ro}{gs:oA}{gc:Nat}{L:List Ro}(hx:PicOn T w x vs fs)(K:SCtx V F c x vc fc i (m:Int))(hk:i.k=18){ka:Nat}{sska:oA}{gcka:Nat}(hkax:ka < x.vars.length)(eka:i.a=(ka:Int))(SP:Hid (SPre T V F s c cap (m:Int) i x vs vc fs fc w wp (w.heap.size+1+1) w3.heap.size w4.heap.size w7.heap.size (w7.heap.size+1) w11.heap.size w3 v gs gc L x.vars[ka] sska gcka noneG nO 0)):SwT (λe w'=>bE (λb=>T b\/w.heap.size<=b) w' e (ah i (m:Int) x)/\Below w.heap.size w w') m w w3 w4 w7 w11 wp:=by
 have HKAV:=aa eka;have HKK:=aa hk;clear hk;have HK:=aa K;have HX:=aa hx;have h60:=K.lens.2.1;have n0:(0:Int)<=(m:Int):=K.a0;have n1:(m:Int) < (c.length:Int):=K.a1;have hm:m < c.length:=by omega
 have w61:(m:Int)<=60:=by omega
 clear K hx eka;refine eh rfl λz0 z2 z4 u=> ?_;simp only[j2,j2.loop,j6];obtain⟨BP,PP,XP,IP,YP,OP,AP,EP,TP,GAI,GBI,GOW,YW,-,EPV0,-,o2,o3,o4,o5,o6⟩:=SP.out;have EPV:=aa EPV0;clear EPV0;have i0:=IP.1 0 _ rfl;rw[HKK.out] at i0;have HST:Hid (ah i (m:Int) x=([⟨(m:Int)+1,x⟩],false,false)):=by show _=_;simp[ah,HK.out.kx.none,HKK.out]
 have GP:=GOW.same (w':=wp) (λb _ hlt=>YW.block b hlt) YW.size;go_wp2;refine bodyPost_ret (v:=Tu #[U (sO ⟨w4.heap.size,0,nO⟩) 1 1,Bb false,Bb false]) (by simp[results,Tryz.results7,go_sem]) rfl ⟨?_,BP⟩;rw[HST.out];exact⟨sO ⟨w4.heap.size,0,nO⟩,1,rfl,fN (S:=(λb=>T b\/w.heap.size<=b)) OP (.inr (by omega)) (GP) (λb hb=>.inr hb) (λb hb=>.inr (by omega)) EPV.out⟩
theorem Cd {T:Nat->Prop}{V F:Int}{s:oA}{c:List Ins}{cap m:Nat}{i:Ins}{x:Pic}{vs:oA}{vc:Nat}{fs:oA}{fc:Nat}{w:World}{w3 w4 w7 w11 wp:World}{v:Ro}{gs:oA}{gc:Nat}{L:List Ro}(hx:PicOn T w x vs fs)(K:SCtx V F c x vc fc i (m:Int))(hk:i.k=19)(SP:Hid (SPre T V F s c cap (m:Int) i x vs vc fs fc w wp (w.heap.size+1+1) w3.heap.size w4.heap.size w7.heap.size (w7.heap.size+1) w11.heap.size w3 v gs gc L noneG nO 0 noneG nO 0)):SwT (λe w'=>bE (λb=>T b\/w.heap.size<=b) w' e (ah i (m:Int) x)/\Below w.heap.size w w') m w w3 w4 w7 w11 wp:=by
 have HKK:=aa hk;clear hk;have HK:=aa K;have HX:=aa hx;have h60:=K.lens.2.1;have n0:(0:Int)<=(m:Int):=K.a0;have n1:(m:Int) < (c.length:Int):=K.a1;have hm:m < c.length:=by omega
 have w61:(m:Int)<=60:=by omega
 clear K hx;refine eh rfl λz0 z2 z4 u=> ?_;simp only[j2,j2.loop,j6];obtain⟨BP,PP,XP,IP,YP,OP,AP,EP,TP,GAI,GBI,GOW,YW,-,EPV0,-,o2,o3,o4,o5,o6⟩:=SP.out;have EPV:=aa EPV0;clear EPV0;have i0:=IP.1 0 _ rfl;rw[HKK.out] at i0;have HST:Hid (ah i (m:Int) x=([],false,false)):=by show _=_;simp[ah,HK.out.kx.none,HKK.out]
 go_wp2;refine bodyPost_ret (v:=Tu #[U nO 0 0,Bb false,Bb false]) (by simp[results,Tryz.results7,go_sem]) rfl ⟨?_,BP⟩;rw[HST.out];exact⟨nO,0,rfl,EdsOn.nil⟩
theorem Br {T:Nat->Prop}{V F:Int}{s:oA}{c:List Ins}{cap m:Nat}{i:Ins}{x:Pic}{vs:oA}{vc:Nat}{fs:oA}{fc:Nat}{w:World}{w3 w4 w7 w11 wp:World}{v:Ro}{gs:oA}{gc:Nat}{L:List Ro}(hx:PicOn T w x vs fs)(K:SCtx V F c x vc fc i (m:Int))(hk:i.k=16)(SP:Hid (SPre T V F s c cap (m:Int) i x vs vc fs fc w wp (w.heap.size+1+1) w3.heap.size w4.heap.size w7.heap.size (w7.heap.size+1) w11.heap.size w3 v gs gc L noneG nO 0 noneG nO 0)):SwT (λe w'=>bE (λb=>T b\/w.heap.size<=b) w' e (ah i (m:Int) x)/\Below w.heap.size w w') m w w3 w4 w7 w11 wp:=by
 have HKK:=aa hk;clear hk;have HK:=aa K;have HX:=aa hx;have h60:=K.lens.2.1;have n0:(0:Int)<=(m:Int):=K.a0;have n1:(m:Int) < (c.length:Int):=K.a1;have hm:m < c.length:=by omega
 have w61:(m:Int)<=60:=by omega
 clear K hx;refine eh rfl λz0 z2 z4 u=> ?_;simp only[j2,j2.loop,j6];obtain⟨BP,PP,XP,IP,YP,OP,AP,EP,TP,GAI,GBI,GOW,YW,-,EPV0,-,o2,o3,o4,o5,o6⟩:=SP.out;have EPV:=aa EPV0;clear EPV0;have i0:=IP.1 0 _ rfl;rw[HKK.out] at i0;have HST:Hid (ah i (m:Int) x=([⟨i.g,x⟩],false,false)):=by show _=_;simp[ah,HK.out.kx.none,HKK.out]
 have YW2:Below w3.heap.size w3 (wp.setCell ⟨w4.heap.size,0,nO⟩ (I Y i.g)):=YW.setCell (by simp only;omega) _;have GP:=GOW.same (λb _ hlt=>YW2.block b hlt) YW2.size;have i5:=IP.1 5 _ rfl;have q0:=OP.1 0 _ rfl;have f0:=OP.2.2 0;go_wp2;refine bodyPost_ret (v:=Tu #[U (sO ⟨w4.heap.size,0,nO⟩) 1 1,Bb false,Bb false]) (by simp[results,Tryz.results7,go_sem]) rfl ⟨?_,BP.setCell (by simp only;omega) _⟩;rw[HST.out];exact⟨sO ⟨w4.heap.size,0,nO⟩,1,rfl,fN (S:=(λb=>T b\/w.heap.size<=b)) (OP.put 0 (by simp) _) (.inr (by omega)) (GP) (λb hb=>.inr hb) (λb hb=>.inr (by omega)) EPV.out⟩
end
end Go.Proofs.YtmapdpcfanecdabGreat
