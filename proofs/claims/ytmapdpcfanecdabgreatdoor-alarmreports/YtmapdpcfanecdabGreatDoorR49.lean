import Derived.Test.YtmapdpcfanecdabGreatDoorR48
open Go.Ending renaming returned→Rt
open Go.IntKind renaming i64→Y
open Go.Proofs.Tryz renaming prog→pG
open Go.RowKit.Below renaming heap_setCell→hSe,refl→bR
open Go.Value renaming agg→Ag,bool→Bb,int→I,pointer→Pp,slice→U,tuple→Tu
open List renaming getElem_mem→gM
open Nat renaming le_refl→lR
open Option renaming none→nO,some→sO
set_option linter.unusedSimpArgs false
set_option linter.unusedVariables false
set_option maxHeartbeats 16000000
set_option maxRecDepth 20000
namespace Go.Proofs.YtmapdpcfanecdabGreatDoor
section
open Go.RowKit
attribute [local go_sem ↓] Go.wp_at_zero Go.wp_at_succ
theorem Ga {T:Nat->Prop}{V F:Int}{s:oA}{c:List Ins}{cap m:Nat}{i:Ins}{x:Pic}{vs:oA}{vc:Nat}{fs:oA}{fc:Nat}{w:World}{w3 w4 w7 w11 wp:World}{v:Ro}{gs:oA}{gc:Nat}{L:List Ro}(hx:PicOn T w x vs fs)(K:SCtx V F c x vc fc i (m:Int))(hk:i.k=12){ka:Nat}{sska:oA}{gcka:Nat}(hkax:ka < x.vars.length)(eka:i.a=(ka:Int))(SP:Hid (SPre T V F s c cap (m:Int) i x vs vc fs fc w wp (w.heap.size+1+1) w3.heap.size w4.heap.size w7.heap.size (w7.heap.size+1) w11.heap.size w3 v gs gc L x.vars[ka] sska gcka noneG nO 0)):SwT (λe w'=>bM (λb=>T b\/w.heap.size<=b) w' e (aj i (m:Int) x)/\Below w.heap.size w w') m w w3 w4 w7 w11 wp:=by
 have HKAV:=aa eka;have HKK:=aa hk;clear hk;have HK:=aa K;have HX:=aa hx;have h60:=K.lens.2.1;have n0:(0:Int)<=(m:Int):=K.a0;have n1:(m:Int) < (c.length:Int):=K.a1;have hm:m < c.length:=by omega
 have w61:(m:Int)<=60:=by omega
 clear K hx eka;refine fG rfl λz0 z2 z4 u=> ?_;simp only[List.range,List.range.loop,List.map];obtain⟨BP,PP,XP,IP,YP,OP,AP,EP,TP,GAI,GBI,GOW,YW,-,EPV0,-,o2,o3,o4,o5,o6⟩:=SP.out;have EPV:=aa EPV0;clear EPV0;have i0:=IP.1 0 _ rfl;rw[HKK.out] at i0;obtain⟨kt,ekt,hktx⟩:=HK.out.varTo (by rw[HKK.out];rfl);have HKT:=aa ekt;clear ekt;have ega:gAt x i.a=x.vars[ka]:=by rw[HKAV.out,dJ hkax]
 have HST0:Hid (aj i (m:Int) x=if ag (dQ x i.n x.vars[ka].s) then([],bB x.vars[ka],false) else([⟨(m:Int)+1,aO x i.tgt (dQ x i.n x.vars[ka].s)⟩],bB x.vars[ka],false)):=by
  have e:aN i (m:Int) x=((dQ x i.n x.vars[ka].s),bB x.vars[ka]):=by
   unfold aN;rw[if_neg (by rw[HKK.out];decide),if_neg (by rw[HKK.out];decide),if_neg (by rw[HKK.out];decide),if_neg (by rw[HKK.out];decide),if_pos HKK.out,ega]
  show _=_;unfold aj;rw[e,if_neg (by rw[HK.out.kx.none];decide),if_neg (by rw[HKK.out];decide),if_neg (by rw[HKK.out];decide),if_neg (by rw[HKK.out];decide),if_neg (by rw[HKK.out];decide),if_neg (by rw[HKK.out];decide),if_neg (by rw[HKK.out];decide),if_neg (show¬i.k=11 by rw[HKK.out];decide)]
 have hcka:=HK.out.kx.gv _ (gM hkax);have HSI:Hid (∀q∈x.vars[ka].s,∃k:Nat,q=k/\k < c.length):=λq hq=>by
  have h:=dj ((ckGs_iff.1 hcka).2.1 q hq);obtain⟨k,ek⟩:=Int.eq_ofNat_of_zero_le h.1;exact⟨k,ek,by omega⟩
 have hl60:x.vars[ka].s.length<=60:=cy (ckGs_iff.1 hcka).2.2 (cI h60 hcka).1;have hpn:=(bX HK.out.one).2.2.2.2.1 (.inl HKK.out);obtain⟨p,ep⟩:=Int.eq_ofNat_of_zero_le hpn.1;have HFL:Hid (∀q,q < c.length->∃(h1:q < x.flds.length),p < x.flds[q].length):=λq hq=>by
  have h1:=HK.out.kx.flds;refine⟨by omega,?_⟩;have:=HK.out.kx.row q (by omega);omega
 have HGK:Hid (∀l,aq c (dQ x i.n l)=0):=λl=>oS HK.out.kx i.n l;have HEP:=aa ep;have HJ:Hid (∀(q:Nat) (h1:q < x.flds.length) (h2:p < x.flds[q].length) (st:oA) (ct:Nat) (wx:World) (g:Gs) (sg:oA) (cg:Nat),IntsAt wx sg g.s->aq c g=0->IntsAt wx st x.flds[q][p].s->Calls pG 114 #[gv g sg cg,gv x.flds[q][p] st ct,Bb false] wx λe w'=>∃js jc,e=Rt (Ag #[Bb (ae false g x.flds[q][p]).n,Bb (ae false g x.flds[q][p]).sp.n,I Y (ae false g x.flds[q][p]).sp.lo,I Y (ae false g x.flds[q][p]).sp.hi,Bb (ae false g x.flds[q][p]).t,Bb (ae false g x.flds[q][p]).f,U js (ae false g x.flds[q][p]).s.length jc])/\IntsAt w' js (ae false g x.flds[q][p]).s/\(ae false g x.flds[q][p]).s.length<=jc/\jc<=maxLen/\(∀a,js=sO a->wx.heap.size<=a.block)/\Below wx.heap.size wx w'):=λq h1 h2 st ct wx g sg cg k1 k2 k3=>by
  have hq:=HK.out.kx.gf q h1 _ (gM h2);have h:=pt HK.out.h0 g sg cg x.flds[q][p] st ct wx k1 k3 ⟨k2,hq⟩;rw[iH h60 k2 hq] at h;exact h
 clear ega hcka ep hpn;obtain⟨fn,hfn⟩:∃b,b=x.vars[ka].n:=⟨_,rfl⟩;obtain⟨ft,hft⟩:∃b,b=x.vars[ka].t:=⟨_,rfl⟩;obtain⟨ff,hff⟩:∃b,b=x.vars[ka].f:=⟨_,rfl⟩;obtain⟨fp,hfp⟩:∃b,b=x.vars[ka].sp.n:=⟨_,rfl⟩;have a0:=AP.1 0 _ rfl;have a1:=AP.1 1 _ rfl;have a4:=AP.1 4 _ rfl;have a5:=AP.1 5 _ rfl;rw[<-hfn] at a0;rw[<-hft] at a4;rw[<-hff] at a5;rw[<-hfp] at a1;have HWR:Hid (bB x.vars[ka]=(fn||ft||ff|| !fp)):=by show _=_;unfold bB;rw[<-hfn,<-hft,<-hff,<-hfp];cases fn<;>cases ft<;>cases ff<;>cases fp<;>rfl
 clear hfn hft hff hfp
 go_upto_region 65 with fail
 clear i0;refine wp_region_lit ?_;refine tL (Pp (sO ⟨w7.heap.size,0,nO⟩)) ?_;refine sm ?_;refine tL (Bb fn) ?_;refine sm ?_;refine tL (Bb fn) ?_;refine sm ?_;refine tLb (fn) (Pp (sO ⟨w7.heap.size,4,nO⟩)) ?_ ?_ ?_;rotate_left
 ·intro e;cases fn<;>first|(cases e;done)|(first|exact⟨rfl,rfl⟩|(refine⟨rfl,?_⟩;go_simp))
 ·intro e;cases fn<;>first|(cases e;done)|rfl
 intro v3 hv3;refine sm ?_;refine tLb (fn) (Bb ft) ?_ ?_ ?_;rotate_left
 ·intro e;cases fn<;>first|(cases e;done)|(have dv3:=hv3.out;simp at dv3;subst dv3;first|exact⟨rfl,rfl⟩|(refine⟨rfl,?_⟩;go_simp))
 ·intro e;cases fn<;>first|(cases e;done)|rfl
 intro v4 hv4;refine sm ?_;refine tL (Bb (fn||ft)) ?_ (by cases fn<;>cases ft<;>(have dv4:=hv4.out;simp at dv4;subst dv4;rfl)) rfl;refine sm ?_;refine tL (Bb (fn||ft)) ?_;refine sm ?_;refine tLb (fn||ft) (Pp (sO ⟨w7.heap.size,5,nO⟩)) ?_ ?_ ?_;rotate_left
 ·intro e;cases fn<;>cases ft<;>first|(cases e;done)|(first|exact⟨rfl,rfl⟩|(refine⟨rfl,?_⟩;go_simp))
 ·intro e;cases fn<;>cases ft<;>first|(cases e;done)|rfl
 intro v7 hv7;refine sm ?_;refine tLb (fn||ft) (Bb ff) ?_ ?_ ?_;rotate_left
 ·intro e;cases fn<;>cases ft<;>first|(cases e;done)|(have dv7:=hv7.out;simp at dv7;subst dv7;first|exact⟨rfl,rfl⟩|(refine⟨rfl,?_⟩;go_simp))
 ·intro e;cases fn<;>cases ft<;>first|(cases e;done)|rfl
 intro v8 hv8;refine sm ?_;refine tL (Bb (fn||ft||ff)) ?_ (by cases fn<;>cases ft<;>cases ff<;>(have dv8:=hv8.out;simp at dv8;subst dv8;rfl)) rfl;refine sm ?_;refine tL (Bb (fn||ft||ff)) ?_;refine sm ?_;refine tLb (fn||ft||ff) (Pp (sO ⟨w7.heap.size,1,nO⟩)) ?_ ?_ ?_;rotate_left
 ·intro e;cases fn<;>cases ft<;>cases ff<;>first|(cases e;done)|(first|exact⟨rfl,rfl⟩|(refine⟨rfl,?_⟩;go_simp))
 ·intro e;cases fn<;>cases ft<;>cases ff<;>first|(cases e;done)|rfl
 intro v11 hv11;refine sm ?_;refine tLb (fn||ft||ff) (Pp (sO ⟨w7.heap.size,1,nO⟩)) ?_ ?_ ?_;rotate_left
 ·intro e;cases fn<;>cases ft<;>cases ff<;>first|(cases e;done)|(have dv11:=hv11.out;simp at dv11;subst dv11;first|exact⟨rfl,rfl⟩|(refine⟨rfl,?_⟩;go_simp))
 ·intro e;cases fn<;>cases ft<;>cases ff<;>first|(cases e;done)|rfl
 intro v12 hv12;refine sm ?_;refine tLb (fn||ft||ff) (Bb fp) ?_ ?_ ?_;rotate_left
 ·intro e;cases fn<;>cases ft<;>cases ff<;>first|(cases e;done)|(have dv12:=hv12.out;simp at dv12;subst dv12;first|exact⟨rfl,rfl⟩|(refine⟨rfl,?_⟩;go_simp))
 ·intro e;cases fn<;>cases ft<;>cases ff<;>first|(cases e;done)|rfl
 intro v13 hv13;refine sm ?_;refine tLb (fn||ft||ff) (Bb (!fp)) ?_ ?_ ?_;rotate_left
 ·intro e;cases fn<;>cases ft<;>cases ff<;>first|(cases e;done)|(have dv13:=hv13.out;simp at dv13;subst dv13;first|exact⟨rfl,rfl⟩|(refine⟨rfl,?_⟩;go_simp))
 ·intro e;cases fn<;>cases ft<;>cases ff<;>first|(cases e;done)|rfl
 intro v14 hv14;refine sm ?_;refine tL (Bb (fn||ft||ff|| !fp)) ?_ (by cases fn<;>cases ft<;>cases ff<;>cases fp<;>(have dv14:=hv14.out;simp at dv14;subst dv14;rfl)) rfl;refine sm ?_;refine tL (Bb (fn||ft||ff|| !fp)) ?_;refine sm ?_;refine wpList_nil ?_;clear a0 a1 a4 a5 hv3 hv4 hv7 hv8 hv11 hv12 hv13 hv14;generalize (fn||ft)=f2 at *;generalize (f2||ff)=f3 at *;generalize (f3|| !fp)=wb at *;go_wp2;have HTZ:Hid (w11.heap.size < wp.heap.size):=TP.2.1;have HORD:=aa (And.intro o2 (And.intro o3 (And.intro o4 (And.intro o5 o6))));go_loopw [26] (λi_ wr=>∃(j:Nat) (gg:Gs) (ss:oA) (cp:Nat),j<=x.vars[ka].s.length/\i_=I Y j/\Hid (gg=dQ x i.n (x.vars[ka].s.take j))/\Cells wr w11.heap.size [Bb gg.n,Bb gg.sp.n,I Y gg.sp.lo,I Y gg.sp.hi,Bb gg.t,Bb gg.f,U ss gg.s.length cp]/\ModS w11.heap.size wp wr/\IntsIn (λb=>wp.heap.size<=b) wr ss gg.s/\gg.s.length<=cp/\cp<=maxLen) (λi_ _=>x.vars[ka].s.length - (intOf i_).toNat)
 case atStart=>exact⟨0,noneG,nO,0,Nat.zero_le _,rfl,rfl,TP,ModS.of (bR _ _) HTZ.out,.inl rfl,lR _,Nat.zero_le _⟩
 case round=>
  obtain⟨j,gg,ss,cp,hj,rfl,EG,TR,MR,IG,Y1,Y2⟩:=hrel;have od:=HORD.out;have HMS:Hid (∀wz,ModS w11.heap.size wp wz->(Cells wz w7.heap.size [Bb x.vars[ka].n,Bb x.vars[ka].sp.n,I Y x.vars[ka].sp.lo,I Y x.vars[ka].sp.hi,Bb x.vars[ka].t,Bb x.vars[ka].f,U sska x.vars[ka].s.length gcka]/\Cells wz (w.heap.size+1+1) [I Y i.k,I Y i.tgt,I Y i.a,I Y i.b,I Y i.n,I Y i.g]/\Cells wz (w.heap.size+1) [Bb false,U vs x.vars.length vc,U fs x.flds.length fc])/\Below w.heap.size w wz):=λwz hz=>⟨⟨AP.same (hz.2 _ AP.2.1 (by omega)) hz.1.size,IP.same (hz.2 _ IP.2.1 (by omega)) hz.1.size,XP.same (hz.2 _ XP.2.1 (by omega)) hz.1.size⟩,BP.trans (hz.1.mono (by omega))⟩;have a6:=(HMS.out wr MR).1.1.1 6 _ rfl;by_cases hlt:j < x.vars[ka].s.length
  ·have j0:(0:Int)<=(j:Int):=by omega
   have j1:(j:Int) < (x.vars[ka].s.length:Int):=by omega
   obtain⟨q,eq,hqc⟩:=HSI.out _ (gM hlt);obtain⟨hqL,hpL⟩:=HFL.out q hqc;have q0:(0:Int)<=(q:Int):=by omega
   have q2:(q:Int) < (x.flds.length:Int):=by omega
   have p0:(0:Int)<=(p:Int):=by omega
   have p2:(p:Int) < (x.flds[q].length:Int):=by omega
   obtain⟨tb1,to1,ess,hzt,hct⟩:∃b off,sska=sO ⟨b,off,nO⟩/\b < w.heap.size/\∀k (h:k < x.vars[ka].s.length),w.cell? ⟨b,off+k,nO⟩=sO (I Y x.vars[ka].s[k]):=by
    rcases GAI.1 with h|⟨b,off,e,-,hz,hc⟩
    ·rw[h] at hlt;simp at hlt
    ·exact⟨b,off,e,hz,hc⟩
   obtain⟨p1,q1,efs,-,zp1,r1,rc1,C1,k1,m1,JJ⟩:=HX.out.in.2 q hqL;obtain⟨b1,o1,e1,-,ss1,g1,G1,I1I,k2,m2⟩:=JJ p hpL;subst e1;have I1:=I1I.at;have YK:aq c gg=0:=by rw[EG.out];exact HGK.out _
   have HJ1:=aa (HJ.out q hqL hpL ss1 g1);have HKS:Hid (∀wz,ModS w11.heap.size wp wz->Cells wz w11.heap.size [Bb gg.n,Bb gg.sp.n,I Y gg.sp.lo,I Y gg.sp.hi,Bb gg.t,Bb gg.f,U ss gg.s.length cp]->(wz.cell? ⟨w11.heap.size,0,nO⟩=sO (Bb gg.n)/\wz.cell? ⟨w11.heap.size,1,nO⟩=sO (Bb gg.sp.n)/\wz.cell? ⟨w11.heap.size,2,nO⟩=sO (I Y gg.sp.lo)/\wz.cell? ⟨w11.heap.size,3,nO⟩=sO (I Y gg.sp.hi)/\wz.cell? ⟨w11.heap.size,4,nO⟩=sO (Bb gg.t)/\wz.cell? ⟨w11.heap.size,5,nO⟩=sO (Bb gg.f)/\wz.cell? ⟨w11.heap.size,6,nO⟩=sO (U ss gg.s.length cp))/\(wz.cell? ⟨w.heap.size+1,2,nO⟩=sO (U (sO ⟨p1,q1,nO⟩) x.flds.length fc)/\wz.cell? ⟨w7.heap.size,6,nO⟩=sO (U (sO ⟨tb1,to1,nO⟩) x.vars[ka].s.length gcka)/\wz.cell? ⟨tb1,to1+j,nO⟩=sO (I Y (q:Int))/\wz.cell? ⟨p1,q1+q,nO⟩=sO (U (sO ⟨b1,o1,nO⟩) x.flds[q].length rc1)/\wz.cell? ⟨w.heap.size+1+1,4,nO⟩=sO (I Y (p:Int)))/\(wz.cell? ⟨b1,o1+p * 7,nO⟩=sO (Bb x.flds[q][p].n)/\wz.cell? ⟨b1,o1+p * 7+1,nO⟩=sO (Bb x.flds[q][p].sp.n)/\wz.cell? ⟨b1,o1+p * 7+2,nO⟩=sO (I Y x.flds[q][p].sp.lo)/\wz.cell? ⟨b1,o1+p * 7+3,nO⟩=sO (I Y x.flds[q][p].sp.hi)/\wz.cell? ⟨b1,o1+p * 7+4,nO⟩=sO (Bb x.flds[q][p].t)/\wz.cell? ⟨b1,o1+p * 7+5,nO⟩=sO (Bb x.flds[q][p].f)/\wz.cell? ⟨b1,o1+p * 7+6,nO⟩=sO (U ss1 x.flds[q][p].s.length g1))):=λwz hz ht=>by
    obtain⟨⟨ha,hi,hx⟩,hbz⟩:=HMS.out wz hz;refine⟨⟨ht.1 0 _ rfl,ht.1 1 _ rfl,ht.1 2 _ rfl,ht.1 3 _ rfl,ht.1 4 _ rfl,ht.1 5 _ rfl,ht.1 6 _ rfl⟩,⟨?_,?_,?_,?_,?_⟩,(G1.below hbz (lR _)).1⟩
    ·have:=hx.1 2 _ rfl;rw[efs] at this;exact this
    ·have:=ha.1 6 _ rfl;rw[ess] at this;exact this
    ·rw[hbz.cell (by simp only;exact hzt),hct j hlt,eq]
    ·rw[hbz.cell (by simp only;exact zp1)];exact C1
    ·rw[<-HEP.out];exact hi.1 4 _ rfl
   have HEQ:Hid (x.vars[ka].s[j]=(q:Int)):=eq;have hdw:Below wr.heap.size wr wr.drew:=(bR _ _).drew;have T4:=TR.call hdw;have M4:ModS w11.heap.size wp wr.drew:=MR.trans (ModS.of hdw TR.2.1);have IG4:=IG.call hdw;have BP4:=(HMS.out wr MR).2.drew;have HESS:=aa ess;have HEFS:=aa efs;clear TR MR IG eq hct C1 G1 I1I JJ ess efs hdw
   go_upto_region 69 with fail
   clear a6;refine aw (S:=(λwx=>(wx.cell? ⟨w11.heap.size,0,nO⟩=sO (Bb gg.n)/\wx.cell? ⟨w11.heap.size,1,nO⟩=sO (Bb gg.sp.n)/\wx.cell? ⟨w11.heap.size,2,nO⟩=sO (I Y gg.sp.lo)/\wx.cell? ⟨w11.heap.size,3,nO⟩=sO (I Y gg.sp.hi)/\wx.cell? ⟨w11.heap.size,4,nO⟩=sO (Bb gg.t)/\wx.cell? ⟨w11.heap.size,5,nO⟩=sO (Bb gg.f)/\wx.cell? ⟨w11.heap.size,6,nO⟩=sO (U ss gg.s.length cp))/\(wx.cell? ⟨w.heap.size+1,2,nO⟩=sO (U (sO ⟨p1,q1,nO⟩) x.flds.length fc)/\wx.cell? ⟨w7.heap.size,6,nO⟩=sO (U (sO ⟨tb1,to1,nO⟩) x.vars[ka].s.length gcka)/\wx.cell? ⟨tb1,to1+j,nO⟩=sO (I Y (q:Int))/\wx.cell? ⟨p1,q1+q,nO⟩=sO (U (sO ⟨b1,o1,nO⟩) x.flds[q].length rc1)/\wx.cell? ⟨w.heap.size+1+1,4,nO⟩=sO (I Y (p:Int)))/\(wx.cell? ⟨b1,o1+p * 7,nO⟩=sO (Bb x.flds[q][p].n)/\wx.cell? ⟨b1,o1+p * 7+1,nO⟩=sO (Bb x.flds[q][p].sp.n)/\wx.cell? ⟨b1,o1+p * 7+2,nO⟩=sO (I Y x.flds[q][p].sp.lo)/\wx.cell? ⟨b1,o1+p * 7+3,nO⟩=sO (I Y x.flds[q][p].sp.hi)/\wx.cell? ⟨b1,o1+p * 7+4,nO⟩=sO (Bb x.flds[q][p].t)/\wx.cell? ⟨b1,o1+p * 7+5,nO⟩=sO (Bb x.flds[q][p].f)/\wx.cell? ⟨b1,o1+p * 7+6,nO⟩=sO (U ss1 x.flds[q][p].s.length g1)))) [15] (by kernel_rfl) (HKS.out _ M4 T4) (λhHeld=> ?_);generalize wr.drew=w4 at *;refine vZ 0 ?_ ?_;refine vZ 1 ?_ ?_;refine vZ 2 ?_ ?_;refine vZ 3 ?_ ?_;refine vZ 4 ?_ ?_;refine vZ 5 ?_ ?_;refine vZ 6 ?_ ?_;refine vZ 7 ?_ ?_;refine vZ 8 ?_ ?_;refine vZ 9 ?_ ?_;refine vZ 10 ?_ ?_;refine vZ 11 ?_ ?_;refine vZ 12 ?_ ?_;refine vZ 13 ?_ ?_;refine am (i:=14) rfl (by kernel_rfl) (λK hK=> ?_);go_simp;refine(HJ1.out w4 gg ss cp IG4.at YK (I1.below BP4 (lR _))).mono ?_;rintro e w5 ⟨js,jc,rfl,JI,J1,J2,JF,hb5⟩;have M5:=M4.trans (ModS.of hb5 (by have:=M4.1.size;have:=HTZ.out;omega))
   have T5:=T4.call hb5;refine hK.out _ _ (HKS.out _ M5 T5) (λhHeld=> ?_);clear hK K;refine sm ?_;refine bo (i:=15) rfl (by kernel_rfl) (by kernel_rfl) (λK hK=> ?_);have r0:=T5.1 0 _ rfl;have f0:=T5.2.2 0;have r1:=T5.1 1 _ rfl;have f1:=T5.2.2 1;have r2:=T5.1 2 _ rfl;have f2:=T5.2.2 2;have r3:=T5.1 3 _ rfl;have f3:=T5.2.2 3;have r4:=T5.1 4 _ rfl;have f4:=T5.2.2 4;have r5:=T5.1 5 _ rfl;have f5:=T5.2.2 5;have r6:=T5.1 6 _ rfl;have f6:=T5.2.2 6;go_simp;have T6:Cells (((((((w5.setCell ⟨w11.heap.size,0,nO⟩ (Bb (ae false gg x.flds[q][p]).n)).setCell ⟨w11.heap.size,1,nO⟩ (Bb (ae false gg x.flds[q][p]).sp.n)).setCell ⟨w11.heap.size,2,nO⟩ (I Y (ae false gg x.flds[q][p]).sp.lo)).setCell ⟨w11.heap.size,3,nO⟩ (I Y (ae false gg x.flds[q][p]).sp.hi)).setCell ⟨w11.heap.size,4,nO⟩ (Bb (ae false gg x.flds[q][p]).t)).setCell ⟨w11.heap.size,5,nO⟩ (Bb (ae false gg x.flds[q][p]).f)).setCell ⟨w11.heap.size,6,nO⟩ (U js (ae false gg x.flds[q][p]).s.length jc)) w11.heap.size [Bb (ae false gg x.flds[q][p]).n,Bb (ae false gg x.flds[q][p]).sp.n,I Y (ae false gg x.flds[q][p]).sp.lo,I Y (ae false gg x.flds[q][p]).sp.hi,Bb (ae false gg x.flds[q][p]).t,Bb (ae false gg x.flds[q][p]).f,U js (ae false gg x.flds[q][p]).s.length jc]:=((((((T5.put 0 (by simp) _).put 1 (by simp) _).put 2 (by simp) _).put 3 (by simp) _).put 4 (by simp) _).put 5 (by simp) _).put 6 (by simp) _;have M6:ModS w11.heap.size wp (((((((w5.setCell ⟨w11.heap.size,0,nO⟩ (Bb (ae false gg x.flds[q][p]).n)).setCell ⟨w11.heap.size,1,nO⟩ (Bb (ae false gg x.flds[q][p]).sp.n)).setCell ⟨w11.heap.size,2,nO⟩ (I Y (ae false gg x.flds[q][p]).sp.lo)).setCell ⟨w11.heap.size,3,nO⟩ (I Y (ae false gg x.flds[q][p]).sp.hi)).setCell ⟨w11.heap.size,4,nO⟩ (Bb (ae false gg x.flds[q][p]).t)).setCell ⟨w11.heap.size,5,nO⟩ (Bb (ae false gg x.flds[q][p]).f)).setCell ⟨w11.heap.size,6,nO⟩ (U js (ae false gg x.flds[q][p]).s.length jc)):=((((((M5.put 0 _).put 1 _).put 2 _).put 3 _).put 4 _).put 5 _).put 6 _;have I6:IntsIn (λb=>wp.heap.size<=b) (((((((w5.setCell ⟨w11.heap.size,0,nO⟩ (Bb (ae false gg x.flds[q][p]).n)).setCell ⟨w11.heap.size,1,nO⟩ (Bb (ae false gg x.flds[q][p]).sp.n)).setCell ⟨w11.heap.size,2,nO⟩ (I Y (ae false gg x.flds[q][p]).sp.lo)).setCell ⟨w11.heap.size,3,nO⟩ (I Y (ae false gg x.flds[q][p]).sp.hi)).setCell ⟨w11.heap.size,4,nO⟩ (Bb (ae false gg x.flds[q][p]).t)).setCell ⟨w11.heap.size,5,nO⟩ (Bb (ae false gg x.flds[q][p]).f)).setCell ⟨w11.heap.size,6,nO⟩ (U js (ae false gg x.flds[q][p]).s.length jc)) js (ae false gg x.flds[q][p]).s:=by
    rcases JI with h|⟨b,off,e,hb,hc⟩
    ·exact .inl h
    ·have hz:=JF _ e
     have hz2:=M4.1.size;have hz3:=HTZ.out;simp only at hz;exact IntsIn.same (w:=w5) (.inr ⟨b,off,e,by omega,hb,hc⟩) (λa ha _=>by
      have hne:a≠w11.heap.size:=by omega
      rw[hSe _ _ _ _ hne,hSe _ _ _ _ hne,hSe _ _ _ _ hne,hSe _ _ _ _ hne,hSe _ _ _ _ hne,hSe _ _ _ _ hne,hSe _ _ _ _ hne]) (by simp[World.setCell])
   have HR:Hid (Cells (((((((w5.setCell ⟨w11.heap.size,0,nO⟩ (Bb (ae false gg x.flds[q][p]).n)).setCell ⟨w11.heap.size,1,nO⟩ (Bb (ae false gg x.flds[q][p]).sp.n)).setCell ⟨w11.heap.size,2,nO⟩ (I Y (ae false gg x.flds[q][p]).sp.lo)).setCell ⟨w11.heap.size,3,nO⟩ (I Y (ae false gg x.flds[q][p]).sp.hi)).setCell ⟨w11.heap.size,4,nO⟩ (Bb (ae false gg x.flds[q][p]).t)).setCell ⟨w11.heap.size,5,nO⟩ (Bb (ae false gg x.flds[q][p]).f)).setCell ⟨w11.heap.size,6,nO⟩ (U js (ae false gg x.flds[q][p]).s.length jc)) w11.heap.size [Bb (ae false gg x.flds[q][p]).n,Bb (ae false gg x.flds[q][p]).sp.n,I Y (ae false gg x.flds[q][p]).sp.lo,I Y (ae false gg x.flds[q][p]).sp.hi,Bb (ae false gg x.flds[q][p]).t,Bb (ae false gg x.flds[q][p]).f,U js (ae false gg x.flds[q][p]).s.length jc]/\ModS w11.heap.size wp (((((((w5.setCell ⟨w11.heap.size,0,nO⟩ (Bb (ae false gg x.flds[q][p]).n)).setCell ⟨w11.heap.size,1,nO⟩ (Bb (ae false gg x.flds[q][p]).sp.n)).setCell ⟨w11.heap.size,2,nO⟩ (I Y (ae false gg x.flds[q][p]).sp.lo)).setCell ⟨w11.heap.size,3,nO⟩ (I Y (ae false gg x.flds[q][p]).sp.hi)).setCell ⟨w11.heap.size,4,nO⟩ (Bb (ae false gg x.flds[q][p]).t)).setCell ⟨w11.heap.size,5,nO⟩ (Bb (ae false gg x.flds[q][p]).f)).setCell ⟨w11.heap.size,6,nO⟩ (U js (ae false gg x.flds[q][p]).s.length jc))/\IntsIn (λb=>wp.heap.size<=b) (((((((w5.setCell ⟨w11.heap.size,0,nO⟩ (Bb (ae false gg x.flds[q][p]).n)).setCell ⟨w11.heap.size,1,nO⟩ (Bb (ae false gg x.flds[q][p]).sp.n)).setCell ⟨w11.heap.size,2,nO⟩ (I Y (ae false gg x.flds[q][p]).sp.lo)).setCell ⟨w11.heap.size,3,nO⟩ (I Y (ae false gg x.flds[q][p]).sp.hi)).setCell ⟨w11.heap.size,4,nO⟩ (Bb (ae false gg x.flds[q][p]).t)).setCell ⟨w11.heap.size,5,nO⟩ (Bb (ae false gg x.flds[q][p]).f)).setCell ⟨w11.heap.size,6,nO⟩ (U js (ae false gg x.flds[q][p]).s.length jc)) js (ae false gg x.flds[q][p]).s/\(ae false gg x.flds[q][p]).s.length<=jc/\jc<=maxLen):=⟨T6,M6,I6,J1,J2⟩;refine hK.out _ _ ?_;clear hK K r0 f0 r1 f1 r2 f2 r3 f3 r4 f4 r5 f5 r6 f6 T5 T6 M5 M6 I6 JI JF J1 J2;refine sm ?_;generalize eW:(((((((w5.setCell ⟨w11.heap.size,0,nO⟩ (Bb (ae false gg x.flds[q][p]).n)).setCell ⟨w11.heap.size,1,nO⟩ (Bb (ae false gg x.flds[q][p]).sp.n)).setCell ⟨w11.heap.size,2,nO⟩ (I Y (ae false gg x.flds[q][p]).sp.lo)).setCell ⟨w11.heap.size,3,nO⟩ (I Y (ae false gg x.flds[q][p]).sp.hi)).setCell ⟨w11.heap.size,4,nO⟩ (Bb (ae false gg x.flds[q][p]).t)).setCell ⟨w11.heap.size,5,nO⟩ (Bb (ae false gg x.flds[q][p]).f)).setCell ⟨w11.heap.size,6,nO⟩ (U js (ae false gg x.flds[q][p]).s.length jc))=w6 at *;clear eW;refine ap (by kernel_rfl) ?_ _;go_wp2;go_roundw
   case rel=>exact⟨j+1,(ae false gg x.flds[q][p]),js,jc,by omega,by go_num,by show _=_;rw[rM hlt,<-EG.out,HEQ.out,HEP.out,Av hqL hpL],HR.out.1,HR.out.2.1,HR.out.2.2.1,HR.out.2.2.2.1,HR.out.2.2.2.2⟩
   case measure=>simp[intOf];omega
  ·have j1:¬(j:Int) < (x.vars[ka].s.length:Int):=by omega
   have ej:x.vars[ka].s.take j=x.vars[ka].s:=List.take_of_length_le (by omega);have EGG:Hid (gg=(dQ x i.n x.vars[ka].s)):=by show _=_;rw[EG.out,ej]
   have HST:Hid (aj i (m:Int) x=if ag gg then([],wb,false) else([⟨(m:Int)+1,aO x i.tgt gg⟩],wb,false)):=by show _=_;rw[EGG.out,HST0.out,HWR.out]
   have TX:=TR;have IX:=(HMS.out wr MR).1.2.1;have YX:=YP.same (MR.2 _ YP.2.1 (by omega)) MR.1.size;have OX:=OP.same (MR.2 _ OP.2.1 (by omega)) MR.1.size;have BX:=(HMS.out wr MR).2;have YWX:=YW.trans (MR.1.mono (by omega));have HGI:Hid (IntsIn (λb=>(T b/\b < w.heap.size)\/w3.heap.size<=b) wr ss gg.s):=IG.mono λb hb _=>.inr (by have:=HTZ.out;omega)
   have HCP:Hid (gg.s.length<=cp/\cp<=maxLen):=⟨Y1,Y2⟩;clear TR MR IG EG ej EGG HST0 HMS AP EP XP PP YP OP TP IP BP YW od;generalize wr=wx at *
   go_upto_region 84 with fail
   clear a6;rcases Bool.eq_false_or_eq_true (ag gg) with hn0|hn0
   ·have hng:=aa hn0
    clear hn0;have HIS:Hid (∀wz,Calls pG 116 #[Ag #[Bb gg.n,Bb gg.sp.n,I Y gg.sp.lo,I Y gg.sp.hi,Bb gg.t,Bb gg.f,U ss gg.s.length cp]] wz λe w'=>e=Rt (Bb true)/\Below wz.heap.size wz w'):=λwz=>by have h:=ba gg ss cp wz;rw[hng.out] at h;exact h
    have t0:=TX.1 0 _ rfl;have t1:=TX.1 1 _ rfl;have t2:=TX.1 2 _ rfl;have t3:=TX.1 3 _ rfl;have t4:=TX.1 4 _ rfl;have t5:=TX.1 5 _ rfl;have t6:=TX.1 6 _ rfl;go_wp2_with (go_at_call 116;fail);refine((HIS.out wx).mono ?_);rintro e wy ⟨rfl,hby⟩;clear t0 t1 t2 t3 t4 t5 t6;have TY:=TX.call hby
    have IY:=IX.call hby
    have YY:=YX.call hby
    have OY:=OX.call hby
    have BY:=BX.trans (hby.mono BX.size);have YWY:=YWX.trans (hby.mono YWX.size);have HGY:=aa (IntsIn.call HGI.out hby);clear TX IX YX OX BX YWX HIS HGI;clear TY IY YY OY YWY HGY;go_wp2;refine bodyPost_ret (v:=Tu #[U nO 0 0,Bb wb,Bb false]) (by simp[results,Tryz.results59,go_sem]) rfl ⟨?_,BY⟩;rw[HST.out,if_pos hng.out];exact⟨nO,0,rfl,EdsOn.nil⟩
   ·have hng:=aa hn0
    clear hn0;have HIS:Hid (∀wz,Calls pG 116 #[Ag #[Bb gg.n,Bb gg.sp.n,I Y gg.sp.lo,I Y gg.sp.hi,Bb gg.t,Bb gg.f,U ss gg.s.length cp]] wz λe w'=>e=Rt (Bb false)/\Below wz.heap.size wz w'):=λwz=>by have h:=ba gg ss cp wz;rw[hng.out] at h;exact h
    have t0:=TX.1 0 _ rfl;have t1:=TX.1 1 _ rfl;have t2:=TX.1 2 _ rfl;have t3:=TX.1 3 _ rfl;have t4:=TX.1 4 _ rfl;have t5:=TX.1 5 _ rfl;have t6:=TX.1 6 _ rfl;go_wp2_with (go_at_call 116;fail);refine((HIS.out wx).mono ?_);rintro e wy ⟨rfl,hby⟩;clear t0 t1 t2 t3 t4 t5 t6;have TY:=TX.call hby
    have IY:=IX.call hby
    have YY:=YX.call hby
    have OY:=OX.call hby
    have BY:=BX.trans (hby.mono BX.size);have YWY:=YWX.trans (hby.mono YWX.size);have HGY:=aa (IntsIn.call HGI.out hby);clear TX IX YX OX BX YWX HIS HGI;have GP:=GOW.same (w':=wy) (λb _ hlt=>YWY.block b hlt) YWY.size;have GC:=nM (T:=T) (y:=⟨gg,ss,cp⟩) GOW (by omega) (by omega) HGY.out HCP.out.1 HCP.out.2;have hktv:kt < v.l.length:=by have h:=hktx;rw[EPV.out] at h;simpa[aL,roG] using h
    obtain⟨vb,evb,eb1,hvb,zvb⟩:=GOW.vars.form (by omega);have GP2:=(GP.mono (T':=λb=>T b\/w.heap.size<=b) λb hb _=>.inr hb);have GS:=GP2.setV evb hktv GC;have GU:=GP.vars.gu evb (k:=kt) hktv;obtain⟨⟨u0,u1,u2,u3,u4,u5,u6⟩,uz⟩:=GU;have TH:=GP.vars.thaw evb;have f0:=TH (kt * 7);have f1:=TH (kt * 7+1);have f2:=TH (kt * 7+2);have f3:=TH (kt * 7+3);have f4:=TH (kt * 7+4);have f5:=TH (kt * 7+5);have f6:=TH (kt * 7+6);have y1:=YY.1 1 _ rfl;rw[evb] at y1;have i1:=IY.1 1 _ rfl;rw[HKT.out] at i1;have t0:=TY.1 0 _ rfl;have t1:=TY.1 1 _ rfl;have t2:=TY.1 2 _ rfl;have t3:=TY.1 3 _ rfl;have t4:=TY.1 4 _ rfl;have t5:=TY.1 5 _ rfl;have t6:=TY.1 6 _ rfl;have q0:(0:Int)<=(kt:Int):=by omega
    have q1:(kt:Int) < (v.l.length:Int):=by omega
    have HEV:=aa evb;have OS:Cells (bP wy vb kt ⟨gg,ss,cp⟩) w4.heap.size [I Y ((m:Int)+1),Bb false,U v.rs v.l.length v.rc,U gs L.length gc]:=OY.same (cU (by omega)) (by rw[cN];exact lR _);have BS:Below w.heap.size w (bP wy vb kt ⟨gg,ss,cp⟩):=dd BY (by omega);have HF:Hid (bM (λb=>T b\/w.heap.size<=b) (bP wy vb kt ⟨gg,ss,cp⟩) (Rt (Tu #[U (sO ⟨w4.heap.size,0,nO⟩) 1 1,Bb wb,Bb false])) (aj i (m:Int) x)):=by
     show bM _ _ _ _;rw[HST.out,if_neg (by rw[hng.out];decide)];refine⟨sO ⟨w4.heap.size,0,nO⟩,1,rfl,?_⟩;refine ia (S:=(λb=>T b\/w.heap.size<=b)) (v:=⟨v.rs,v.rc,v.l.set kt ⟨gg,ss,cp⟩⟩) (L:=L) (by simp only[List.length_set];exact OS) (.inr (by omega)) GS (λb hb=>hb) (λb hb=>.inr (by omega)) ?_;rw[dA,<-EPV.out,HKT.out]
    clear GP GC GP2 GS TH TY IY YY OY OS BY HGY GOW YWY EPV evb;obtain⟨wv,ewv⟩:∃q,q=bP wy vb kt ⟨gg,ss,cp⟩:=⟨_,rfl⟩;have HF2:=aa (And.intro HF.out BS);rw[<-ewv] at HF2
    go_upto_region 87 with fail
    clear u0 u1 u2 u3 u4 u5 u6 uz f0 f1 f2 f3 f4 f5 f6 t0 t1 t2 t3 t4 t5 t6 y1 i1 HF BS;simp only[bP] at ewv;rw[<-ewv];clear ewv;go_wp2;refine bodyPost_ret (v:=Tu #[U (sO ⟨w4.heap.size,0,nO⟩) 1 1,Bb wb,Bb false]) (by simp[results,Tryz.results59,go_sem]) rfl HF2.out
end
end Go.Proofs.YtmapdpcfanecdabGreatDoor
