import Derived.Test.YtmapdpcfanecdabGreatDoorU47
open Go.Ending renaming returned→Rt
open Go.IntKind renaming i64→Y
open Go.Proofs.Tryz renaming prog→pG
open Go.RowKit.Below renaming refl→bR
open Go.Value renaming agg→Ag,bool→Bb,int→I,pointer→Pp,slice→U,tuple→Tu
open List renaming getElem_mem→gM
open Nat renaming le_refl→lR
open Option renaming none→nO,some→sO
set_option linter.unusedSimpArgs false
set_option linter.unusedVariables false
set_option maxHeartbeats 16000000
set_option maxRecDepth 20000
namespace Go.Proofs.YtmapdpcfanecdabGreatDoor
section
open Go.RowKit
attribute [local go_sem ↓] Go.wp_at_zero Go.wp_at_succ
theorem Ii {T:Nat->Prop}{V F:Int}{s:oA}{c:lI}{cap m:Nat}{i:Ins}{x:Pic}{vs:oA}{vc:Nat}{fs:oA}{fc:Nat}{w:World}{w3 w4 w7 w11 wp:World}{v:Ro}{gs:oA}{gc:Nat}{L:List Ro}(hx:PicOn T w x vs fs)(K:SCtx V F c x vc fc i (m:Int))(hk:i.k=13){ka:Nat}{sska:oA}{gcka:Nat}(hkax:ka < x.vq.length)(eka:i.a=(ka:Int)){kb:Nat}{sskb:oA}{gckb:Nat}(hkbx:kb < x.vq.length)(ekb:i.b=(kb:Int))(SP:Hid (SPre T V F s c cap (m:Int) i x vs vc fs fc w wp (w.heap.size+1+1) w3.heap.size w4.heap.size w7.heap.size (w7.heap.size+1) w11.heap.size w3 v gs gc L x.vq[ka] sska gcka x.vq[kb] sskb gckb)):SwT (λe w'=>bU (λb=>T b\/w.heap.size<=b) w' e (aA i (m:Int) x)/\bl w w') m w w3 w4 w7 w11 wp:=by
 have HKAV:=ae eka;have HKBV:=ae ekb;have HKK:=ae hk;clear hk;have HK:=ae K;have HX:=ae hx;have h60:=K.lens.2.1;have n0:(0:Int)<=(m:Int):=K.a0;have n1:(m:Int) < (c.length:Int):=K.a1;have hm:m < c.length:=aa;have w61:(m:Int)<=60:=aa;clear K hx eka ekb;refine fN rfl λz0 z2 z4 u=> ?_;simp only[List.range,List.range.loop,List.map];obtain⟨BP,PP,XP,IP,YP,OP,AP,EP,TP,GAI,GBI,GOW,YW,-,EPV0,-,o2,o3,o4,o5,o6⟩:=SP.out;have EPV:=ae EPV0;clear EPV0;have i0:=IP.1 0 _ rfl;rw[HKK.out] at i0;have ega:gAt x i.a=x.vq[ka]:=kK;have egb:gAt x i.b=x.vq[kb]:=by rw[HKBV.out,gk hkbx]
 have HST0:Hid (aA i (m:Int) x=if x.vq[ka].s.length=0 then([],bJ x.vq[ka],false) else([⟨(m:Int)+1,c8 x i.n x.vq[kb] x.vq[ka].s⟩],bJ x.vq[ka],false)):=by
  show _=_;unfold aA;rw[if_neg mt,if_neg cy,if_neg cy,if_neg cy,if_neg cy,if_neg cy,if_pos HKK.out,ega,egb]
 have hcka:=HK.out.kx.gv _ (gM hkax);have hckb:=HK.out.kx.gv _ (gM hkbx);have HSI:Hid (∀q∈x.vq[ka].s,∃k:Nat,q=k/\k < c.length):=λq hq=>by
  have h:=dl ((ckGs_iff.1 hcka).2.1 q hq);obtain⟨k,ek⟩:=Int.eq_ofNat_of_zero_le h.1;exact⟨k,ek,aa⟩
 have hl60:x.vq[ka].s.length<=60:=cB (ckGs_iff.1 hcka).2.2 (cL h60 hcka).1;have hpn:=(cd HK.out.one).2.2.2.2.1 (.inr HKK.out);obtain⟨p,ep⟩:=Int.eq_ofNat_of_zero_le hpn.1;have HPF:Hid ((p:Int) < F):=by show _ < _;omega
 have HOK:Hid (∀j,PicOk V F c (c8 x i.n x.vq[kb] (x.vq[ka].s.take j))):=λj=>nW HK.out.kx i.n hckb _ λq hq=>(ckGs_iff.1 hcka).2.1 q (List.mem_of_mem_take hq);have HEP:=ae ep;have HJ:Hid (∀(wx:World) (g:Gs) (sg:oA) (cg:Nat),IntsAt wx sg g.s->aE c g=0->IntsAt wx sskb x.vq[kb].s->Calls pG 114 #[gv g sg cg,gv x.vq[kb] sskb gckb,Bb false] wx λe w'=>∃js jc,e=Rt (Ag #[Bb (am false g x.vq[kb]).n,Bb (am false g x.vq[kb]).sp.n,I Y (am false g x.vq[kb]).sp.lo,I Y (am false g x.vq[kb]).sp.hi,Bb (am false g x.vq[kb]).t,Bb (am false g x.vq[kb]).f,U js (am false g x.vq[kb]).s.length jc])/\IntsAt w' js (am false g x.vq[kb]).s/\(am false g x.vq[kb]).s.length<=jc/\jc<=maxLen/\(∀a,js=sO a->wx.heap.size<=a.block)/\bl wx w'):=λwx g sg cg k1 k2 k3=>by
  have h:=rT HK.out.h0 g sg cg x.vq[kb] sskb gckb wx k1 k3 ⟨k2,hckb⟩;rw[kq h60 k2 hckb] at h;exact h
 clear ega egb hcka hckb ep hpn;obtain⟨fn,hfn⟩:∃b,b=x.vq[ka].n:=⟨_,rfl⟩;obtain⟨ft,hft⟩:∃b,b=x.vq[ka].t:=⟨_,rfl⟩;obtain⟨ff,hff⟩:∃b,b=x.vq[ka].f:=⟨_,rfl⟩;obtain⟨fp,hfp⟩:∃b,b=x.vq[ka].sp.n:=⟨_,rfl⟩;have a0:=AP.1 0 _ rfl;have a1:=AP.1 1 _ rfl;have a4:=AP.1 4 _ rfl;have a5:=AP.1 5 _ rfl;rw[<-hfn] at a0;rw[<-hft] at a4;rw[<-hff] at a5;rw[<-hfp] at a1;have HWR:Hid (bJ x.vq[ka]=(fn||ft||ff|| !fp)):=Dq;clear hfn hft hff hfp;go_upto_region 56 with fail
 clear i0;refine wp_region_lit ?_;refine tL (Pp (sO ⟨w7.heap.size,0,nO⟩)) ?_;refine sm ?_;refine tL (Bb fn) ?_;refine sm ?_;refine tL (Bb fn) ?_;refine sm ?_;refine tLb (fn) (Pp (sO ⟨w7.heap.size,4,nO⟩)) ?_ ?_ ?_;rotate_left
 ·intro e;cases fn<;>first|(cases e;done)|(first|exact⟨rfl,rfl⟩|(refine⟨rfl,?_⟩;go_simp))
 ·intro e;cases fn<;>first|(cases e;done)|rfl
 intro v3 hv3;refine sm ?_;refine tLb (fn) (Bb ft) ?_ ?_ ?_;rotate_left
 ·intro e;cases fn<;>first|(cases e;done)|(have dv3:=hv3.out;simp at dv3;subst dv3;first|exact⟨rfl,rfl⟩|(refine⟨rfl,?_⟩;go_simp))
 ·intro e;cases fn<;>first|(cases e;done)|rfl
 intro v4 hv4;refine sm ?_;refine tL (Bb (fn||ft)) ?_ Dt rfl;refine sm ?_;refine tL (Bb (fn||ft)) ?_;refine sm ?_;refine tLb (fn||ft) (Pp (sO ⟨w7.heap.size,5,nO⟩)) ?_ ?_ ?_;rotate_left
 ·intro e;cases fn<;>cases ft<;>first|(cases e;done)|(first|exact⟨rfl,rfl⟩|(refine⟨rfl,?_⟩;go_simp))
 ·intro e;cases fn<;>cases ft<;>first|(cases e;done)|rfl
 intro v7 hv7;refine sm ?_;refine tLb (fn||ft) (Bb ff) ?_ ?_ ?_;rotate_left
 ·intro e;cases fn<;>cases ft<;>first|(cases e;done)|(have dv7:=hv7.out;simp at dv7;subst dv7;first|exact⟨rfl,rfl⟩|(refine⟨rfl,?_⟩;go_simp))
 ·intro e;cases fn<;>cases ft<;>first|(cases e;done)|rfl
 intro v8 hv8;refine sm ?_;refine tL (Bb (fn||ft||ff)) ?_ Dg rfl;refine sm ?_;refine tL (Bb (fn||ft||ff)) ?_;refine sm ?_;refine tLb (fn||ft||ff) (Pp (sO ⟨w7.heap.size,1,nO⟩)) ?_ ?_ ?_;rotate_left
 ·intro e;cases fn<;>cases ft<;>cases ff<;>first|(cases e;done)|(first|exact⟨rfl,rfl⟩|(refine⟨rfl,?_⟩;go_simp))
 ·intro e;cases fn<;>cases ft<;>cases ff<;>first|(cases e;done)|rfl
 intro v11 hv11;refine sm ?_;refine tLb (fn||ft||ff) (Pp (sO ⟨w7.heap.size,1,nO⟩)) ?_ ?_ ?_;rotate_left
 ·intro e;cases fn<;>cases ft<;>cases ff<;>first|(cases e;done)|(have dv11:=hv11.out;simp at dv11;subst dv11;first|exact⟨rfl,rfl⟩|(refine⟨rfl,?_⟩;go_simp))
 ·intro e;cases fn<;>cases ft<;>cases ff<;>first|(cases e;done)|rfl
 intro v12 hv12;refine sm ?_;refine tLb (fn||ft||ff) (Bb fp) ?_ ?_ ?_;rotate_left
 ·intro e;cases fn<;>cases ft<;>cases ff<;>first|(cases e;done)|(have dv12:=hv12.out;simp at dv12;subst dv12;first|exact⟨rfl,rfl⟩|(refine⟨rfl,?_⟩;go_simp))
 ·intro e;cases fn<;>cases ft<;>cases ff<;>first|(cases e;done)|rfl
 intro v13 hv13;refine sm ?_;refine tLb (fn||ft||ff) (Bb (!fp)) ?_ ?_ ?_;rotate_left
 ·intro e;cases fn<;>cases ft<;>cases ff<;>first|(cases e;done)|(have dv13:=hv13.out;simp at dv13;subst dv13;first|exact⟨rfl,rfl⟩|(refine⟨rfl,?_⟩;go_simp))
 ·intro e;cases fn<;>cases ft<;>cases ff<;>first|(cases e;done)|rfl
 intro v14 hv14;refine sm ?_;refine tL (Bb (fn||ft||ff|| !fp)) ?_ CY rfl;refine sm ?_;refine tL (Bb (fn||ft||ff|| !fp)) ?_;refine sm ?_;refine wpList_nil ?_;clear a0 a1 a4 a5 hv3 hv4 hv7 hv8 hv11 hv12 hv13 hv14;generalize (fn||ft)=f2 at *;generalize (f2||ff)=f3 at *;generalize (f3|| !fp)=wb at *;have HWZ:Hid (w11.heap.size < wp.heap.size):=TP.2.1;have a6:=AP.1 6 _ rfl;rcases Nat.eq_zero_or_pos x.vq[ka].s.length with hz|hz
 ·have HST:Hid (aA i (m:Int) x=([],wb,false)):=by show _=_;rw[HST0.out,if_pos hz,HWR.out]
  have hz1:((x.vq[ka].s.length:Int)==0)=true:=by rw[hz];rfl
  clear HST0;go_wp2;refine bodyPost_ret (v:=Tu #[U nO 0 0,Bb wb,Bb false]) dH rfl ⟨?_,BP⟩;rw[HST.out];exact⟨nO,0,rfl,EdsOn.nil⟩
 ·have HST:Hid (aA i (m:Int) x=([⟨(m:Int)+1,c8 x i.n x.vq[kb] x.vq[ka].s⟩],wb,false)):=by show _=_;rw[HST0.out,if_neg aa,HWR.out]
  have hz1:((x.vq[ka].s.length:Int)==0)=false:=by rw[beq_eq_false_iff_ne];omega
  clear HST0;have GK:=GOW.same (w':=wp) (λb _ hlt=>YW.block b hlt) YW.size;have HRL:Hid (∀r∈L,∀b,roB r=sO b->w.heap.size+1+1+1<=b/\b < w3.heap.size):=λr hr b hb=>⟨((GOW.rows r hr).lt hb).2,((GOW.rows r hr).lt hb).1⟩;have HFB:Hid (∀b,(Value.slice gs L.length gc).ownBlock=sO b->b < w3.heap.size):=λb hb=>(aM GOW.fq hb).1;go_wp2;clear a6;go_loopw [25] (λi_ wr=>∃(j:Nat) (L':List Ro),j<=x.vq[ka].s.length/\i_=I Y j/\PicG (λb=>w.heap.size<=b) (w.heap.size+1+1+1) wr v gs gc L'/\Hid (aS false v L'=c8 x i.n x.vq[kb] (x.vq[ka].s.take j)/\L'.map roB=L.map roB)/\(∀b,b < w.heap.size+1+1+1\/w3.heap.size<=b/\b < wp.heap.size->wr.heap[b]? =wp.heap[b]?)/\wp.heap.size<=wr.heap.size/\bl w wr) (λi_ _=>x.vq[ka].s.length - (intOf i_).toNat)
  case atStart=>exact⟨0,L,Nat.zero_le _,rfl,GK,⟨by rw[<-EPV.out];rfl,rfl⟩,λ_ _=>rfl,lR _,BP⟩
  case round=>
   obtain⟨j,L',hj,rfl,GR,EPL,hsm,hsz,BR⟩:=hrel;have hwz:=HWZ.out;have AR:=AP.same (hsm _ (.inr ⟨aa,aa⟩)) hsz;have a6:=AR.1 6 _ rfl;have HLL:Hid (L'.length=L.length):=by show _=_;have h:=congrArg List.length EPL.out.2;simpa using h
   by_cases hlt:j < x.vq[ka].s.length
   ·have j0:(0:Int)<=(j:Int):=by omega
    have j1:(j:Int) < (x.vq[ka].s.length:Int):=aa;obtain⟨q,eq,hqc⟩:=HSI.out _ (gM hlt);have hok:=HOK.out j;rw[<-EPL.out.1] at hok;have hrw:=wP hok;have hqL:q < L'.length:=by rw[hrw.1];exact hqc
    have hpL:p < L'[q].l.length:=by have:=hrw.2 q hqL;have:=HPF.out;omega
    have q0:(0:Int)<=(q:Int):=aa;have q2:(q:Int) < (L'.length:Int):=aa;have p0:(0:Int)<=(p:Int):=aa;have p2:(p:Int) < (L'[q].l.length:Int):=aa;obtain⟨tb1,to1,ess,hzt,hct⟩:∃b off,sska=sO ⟨b,off,nO⟩/\b < w.heap.size/\∀k (h:k < x.vq[ka].s.length),w.cell? ⟨b,off+k,nO⟩=sO (I Y x.vq[ka].s[k]):=by
     rcases GAI.1 with h|⟨b,off,e,-,hz,hc⟩
     ·rw[h] at hlt;simp at hlt
     ·exact⟨b,off,e,hz,hc⟩
    obtain⟨fb,efb,hfb,zfb,hcm⟩:=GR.fform aa;obtain⟨rb,erb,erB,hrb,zrb⟩:=(GR.rows _ (gM hqL)).form aa;have hrz:rb < w3.heap.size:=by
     have h1:roB L'[q]∈L.map roB:=by rw[<-EPL.out.2];exact List.mem_map_of_mem (gM hqL)
     obtain⟨r,hr,er⟩:=List.mem_map.1 h1;exact(HRL.out r hr rb (by rw[er,erB])).2
    have hfz:fb < w3.heap.size:=HFB.out fb (by rw[<-HLL.out,efb];rfl);obtain⟨y,EY0⟩:∃y,L'[q].l[p]=y:=⟨_,rfl⟩;have EY:Hid (L'[q].l[p]=y):=EY0;have YC:=GR.sf _ (gM hqL) _ (gM hpL);rw[EY0] at YC;have YK:aE c y.g=0:=by
     have h:=sL hok (q:Int) (p:Int);rw[k8 hqL hpL,EY0] at h;exact h
    have HFA:Hid (fAt (aS false v L') (q:Int) (p:Int)=y.g):=by show _=_;rw[k8 hqL hpL,EY0]
    have hcq:=hcm q hqL;unfold roV at hcq;rw[erb] at hcq;have IR:=IP.same (hsm _ (.inl aa)) hsz;have YR:=YP.same (hsm _ (.inr ⟨lR _,aa⟩)) hsz;have ER:=EP.same (hsm _ (.inr ⟨aa,aa⟩)) hsz;have hdw:bl wr wr.drew:=(bR _ _).drew;have GUR:=(GR.rows _ (gM hqL)).gu erb (k:=p) hpL;rw[EY0] at GUR;have HKS:Hid (∀wz,Below wr.drew.heap.size wr.drew wz->wz.cell? ⟨w3.heap.size,2,nO⟩=sO (U (sO ⟨fb,0,nO⟩) L'.length gc)/\wz.cell? ⟨w7.heap.size,6,nO⟩=sO (U (sO ⟨tb1,to1,nO⟩) x.vq[ka].s.length gcka)/\wz.cell? ⟨tb1,to1+j,nO⟩=sO (I Y (q:Int))/\wz.cell? ⟨fb,q,nO⟩=sO (U (sO ⟨rb,0,nO⟩) L'[q].l.length L'[q].rc)/\wz.cell? ⟨w.heap.size+1+1,4,nO⟩=sO (I Y (p:Int))/\(wz.cell? ⟨rb,p * 7,nO⟩=sO (Bb y.g.n)/\wz.cell? ⟨rb,p * 7+1,nO⟩=sO (Bb y.g.sp.n)/\wz.cell? ⟨rb,p * 7+2,nO⟩=sO (I Y y.g.sp.lo)/\wz.cell? ⟨rb,p * 7+3,nO⟩=sO (I Y y.g.sp.hi)/\wz.cell? ⟨rb,p * 7+4,nO⟩=sO (Bb y.g.t)/\wz.cell? ⟨rb,p * 7+5,nO⟩=sO (Bb y.g.f)/\wz.cell? ⟨rb,p * 7+6,nO⟩=sO (U y.ss y.g.s.length y.cap))/\(wz.cell? ⟨w7.heap.size+1,0,nO⟩=sO (Bb x.vq[kb].n)/\wz.cell? ⟨w7.heap.size+1,1,nO⟩=sO (Bb x.vq[kb].sp.n)/\wz.cell? ⟨w7.heap.size+1,2,nO⟩=sO (I Y x.vq[kb].sp.lo)/\wz.cell? ⟨w7.heap.size+1,3,nO⟩=sO (I Y x.vq[kb].sp.hi)/\wz.cell? ⟨w7.heap.size+1,4,nO⟩=sO (Bb x.vq[kb].t)/\wz.cell? ⟨w7.heap.size+1,5,nO⟩=sO (Bb x.vq[kb].f)/\wz.cell? ⟨w7.heap.size+1,6,nO⟩=sO (U sskb x.vq[kb].s.length gckb))):=λwz hz=>by
     have hb:=hdw.trans (hz.mono hdw.size);have y2:=(YR.call hb).1 2 _ rfl;rw[efb,<-HLL.out] at y2;have s6:=(AR.call hb).1 6 _ rfl;rw[ess] at s6;have hB:=BR.trans (hb.mono BR.size);have e:=ER.call hb;refine⟨y2,s6,?_,?_,?_,(GUR.call hb).1,⟨e.1 0 _ rfl,e.1 1 _ rfl,e.1 2 _ rfl,e.1 3 _ rfl,e.1 4 _ rfl,e.1 5 _ rfl,e.1 6 _ rfl⟩⟩
     ·rw[hB.cell (by simp only;exact hzt),hct j hlt,eq]
     ·rw[hb.cell (by simp only;exact zfb)];exact hcq
     ·rw[<-HEP.out];exact(IR.call hb).1 4 _ rfl
    have HEQ:Hid (x.vq[ka].s[j]=(q:Int)):=eq;have G4:=GR.call hdw;have YI:=(YC.1.call hdw).at;have HZW:Hid (wp.heap.size<=wr.drew.heap.size/\w.heap.size<=wp.heap.size):=⟨by have:=hdw.size;omega,aa⟩
    have HB4W:Hid (bl w wr.drew):=BR.drew;have HB4:Hid (IntsAt wr.drew sskb x.vq[kb].s):=(GBI.1.same (λb _ hlt=>HB4W.out.block b hlt) HB4W.out.size).at;have HSM4:Hid (∀b,b < w.heap.size+1+1+1\/w3.heap.size<=b/\b < wp.heap.size->wr.drew.heap[b]? =wp.heap[b]?):=λb hb=>by rw[hdw.block b (by omega)];exact hsm b hb
    have HEF:=ae efb;have HES:=ae ess;clear GR hsm AR IR YR ER hct hcm hcq YC EY0 GUR ess efb eq hok hrw hdw erB zrb BR;go_upto_region 62 with fail
    clear a6;refine aD (S:=(λwx=>wx.cell? ⟨w3.heap.size,2,nO⟩=sO (U (sO ⟨fb,0,nO⟩) L'.length gc)/\wx.cell? ⟨w7.heap.size,6,nO⟩=sO (U (sO ⟨tb1,to1,nO⟩) x.vq[ka].s.length gcka)/\wx.cell? ⟨tb1,to1+j,nO⟩=sO (I Y (q:Int))/\wx.cell? ⟨fb,q,nO⟩=sO (U (sO ⟨rb,0,nO⟩) L'[q].l.length L'[q].rc)/\wx.cell? ⟨w.heap.size+1+1,4,nO⟩=sO (I Y (p:Int))/\(wx.cell? ⟨rb,p * 7,nO⟩=sO (Bb y.g.n)/\wx.cell? ⟨rb,p * 7+1,nO⟩=sO (Bb y.g.sp.n)/\wx.cell? ⟨rb,p * 7+2,nO⟩=sO (I Y y.g.sp.lo)/\wx.cell? ⟨rb,p * 7+3,nO⟩=sO (I Y y.g.sp.hi)/\wx.cell? ⟨rb,p * 7+4,nO⟩=sO (Bb y.g.t)/\wx.cell? ⟨rb,p * 7+5,nO⟩=sO (Bb y.g.f)/\wx.cell? ⟨rb,p * 7+6,nO⟩=sO (U y.ss y.g.s.length y.cap))/\(wx.cell? ⟨w7.heap.size+1,0,nO⟩=sO (Bb x.vq[kb].n)/\wx.cell? ⟨w7.heap.size+1,1,nO⟩=sO (Bb x.vq[kb].sp.n)/\wx.cell? ⟨w7.heap.size+1,2,nO⟩=sO (I Y x.vq[kb].sp.lo)/\wx.cell? ⟨w7.heap.size+1,3,nO⟩=sO (I Y x.vq[kb].sp.hi)/\wx.cell? ⟨w7.heap.size+1,4,nO⟩=sO (Bb x.vq[kb].t)/\wx.cell? ⟨w7.heap.size+1,5,nO⟩=sO (Bb x.vq[kb].f)/\wx.cell? ⟨w7.heap.size+1,6,nO⟩=sO (U sskb x.vq[kb].s.length gckb)))) [27] ag (HKS.out _ (bR _ _)) (λhHeld=> ?_);generalize wr.drew=w4 at *;refine vZ 0 ?_ ?_;refine vZ 1 ?_ ?_;refine vZ 2 ?_ ?_;refine vZ 3 ?_ ?_;refine vZ 4 ?_ ?_;refine vZ 5 ?_ ?_;refine vZ 6 ?_ ?_;refine vZ 7 ?_ ?_;refine vZ 8 ?_ ?_;refine vZ 9 ?_ ?_;refine vZ 10 ?_ ?_;refine vZ 11 ?_ ?_;refine vZ 12 ?_ ?_;refine vZ 13 ?_ ?_;refine vZ 14 ?_ ?_;refine vZ 15 ?_ ?_;refine vZ 16 ?_ ?_;refine vZ 17 ?_ ?_;refine vZ 18 ?_ ?_;refine vZ 19 ?_ ?_;refine vZ 20 ?_ ?_;refine vZ 21 ?_ ?_;refine vZ 22 ?_ ?_;refine vZ 23 ?_ ?_;refine vZ 24 ?_ ?_;refine aB (i:=25) rfl ag (λK hK=> ?_);go_simp;refine(HJ.out w4 y.g y.ss y.cap YI YK HB4.out).mono ?_;rintro e w5 ⟨js,jc,rfl,JI,J1,J2,JF,hb5⟩;refine hK.out _ _ (HKS.out _ hb5) (λhHeld=> ?_);clear hK K;refine sm ?_;refine vZ 26 ?_ ?_;refine bA (i:=27) rfl ag ag (λK hK=> ?_);have G5:=G4.call hb5;have JG:bQ (λb=>w.heap.size<=b/\Off v (Value.slice gs L'.length gc).ownBlock L' b) w5 ⟨am false y.g x.vq[kb],js,jc⟩:=by
     refine⟨?_,J1,J2⟩;rcases JI with h|⟨b,off,e,hb,hc⟩
     ·exact .inl h
     ·have hz:=JF _ e
      simp only at hz;exact .inr ⟨b,off,e,⟨by have:=HZW.out;omega,λe=>by have:=(G4.vq.lt e).1;omega,λe=>by have:=(aM G4.fq e).1;omega,λr hr e=>by have:=((G4.rows r hr).lt e).1;omega⟩,hb,hc⟩
    have GS:=G5.setF hqL erb hpL JG;have GU:=(G5.rows _ (gM hqL)).gu erb (k:=p) hpL;rw[EY.out] at GU;obtain⟨⟨r0,r1,r2,r3,r4,r5,r6⟩,rz⟩:=GU;have TH:=(G5.rows _ (gM hqL)).thaw erb;have f0:=TH (p * 7);have f1:=TH (p * 7+1);have f2:=TH (p * 7+2);have f3:=TH (p * 7+3);have f4:=TH (p * 7+4);have f5:=TH (p * 7+5);have f6:=TH (p * 7+6);obtain⟨w6,e6⟩:∃z,z=bW w5 rb p ⟨am false y.g x.vq[kb],js,jc⟩:=⟨_,rfl⟩;have HR:Hid (PicG (λb=>w.heap.size<=b) (w.heap.size+1+1+1) w6 v gs gc (L'.set q ⟨L'[q].rs,L'[q].rc,L'[q].l.set p ⟨am false y.g x.vq[kb],js,jc⟩⟩)/\(∀b,b < w.heap.size+1+1+1\/w3.heap.size<=b/\b < wp.heap.size->w6.heap[b]? =wp.heap[b]?)/\wp.heap.size<=w6.heap.size/\bl w w6):=by
     rw[e6];refine⟨GS,λb hb=> ?_,by rw[g7];have:=hb5.size;have:=HZW.out;omega,da (HB4W.out.trans (hb5.mono HB4W.out.size)) aa⟩;rw[cX aa,hb5.block b (by have:=HZW.out;omega)];exact HSM4.out b hb
    simp only[bW] at e6;go_simp;rw[<-e6];refine hK.out _ _ ?_;clear hK K r0 r1 r2 r3 r4 r5 r6 rz f0 f1 f2 f3 f4 f5 f6 e6 GS JG G5 TH JI JF;refine sm ?_;refine aC ag ?_ _;go_wp2;go_roundw
    case rel=>exact⟨j+1,(L'.set q ⟨L'[q].rs,L'[q].rc,L'[q].l.set p ⟨am false y.g x.vq[kb],js,jc⟩⟩),aa,aJ,HR.out.1,⟨by rw[tt hqL,rG hlt,<-EPL.out.1,HEQ.out,HEP.out,HFA.out],by rw[List.map_set,go (v:=L'[q]) (by simp),<-List.getElem_map (f:=roB) (h:=by simpa using hqL),List.set_getElem_self];exact EPL.out.2⟩,HR.out.2.1,HR.out.2.2.1,HR.out.2.2.2⟩
    case measure=>simp[intOf];omega
   ·have j1:¬(j:Int) < (x.vq[ka].s.length:Int):=by omega
    have ej:x.vq[ka].s.take j=x.vq[ka].s:=List.take_of_length_le aa;have OR:=OP.same (hsm _ (.inr ⟨aa,aa⟩)) hsz;rw[<-HLL.out] at OR;have HF:Hid (bU (λb=>T b\/w.heap.size<=b) wr (Rt (Tu #[U (sO ⟨w4.heap.size,0,nO⟩) 1 1,Bb wb,Bb false])) (aA i (m:Int) x)/\bl w wr):=by
     rw[HST.out];exact⟨⟨sO ⟨w4.heap.size,0,nO⟩,1,rfl,iF (S:=(λb=>T b\/w.heap.size<=b)) OR (.inr aa) GR (λb hb=>.inr hb) (λb hb=>.inr aa) (by rw[EPL.out.1,ej])⟩,BR⟩
    clear GR hsm AR OR BR EPL HST ej;go_wp2;refine bodyPost_ret (v:=Tu #[U (sO ⟨w4.heap.size,0,nO⟩) 1 1,Bb wb,Bb false]) dH rfl HF.out
end
end Go.Proofs.YtmapdpcfanecdabGreatDoor
