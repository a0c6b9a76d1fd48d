import Derived.Test.YtmapdpcfanecdabGreatDoorQ28
open List renaming length→X,getElem_mem→gM,length_map→j9,nil_append→j7
open Array renaming size→R
open Go.World renaming heap→M,size_alloc→zA
open Go.Ending renaming returned→Rt
open Go.IntKind renaming i64→Y
open Go.Obj renaming cells→A
open Go.Proofs.Tryz renaming prog→f
open Go.RowKit.Below renaming heap_setCell→hSe,refl→bR
open Go.Value renaming agg→Ag,int→I,pointer→Pp,slice→U,tuple→Tu,bool→O
open Int renaming eq_ofNat_of_zero_le→j8
open Nat renaming le_of_lt→j6,le_refl→lR,lt_of_lt_of_le→lL
open Option renaming some→sO,none→E,some→G
open Go.RowKit renaming Below→n4
open Go renaming Value→mh,World→C
open Bool renaming true→W5,false→d
set_option linter.all false
open Go.Proofs.Tryz
set_option maxHeartbeats 16000000
set_option maxRecDepth 100000
namespace Go.Proofs.YtmapdpcfanecdabGreatDoor
variable (sb j:Nat)(i:Ins)(V F:Int)(s:oA)(c:lI)(cap:Nat)(at_:Int)(x:Pic)(vs:oA)(vc:Nat)(fs:oA)(fc:Nat)(ev y:mh)(fl t:Bool)(w0 w:C)
variable {p:Prop}
section
open Go.RowKit
attribute [local go_sem ↓] Go.wp_at_zero Go.wp_at_succ
def Aq(h:p:=by
 have h:=M9;rw[zA] at h;exact h):=h
def a1R(hS:sT w sb (bk i V F s c cap at_ x vs vc fs fc y d t))(l:a2r w0 s c)(k:a4r w0 x vs fs)(r:R (M w0)<=sb)(a:bl w0 w)(K:a7l V F c x vc fc i at_)(hk:i.k=12):
  Calls f 98 #[Pp (sO ⟨sb,0,E⟩)] w λe w'=>oE (R (M w)) sb w' e (br i at_ x).1 (bk i V F s c cap at_ x vs vc fs fc y (br i at_ x).2 t)/\a7v sb w w':=by
 have n:br i at_ x=(gh x i.n (gAt x i.a).s,ci (gAt x i.a)):=by unfold br;rw[if_neg (by omega),if_neg (by omega),if_neg (by omega),if_neg (by omega),if_pos hk]
 rw[n];clear n;have g:=mJ;have z:=mV;have N1:sT ((w.alloc (A #[O d,O d,I Y 0,I Y 0,O d,O d,U E 0 0] 91)).alloc (A #[O W5,I Y 0,I Y 0] 89)) (R (M w)+1) [O W5,I Y 0,I Y 0]:=by
  exact Aq
 have H:=fi;have j:=ag hS.2.1;have T:=hS.2.1;have L:=hS.call g;have u:=mO;have qY:=ag u;clear u;have o:=(b9 K.one).2.2.2.2.1 (.inl hk);have hN:∃p:Nat,i.n=p/\(p:Int) < F:=by
  obtain⟨p,ep⟩:=j8 o.1;exact⟨p,ep,aa⟩
 have HG:=ag (a4Y sb i V F s c _ _ x vs vc fs fc y d t w0 _ L l k r (a.trans (g.mono a.size)) K kJ hN);rw[hk] at H;clear hS l k a K r hk o hN;generalize gh x i.n (gAt x i.a).s=G at *;generalize ci (gAt x i.a)=nt at *;go_enter func98,ntmps98;go_wp2_with fail;clear H T;generalize ((w.alloc _).alloc _)=w1 at *;go_call HG.out as e P ⟨⟨⟨Q,S,rfl,W,J1,J2⟩,C2⟩,D⟩;have m:=z.same (D.2 _ z.2.1 qY.out) D.1.size;have MM:=(a7v.of g j.out).trans D;have ab:=z.2.1;clear HG z N1 L D g;obtain⟨Z,B,r2,r3,r4,r5,r6⟩:=m.c7;have f0:=m.2.2 0;have f1:=m.2.2 1;have f2:=m.2.2 2;have f3:=m.2.2 3;have f4:=m.2.2 4;have f5:=m.2.2 5;have f6:=m.2.2 6;go_wp2_with fail;clear Z f0 B f1 r2 f2 r3 f3 r4 f4 r5 f5 r6 f6;have R3:sT (((((((P.setCell ⟨R (M w),0,E⟩ (O G.n)).setCell ⟨R (M w),1,E⟩ (O G.sp.n)).setCell ⟨R (M w),2,E⟩ (I Y G.sp.lo)).setCell ⟨R (M w),3,E⟩ (I Y G.sp.hi)).setCell ⟨R (M w),4,E⟩ (O G.t)).setCell ⟨R (M w),5,E⟩ (O G.f)).setCell ⟨R (M w),6,E⟩ (U Q (X G.s) S)) (R (M w)) [O G.n,O G.sp.n,I Y G.sp.lo,I Y G.sp.hi,O G.t,O G.f,U Q (X G.s) S]:=((((((m.put 0 ae _).put 1 ae _).put 2 ae _).put 3 ae _).put 4 ae _).put 5 ae _).put 6 ae _;have xV:∀q,q≠R (M w)->(((((((P.setCell ⟨R (M w),0,E⟩ (O G.n)).setCell ⟨R (M w),1,E⟩ (O G.sp.n)).setCell ⟨R (M w),2,E⟩ (I Y G.sp.lo)).setCell ⟨R (M w),3,E⟩ (I Y G.sp.hi)).setCell ⟨R (M w),4,E⟩ (O G.t)).setCell ⟨R (M w),5,E⟩ (O G.f)).setCell ⟨R (M w),6,E⟩ (U Q (X G.s) S)).heap[q]? =P.heap[q]? :=λq hq=>kN;have xT:R (M P)<=R (M (((((((P.setCell ⟨R (M w),0,E⟩ (O G.n)).setCell ⟨R (M w),1,E⟩ (O G.sp.n)).setCell ⟨R (M w),2,E⟩ (I Y G.sp.lo)).setCell ⟨R (M w),3,E⟩ (I Y G.sp.hi)).setCell ⟨R (M w),4,E⟩ (O G.t)).setCell ⟨R (M w),5,E⟩ (O G.f)).setCell ⟨R (M w),6,E⟩ (U Q (X G.s) S))):=bI;have C3:=pR;have M3:a7v sb w (((((((P.setCell ⟨R (M w),0,E⟩ (O G.n)).setCell ⟨R (M w),1,E⟩ (O G.sp.n)).setCell ⟨R (M w),2,E⟩ (I Y G.sp.lo)).setCell ⟨R (M w),3,E⟩ (I Y G.sp.hi)).setCell ⟨R (M w),4,E⟩ (O G.t)).setCell ⟨R (M w),5,E⟩ (O G.f)).setCell ⟨R (M w),6,E⟩ (U Q (X G.s) S)):=⟨(((((((MM.1.setCell (j6 j.out) _).setCell (j6 j.out) _).setCell (j6 j.out) _).setCell (j6 j.out) _).setCell (j6 j.out) _).setCell (j6 j.out) _).setCell (j6 j.out) _),λb N u=>by rw[xV b (by omega)];exact MM.2 b N u⟩;have I3:a7c (λb=>R (M w)<=b) (((((((P.setCell ⟨R (M w),0,E⟩ (O G.n)).setCell ⟨R (M w),1,E⟩ (O G.sp.n)).setCell ⟨R (M w),2,E⟩ (I Y G.sp.lo)).setCell ⟨R (M w),3,E⟩ (I Y G.sp.hi)).setCell ⟨R (M w),4,E⟩ (O G.t)).setCell ⟨R (M w),5,E⟩ (O G.f)).setCell ⟨R (M w),6,E⟩ (U Q (X G.s) S)) Q G.s:=(W.same (λb N _=>xV b aa) xT).mono λb N _=>aa;clear xV xT;generalize eW:(((((((P.setCell _ _).setCell _ _).setCell _ _).setCell _ _).setCell _ _).setCell _ _).setCell _ _)=w3 at *;clear eW;obtain⟨d0,d1,d2,d3,d4,d5,d6⟩:=R3.c7;(try go_wp2);refine bodyPost_ret (v:=Ag #[O G.n,O G.sp.n,I Y G.sp.lo,I Y G.sp.hi,O G.t,O G.f,U Q (X G.s) S]) pE rfl ⟨⟨⟨_,_,rfl,I3,J1,J2⟩,C3⟩,M3⟩
def a7l.varB0 {V F:Int}{c:lI}{x:Pic}{vc fc:Nat}{i:Ins}{at_:Int}(K:a7l V F c x vc fc i at_):∃k:Nat,i.b=k/\k < X x.vq:=by
 cases hB:nB i.k with
 |true=>exact K.varB hB
 |false=>
  have h:=K.one;have a:=K.kx.vq;have t:=(cU K.h0).v1;have y:=(b9 K.one);unfold bo at h;split at h
  .cases h
  split at h
  .cases h
  split at h
  .cases h
  split at h
  .cases h
  .rename_i h4
   simp only[hB,Bool.not_false,Bool.true_and,Bool.or_eq_true,decide_eq_true_eq,not_or,Bool.and_eq_true,Bool.not_eq_true'] at h4;refine⟨0,by simpa using h4.1.1.2,aa⟩
def Gb(h:p:=by
 refine rH1 39 λK hK=> ?_;have r0:=A4.1 0 _ rfl;have r1:=A4.1 1 _ rfl;have r2:=A4.1 2 _ rfl;have r3:=A4.1 3 _ rfl;have r4:=A4.1 4 _ rfl;have r5:=A4.1 5 _ rfl;have r6:=A4.1 6 _ rfl;have f0:=A4.2.2 0;have f1:=A4.2.2 1;have f2:=A4.2.2 2;have f3:=A4.2.2 3;have f4:=A4.2.2 4;have f5:=A4.2.2 5;have f6:=A4.2.2 6;go_simp;have A5:sT (((((((w4.setCell ⟨ab,0,E⟩ (O G.n)).setCell ⟨ab,1,E⟩ (O G.sp.n)).setCell ⟨ab,2,E⟩ (I Y G.sp.lo)).setCell ⟨ab,3,E⟩ (I Y G.sp.hi)).setCell ⟨ab,4,E⟩ (O G.t)).setCell ⟨ab,5,E⟩ (O G.f)).setCell ⟨ab,6,E⟩ (U js (X G.s) jc)) ab [O G.n,O G.sp.n,I Y G.sp.lo,I Y G.sp.hi,O G.t,O G.f,U js (X G.s) jc]:=((((((A4.put 0 ae _).put 1 ae _).put 2 ae _).put 3 ae _).put 4 ae _).put 5 ae _).put 6 ae _;have xV:∀q,q≠ab->(((((((w4.setCell ⟨ab,0,E⟩ (O G.n)).setCell ⟨ab,1,E⟩ (O G.sp.n)).setCell ⟨ab,2,E⟩ (I Y G.sp.lo)).setCell ⟨ab,3,E⟩ (I Y G.sp.hi)).setCell ⟨ab,4,E⟩ (O G.t)).setCell ⟨ab,5,E⟩ (O G.f)).setCell ⟨ab,6,E⟩ (U js (X G.s) jc)).heap[q]? =w4.heap[q]? :=λq hq=>kN;have xT:R (M w4)<=R (M (((((((w4.setCell ⟨ab,0,E⟩ (O G.n)).setCell ⟨ab,1,E⟩ (O G.sp.n)).setCell ⟨ab,2,E⟩ (I Y G.sp.lo)).setCell ⟨ab,3,E⟩ (I Y G.sp.hi)).setCell ⟨ab,4,E⟩ (O G.t)).setCell ⟨ab,5,E⟩ (O G.f)).setCell ⟨ab,6,E⟩ (U js (X G.s) jc))):=bI;have B5:bl w1 (((((((w4.setCell ⟨ab,0,E⟩ (O G.n)).setCell ⟨ab,1,E⟩ (O G.sp.n)).setCell ⟨ab,2,E⟩ (I Y G.sp.lo)).setCell ⟨ab,3,E⟩ (I Y G.sp.hi)).setCell ⟨ab,4,E⟩ (O G.t)).setCell ⟨ab,5,E⟩ (O G.f)).setCell ⟨ab,6,E⟩ (U js (X G.s) jc)):=((((((B4.setCell jS _).setCell jS _).setCell jS _).setCell jS _).setCell jS _).setCell jS _).setCell jS _;have I5:=I4.same (λb hb _=>xV b hb.2) xT;refine hK.out _ _ (xP.out _ B5) (λQv=> ?_);clear hK K r0 f0 r1 f1 r2 f2 r3 f3 r4 f4 r5 f5 r6 f6 A4 B4 I4 xV xT;refine sm ?_;generalize (((((((w4.setCell ⟨ab,0,E⟩ (O G.n)).setCell ⟨ab,1,E⟩ (O G.sp.n)).setCell ⟨ab,2,E⟩ (I Y G.sp.lo)).setCell ⟨ab,3,E⟩ (I Y G.sp.hi)).setCell ⟨ab,4,E⟩ (O G.t)).setCell ⟨ab,5,E⟩ (O G.f)).setCell ⟨ab,6,E⟩ (U js (X G.s) jc))=w5 at *;refine QO 40 ?_;refine QO 41 ?_;refine wpAnyH_done ac ?_ _;have C6:=HCC.out w5 B5;have R6:=HRR.out w5 B5;have s14:=C6.1 14 _ rfl;have f14:=C6.2.2 14;go_upto_region 15 with fail
 clear s14 f14;have C7:sT (w5.setCell ⟨sb,14,E⟩ (O wr)) sb (bk i V F s c cap at_ x vs vc fs fc ev wr fl):=C6.put 14 (by simp[bk]) _;have R7:=R6.far (a:=⟨sb,14,E⟩) qY.out (O wr);have A7:=A5.far (a:=⟨sb,14,E⟩) Vj (O wr);have M7:a7v sb w (w5.setCell ⟨sb,14,E⟩ (O wr)):=(a7v.of (zX.out.trans (B5.mono zX.out.size)) xE.out).put 14 _;have I7:=I5.same (w':=w5.setCell ⟨sb,14,E⟩ (O wr)) (λb hb _=>hSe _ _ _ _ Vj) bI;clear C6 R6 A5 I5 B5;generalize w5.setCell ⟨sb,14,E⟩ (O wr)=w7 at *;have r0:=R7.1 0 _ rfl;have r1:=R7.1 1 _ rfl;have r2:=R7.1 2 _ rfl;have r3:=R7.1 3 _ rfl;have r4:=R7.1 4 _ rfl;have r5:=R7.1 5 _ rfl;have r6:=R7.1 6 _ rfl;have f0:=R7.2.2 0;have f1:=R7.2.2 1;have f2:=R7.2.2 2;have f3:=R7.2.2 3;have f4:=R7.2.2 4;have f5:=R7.2.2 5;have f6:=R7.2.2 6;have a0:=A7.1 0 _ rfl;have a1:=A7.1 1 _ rfl;have a2:=A7.1 2 _ rfl;have a3:=A7.1 3 _ rfl;have a4:=A7.1 4 _ rfl;have a5:=A7.1 5 _ rfl;have a6:=A7.1 6 _ rfl;go_wp2_with fail;clear r0 f0 a0 r1 f1 a1 r2 f2 a2 r3 f3 a3 r4 f4 a4 r5 f5 a5 r6 f6 a6;have R3:sT (((((((w7.setCell ⟨R (M w),0,E⟩ (O G.n)).setCell ⟨R (M w),1,E⟩ (O G.sp.n)).setCell ⟨R (M w),2,E⟩ (I Y G.sp.lo)).setCell ⟨R (M w),3,E⟩ (I Y G.sp.hi)).setCell ⟨R (M w),4,E⟩ (O G.t)).setCell ⟨R (M w),5,E⟩ (O G.f)).setCell ⟨R (M w),6,E⟩ (U js (X G.s) jc)) (R (M w)) [O G.n,O G.sp.n,I Y G.sp.lo,I Y G.sp.hi,O G.t,O G.f,U js (X G.s) jc]:=((((((R7.put 0 ae _).put 1 ae _).put 2 ae _).put 3 ae _).put 4 ae _).put 5 ae _).put 6 ae _;have xV:∀q,q≠R (M w)->(((((((w7.setCell ⟨R (M w),0,E⟩ (O G.n)).setCell ⟨R (M w),1,E⟩ (O G.sp.n)).setCell ⟨R (M w),2,E⟩ (I Y G.sp.lo)).setCell ⟨R (M w),3,E⟩ (I Y G.sp.hi)).setCell ⟨R (M w),4,E⟩ (O G.t)).setCell ⟨R (M w),5,E⟩ (O G.f)).setCell ⟨R (M w),6,E⟩ (U js (X G.s) jc)).heap[q]? =w7.heap[q]? :=λq hq=>kN;have xT:R (M w7)<=R (M (((((((w7.setCell ⟨R (M w),0,E⟩ (O G.n)).setCell ⟨R (M w),1,E⟩ (O G.sp.n)).setCell ⟨R (M w),2,E⟩ (I Y G.sp.lo)).setCell ⟨R (M w),3,E⟩ (I Y G.sp.hi)).setCell ⟨R (M w),4,E⟩ (O G.t)).setCell ⟨R (M w),5,E⟩ (O G.f)).setCell ⟨R (M w),6,E⟩ (U js (X G.s) jc))):=bI;have C3:=C7.same (xV sb (Ne.symm qY.out)) xT;have M3:a7v sb w (((((((w7.setCell ⟨R (M w),0,E⟩ (O G.n)).setCell ⟨R (M w),1,E⟩ (O G.sp.n)).setCell ⟨R (M w),2,E⟩ (I Y G.sp.lo)).setCell ⟨R (M w),3,E⟩ (I Y G.sp.hi)).setCell ⟨R (M w),4,E⟩ (O G.t)).setCell ⟨R (M w),5,E⟩ (O G.f)).setCell ⟨R (M w),6,E⟩ (U js (X G.s) jc)):=⟨(((((((M7.1.setCell (Nat.le_of_lt xE.out) _).setCell (Nat.le_of_lt xE.out) _).setCell (Nat.le_of_lt xE.out) _).setCell (Nat.le_of_lt xE.out) _).setCell (Nat.le_of_lt xE.out) _).setCell (Nat.le_of_lt xE.out) _).setCell (Nat.le_of_lt xE.out) _),λb hb zk=>by rw[xV b (by omega)];exact M7.2 b hb zk⟩;have I3:a7c (λb=>R (M w)<=b) (((((((w7.setCell ⟨R (M w),0,E⟩ (O G.n)).setCell ⟨R (M w),1,E⟩ (O G.sp.n)).setCell ⟨R (M w),2,E⟩ (I Y G.sp.lo)).setCell ⟨R (M w),3,E⟩ (I Y G.sp.hi)).setCell ⟨R (M w),4,E⟩ (O G.t)).setCell ⟨R (M w),5,E⟩ (O G.f)).setCell ⟨R (M w),6,E⟩ (U js (X G.s) jc)) js G.s:=(I7.same (λb hb _=>xV b (by have:=qk.out;omega)) xT).mono λb hb _=>by have:=qk.out;omega
 clear xV xT;generalize eW:(((((((w7.setCell ⟨R (M w),0,E⟩ (O G.n)).setCell ⟨R (M w),1,E⟩ (O G.sp.n)).setCell ⟨R (M w),2,E⟩ (I Y G.sp.lo)).setCell ⟨R (M w),3,E⟩ (I Y G.sp.hi)).setCell ⟨R (M w),4,E⟩ (O G.t)).setCell ⟨R (M w),5,E⟩ (O G.f)).setCell ⟨R (M w),6,E⟩ (U js (X G.s) jc))=w3 at *;clear eW;have d0:=R3.1 0 _ rfl;have d1:=R3.1 1 _ rfl;have d2:=R3.1 2 _ rfl;have d3:=R3.1 3 _ rfl;have d4:=R3.1 4 _ rfl;have d5:=R3.1 5 _ rfl;have d6:=R3.1 6 _ rfl;(try go_wp2);refine bodyPost_ret (v:=.agg #[O G.n,O G.sp.n,I Y G.sp.lo,I Y G.sp.hi,O G.t,O G.f,U js (X G.s) jc]) pE rfl ⟨⟨⟨_,_,rfl,I3,J1,J2⟩,C3⟩,M3⟩):=h
def a1U(hS:sT w sb (bk i V F s c cap at_ x vs vc fs fc ev d fl))(l:a2r w0 s c)(k:a4r w0 x vs fs)(r:R (M w0)<=sb)(zv:bl w0 w)(K:a7l V F c x vc fc i at_)(g:4<=i.k)(m:i.k<=10):
  Calls f 98 #[Pp (sO ⟨sb,0,E⟩)] w λe w'=>oE (R (M w)) sb w' e (br i at_ x).1 (bk i V F s c cap at_ x vs vc fs fc ev (br i at_ x).2 fl)/\a7v sb w w':=by
 have ba:br i at_ x=de i.k (gAt x i.a) (gAt x i.b):=by unfold br;rw[if_neg (by omega),if_neg (by omega),if_neg (by omega),if_neg (by omega),if_neg (by omega),if_neg (by omega)]
 rw[ba];clear ba;have vZ:=mJ;have R1:=mV;have N1:sT ((w.alloc (A #[O d,O d,I Y 0,I Y 0,O d,O d,U E 0 0] 91)).alloc (A #[O W5,I Y 0,I Y 0] 89)) (R (M w)+1) [O W5,I Y 0,I Y 0]:=by
  exact Aq
 have H:=fi;have xE:=ag hS.2.1;have T:=hS.2.1;have L:=hS.call vZ;have zk:=mO;have qY:=ag zk;clear zk;obtain⟨ka,ar,ap⟩:=K.varA (by unfold nA btw;simp;omega);obtain⟨kb,ao,ax⟩:=K.varB0;have a7:gAt x i.a=x.vq[ka]:=by rw[ar,la ap]
 have a8:gAt x i.b=x.vq[kb]:=by rw[ao,la ax]
 rw[a7,a8];obtain⟨D,B,Z,ak,am,G1,I1,k1,m1⟩:=k.1 ka ap;obtain⟨b2,o2,e2,ad,ah,G2,I2,k2,m2⟩:=k.1 kb ax;have bf:=Z.symm.trans e2;cases bf;have HD:Hid (∀u,n4 (R (M (((w.alloc (A #[O d,O d,I Y 0,I Y 0,O d,O d,U E 0 0] 91)).alloc (A #[O W5,I Y 0,I Y 0] 89))))) ((w.alloc (A #[O d,O d,I Y 0,I Y 0,O d,O d,U E 0 0] 91)).alloc (A #[O W5,I Y 0,I Y 0] 89)) u->Calls f 164 #[pv V F s c cap,I Y i.k,gv x.vq[ka] ak am,gv x.vq[kb] ad ah] u λe w'=>(∃js jc,e=Rt (Tu #[Ag #[O (de i.k x.vq[ka] x.vq[kb]).1.n,O (de i.k x.vq[ka] x.vq[kb]).1.sp.n,I Y (de i.k x.vq[ka] x.vq[kb]).1.sp.lo,I Y (de i.k x.vq[ka] x.vq[kb]).1.sp.hi,O (de i.k x.vq[ka] x.vq[kb]).1.t,O (de i.k x.vq[ka] x.vq[kb]).1.f,U js (X (de i.k x.vq[ka] x.vq[kb]).1.s) jc],O (de i.k x.vq[ka] x.vq[kb]).2,I Y 0])/\yv w' js (de i.k x.vq[ka] x.vq[kb]).1.s/\X (de i.k x.vq[ka] x.vq[kb]).1.s<=jc/\jc<=maxLen/\∀a,js=sO a->R (M u)<=a.block/\Thw w' a.block)/\bl u w'):=λu hb=>by
  have N:=RZ;have az:=K.kx.gv _ (gM ap);have a9:=K.kx.gv _ (gM ax);have bc:=K.duo az a9;have bb:doE (aY V F c [x.vq[ka],x.vq[kb]]) i.k=0:=by unfold doE;rw[if_pos bc,if_neg (by omega)]
  go_call doU V F s c cap x.vq[ka] ak am x.vq[kb] ad ah i.k u (l.below N (lR _)) (I1.below N (lR _)) k1 m1 (I2.below N (lR _)) k2 m2 as e w' ⟨J,js,jc,wr,y,z,h3,h4,h5,h6,h7,h8⟩;rw[bb,if_pos rfl] at z;rw[bb] at y;rw[<-z];exact⟨⟨js,jc,y,h3,h4,h5,h6⟩,h8⟩
 have xP:Hid (∀u,n4 (R (M (((w.alloc (A #[O d,O d,I Y 0,I Y 0,O d,O d,U E 0 0] 91)).alloc (A #[O W5,I Y 0,I Y 0] 89))))) ((w.alloc (A #[O d,O d,I Y 0,I Y 0,O d,O d,U E 0 0] 91)).alloc (A #[O W5,I Y 0,I Y 0] 89)) u->(u.cell? ⟨sb,6,E⟩=sO (I Y V)/\u.cell? ⟨sb,7,E⟩=sO (I Y F)/\u.cell? ⟨sb,8,E⟩=sO (U s (X c) cap))/\u.cell? ⟨sb,0,E⟩=sO (I Y i.k)/\(u.cell? ⟨sb,2,E⟩=sO (I Y (ka:Int))/\u.cell? ⟨sb,3,E⟩=sO (I Y (kb:Int))/\u.cell? ⟨sb,11,E⟩=sO (U (sO ⟨D,B,E⟩) (X x.vq) vc))/\(u.cell? ⟨D,B+ka * 7,E⟩=sO (O x.vq[ka].n)/\u.cell? ⟨D,B+ka * 7+1,E⟩=sO (O x.vq[ka].sp.n)/\u.cell? ⟨D,B+ka * 7+2,E⟩=sO (I Y x.vq[ka].sp.lo)/\u.cell? ⟨D,B+ka * 7+3,E⟩=sO (I Y x.vq[ka].sp.hi)/\u.cell? ⟨D,B+ka * 7+4,E⟩=sO (O x.vq[ka].t)/\u.cell? ⟨D,B+ka * 7+5,E⟩=sO (O x.vq[ka].f)/\u.cell? ⟨D,B+ka * 7+6,E⟩=sO (U ak (X x.vq[ka].s) am))/\(u.cell? ⟨D,B+kb * 7,E⟩=sO (O x.vq[kb].n)/\u.cell? ⟨D,B+kb * 7+1,E⟩=sO (O x.vq[kb].sp.n)/\u.cell? ⟨D,B+kb * 7+2,E⟩=sO (I Y x.vq[kb].sp.lo)/\u.cell? ⟨D,B+kb * 7+3,E⟩=sO (I Y x.vq[kb].sp.hi)/\u.cell? ⟨D,B+kb * 7+4,E⟩=sO (O x.vq[kb].t)/\u.cell? ⟨D,B+kb * 7+5,E⟩=sO (O x.vq[kb].f)/\u.cell? ⟨D,B+kb * 7+6,E⟩=sO (U ad (X x.vq[kb].s) ah))):=λu hb=>by
  have N:=RZ;have h:=L.call hb;refine⟨⟨h.1 6 _ rfl,h.1 7 _ rfl,h.1 8 _ rfl⟩,h.1 0 _ rfl,⟨by rw[<-ar];exact h.1 2 _ rfl,by rw[<-ao];exact h.1 3 _ rfl,?_⟩,(G1.below N (lR _)).1,(G2.below N (lR _)).1⟩;have:=h.1 11 _ rfl;rw[Z] at this;exact this
 have HCC:Hid (∀u,n4 (R (M (((w.alloc (A #[O d,O d,I Y 0,I Y 0,O d,O d,U E 0 0] 91)).alloc (A #[O W5,I Y 0,I Y 0] 89))))) ((w.alloc (A #[O d,O d,I Y 0,I Y 0,O d,O d,U E 0 0] 91)).alloc (A #[O W5,I Y 0,I Y 0] 89)) u->sT u sb (bk i V F s c cap at_ x vs vc fs fc ev d fl)):=λu hb=>L.call hb;have HRR:Hid (∀u,n4 (R (M (((w.alloc (A #[O d,O d,I Y 0,I Y 0,O d,O d,U E 0 0] 91)).alloc (A #[O W5,I Y 0,I Y 0] 89))))) ((w.alloc (A #[O d,O d,I Y 0,I Y 0,O d,O d,U E 0 0] 91)).alloc (A #[O W5,I Y 0,I Y 0] 89)) u->sT u (R (M w)) [O d,O d,I Y 0,I Y 0,O d,O d,U E 0 0]):=λu hb=>R1.call hb;have qk:Hid (R (M w) < R (M (((w.alloc (A #[O d,O d,I Y 0,I Y 0,O d,O d,U E 0 0] 91)).alloc (A #[O W5,I Y 0,I Y 0] 89))))):=R1.2.1;have zX:=ag vZ;have q1:(i.k==1)=false:=au;have q2:(i.k==2)=false:=au;have q3:(i.k==3)=false:=au;have bg:(i.k==12)=false:=au;have be:(i.k==14)=false:=au;have n0:=lE;have n1:=Du;have n2:(0:Int)<=(kb:Int):=aa;have n3:=Fd;clear hS l k zv K r a7 a8 G1 G2 I1 I2 ar ao Z e2;obtain⟨⟨G,wr⟩,hG⟩:∃q,q=de i.k x.vq[ka] x.vq[kb]:=⟨_,rfl⟩;rw[<-hG] at HD |-;clear hG;go_enter func98,ntmps98;go_upto_region 13 with fail
 clear H q1 q2 q3 bg be;generalize ((w.alloc _).alloc _)=w1 at *;have B1:=iO;clear vZ T R1 N1 L;refine XL ac xP.out B1 (λW=> ?_);generalize w1.drew=w2 at *;have B2:=B1;clear B1;refine QT ?_;refine QW ?_;refine XC ?_;refine wpAnyH_ready (rs:=[33,38]) ac ae ?_;refine AllReadyH.cons rfl (λK hK=> ?_) (AllReadyH.cons rfl (λK hK=> ?_) AllReadyH.nil)
 .go_simp
  go_call HD.out w2 B2 as e w3 ⟨⟨js,jc,rfl,JI,J1,J2,JF⟩,xp⟩;have B3:=kF;have I3:a7c (λb=>R (M w1)<=b) w3 js G.s:=by
   rcases JI with h|⟨b,ay,e,hb,j⟩
   .exact cA
   .have hz:=JF _ e
    simp only at hz;exact .inr ⟨b,ay,e,Bt,⟨hb,hz.2⟩,j⟩
  clear JI JF;refine hK.out _ _ (xP.out _ B3) (λal=> ?_);clear hK K xp B2;refine sm ?_;refine QO 34 ?_;refine QO 35 ?_;refine QO 36 ?_;refine QO 37 ?_;refine rH1 38 λK hK=> ?_;go_simp;have xD:n4 (R (M w3)) w3 (w3.alloc (A #[O d,O d,I Y 0,I Y 0,O d,O d,U E 0 0] 91)):=ai;have B4:=uZ;have A4:=sT.new w3 91 [O d,O d,I Y 0,I Y 0,O d,O d,U E 0 0];have jS:=B3.size;have I4:a7c (λb=>R (M w1)<=b/\b≠R (M w3)) (w3.alloc (A #[O d,O d,I Y 0,I Y 0,O d,O d,U E 0 0] 91)) js G.s:=(I3.mono λb hb bm=>⟨hb,Nat.ne_of_lt bm⟩).call xD;clear I3;clear B3;refine hK.out _ _ (xP.out _ B4) (λaf=> ?_);clear hK K xD;refine sm ?_;generalize w3.alloc _=w4 at *;generalize (R (M w3))=ab at *;exact Gb
 .go_simp
  have xp:n4 (R (M w2)) w2 (w2.alloc (A #[O d,O d,I Y 0,I Y 0,O d,O d,U E 0 0] 91)):=ai;have B3:=kF;have A3:=sT.new w2 91 [O d,O d,I Y 0,I Y 0,O d,O d,U E 0 0];have jS:=B2.size;clear B2;refine hK.out _ _ (xP.out _ B3) (λal=> ?_);clear hK K xp;refine sm ?_;generalize w2.alloc _=w3 at *;generalize (R (M w2))=ab at *;refine rH1 33 λK hK=> ?_;go_simp;go_call HD.out w3 B3 as e w4 ⟨⟨js,jc,rfl,JI,J1,J2,JF⟩,xD⟩;have A4:=A3.call xD;have B4:=uZ;have I4:a7c (λb=>R (M w1)<=b/\b≠ab) w4 js G.s:=by
   rcases JI with h|⟨b,ay,e,hb,j⟩
   .exact cA
   .have hz:=JF _ e
    simp only at hz;exact .inr ⟨b,ay,e,⟨by have:=B3.size;omega,by have:=A3.2.1;omega⟩,⟨hb,hz.2⟩,j⟩
  clear JI JF;refine hK.out _ _ (xP.out _ B4) (λaf=> ?_);clear hK K xD A3 B3;refine sm ?_;refine QO 34 ?_;refine QO 35 ?_;refine QO 36 ?_;refine QO 37 ?_;exact Gb
def a4A(hS:sT w j (bk i V F s c cap at_ x vs vc fs fc (U E 0 0) d d))(l:a2r w0 s c)(k:a4r w0 x vs fs)(r:R (M w0)<=j)(a:bl w0 w)(K:a7l V F c x vc fc i at_)(hk:i.k=11):
  Calls f 47 #[Pp (G ⟨j,0,E⟩)] w λe w'=>e=Rt (Tu #[])/\dj j w' (λn=>bk i V F s c cap at_ x vs vc fs fc n d d) [] ([⟨at_+1,(bq (iW at_ x) i.tgt ⟨d,⟨W5,0,0⟩,d,d,[at_]⟩)⟩])/\n4 j w w':=by
 have o:∃m:Nat,at_=m/\m < X x.fq:=by
  obtain⟨m,q⟩:=j8 K.a0;have y:=K.a1;have z:=K.kx.fq;exact⟨m,q,aa⟩
 have B:=ag (RC (bq (iW at_ x) i.tgt ⟨d,⟨W5,0,0⟩,d,d,[at_]⟩) [] E 0 j i V F s c cap at_ x vs vc fs fc d d w0 w hS l k r a K (a7t.nil j j w) ae (λu N hs t=>a5u j j _ i V F s c _ _ x vs vc fs fc _ d d _ u hs t (K.varTo kJ) o (j6 (lL hS.2.1 N.size)) (λb h=>bU)));have H:=fi;rw[hk] at H;clear hS l k a K r hk;go_enter func47,ntmps47;go_wp2_with fail;go_call B.out as e T ⟨rfl,D,g⟩;have Z:=ag D;clear D B H;go_wp2;first|go_end0|refine bodyPost_ret (results_none rfl _ _ _) rfl ?_
 exact⟨rfl,Z.out,g⟩
def a3M(hS:sT w j (bk i V F s c cap at_ x vs vc fs fc (U E 0 0) d d))(l:a2r w0 s c)(k:a4r w0 x vs fs)(r:R (M w0)<=j)(a:bl w0 w)(K:a7l V F c x vc fc i at_)(hk:i.k=13):
  Calls f 47 #[Pp (G ⟨j,0,E⟩)] w λe w'=>e=Rt (Tu #[])/\dj j w' (λn=>bk i V F s c cap at_ x vs vc fs fc n (ci (gAt x i.a)) d) [] (if X (gAt x i.a).s=0 then [] else [⟨at_+1,(dW x i.n (gAt x i.b) (gAt x i.a).s)⟩])/\n4 j w w':=by
 obtain⟨W,v⟩:∃q:List Edg,q=if X (gAt x i.a).s=0 then [] else [⟨at_+1,(dW x i.n (gAt x i.b) (gAt x i.a).s)⟩]:=⟨_,rfl⟩
 rw[<-v];have z:=ag v;clear v;have m:∃p:Nat,i.n=p/\(p:Int) < F:=by
  have o:=(b9 K.one).2.2.2.2.1 (.inr hk);obtain⟨p,y⟩:=j8 o.1;exact⟨p,y,aa⟩
 have B:=ag (a5z (dW x i.n (gAt x i.b) (gAt x i.a).s) [] E 0 j i V F s c cap at_ x vs vc fs fc d d w0 w hS l k r a K (a7t.nil j j w) ae kJ (λu Q S L N hs t hq hi=>a5j j j _ i V F s c _ _ x vs vc fs fc _ _ d L _ Q S w0 u hs t hq l k hi N K kJ kJ m (j6 hs.2.1) (λb h=>bU)));have H:=fi;rw[hk] at H;clear hS l k a K r hk;go_enter func47,ntmps47;go_wp2_with fail;go_call B.out as e T ⟨rfl,D,g⟩;have Z:=ag D;clear D B H;go_wp2;first|go_end0|refine bodyPost_ret (results_none rfl _ _ _) rfl ?_
 exact⟨rfl,by rw[z.out];exact Z.out,g⟩
def a4M(hS:sT w j (bk i V F s c cap at_ x vs vc fs fc (U E 0 0) d d))(zZ:a2r w0 s c)(zL:a4r w0 x vs fs)(xS:R (M w0)<=j)(zv:bl w0 w)(K:a7l V F c x vc fc i at_)(hk:i.k=15):
  Calls f 47 #[Pp (G ⟨j,0,E⟩)] w λe w'=>e=Rt (Tu #[])/\dj j w' (λn=>bk i V F s c cap at_ x vs vc fs fc n d d) [] ((if cM (gAt x i.a) then [⟨i.g,bq x i.a (bM (gAt x i.a))⟩] else [])++(if dp (gAt x i.a) then [⟨at_+1,bq x i.a (cF (gAt x i.a))⟩] else []))/\n4 j w w':=by
 obtain⟨W,v⟩:∃q:List Edg,q=(if cM (gAt x i.a) then [⟨i.g,bq x i.a (bM (gAt x i.a))⟩] else [])++(if dp (gAt x i.a) then [⟨at_+1,bq x i.a (cF (gAt x i.a))⟩] else []):=⟨_,rfl⟩;rw[<-v];have z:=ag v;clear v;have m:=K.a0;have Z:=ns;have B:=ag (Ic i.g [] E 0 j i V F s c cap at_ x vs vc fs fc d d w0 w hS zZ zL xS zv K (a7t.nil j j w) ae kJ);have hA:nA i.k=true:=kJ;have H:=fi;rw[hk] at H;have s5:=hS.1 5 _ rfl;have Q:=Po;clear hS zZ zL zv K xS hk hA;go_enter func47,ntmps47;go_wp2_with fail;go_call B.out as e T ⟨rfl,D,g⟩;obtain⟨zZ,zL,xS,zv,K,hA⟩:=Q.out;obtain⟨y,l,L,r,a⟩:=D;rw[j7] at r;obtain⟨es,t,rfl,-,-⟩:=r.form;have hq:X l<=10:=by
  have h:=congrArg X a;rw[j9] at h;rw[h];split<;>simp
 have k:=zv.trans (g.mono xS);have HN:=ag (Ts (at_+1) l es t j i V F s c _ _ x vs vc fs fc d d w0 T L zZ zL xS k K r hq hA);have HQ:=ag a;have u:=ag L;clear L r a B Q zZ zL xS zv K hA k hq H s5;go_wp2_with fail;go_call nc j at_ _ T u.out rfl m Z as e wz ⟨rfl,S⟩;rw[S];clear S wz;go_wp2_with fail;go_call HN.out as e P ⟨rfl,⟨ab,ad,b,E2,N⟩,o⟩;have HF:Hid (dj j P (λn=>bk i V F s c cap at_ x vs vc fs fc n d d) [] ((if cM (gAt x i.a) then [⟨i.g,bq x i.a (bM (gAt x i.a))⟩] else [])++(if dp (gAt x i.a) then [⟨at_+1,bq x i.a (cF (gAt x i.a))⟩] else []))):=⟨ab,l++ad,b,by rw[j7];exact E2,by rw[List.map_append,HQ.out,N]⟩;clear b E2 N HN u HQ;go_wp2;first|go_end0|refine bodyPost_ret (results_none rfl _ _ _) rfl ?_
 exact⟨rfl,by rw[z.out];exact HF.out,g.trans o⟩
def Ih(h:p:=by
 go_wp2_with fail;refine(HC.out w rfl).mono ?_;rintro e w1 ⟨rfl,HA0,vZ⟩;have HA:=ag HA0;clear HA0 HC s0;go_wp2;first|go_end0|refine bodyPost_ret (results_none rfl _ _ _) rfl ?_
 exact⟨rfl,HA.out,vZ⟩):=h
def a4X(hS:sT w j (bk i V F s c cap at_ x vs vc fs fc (U E 0 0) d d))(l:a2r w0 s c)(k:a4r w0 x vs fs)(r:R (M w0)<=j)(a:bl w0 w)(K:a7l V F c x vc fc i at_)(b:i.k=16):
  Calls f 47 #[Pp (G ⟨j,0,E⟩)] w λe w'=>e=Rt (Tu #[])/\dj j w' (λn=>bk i V F s c cap at_ x vs vc fs fc n d d) [] ([⟨i.g,x⟩])/\n4 j w w':=by
 have HC:Hid (∀u,u=w->Calls f 93 #[Pp (G ⟨j,0,E⟩),I Y (i.g),.func (.func 94) #[] #[]] u λe w'=>e=Rt (Tu #[])/\dj j w' (λn=>bk i V F s c cap at_ x vs vc fs fc n d d) [] [⟨i.g,x⟩]/\n4 j u w'):=λu B=>by
  subst B;go_call a1v j (i.g) x [] E 0 j i V F s c cap at_ x vs vc fs fc d d w0 u hS l k r a K rfl (a7t.nil j j u) ae (a3W j j _ u x) as e w' ⟨y,⟨n,q,z,o,g⟩,t⟩;exact⟨y,⟨n,[q],z,o,by simp[g]⟩,t⟩
 have s0:=fi;rw[b] at s0;have m:=hS.1 5 _ rfl;clear hS l k a K r b;go_enter func47,ntmps47;exact Ih
def a4Z(hS:sT w j (bk i V F s c cap at_ x vs vc fs fc (U E 0 0) d d))(zZ:a2r w0 s c)(zL:a4r w0 x vs fs)(xS:R (M w0)<=j)(zv:bl w0 w)(K:a7l V F c x vc fc i at_)(hk:i.k=17):
  Calls f 47 #[Pp (G ⟨j,0,E⟩)] w λe w'=>e=Rt (Tu #[])/\dj j w' (λn=>bk i V F s c cap at_ x vs vc fs fc n d (dp (gAt x i.a))) [] ((if cM (gAt x i.a) then [⟨at_+1,bq x i.a (bM (gAt x i.a))⟩] else []))/\n4 j w w':=by
 obtain⟨W,v⟩:∃q:List Edg,q=(if cM (gAt x i.a) then [⟨at_+1,bq x i.a (bM (gAt x i.a))⟩] else []):=⟨_,rfl⟩;rw[<-v];have z:=ag v;clear v;have m:=K.a0;have Z:=ns;have B:=ag (Ic (at_+1) [] E 0 j i V F s c cap at_ x vs vc fs fc d d w0 w hS zZ zL xS zv K (a7t.nil j j w) ae kJ);have hA:nA i.k=true:=kJ;have H:=fi;rw[hk] at H;have N:=ag hS;have Q:=Po;clear hS zZ zL zv K xS hk hA;go_enter func47,ntmps47;go_wp2_with fail;go_call nc j at_ _ w N.out rfl m Z as e wz ⟨rfl,S⟩;rw[S];clear S wz;go_wp2_with fail;go_call B.out as e T ⟨rfl,D,g⟩;obtain⟨zZ,zL,xS,zv,K,hA⟩:=Q.out;obtain⟨y,l,L,r,a⟩:=D;rw[j7] at r;obtain⟨es,ec,rfl,-,-⟩:=r.form;have hq:X l<=10:=by
  have h:=congrArg X a;rw[j9] at h;rw[h];split<;>simp
 have k:=zv.trans (g.mono xS);have HT:=ag (FB j i V F s c cap at_ x vs vc fs fc _ d d T L (zZ.below k (lR _)) (zL.below k (lR _)) K hA);have HQ:=ag a;have t:=ag (And.intro L r);clear L r a B Q zZ zL xS zv K hA k hq H N;go_wp2_with fail;go_call HT.out as e P ⟨rfl,o⟩;have C2:=t.out.1.call o;have E2:=t.out.2.call o;have af:=C2.1 15 _ rfl;have ad:=C2.2.2 15;have HF:Hid (dj j (P.setCell ⟨j,15,E⟩ (O (dp (gAt x i.a)))) (λn=>bk i V F s c cap at_ x vs vc fs fc n d (dp (gAt x i.a))) [] (if cM (gAt x i.a) then [⟨at_+1,bq x i.a (bM (gAt x i.a))⟩] else [])):=⟨_,l,C2.put 15 (by simp[bk]) _,by rw[j7];exact E2.same (λb _ u _=>hSe _ _ _ _ u) (by simp[World.setCell]),HQ.out⟩;have ab:n4 j w (P.setCell ⟨j,15,E⟩ (O (dp (gAt x i.a)))):=(g.trans (o.mono (j6 t.out.1.2.1))).setCell (lR _) _;clear C2 E2 HT t HQ;go_wp2;first|go_end0|refine bodyPost_ret (results_none rfl _ _ _) rfl ?_
 exact⟨rfl,by rw[z.out];exact HF.out,ab⟩
def a5a(hS:sT w j (bk i V F s c cap at_ x vs vc fs fc (U E 0 0) d d))(l:a2r w0 s c)(k:a4r w0 x vs fs)(r:R (M w0)<=j)(a:bl w0 w)(K:a7l V F c x vc fc i at_)(b:i.k=18):
  Calls f 47 #[Pp (G ⟨j,0,E⟩)] w λe w'=>e=Rt (Tu #[])/\dj j w' (λn=>bk i V F s c cap at_ x vs vc fs fc n d d) [] ([⟨at_+1,x⟩])/\n4 j w w':=by
 have m:=K.a0;have Z:=ns;have HC:Hid (∀u,u=w->Calls f 93 #[Pp (G ⟨j,0,E⟩),I Y (at_+1),.func (.func 96) #[] #[]] u λe w'=>e=Rt (Tu #[])/\dj j w' (λn=>bk i V F s c cap at_ x vs vc fs fc n d d) [] [⟨at_+1,x⟩]/\n4 j u w'):=λu B=>by
  subst B;go_call Yc j (at_+1) x [] E 0 j i V F s c cap at_ x vs vc fs fc d d w0 u hS l k r a K rfl (a7t.nil j j u) ae (a2q j j _ u x) as e w' ⟨y,⟨n,q,z,o,g⟩,t⟩;exact⟨y,⟨n,[q],z,o,by simp[g]⟩,t⟩
 have s0:=fi;rw[b] at s0;have N:=ag hS;clear hS l k a K r b;go_enter func47,ntmps47;go_wp2_with fail;go_call nc j at_ _ w N.out rfl m Z as e v ⟨rfl,S⟩;rw[S];clear S v;exact Ih
def a3H(hS:sT w j (bk i V F s c cap at_ x vs vc fs fc (U E 0 0) d d))(l:a2r w0 s c)(k:a4r w0 x vs fs)(r:R (M w0)<=j)(a:bl w0 w)(K:a7l V F c x vc fc i at_)(b:i.k=19):
  Calls f 47 #[Pp (G ⟨j,0,E⟩)] w λe w'=>e=Rt (Tu #[])/\dj j w' (λn=>bk i V F s c cap at_ x vs vc fs fc n d d) [] ([])/\n4 j w w':=by
 have Z:Hid (dj j w (λn=>bk i V F s c cap at_ x vs vc fs fc n d d) [] []):=⟨_,[],hS,a7t.nil j j w,rfl⟩;have H:=fi;rw[b] at H;clear hS l k a K r b;go_enter func47,ntmps47;go_wp2;first|go_end0|refine bodyPost_ret (results_none rfl _ _ _) rfl ?_
 exact⟨rfl,Z.out,bR _ _⟩
def a1t(g:sT w j (bk i V F s c cap at_ x vs vc fs fc y d t))(l:a2r w0 s c)(k:a4r w0 x vs fs)(r:R (M w0)<=j)(a:bl w0 w)(K:a7l V F c x vc fc i at_)(u:nTo i.k=W5)(m:i.k≠11):
  Calls f 98 #[Pp (G ⟨j,0,E⟩)] w λe w'=>oE (R (M w)) j w' e (br i at_ x).1 (bk i V F s c cap at_ x vs vc fs fc y (br i at_ x).2 t)/\a7v j w w':=by
 have h:i.k=1\/i.k=2\/i.k=3\/(4<=i.k/\i.k<=10)\/i.k=12\/i.k=14:=by
  unfold nTo btw at u;simp at u;omega
 rcases h with h|h|h|h|h|h
 .exact a4P j i V F s c _ _ x vs vc fs fc y t w0 w g l k r a K h
 .exact a4i j i V F s c _ _ x vs vc fs fc y t w0 w g l k r a K h
 .exact a4N j i V F s c _ _ x vs vc fs fc y t w0 w g l k r a K h
 .exact a1U j i V F s c _ _ x vs vc fs fc y t w0 w g l k r a K h.1 h.2
 .exact a1R j i V F s c _ _ x vs vc fs fc y t w0 w g l k r a K h
 .exact a1X j i V F s c _ _ x vs vc fs fc y t w0 w g l k r a K h
def a3h(hS:sT w j (bk i V F s c cap at_ x vs vc fs fc (U E 0 0) d d))(l:a2r w0 s c)(k:a4r w0 x vs fs)(r:R (M w0)<=j)(a:bl w0 w)(K:a7l V F c x vc fc i at_)(u:nTo i.k=W5)(m:i.k≠11):
  Calls f 47 #[Pp (G ⟨j,0,E⟩)] w λe w'=>e=Rt (Tu #[])/\dj j w' (λn=>bk i V F s c cap at_ x vs vc fs fc n (br i at_ x).2 d) [] (if aq (br i at_ x).1 then [] else [⟨at_+1,bq x i.tgt (br i at_ x).1⟩])/\n4 j w w':=by
 obtain⟨ap,v⟩:∃q:List Edg,q=if aq (br i at_ x).1 then [] else [⟨at_+1,bq x i.tgt (br i at_ x).1⟩]:=⟨_,rfl⟩
 rw[<-v];have z:=ag v;clear v;have B:=ag (a1t j i V F s c _ _ x vs vc fs fc _ d w0 w hS l k r a K u m);have y:aH c (br i at_ x).1=0:=by
  have h:=Iw (cU K.h0) K.kx K.a0 K.a1;rw[<-K.hi] at h;exact h
 have H:=fi;have xE:=ag hS.2.1;have t:i.k=1\/i.k=2\/i.k=3\/(4<=i.k/\i.k<=10)\/i.k=12\/i.k=14:=by
  have h:=u;unfold nTo btw at h;simp at h;omega
 have af:(i.k==11)=false:=au;have am:(i.k==13)=false:=au;have al:(i.k==15)=false:=au;have ah:(i.k==16)=false:=au;have ao:(i.k==17)=false:=au;have ab:(i.k==18)=false:=au;have ad:(i.k==19)=false:=au;have HH:=ag (And.intro l (And.intro k (And.intro r (And.intro a (And.intro K u)))));clear hS l k a K r t m u;obtain⟨⟨g,wr⟩,hg⟩:∃q,q=br i at_ x:=⟨_,rfl⟩;rw[<-hg] at B y |-;have ak:=ag hg;clear hg;go_enter func47,ntmps47;go_wp2_with fail;clear H af am al ah ao ab ad;go_call B.out as e T ⟨⟨⟨Q,S,rfl,W,J1,J2⟩,L⟩,M1⟩;obtain⟨l,k,r,a,K,u⟩:=HH.out;have HN:=ag (a3V g Q S [] E 0 j i V F s c cap at_ x vs vc fs fc wr d w0 T L l k r (a.trans (M1.1.mono r)) K (a7t.nil j j T) ae (W.mono λb N _=>⟨tm,tm,λh=>bU⟩) J1 J2 y u);clear B HH l k r a K u W J1 J2 L y;go_wp2_with fail;go_call HN.out as e P ⟨rfl,D,o⟩;have Z:=ag D;clear D HN;go_wp2;first|go_end0|refine bodyPost_ret (results_none rfl _ _ _) rfl ?_
 exact⟨rfl,by rw[z.out,<-ak.out];exact Z.out,M1.1.trans o⟩
def a2B(g:sT w j (bk i V F s c cap at_ x vs vc fs fc (U E 0 0) d d))(l:a2r w0 s c)(k:a4r w0 x vs fs)(r:R (M w0)<=j)(a:bl w0 w)(K:a7l V F c x vc fc i at_):
  Calls f 47 #[Pp (G ⟨j,0,E⟩)] w λe w'=>e=Rt (Tu #[])/\dj j w' (λn=>bk i V F s c cap at_ x vs vc fs fc n (aD i at_ x).2.1 (aD i at_ x).2.2) [] ((aD i at_ x).1)/\n4 j w w':=by
 have o:=K.kx.none;have b:=(b9 K.one).1;unfold btw at b;simp only[Bool.and_eq_true,decide_eq_true_eq] at b;by_cases m:i.k=11
 .have e:aD i at_ x=([⟨at_+1,(bq (iW at_ x) i.tgt ⟨d,⟨W5,0,0⟩,d,d,[at_]⟩)⟩],d,d):=by simp[aD,o,m,br,aq,aT]
  rw[e];exact a4A j i V F s c _ _ x vs vc fs fc w0 w g l k r a K m
 by_cases y:i.k=13
 .have e:aD i at_ x=(if X (gAt x i.a).s=0 then [] else [⟨at_+1,(dW x i.n (gAt x i.b) (gAt x i.a).s)⟩],ci (gAt x i.a),d):=by
   simp only[aD,o,y];simp only[Bool.false_eq_true,if_false];by_cases h:X (gAt x i.a).s=0
   .simp[h]
   .simp[h]
  rw[e];exact a3M j i V F s c _ _ x vs vc fs fc w0 w g l k r a K y
 by_cases t:i.k=15
 .have e:aD i at_ x=((if cM (gAt x i.a) then [⟨i.g,bq x i.a (bM (gAt x i.a))⟩] else [])++(if dp (gAt x i.a) then [⟨at_+1,bq x i.a (cF (gAt x i.a))⟩] else []),d,d):=by simp[aD,o,t]
  rw[e];exact a4M j i V F s c _ _ x vs vc fs fc w0 w g l k r a K t
 by_cases p:i.k=16
 .have e:aD i at_ x=([⟨i.g,x⟩],d,d):=by simp[aD,o,p]
  rw[e];exact a4X j i V F s c _ _ x vs vc fs fc w0 w g l k r a K p
 by_cases z:i.k=17
 .have e:aD i at_ x=((if cM (gAt x i.a) then [⟨at_+1,bq x i.a (bM (gAt x i.a))⟩] else []),d,dp (gAt x i.a)):=by simp[aD,o,z]
  rw[e];exact a4Z j i V F s c _ _ x vs vc fs fc w0 w g l k r a K z
 by_cases v:i.k=18
 .have e:aD i at_ x=([⟨at_+1,x⟩],d,d):=by simp[aD,o,v]
  rw[e];exact a5a j i V F s c _ _ x vs vc fs fc w0 w g l k r a K v
 by_cases q:i.k=19
 .have e:aD i at_ x=([],d,d):=by simp[aD,o,q]
  rw[e];exact a3H j i V F s c _ _ x vs vc fs fc w0 w g l k r a K q
 have u:nTo i.k=true:=by
  unfold nTo btw;simp;omega
 have e:aD i at_ x=(if aq (br i at_ x).1 then [] else [⟨at_+1,bq x i.tgt (br i at_ x).1⟩],(br i at_ x).2,d):=by
  simp only[aD,o,m,y,t,p,z,v,q,Bool.false_eq_true,if_false];split<;>rfl
 rw[e];exact a3h j i V F s c _ _ x vs vc fs fc w0 w g l k r a K u m
def lw (V F:Int)(c:lI)(at_:Int)(x:Pic):Int:=if aF V F c [x]=0 then(if at_ < 0\/(X c:Int)<=at_ then 5 else 0) else aF V F c [x]
def iL (V F:Int)(c:lI)(at_:Int)(x:Pic):List Edg×Bool×Bool:=if lw V F c at_ x=0 then aD (bS c at_) at_ x else([],false,false)
def Oc (B:Nat)(w':World)(e:Ending)(r:List Edg×Bool×Bool)(er:Int):Prop:=∃es ec,e=Rt (Tu #[U es (X r.1) ec,O r.2.1,O r.2.2,I Y er])/\a8e (λb=>B<=b) w' es r.1
def uj {V F:Int}{c:lI}{x:Pic}(h:aF V F c [x]=0):aA V F c=0/\aO V F c x=0:=by
 unfold aF at h;by_cases a:aA V F c=0
 .rw[if_pos a] at h
  unfold cN at h;by_cases y:aO V F c x=0
  .exact⟨a,y⟩
  .rw[if_neg y] at h;exact absurd h y
 .rw[if_neg a] at h;exact absurd h a
def oI(h:p:=by
 have h:=sT.new (w.alloc (A #[I Y V,I Y F,U s c.length cap] 24)) 28 [O x.none,U vs x.vq.length vc,U fs x.fq.length fc];rw[zA] at h;exact h):=h
def a0G(hc:a2r w s c)(hx:a4r w x vs fs)(h1:X x.vq<=vc/\vc<=maxLen)(h2:X x.fq<=fc/\fc<=maxLen)(g:aF V F c [x]≠0):
  Calls f 15 #[pv V F s c cap,I Y at_,xv x vs vc fs fc] w λe w'=>Oc (R (M w)) w' e ([],d,d) (aF V F c [x])/\bl w w':=by
 have xO:=ni;have P0:=ut;have X0:sT ((w.alloc (A #[I Y V,I Y F,U s (X c) cap] 24)).alloc (A #[O x.none,U vs (X x.vq) vc,U fs (X x.fq) fc] 28)) (R (M w)+1) [O x.none,U vs (X x.vq) vc,U fs (X x.fq) fc]:=by
  exact oI
 have B:=ue;generalize aF V F c [x]=u at *;have a:(u !=0)=true:=by simpa using g
 clear g hc hx;go_enter func15,ntmps15;go_wp2_with fail;go_call B.out as e T ⟨rfl,vZ⟩;generalize ((w.alloc _).alloc _)=w0 at *;have z:=kB;have L:=gF;have X1:=X0.call vZ;clear P0 X0 xO vZ B;go_wp2;refine bodyPost_ret (v:=Tu #[U E 0 0,O d,O d,I Y u]) Ba rfl ⟨⟨E,0,rfl,a8e.nil⟩,z⟩
def Gm(h:p:=by
 go_wp2;refine bodyPost_ret (v:=Tu #[U E 0 0,O false,O false,I Y 5]) Ba rfl ⟨⟨E,0,rfl,a8e.nil⟩,B1⟩):=h
def Tv(hc:a2r w s c)(hx:a4r w x vs fs)(h1:X x.vq<=vc/\vc<=maxLen)(h2:X x.fq<=fc/\fc<=maxLen)(g:aF V F c [x]=0)(t:at_ < 0\/(X c:Int)<=at_):
  Calls f 15 #[pv V F s c cap,I Y at_,xv x vs vc fs fc] w λe w'=>Oc (R (M w)) w' e ([],d,d) 5/\bl w w':=by
 have xO:=ni;have P0:=ut;have X0:sT ((w.alloc (A #[I Y V,I Y F,U s (X c) cap] 24)).alloc (A #[O x.none,U vs (X x.vq) vc,U fs (X x.fq) fc] 28)) (R (M w)+1) [O x.none,U vs (X x.vq) vc,U fs (X x.fq) fc]:=by
  exact oI
 have B:=ue;rw[g] at B;clear g hc hx;go_enter func15,ntmps15;go_wp2_with fail;go_call B.out as e T ⟨rfl,vZ⟩;generalize ((w.alloc _).alloc _)=w0 at *;have B1:=kB;have L:=gF;have X1:=X0.call vZ;clear P0 X0 xO vZ B;have b:=L.1 2 _ rfl;by_cases a:at_ < 0
 .clear t
  exact Gm
 .have o:(X c:Int)<=at_:=by omega
  clear t;exact Gm
def Ws(hc:a2r w s c)(hx:a4r w x vs fs)(h1:X x.vq<=vc/\vc<=maxLen)(h2:X x.fq<=fc/\fc<=maxLen)(g:aF V F c [x]=0)(t:¬(at_ < 0\/(X c:Int)<=at_))(o:x.none=W5):
  Calls f 15 #[pv V F s c cap,I Y at_,xv x vs vc fs fc] w λe w'=>Oc (R (M w)) w' e ([],d,d) 0/\bl w w':=by
 have xO:=ni;have P0:=ut;have X0:sT ((w.alloc (A #[I Y V,I Y F,U s (X c) cap] 24)).alloc (A #[O x.none,U vs (X x.vq) vc,U fs (X x.fq) fc] 28)) (R (M w)+1) [O x.none,U vs (X x.vq) vc,U fs (X x.fq) fc]:=by
  exact oI
 have B:=ue;rw[g] at B;have D:=ag o;have Z:¬at_ < 0:=aa;have a:¬(X c:Int)<=at_:=aa;clear g hc hx o t;go_enter func15,ntmps15;go_wp2_with fail;go_call B.out as e T ⟨rfl,vZ⟩;generalize ((w.alloc _).alloc _)=w0 at *;have z:=kB;have L:=gF;have X1:=X0.call vZ;clear P0 X0 xO vZ B;have b:=L.1 2 _ rfl;have x0:=X1.1 0 _ rfl;rw[D.out] at x0;go_wp2;refine bodyPost_ret (v:=Tu #[U E 0 0,O d,O d,I Y 0]) Ba rfl ⟨⟨E,0,rfl,a8e.nil⟩,z⟩
def a2L(hc:a2r w s c)(hx:a4r w x vs fs)(h1:X x.vq<=vc/\vc<=maxLen)(h2:X x.fq<=fc/\fc<=maxLen)(g:aF V F c [x]=0)(hr:¬(at_ < 0\/(X c:Int)<=at_))(o:x.none=d):
  Calls f 15 #[pv V F s c cap,I Y at_,xv x vs vc fs fc] w λe w'=>Oc (R (M w)) w' e (aD (bS c at_) at_ x) 0/\bl w w':=by
 obtain⟨i,hi⟩:∃i,i=bS c at_:=⟨_,rfl⟩;rw[<-hi];obtain⟨k0,kx⟩:=uj g;have K:a7l V F c x vc fc i at_:=⟨k0,cO kx o,hi,aa,aa,h1,h2⟩;obtain⟨m,em⟩:=j8 K.a0;have Z:=K.a1;have hm:=dn;have ap:c[m]=i:=by rw[hi,em];unfold bS;simp[List.getD,hm]
 have ab:=ag λj u (hs:sT u j (bk i V F s c cap at_ x vs vc fs fc (U E 0 0) d d)) (hz:R (M w)<=j) (N:bl w u)=>a2B j i V F s c cap at_ x vs vc fs fc w u hs hc hx hz N K;have a4:=ag hc;have r0:¬at_ < 0:=aa;have r1:¬(X c:Int)<=at_:=aa;have n0:=kk;have n1:=vu;have ao:=ag ap;have D:=ag o;have xO:=ni;have P0:=ut;have X0:sT ((w.alloc (A #[I Y V,I Y F,U s (X c) cap] 24)).alloc (A #[O x.none,U vs (X x.vq) vc,U fs (X x.fq) fc] 28)) (R (M w)+1) [O x.none,U vs (X x.vq) vc,U fs (X x.fq) fc]:=by
  exact oI
 have B:=ue;rw[g] at B;clear g hc hx o hr hi ap K kx k0 Z;obtain⟨⟨SL,wr,t⟩,al⟩:∃q,q=aD i at_ x:=⟨_,rfl⟩;rw[<-al] at ab |-;clear al;go_enter func15,ntmps15;go_wp2_with fail;go_call B.out as e w1 ⟨rfl,vZ⟩;generalize ((w.alloc _).alloc _)=w0 at *;have z:=kB;have L:=gF;have X1:=X0.call vZ;clear P0 X0 xO vZ B;obtain⟨k,r,H,ak,af⟩:=a4.out.get m hm;obtain⟨j0,j1,j2,j3,j4,j5⟩:=(af m hm).below z ak;rw[ao.out] at j0 j1 j2 j3 j4 j5;have p2:=L.1 2 _ rfl;have x0:=X1.1 0 _ rfl;rw[D.out] at x0;have ax:=(bR (R (M w1)) w1).drew.size;have D1:=iO;have P2:=L.call D1;have X2:=X1.call D1;have B2:=z.trans (D1.mono z.size);rw[D.out] at X2;have ah:Hid (∀u,n4 (R (M w1.drew)) w1.drew u->(u.cell? ⟨R (M w),0,E⟩=G (I Y V)/\u.cell? ⟨R (M w),1,E⟩=G (I Y F)/\u.cell? ⟨R (M w),2,E⟩=G (U (G ⟨k,r,E⟩) (X c) cap))/\(u.cell? ⟨R (M w)+1,0,E⟩=G (O d)/\u.cell? ⟨R (M w)+1,1,E⟩=G (U vs (X x.vq) vc)/\u.cell? ⟨R (M w)+1,2,E⟩=G (U fs (X x.fq) fc))/\(u.cell? ⟨k,r+m * 6,E⟩=G (I Y i.k)/\u.cell? ⟨k,r+m * 6+1,E⟩=G (I Y i.tgt)/\u.cell? ⟨k,r+m * 6+2,E⟩=G (I Y i.a)/\u.cell? ⟨k,r+m * 6+3,E⟩=G (I Y i.b)/\u.cell? ⟨k,r+m * 6+4,E⟩=G (I Y i.n)/\u.cell? ⟨k,r+m * 6+5,E⟩=G (I Y i.g))):=λu N=>by
  have p:=P2.call N;have q:=X2.call N;have bb:=B2.trans (N.mono B2.size);have pp:=p.1 2 _ rfl;rw[H] at pp;refine⟨⟨p.1 0 _ rfl,p.1 1 _ rfl,pp⟩,⟨q.1 0 _ rfl,q.1 1 _ rfl,q.1 2 _ rfl⟩,?_⟩;have:=(af m hm).below bb ak;rw[ao.out] at this;exact this
 have a5:=ag H;clear H af j0 j1 j2 j3 j4 j5 L X1 D1 ax;subst em;go_upto_region 8 with fail
 clear p2 x0 r0 r1;refine XK [10] ac ah.out (bR _ _) (λW=> ?_);generalize w1.drew=w2 at *;refine QQ ?_;refine QN 8 ?_;refine av (i:=9) rfl ac (λK hK=> ?_);go_simp;have ad:n4 (R (M w2)) w2 (w2.alloc (A #[I Y 0,I Y 0,I Y 0,I Y 0,I Y 0,I Y 0,I Y 0,I Y 0,U E 0 0,I Y 0,O d,U E 0 0,U E 0 0,U E 0 0,O d,O d] 102)):=ai;have l:=sT.new w2 102 [I Y 0,I Y 0,I Y 0,I Y 0,I Y 0,I Y 0,I Y 0,I Y 0,U E 0 0,I Y 0,O d,U E 0 0,U E 0 0,U E 0 0,O d,O d];refine hK.out _ _ (ah.out _ ad) (λW=> ?_);clear hK K;refine sm ?_;generalize w2.alloc _=w3 at *;generalize eSB:R (M w2)=j at *;refine aM (i:=10) rfl ac ac (λK hK=> ?_);have r0:=l.1 0 _ rfl;have f0:=l.2.2 0;have r1:=l.1 1 _ rfl;have f1:=l.2.2 1;have r2:=l.1 2 _ rfl;have f2:=l.2.2 2;have r3:=l.1 3 _ rfl;have f3:=l.2.2 3;have r4:=l.1 4 _ rfl;have f4:=l.2.2 4;have r5:=l.1 5 _ rfl;have f5:=l.2.2 5;have r6:=l.1 6 _ rfl;have f6:=l.2.2 6;have r7:=l.1 7 _ rfl;have f7:=l.2.2 7;have r8:=l.1 8 _ rfl;have f8:=l.2.2 8;have r9:=l.1 9 _ rfl;have f9:=l.2.2 9;have bc:=l.1 10 _ rfl;have a8:=l.2.2 10;have ay:=l.1 11 _ rfl;have a6:=l.2.2 11;have a1:=l.1 12 _ rfl;have ba:=l.2.2 12;have a0:=l.1 13 _ rfl;have a3:=l.2.2 13;have az:=l.1 14 _ rfl;have be:=l.2.2 14;have a2:=l.1 15 _ rfl;have a9:=l.2.2 15;go_simp;refine hK.out _ _ ?_;clear hK K r0 f0 r1 f1 r2 f2 r3 f3 r4 f4 r5 f5 r6 f6 r7 f7 r8 f8 r9 f9 bc a8 ay a6 a1 ba a0 a3 az be a2 a9;refine sm ?_;refine aB ac ?_ _;have bf:R (M w2)<=j:=aa;have C4:sT ((((((((((((((((w3.setCell ⟨j,0,E⟩ (I Y i.k)).setCell ⟨j,1,E⟩ (I Y i.tgt)).setCell ⟨j,2,E⟩ (I Y i.a)).setCell ⟨j,3,E⟩ (I Y i.b)).setCell ⟨j,4,E⟩ (I Y i.n)).setCell ⟨j,5,E⟩ (I Y i.g)).setCell ⟨j,6,E⟩ (I Y V)).setCell ⟨j,7,E⟩ (I Y F)).setCell ⟨j,8,E⟩ (U (G ⟨k,r,E⟩) (X c) cap)).setCell ⟨j,9,E⟩ (I Y (m:Int))).setCell ⟨j,10,E⟩ (O d)).setCell ⟨j,11,E⟩ (U vs (X x.vq) vc)).setCell ⟨j,12,E⟩ (U fs (X x.fq) fc)).setCell ⟨j,13,E⟩ (U E 0 0)).setCell ⟨j,14,E⟩ (O d)).setCell ⟨j,15,E⟩ (O d)) j (bk i V F s c cap (m:Int) x vs vc fs fc (U E 0 0) d d):=by
  have h:=((((((((((((((((l.put 0 fu (I Y i.k)).put 1 fu (I Y i.tgt)).put 2 fu (I Y i.a)).put 3 fu (I Y i.b)).put 4 fu (I Y i.n)).put 5 fu (I Y i.g)).put 6 fu (I Y V)).put 7 fu (I Y F)).put 8 fu (U (G ⟨k,r,E⟩) (X c) cap)).put 9 fu (I Y (m:Int))).put 10 fu (O d)).put 11 fu (U vs (X x.vq) vc)).put 12 fu (U fs (X x.fq) fc)).put 13 fu (U E 0 0)).put 14 fu (O d)).put 15 fu (O d));have e:bk i V F s c cap (m:Int) x vs vc fs fc (U E 0 0) d d=[I Y i.k,I Y i.tgt,I Y i.a,I Y i.b,I Y i.n,I Y i.g,I Y V,I Y F,U (G ⟨k,r,E⟩) (X c) cap,I Y (m:Int),O d,U vs (X x.vq) vc,U fs (X x.fq) fc,U E 0 0,O d,O d]:=by unfold bk;rw[D.out,a5.out]
  rw[e];simp only[List.set_cons_zero,List.set_cons_succ] at h;exact h
 have B4:n4 j w2 ((((((((((((((((w3.setCell ⟨j,0,E⟩ (I Y i.k)).setCell ⟨j,1,E⟩ (I Y i.tgt)).setCell ⟨j,2,E⟩ (I Y i.a)).setCell ⟨j,3,E⟩ (I Y i.b)).setCell ⟨j,4,E⟩ (I Y i.n)).setCell ⟨j,5,E⟩ (I Y i.g)).setCell ⟨j,6,E⟩ (I Y V)).setCell ⟨j,7,E⟩ (I Y F)).setCell ⟨j,8,E⟩ (U (G ⟨k,r,E⟩) (X c) cap)).setCell ⟨j,9,E⟩ (I Y (m:Int))).setCell ⟨j,10,E⟩ (O d)).setCell ⟨j,11,E⟩ (U vs (X x.vq) vc)).setCell ⟨j,12,E⟩ (U fs (X x.fq) fc)).setCell ⟨j,13,E⟩ (U E 0 0)).setCell ⟨j,14,E⟩ (O d)).setCell ⟨j,15,E⟩ (O d)):=((((((((((((((((ad.setCell (lR _) _).setCell (lR _) _).setCell (lR _) _).setCell (lR _) _).setCell (lR _) _).setCell (lR _) _).setCell (lR _) _).setCell (lR _) _).setCell (lR _) _).setCell (lR _) _).setCell (lR _) _).setCell (lR _) _).setCell (lR _) _).setCell (lR _) _).setCell (lR _) _).setCell (lR _) _);have T:R (M w)<=j:=Bt;have BB:=B2.trans (B4.mono T);clear l ad B4 ah P2 X2;generalize ((((((((((((((((w3.setCell _ _).setCell _ _).setCell _ _).setCell _ _).setCell _ _).setCell _ _).setCell _ _).setCell _ _).setCell _ _).setCell _ _).setCell _ _).setCell _ _).setCell _ _).setCell _ _).setCell _ _).setCell _ _)=w4 at *;go_wp2_with fail;go_call ab.out j w4 C4 T BB as e w5 ⟨rfl,⟨y,QL,C5,E5,am⟩,a7⟩;rw[j7] at E5;obtain⟨H,ec,rfl,-,-⟩:=E5.form;have hd:bl w5 w5.drew:=(bR _ _).drew;have CD:=C5.call hd;have ED:=E5.call hd;have BD:=(BB.trans (a7.mono T)).drew;have ar:=ag am;clear C5 E5 C4 ab am;go_upto_region 10 with fail
 refine aC (S:=(λu=>u.cell? ⟨j,13,E⟩=G (U H (X QL) ec)/\u.cell? ⟨j,14,E⟩=G (O wr)/\u.cell? ⟨j,15,E⟩=G (O t))) [] ac ⟨CD.1 13 _ rfl,CD.1 14 _ rfl,CD.1 15 _ rfl⟩ (λW=> ?_);refine QQ ?_;refine QN 8 ?_;refine QN 9 ?_;refine aB ac ?_ _;go_wp2;have hl:X QL=X SL:=by rw[<-ar.out];simp
 refine bodyPost_ret (v:=Tu #[U H (X QL) ec,O wr,O t,I Y 0]) Ba rfl ⟨⟨H,ec,by rw[hl],?_⟩,BD⟩;have h:=ED.eds;rw[ar.out] at h;exact h.mono λb N _=>aa
def yT(j:a2r w s c)(a:a4r w x vs fs)(y:X x.vq<=vc/\vc<=maxLen)(z:X x.fq<=fc/\fc<=maxLen):
  Calls f 15 #[pv V F s c cap,I Y at_,xv x vs vc fs fc] w λe w'=>Oc (R (M w)) w' e (iL V F c at_ x) (lw V F c at_ x)/\bl w w':=by
 by_cases g:aF V F c [x]=0
 .by_cases t:at_ < 0\/(X c:Int)<=at_
  .have Z:lw V F c at_ x=5:=by unfold lw;rw[if_pos g,if_pos t]
   have b:iL V F c at_ x=([],d,d):=by unfold iL;rw[Z,if_neg (by decide)]
   rw[Z,b];exact Tv V F s c _ _ x vs vc fs fc w j a y z g t
  .have Z:lw V F c at_ x=0:=by unfold lw;rw[if_pos g,if_neg t]
   have b:iL V F c at_ x=aD (bS c at_) at_ x:=by unfold iL;rw[Z,if_pos rfl]
   rw[Z,b];by_cases hn:x.none=W5
   .have i:aD (bS c at_) at_ x=([],d,d):=by unfold aD;rw[if_pos hn]
    rw[i];exact Ws V F s c _ _ x vs vc fs fc w j a y z g t hn
   .exact a2L V F s c _ _ x vs vc fs fc w j a y z g t mQ
 .have Z:lw V F c at_ x=aF V F c [x]:=by unfold lw;rw[if_neg g]
  have b:iL V F c at_ x=([],d,d):=by unfold iL;rw[Z,if_neg g]
  rw[Z,b];exact a0G V F s c _ _ x vs vc fs fc w j a y z g
