import Derived.Test.YtmapdpcfanecdabGreatDoorM47
open Go.Ending renaming returned→Rt
open Go.IntKind renaming i64→Y
open Go.Obj renaming cells→Cc
open Go.Proofs.Tryz renaming prog→pG
open Go.RowKit.Below renaming heap_setCell→hSe,refl→bR
open Go.Value renaming agg→Ag,bool→Bb,int→I,pointer→Pp,slice→U,tuple→Tu
open Go.World renaming setCell→j3,size_alloc→zA
open List renaming getElem_mem→gM
open Nat renaming le_of_lt→j2,le_refl→lR
open Option renaming none→nO,some→sO
set_option linter.unusedSimpArgs false
set_option linter.unusedVariables false
set_option maxHeartbeats 16000000
set_option maxRecDepth 10000
namespace Go.Proofs.YtmapdpcfanecdabGreatDoor
section
open Go.RowKit
attribute [local go_sem ↓] Go.wp_at_zero Go.wp_at_succ
def kJ (B sb:Nat)(w':World)(e:Ending)(g:Gs)(cs:List Value):Prop:=(∃ss gc,e=Rt (Ag #[Bb g.n,Bb g.sp.n,I Y g.sp.lo,I Y g.sp.hi,Bb g.t,Bb g.f,U ss g.s.length gc])∧IntsIn (λb=>B≤b) w' ss g.s∧g.s.length≤gc∧gc≤maxLen)∧Cells w' sb cs
theorem BJ {x:Pic}{n:Int}{l:List Int}{j:Nat}(h:j < l.length):fq x n (l.take (j+1))=ae false (fq x n (l.take j)) (fAt x l[j] n):=by
 unfold fq
 rw[List.take_succ_eq_append_getElem h,List.foldl_append]
 rfl
theorem Gq {x:Pic}{m p:Nat}(hm:m < x.flds.length)(hp:p < x.flds[m].length):fAt x (m:Int) (p:Int)=x.flds[m][p]:=by
 unfold fAt
 simp[List.getD,hm,hp]
theorem Hm (sb:Nat)(i:Ins)(V F:Int)(s:Option Addr)(c:List Ins)(cap:Nat)(at_:Int)(x:Pic)(vs:Option Addr)(vc:Nat)(fs:Option Addr)(fc:Nat)(ev:Value)(wr fl:Bool)(w0 w:World)(hS:Cells w sb (aP i V F s c cap at_ x vs vc fs fc ev wr fl))(hc0:CodeAt w0 s c)(hx0:PicAt w0 x vs fs)(hz0:w0.heap.size≤sb)(hB0:Below w0.heap.size w0 w)(K:SCtx V F c x vc fc i at_)(hA:nA i.k=true)(hN:∃p:Nat,i.n=p∧(p:Int) < F):
  Calls pG 163 #[Pp (sO ⟨sb,0,nO⟩)] w λe w'=>kJ w.heap.size sb w' e (fq x i.n (gAt x i.a).s) (aP i V F s c cap at_ x vs vc fs fc ev (bI (gAt x i.a)) fl)∧ModS sb w w':=by
 have hb1:Below w.heap.size w ((w.alloc (Cc #[Bb false,Bb false,I Y 0,I Y 0,Bb false,Bb false,U nO 0 0] 91)).alloc (Cc #[Bb false,Bb true,I Y 0,I Y 0,Bb false,Bb false,U nO 0 0] 91)):=by go_grown
 have R1:Cells ((w.alloc (Cc #[Bb false,Bb false,I Y 0,I Y 0,Bb false,Bb false,U nO 0 0] 91)).alloc (Cc #[Bb false,Bb true,I Y 0,I Y 0,Bb false,Bb false,U nO 0 0] 91)) w.heap.size [Bb false,Bb false,I Y 0,I Y 0,Bb false,Bb false,U nO 0 0]:=(Cells.new w 91 [Bb false,Bb false,I Y 0,I Y 0,Bb false,Bb false,U nO 0 0]).call (by go_grown)
 have A1:Cells ((w.alloc (Cc #[Bb false,Bb false,I Y 0,I Y 0,Bb false,Bb false,U nO 0 0] 91)).alloc (Cc #[Bb false,Bb true,I Y 0,I Y 0,Bb false,Bb false,U nO 0 0] 91)) (w.heap.size+1) [Bb false,Bb true,I Y 0,I Y 0,Bb false,Bb false,U nO 0 0]:=by
  have h:=Cells.new (w.alloc (Cc #[Bb false,Bb false,I Y 0,I Y 0,Bb false,Bb false,U nO 0 0] 91)) 91 [Bb false,Bb true,I Y 0,I Y 0,Bb false,Bb false,U nO 0 0]
  rw[zA] at h
  exact h
 have HT:=aa (rA sb i V F s c cap at_ x vs vc fs fc ev wr fl w0 ((w.alloc (Cc #[Bb false,Bb false,I Y 0,I Y 0,Bb false,Bb false,U nO 0 0] 91)).alloc (Cc #[Bb false,Bb true,I Y 0,I Y 0,Bb false,Bb false,U nO 0 0] 91)) (hS.call hb1) hc0 hx0 hz0 (hB0.trans (hb1.mono hB0.size)) K hA)
 have hck:=fN K.kx i.a
 have h60:c.length≤60:=K.lens.2.1
 have HST:Hid (∀q∈(gAt x i.a).s,∃m:Nat,q=m∧m < c.length):=λq hq=>by
  have h:=dt ((ckGs_iff.1 hck).2.1 q hq)
  obtain⟨m,em⟩:=Int.eq_ofNat_of_zero_le h.1
  exact⟨m,em,by omega⟩
 have hl60:(gAt x i.a).s.length≤60:=eY (ckGs_iff.1 hck).2.2 (du h60 hck).1
 obtain⟨p,ep,hpF⟩:=hN
 have HFL:Hid (∀m,m < c.length→∃(h1:m < x.flds.length),p < x.flds[m].length):=λm hm=>by
  have h1:=K.kx.flds
  refine⟨by omega,?_⟩
  have:=K.kx.row m (by omega)
  omega
 have HCK:Hid (∀(m:Nat) (h1:m < x.flds.length) (h2:p < x.flds[m].length),aC c x.flds[m][p]=0):=λm h1 h2=>K.kx.gf m h1 _ (gM h2)
 have HGK:Hid (∀l,aC c (fq x i.n l)=0):=λl=>pQ K.kx i.n l
 have HXX:=aa hx0
 have HJ:Hid (∀(m:Nat) (h1:m < x.flds.length) (h2:p < x.flds[m].length) (st:Option Addr) (ct:Nat),IntsAt w0 st x.flds[m][p].s→x.flds[m][p].s.length≤ct→ct≤maxLen→∀wz,Below w0.heap.size w0 wz→∀(g:Gs) (sg:Option Addr) (cg:Nat),IntsAt wz sg g.s→g.s.length≤cg→cg≤maxLen→aC c g=0→Calls pG 72 #[pv V F s c cap,gv g sg cg,gv x.flds[m][p] st ct] wz λe w'=>(∃js jc,e=Rt (Tu #[Ag #[Bb (ae false g x.flds[m][p]).n,Bb (ae false g x.flds[m][p]).sp.n,I Y (ae false g x.flds[m][p]).sp.lo,I Y (ae false g x.flds[m][p]).sp.hi,Bb (ae false g x.flds[m][p]).t,Bb (ae false g x.flds[m][p]).f,U js (ae false g x.flds[m][p]).s.length jc],I Y 0])∧IntsAt w' js (ae false g x.flds[m][p]).s∧(ae false g x.flds[m][p]).s.length≤jc∧jc≤maxLen∧∀a,js=sO a→wz.heap.size≤a.block)∧Below wz.heap.size wz w'):=λm h1 h2 st ct t1 t2 t3 wz hz g sg cg q1 q2 q3 q4=>by
  have hbk:=K.kx.gf m h1 _ (gM h2)
  have h:=nF (s:=s) (cap:=cap) K.h0 g sg cg x.flds[m][p] st ct wz (hc0.below hz (lR _)) q1 q2 q3 (t1.below hz (lR _)) t2 t3 q4 hbk
  rw[sW h60 q4 hbk] at h
  exact h
 have HEP:Hid (i.n=p):=ep
 have HZ0:Hid (w0.heap.size≤w.heap.size+1):=by have:=hS.2.1;show _≤_;omega
 have HZ1:Hid (sb≤w.heap.size+1):=by have:=hS.2.1;show _≤_;omega
 have HNE:Hid (sb≠w.heap.size+1∧w.heap.size≠w.heap.size+1):=by have:=hS.2.1;exact⟨by omega,by omega⟩
 have HSB:Hid (sb < w.heap.size):=hS.2.1
 have hB1:=hB0.trans (hb1.mono hB0.size)
 have hzz:=aa hz0
 clear hS hc0 hx0 hB0 K hz0 hA hck ep hpF
 generalize eN:bI (gAt x i.a)=nt at *
 clear eN
 generalize eL:(gAt x i.a).s=l at *
 clear eL
 go_enter Tryz.func163,Tryz.ntmps163
 go_wp2_with (go_at_call 154;fail)
 generalize eW:((w.alloc (Cc #[Bb false,Bb false,I Y 0,I Y 0,Bb false,Bb false,U nO 0 0] 91)).alloc (Cc #[Bb false,Bb true,I Y 0,I Y 0,Bb false,Bb false,U nO 0 0] 91))=w1 at *
 clear eW
 refine HT.out.mono ?_
 rintro e w2 ⟨⟨ss,gc,rfl,hi,hl1,hl2⟩,C2,M2⟩
 have hne1:w.heap.size≠sb:=by have:=HSB.out;omega
 have hne2:w.heap.size+1≠sb:=by have:=HSB.out;omega
 have R2:=R1.same (M2.2 _ R1.2.1 hne1) M2.1.size
 have A2:=A1.same (M2.2 _ A1.2.1 hne2) M2.1.size
 have B2:Below w0.heap.size w0 w2:=hB1.trans (M2.1.mono hzz.out)
 have M2':ModS sb w w2:=(ModS.of hb1 HSB.out).trans M2
 clear R1 A1 hB1 hb1 M2 HT hne1 hne2
 have HII:Hid (∀wz,Below w0.heap.size w0 wz→IntsAt wz ss l):=λwz hz=>hi.below hz (lR _)
 clear hi
 have HZ2:Hid (w.heap.size < w.heap.size+1):=by show _ < _;omega
 generalize eG:w.heap.size+1=gb at *
 clear eG
 go_wp2
 go_loopw [11] (λi_ wr=>∃(j:Nat) (G:Gs) (gs:Option Addr) (gcc:Nat),j≤l.length∧i_=I Y j∧Hid (G=(fq x i.n (l.take j)))∧Cells wr gb [Bb G.n,Bb G.sp.n,I Y G.sp.lo,I Y G.sp.hi,Bb G.t,Bb G.f,U gs G.s.length gcc]∧Cells wr sb (aP i V F s c cap at_ x vs vc fs fc ev nt fl)∧Cells wr w.heap.size [Bb false,Bb false,I Y 0,I Y 0,Bb false,Bb false,U nO 0 0]∧Below w0.heap.size w0 wr∧ModS sb w wr∧IntsIn (λb=>w.heap.size < b∧b≠gb) wr gs G.s∧G.s.length≤gcc∧gcc≤maxLen) (λi_ _=>l.length - (intOf i_).toNat)
 case atStart=>exact⟨0,bX,nO,0,Nat.zero_le _,rfl,rfl,A2,C2,R2,B2,M2',.inl rfl,lR _,Nat.zero_le _⟩
 case round=>
  clear A2 C2 R2 B2 M2'
  obtain⟨j,G,gs,gcc,hj,rfl,EG,AR,CR,RR,BR,MR,IG,Y1,Y2⟩:=hrel
  by_cases hlt:j < l.length
  ·have j0:(0:Int)≤(j:Int):=by omega
   have j1:(j:Int) < (l.length:Int):=by omega
   obtain⟨m,em,hmc⟩:=HST.out _ (gM hlt)
   obtain⟨hmL,hpL⟩:=HFL.out m hmc
   have m0:(0:Int)≤(m:Int):=by omega
   have m1:(m:Int) < (x.flds.length:Int):=by omega
   have p0:(0:Int)≤(p:Int):=by omega
   have p1':(p:Int) < (x.flds[m].length:Int):=by omega
   obtain⟨tb1,to1,ess,zt,hct⟩:=(HII.out wr BR).get j hlt
   have hcj:=hct j hlt
   rw[em] at hcj
   obtain⟨p1,q1,efs,zp1,r1,rc1,C1,k1,mm1,J1⟩:=HXX.out.2 m hmL
   obtain⟨b1,o1,e1,ss1,g1,G1,I1,k2,mm2⟩:=J1 p hpL
   subst e1
   have YK:aC c G=0:=by rw[EG.out];exact HGK.out _
   have HJ1:=aa (HJ.out m hmL hpL ss1 g1 I1 k2 mm2)
   subst ess
   have hdw:Below wr.heap.size wr wr.drew:=(bR _ _).drew
   have HEF:Hid (fs=sO ⟨p1,q1,nO⟩):=efs
   have HKS:Hid (∀wz,Below w0.heap.size w0 wz→Cells wz sb (aP i V F s c cap at_ x vs vc fs fc ev nt fl)→(wz.cell? ⟨sb,6,nO⟩=sO (I Y V)∧wz.cell? ⟨sb,7,nO⟩=sO (I Y F)∧wz.cell? ⟨sb,8,nO⟩=sO (U s c.length cap))∧(wz.cell? ⟨sb,12,nO⟩=sO (U (sO ⟨p1,q1,nO⟩) x.flds.length fc)∧wz.cell? ⟨sb,4,nO⟩=sO (I Y (p:Int))∧wz.cell? ⟨p1,q1+m,nO⟩=sO (U (sO ⟨b1,o1,nO⟩) x.flds[m].length rc1))∧(wz.cell? ⟨b1,o1+p * 7,nO⟩=sO (Bb x.flds[m][p].n)∧wz.cell? ⟨b1,o1+p * 7+1,nO⟩=sO (Bb x.flds[m][p].sp.n)∧wz.cell? ⟨b1,o1+p * 7+2,nO⟩=sO (I Y x.flds[m][p].sp.lo)∧wz.cell? ⟨b1,o1+p * 7+3,nO⟩=sO (I Y x.flds[m][p].sp.hi)∧wz.cell? ⟨b1,o1+p * 7+4,nO⟩=sO (Bb x.flds[m][p].t)∧wz.cell? ⟨b1,o1+p * 7+5,nO⟩=sO (Bb x.flds[m][p].f)∧wz.cell? ⟨b1,o1+p * 7+6,nO⟩=sO (U ss1 x.flds[m][p].s.length g1))):=λwz hz h=>by
    refine⟨⟨h.1 6 _ rfl,h.1 7 _ rfl,h.1 8 _ rfl⟩,⟨?_,?_,?_⟩,(G1.below hz (lR _)).1⟩
    ·have:=h.1 12 _ rfl;rw[efs] at this;exact this
    ·rw[←HEP.out];exact h.1 4 _ rfl
    ·rw[hz.cell (by simp only;exact zp1)];exact C1
   have HEM:Hid (l[j]=(m:Int)):=em
   have A4:=AR.call hdw
   have C4:=CR.call hdw
   have R4:=RR.call hdw
   have B4:=BR.drew
   have M4:ModS sb w wr.drew:=MR.trans (ModS.of hdw CR.2.1)
   have I4:=IG.call hdw
   have HGZ:=aa A4.2.1
   clear AR CR RR BR MR IG em efs C1 hct G1 I1 J1 hdw HXX
   have IG:=I4
   clear I4
   go_upto_region 5 with fail
   clear hcj
   have HJ:=HJ1
   clear HJ1
   refine au (S:=(λwx=>(wx.cell? ⟨sb,6,nO⟩=sO (I Y V)∧wx.cell? ⟨sb,7,nO⟩=sO (I Y F)∧wx.cell? ⟨sb,8,nO⟩=sO (U s c.length cap))∧(wx.cell? ⟨sb,12,nO⟩=sO (U (sO ⟨p1,q1,nO⟩) x.flds.length fc)∧wx.cell? ⟨sb,4,nO⟩=sO (I Y (p:Int))∧wx.cell? ⟨p1,q1+m,nO⟩=sO (U (sO ⟨b1,o1,nO⟩) x.flds[m].length rc1))∧(wx.cell? ⟨b1,o1+p * 7,nO⟩=sO (Bb x.flds[m][p].n)∧wx.cell? ⟨b1,o1+p * 7+1,nO⟩=sO (Bb x.flds[m][p].sp.n)∧wx.cell? ⟨b1,o1+p * 7+2,nO⟩=sO (I Y x.flds[m][p].sp.lo)∧wx.cell? ⟨b1,o1+p * 7+3,nO⟩=sO (I Y x.flds[m][p].sp.hi)∧wx.cell? ⟨b1,o1+p * 7+4,nO⟩=sO (Bb x.flds[m][p].t)∧wx.cell? ⟨b1,o1+p * 7+5,nO⟩=sO (Bb x.flds[m][p].f)∧wx.cell? ⟨b1,o1+p * 7+6,nO⟩=sO (U ss1 x.flds[m][p].s.length g1)))) [] (by kernel_rfl) (HKS.out _ B4 C4) (λhHeld=> ?_)
   generalize wr.drew=w4 at *
   refine vZ 0 ?_ ?_
   refine vZ 1 ?_ ?_
   refine vZ 2 ?_ ?_
   refine vZ 3 ?_ ?_
   refine vZ 5 ?_ ?_
   refine vZ 6 ?_ ?_
   refine vZ 7 ?_ ?_
   refine vZ 8 ?_ ?_
   refine vZ 9 ?_ ?_
   refine vZ 10 ?_ ?_
   refine vZ 11 ?_ ?_
   refine vZ 12 ?_ ?_
   refine vZ 13 ?_ ?_
   refine vZ 14 ?_ ?_
   refine vZ 15 ?_ ?_
   refine vZ 16 ?_ ?_
   refine vZ 17 ?_ ?_
   refine vZ 18 ?_ ?_
   refine vZ 19 ?_ ?_
   refine an (i:=4) rfl (by kernel_rfl) (λK hK=> ?_)
   have r0:=A4.1 0 _ rfl
   have r1:=A4.1 1 _ rfl
   have r2:=A4.1 2 _ rfl
   have r3:=A4.1 3 _ rfl
   have r4:=A4.1 4 _ rfl
   have r5:=A4.1 5 _ rfl
   have r6:=A4.1 6 _ rfl
   go_simp
   refine hK.out _ _ (HKS.out _ B4 C4) (λhHeld=> ?_)
   clear hK K r0 r1 r2 r3 r4 r5 r6
   refine sm ?_
   refine an (i:=20) rfl (by kernel_rfl) (λK hK=> ?_)
   go_simp
   refine(HJ.out w4 B4 G gs gcc IG.at Y1 Y2 YK).mono ?_
   rintro e w5 ⟨⟨js,jc,rfl,JI,J1,J2,JF⟩,hb5⟩
   have C5:=C4.call hb5
   have B5:=B4.trans (hb5.mono B4.size)
   have A5:=A4.call hb5
   have R5:=R4.call hb5
   have M5:=M4.trans (ModS.of hb5 C4.2.1)
   have z45:=hb5.size
   refine hK.out _ _ (HKS.out _ B5 C5) (λhHeld=> ?_)
   clear hK K hb5 A4 R4 C4 M4 B4
   refine sm ?_
   refine vZ 21 ?_ ?_
   refine vZ 22 ?_ ?_
   refine vZ 23 ?_ ?_
   refine an (i:=24) rfl (by kernel_rfl) (λK hK=> ?_)
   have r0:=A5.1 0 _ rfl
   have r1:=A5.1 1 _ rfl
   have r2:=A5.1 2 _ rfl
   have r3:=A5.1 3 _ rfl
   have r4:=A5.1 4 _ rfl
   have r5:=A5.1 5 _ rfl
   have r6:=A5.1 6 _ rfl
   have f0:=A5.2.2 0
   have f1:=A5.2.2 1
   have f2:=A5.2.2 2
   have f3:=A5.2.2 3
   have f4:=A5.2.2 4
   have f5:=A5.2.2 5
   have f6:=A5.2.2 6
   go_simp
   have A6:Cells (((((((w5.setCell ⟨gb,0,nO⟩ (Bb (ae false G x.flds[m][p]).n)).setCell ⟨gb,1,nO⟩ (Bb (ae false G x.flds[m][p]).sp.n)).setCell ⟨gb,2,nO⟩ (I Y (ae false G x.flds[m][p]).sp.lo)).setCell ⟨gb,3,nO⟩ (I Y (ae false G x.flds[m][p]).sp.hi)).setCell ⟨gb,4,nO⟩ (Bb (ae false G x.flds[m][p]).t)).setCell ⟨gb,5,nO⟩ (Bb (ae false G x.flds[m][p]).f)).setCell ⟨gb,6,nO⟩ (U js (ae false G x.flds[m][p]).s.length jc)) gb [Bb (ae false G x.flds[m][p]).n,Bb (ae false G x.flds[m][p]).sp.n,I Y (ae false G x.flds[m][p]).sp.lo,I Y (ae false G x.flds[m][p]).sp.hi,Bb (ae false G x.flds[m][p]).t,Bb (ae false G x.flds[m][p]).f,U js (ae false G x.flds[m][p]).s.length jc]:=((((((A5.put 0 (by simp) _).put 1 (by simp) _).put 2 (by simp) _).put 3 (by simp) _).put 4 (by simp) _).put 5 (by simp) _).put 6 (by simp) _
   have hch:∀q,q≠gb→(((((((w5.setCell ⟨gb,0,nO⟩ (Bb (ae false G x.flds[m][p]).n)).setCell ⟨gb,1,nO⟩ (Bb (ae false G x.flds[m][p]).sp.n)).setCell ⟨gb,2,nO⟩ (I Y (ae false G x.flds[m][p]).sp.lo)).setCell ⟨gb,3,nO⟩ (I Y (ae false G x.flds[m][p]).sp.hi)).setCell ⟨gb,4,nO⟩ (Bb (ae false G x.flds[m][p]).t)).setCell ⟨gb,5,nO⟩ (Bb (ae false G x.flds[m][p]).f)).setCell ⟨gb,6,nO⟩ (U js (ae false G x.flds[m][p]).s.length jc)).heap[q]? =w5.heap[q]? :=λq hq=>by rw[hSe _ _ _ _ hq,hSe _ _ _ _ hq,hSe _ _ _ _ hq,hSe _ _ _ _ hq,hSe _ _ _ _ hq,hSe _ _ _ _ hq,hSe _ _ _ _ hq]
   have hcz:w5.heap.size≤(((((((w5.setCell ⟨gb,0,nO⟩ (Bb (ae false G x.flds[m][p]).n)).setCell ⟨gb,1,nO⟩ (Bb (ae false G x.flds[m][p]).sp.n)).setCell ⟨gb,2,nO⟩ (I Y (ae false G x.flds[m][p]).sp.lo)).setCell ⟨gb,3,nO⟩ (I Y (ae false G x.flds[m][p]).sp.hi)).setCell ⟨gb,4,nO⟩ (Bb (ae false G x.flds[m][p]).t)).setCell ⟨gb,5,nO⟩ (Bb (ae false G x.flds[m][p]).f)).setCell ⟨gb,6,nO⟩ (U js (ae false G x.flds[m][p]).s.length jc)).heap.size:=by simp[j3]
   have C6:=C5.same (hch sb HNE.out.1) hcz
   have R6:=R5.same (hch w.heap.size HNE.out.2) hcz
   have B6:Below w0.heap.size w0 (((((((w5.setCell ⟨gb,0,nO⟩ (Bb (ae false G x.flds[m][p]).n)).setCell ⟨gb,1,nO⟩ (Bb (ae false G x.flds[m][p]).sp.n)).setCell ⟨gb,2,nO⟩ (I Y (ae false G x.flds[m][p]).sp.lo)).setCell ⟨gb,3,nO⟩ (I Y (ae false G x.flds[m][p]).sp.hi)).setCell ⟨gb,4,nO⟩ (Bb (ae false G x.flds[m][p]).t)).setCell ⟨gb,5,nO⟩ (Bb (ae false G x.flds[m][p]).f)).setCell ⟨gb,6,nO⟩ (U js (ae false G x.flds[m][p]).s.length jc)):=((((((B5.setCell HZ0.out _).setCell HZ0.out _).setCell HZ0.out _).setCell HZ0.out _).setCell HZ0.out _).setCell HZ0.out _).setCell HZ0.out _
   have M6:ModS sb w (((((((w5.setCell ⟨gb,0,nO⟩ (Bb (ae false G x.flds[m][p]).n)).setCell ⟨gb,1,nO⟩ (Bb (ae false G x.flds[m][p]).sp.n)).setCell ⟨gb,2,nO⟩ (I Y (ae false G x.flds[m][p]).sp.lo)).setCell ⟨gb,3,nO⟩ (I Y (ae false G x.flds[m][p]).sp.hi)).setCell ⟨gb,4,nO⟩ (Bb (ae false G x.flds[m][p]).t)).setCell ⟨gb,5,nO⟩ (Bb (ae false G x.flds[m][p]).f)).setCell ⟨gb,6,nO⟩ (U js (ae false G x.flds[m][p]).s.length jc)):=⟨((((((M5.1.setCell HZ1.out _).setCell HZ1.out _).setCell HZ1.out _).setCell HZ1.out _).setCell HZ1.out _).setCell HZ1.out _).setCell HZ1.out _,λb hb hne=>by rw[hch b (by have:=HZ2.out;omega)];exact M5.2 b hb hne⟩
   have I6:IntsIn (λb=>w.heap.size < b∧b≠gb) (((((((w5.setCell ⟨gb,0,nO⟩ (Bb (ae false G x.flds[m][p]).n)).setCell ⟨gb,1,nO⟩ (Bb (ae false G x.flds[m][p]).sp.n)).setCell ⟨gb,2,nO⟩ (I Y (ae false G x.flds[m][p]).sp.lo)).setCell ⟨gb,3,nO⟩ (I Y (ae false G x.flds[m][p]).sp.hi)).setCell ⟨gb,4,nO⟩ (Bb (ae false G x.flds[m][p]).t)).setCell ⟨gb,5,nO⟩ (Bb (ae false G x.flds[m][p]).f)).setCell ⟨gb,6,nO⟩ (U js (ae false G x.flds[m][p]).s.length jc)) js (ae false G x.flds[m][p]).s:=by
    rcases JI with h|⟨b,off,e,hb,hc⟩
    ·exact .inl h
    ·have hz:=JF _ e
     simp only at hz
     have hgz:=HGZ.out
     exact IntsIn.same (w:=w5) (.inr ⟨b,off,e,⟨by have:=HZ2.out;omega,by omega⟩,hb,hc⟩) (λq hq _=>hch q hq.2) hcz
   have HR:Hid (Cells (((((((w5.setCell ⟨gb,0,nO⟩ (Bb (ae false G x.flds[m][p]).n)).setCell ⟨gb,1,nO⟩ (Bb (ae false G x.flds[m][p]).sp.n)).setCell ⟨gb,2,nO⟩ (I Y (ae false G x.flds[m][p]).sp.lo)).setCell ⟨gb,3,nO⟩ (I Y (ae false G x.flds[m][p]).sp.hi)).setCell ⟨gb,4,nO⟩ (Bb (ae false G x.flds[m][p]).t)).setCell ⟨gb,5,nO⟩ (Bb (ae false G x.flds[m][p]).f)).setCell ⟨gb,6,nO⟩ (U js (ae false G x.flds[m][p]).s.length jc)) gb [Bb (ae false G x.flds[m][p]).n,Bb (ae false G x.flds[m][p]).sp.n,I Y (ae false G x.flds[m][p]).sp.lo,I Y (ae false G x.flds[m][p]).sp.hi,Bb (ae false G x.flds[m][p]).t,Bb (ae false G x.flds[m][p]).f,U js (ae false G x.flds[m][p]).s.length jc]∧Cells (((((((w5.setCell ⟨gb,0,nO⟩ (Bb (ae false G x.flds[m][p]).n)).setCell ⟨gb,1,nO⟩ (Bb (ae false G x.flds[m][p]).sp.n)).setCell ⟨gb,2,nO⟩ (I Y (ae false G x.flds[m][p]).sp.lo)).setCell ⟨gb,3,nO⟩ (I Y (ae false G x.flds[m][p]).sp.hi)).setCell ⟨gb,4,nO⟩ (Bb (ae false G x.flds[m][p]).t)).setCell ⟨gb,5,nO⟩ (Bb (ae false G x.flds[m][p]).f)).setCell ⟨gb,6,nO⟩ (U js (ae false G x.flds[m][p]).s.length jc)) sb (aP i V F s c cap at_ x vs vc fs fc ev nt fl)∧Cells (((((((w5.setCell ⟨gb,0,nO⟩ (Bb (ae false G x.flds[m][p]).n)).setCell ⟨gb,1,nO⟩ (Bb (ae false G x.flds[m][p]).sp.n)).setCell ⟨gb,2,nO⟩ (I Y (ae false G x.flds[m][p]).sp.lo)).setCell ⟨gb,3,nO⟩ (I Y (ae false G x.flds[m][p]).sp.hi)).setCell ⟨gb,4,nO⟩ (Bb (ae false G x.flds[m][p]).t)).setCell ⟨gb,5,nO⟩ (Bb (ae false G x.flds[m][p]).f)).setCell ⟨gb,6,nO⟩ (U js (ae false G x.flds[m][p]).s.length jc)) w.heap.size [Bb false,Bb false,I Y 0,I Y 0,Bb false,Bb false,U nO 0 0]∧Below w0.heap.size w0 (((((((w5.setCell ⟨gb,0,nO⟩ (Bb (ae false G x.flds[m][p]).n)).setCell ⟨gb,1,nO⟩ (Bb (ae false G x.flds[m][p]).sp.n)).setCell ⟨gb,2,nO⟩ (I Y (ae false G x.flds[m][p]).sp.lo)).setCell ⟨gb,3,nO⟩ (I Y (ae false G x.flds[m][p]).sp.hi)).setCell ⟨gb,4,nO⟩ (Bb (ae false G x.flds[m][p]).t)).setCell ⟨gb,5,nO⟩ (Bb (ae false G x.flds[m][p]).f)).setCell ⟨gb,6,nO⟩ (U js (ae false G x.flds[m][p]).s.length jc))∧ModS sb w (((((((w5.setCell ⟨gb,0,nO⟩ (Bb (ae false G x.flds[m][p]).n)).setCell ⟨gb,1,nO⟩ (Bb (ae false G x.flds[m][p]).sp.n)).setCell ⟨gb,2,nO⟩ (I Y (ae false G x.flds[m][p]).sp.lo)).setCell ⟨gb,3,nO⟩ (I Y (ae false G x.flds[m][p]).sp.hi)).setCell ⟨gb,4,nO⟩ (Bb (ae false G x.flds[m][p]).t)).setCell ⟨gb,5,nO⟩ (Bb (ae false G x.flds[m][p]).f)).setCell ⟨gb,6,nO⟩ (U js (ae false G x.flds[m][p]).s.length jc))∧IntsIn (λb=>w.heap.size < b∧b≠gb) (((((((w5.setCell ⟨gb,0,nO⟩ (Bb (ae false G x.flds[m][p]).n)).setCell ⟨gb,1,nO⟩ (Bb (ae false G x.flds[m][p]).sp.n)).setCell ⟨gb,2,nO⟩ (I Y (ae false G x.flds[m][p]).sp.lo)).setCell ⟨gb,3,nO⟩ (I Y (ae false G x.flds[m][p]).sp.hi)).setCell ⟨gb,4,nO⟩ (Bb (ae false G x.flds[m][p]).t)).setCell ⟨gb,5,nO⟩ (Bb (ae false G x.flds[m][p]).f)).setCell ⟨gb,6,nO⟩ (U js (ae false G x.flds[m][p]).s.length jc)) js (ae false G x.flds[m][p]).s∧(ae false G x.flds[m][p]).s.length≤jc∧jc≤maxLen):=⟨A6,C6,R6,B6,M6,I6,J1,J2⟩
   refine hK.out _ _ (HKS.out _ B6 C6) (λhHeld=> ?_)
   clear hK K r0 f0 r1 f1 r2 f2 r3 f3 r4 f4 r5 f5 r6 f6 A5 B5 C5 R5 M5 A6 B6 C6 R6 M6 I6 hch hcz JI JF J1 J2
   refine sm ?_
   generalize eW:(((((((w5.setCell ⟨gb,0,nO⟩ (Bb (ae false G x.flds[m][p]).n)).setCell ⟨gb,1,nO⟩ (Bb (ae false G x.flds[m][p]).sp.n)).setCell ⟨gb,2,nO⟩ (I Y (ae false G x.flds[m][p]).sp.lo)).setCell ⟨gb,3,nO⟩ (I Y (ae false G x.flds[m][p]).sp.hi)).setCell ⟨gb,4,nO⟩ (Bb (ae false G x.flds[m][p]).t)).setCell ⟨gb,5,nO⟩ (Bb (ae false G x.flds[m][p]).f)).setCell ⟨gb,6,nO⟩ (U js (ae false G x.flds[m][p]).s.length jc))=w6 at *
   clear eW
   refine aq (by kernel_rfl) ?_ _
   go_wp2
   go_roundw
   case rel=>exact⟨j+1,(ae false G x.flds[m][p]),js,jc,by omega,by go_num,by show _=_;rw[BJ hlt,←EG.out,HEM.out,HEP.out,Gq hmL hpL],HR.out.1,HR.out.2.1,HR.out.2.2.1,HR.out.2.2.2.1,HR.out.2.2.2.2.1,HR.out.2.2.2.2.2.1,HR.out.2.2.2.2.2.2.1,HR.out.2.2.2.2.2.2.2⟩
   case measure=>simp[intOf];omega
  ·have j1:¬(j:Int) < (l.length:Int):=by omega
   have ej:l.take j=l:=List.take_of_length_le (by omega)
   have HE:Hid (G=(fq x i.n l)):=by show _=_;rw[EG.out,ej]
   clear EG ej
   have r0:=AR.1 0 _ rfl
   have r1:=AR.1 1 _ rfl
   have r2:=AR.1 2 _ rfl
   have r3:=AR.1 3 _ rfl
   have r4:=AR.1 4 _ rfl
   have r5:=AR.1 5 _ rfl
   have r6:=AR.1 6 _ rfl
   have z0:=RR.1 0 _ rfl
   have z1:=RR.1 1 _ rfl
   have z2:=RR.1 2 _ rfl
   have z3:=RR.1 3 _ rfl
   have z4:=RR.1 4 _ rfl
   have z5:=RR.1 5 _ rfl
   have z6:=RR.1 6 _ rfl
   have fz0:=RR.2.2 0
   have fz1:=RR.2.2 1
   have fz2:=RR.2.2 2
   have fz3:=RR.2.2 3
   have fz4:=RR.2.2 4
   have fz5:=RR.2.2 5
   have fz6:=RR.2.2 6
   have R3:Cells (((((((wr.setCell ⟨w.heap.size,0,nO⟩ (Bb G.n)).setCell ⟨w.heap.size,1,nO⟩ (Bb G.sp.n)).setCell ⟨w.heap.size,2,nO⟩ (I Y G.sp.lo)).setCell ⟨w.heap.size,3,nO⟩ (I Y G.sp.hi)).setCell ⟨w.heap.size,4,nO⟩ (Bb G.t)).setCell ⟨w.heap.size,5,nO⟩ (Bb G.f)).setCell ⟨w.heap.size,6,nO⟩ (U gs G.s.length gcc)) w.heap.size [Bb G.n,Bb G.sp.n,I Y G.sp.lo,I Y G.sp.hi,Bb G.t,Bb G.f,U gs G.s.length gcc]:=((((((RR.put 0 (by simp) _).put 1 (by simp) _).put 2 (by simp) _).put 3 (by simp) _).put 4 (by simp) _).put 5 (by simp) _).put 6 (by simp) _
   have hch:∀q,q≠w.heap.size→(((((((wr.setCell ⟨w.heap.size,0,nO⟩ (Bb G.n)).setCell ⟨w.heap.size,1,nO⟩ (Bb G.sp.n)).setCell ⟨w.heap.size,2,nO⟩ (I Y G.sp.lo)).setCell ⟨w.heap.size,3,nO⟩ (I Y G.sp.hi)).setCell ⟨w.heap.size,4,nO⟩ (Bb G.t)).setCell ⟨w.heap.size,5,nO⟩ (Bb G.f)).setCell ⟨w.heap.size,6,nO⟩ (U gs G.s.length gcc)).heap[q]? =wr.heap[q]? :=λq hq=>by rw[hSe _ _ _ _ hq,hSe _ _ _ _ hq,hSe _ _ _ _ hq,hSe _ _ _ _ hq,hSe _ _ _ _ hq,hSe _ _ _ _ hq,hSe _ _ _ _ hq]
   have hcz:wr.heap.size≤(((((((wr.setCell ⟨w.heap.size,0,nO⟩ (Bb G.n)).setCell ⟨w.heap.size,1,nO⟩ (Bb G.sp.n)).setCell ⟨w.heap.size,2,nO⟩ (I Y G.sp.lo)).setCell ⟨w.heap.size,3,nO⟩ (I Y G.sp.hi)).setCell ⟨w.heap.size,4,nO⟩ (Bb G.t)).setCell ⟨w.heap.size,5,nO⟩ (Bb G.f)).setCell ⟨w.heap.size,6,nO⟩ (U gs G.s.length gcc)).heap.size:=by simp[j3]
   have C3:=CR.same (hch sb (by have:=HSB.out;omega)) hcz
   have I3:IntsIn (λb=>w.heap.size≤b) (((((((wr.setCell ⟨w.heap.size,0,nO⟩ (Bb G.n)).setCell ⟨w.heap.size,1,nO⟩ (Bb G.sp.n)).setCell ⟨w.heap.size,2,nO⟩ (I Y G.sp.lo)).setCell ⟨w.heap.size,3,nO⟩ (I Y G.sp.hi)).setCell ⟨w.heap.size,4,nO⟩ (Bb G.t)).setCell ⟨w.heap.size,5,nO⟩ (Bb G.f)).setCell ⟨w.heap.size,6,nO⟩ (U gs G.s.length gcc)) gs G.s:=(IG.same (λb hb _=>hch b (by omega)) hcz).mono λb hb _=>j2 hb.1
   have M3:ModS sb w (((((((wr.setCell ⟨w.heap.size,0,nO⟩ (Bb G.n)).setCell ⟨w.heap.size,1,nO⟩ (Bb G.sp.n)).setCell ⟨w.heap.size,2,nO⟩ (I Y G.sp.lo)).setCell ⟨w.heap.size,3,nO⟩ (I Y G.sp.hi)).setCell ⟨w.heap.size,4,nO⟩ (Bb G.t)).setCell ⟨w.heap.size,5,nO⟩ (Bb G.f)).setCell ⟨w.heap.size,6,nO⟩ (U gs G.s.length gcc)):=⟨((((((MR.1.setCell (j2 HSB.out) _).setCell (j2 HSB.out) _).setCell (j2 HSB.out) _).setCell (j2 HSB.out) _).setCell (j2 HSB.out) _).setCell (j2 HSB.out) _).setCell (j2 HSB.out) _,λb hb hne=>by rw[hch b (by omega)];exact MR.2 b hb hne⟩
   have HF:Hid (kJ w.heap.size sb (((((((wr.setCell ⟨w.heap.size,0,nO⟩ (Bb G.n)).setCell ⟨w.heap.size,1,nO⟩ (Bb G.sp.n)).setCell ⟨w.heap.size,2,nO⟩ (I Y G.sp.lo)).setCell ⟨w.heap.size,3,nO⟩ (I Y G.sp.hi)).setCell ⟨w.heap.size,4,nO⟩ (Bb G.t)).setCell ⟨w.heap.size,5,nO⟩ (Bb G.f)).setCell ⟨w.heap.size,6,nO⟩ (U gs G.s.length gcc)) (Rt (Ag #[Bb G.n,Bb G.sp.n,I Y G.sp.lo,I Y G.sp.hi,Bb G.t,Bb G.f,U gs G.s.length gcc])) (fq x i.n l) (aP i V F s c cap at_ x vs vc fs fc ev nt fl)∧ModS sb w (((((((wr.setCell ⟨w.heap.size,0,nO⟩ (Bb G.n)).setCell ⟨w.heap.size,1,nO⟩ (Bb G.sp.n)).setCell ⟨w.heap.size,2,nO⟩ (I Y G.sp.lo)).setCell ⟨w.heap.size,3,nO⟩ (I Y G.sp.hi)).setCell ⟨w.heap.size,4,nO⟩ (Bb G.t)).setCell ⟨w.heap.size,5,nO⟩ (Bb G.f)).setCell ⟨w.heap.size,6,nO⟩ (U gs G.s.length gcc))):=by
    rw[←HE.out]
    exact⟨⟨⟨gs,gcc,rfl,I3,Y1,Y2⟩,C3⟩,M3⟩
   clear hch hcz C3 I3 M3 R3
   go_upto_region 7 with fail
   go_wp2
   refine bodyPost_ret (v:=Ag #[Bb G.n,Bb G.sp.n,I Y G.sp.lo,I Y G.sp.hi,Bb G.t,Bb G.f,U gs G.s.length gcc]) (by simp[results,Tryz.results163,go_sem,z0,z1,z2,z3,z4,z5,z6]) rfl HF.out
end
end Go.Proofs.YtmapdpcfanecdabGreatDoor
