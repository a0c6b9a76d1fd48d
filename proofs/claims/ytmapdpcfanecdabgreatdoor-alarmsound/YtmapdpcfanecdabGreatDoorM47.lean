import Derived.Test.YtmapdpcfanecdabGreatDoorM46
open Go.Ending renaming returned→Rt
open Go.IntKind renaming i64→Y
open Go.Proofs.Tryz renaming prog→pG
open Go.RowKit.Below renaming refl→bR
open Go.Value renaming agg→Ag,bool→Bb,int→I,pointer→Pp,slice→U,tuple→Tu
open List renaming getElem_mem→gM
open Nat renaming le_refl→lR,le_trans→lT,lt_of_lt_of_le→lL
open Option renaming none→nO,some→sO
set_option linter.unusedSimpArgs false
set_option linter.unusedVariables false
set_option maxHeartbeats 16000000
set_option maxRecDepth 10000
namespace Go.Proofs.YtmapdpcfanecdabGreatDoor
section
open Go.RowKit
attribute [local go_sem ↓] Go.wp_at_zero Go.wp_at_succ
theorem IF (n sb:Nat)(eb:Option Nat)(i:Ins)(V F:Int)(s:Option Addr)(c:List Ins)(cap:Nat)(at_:Int)(x:Pic)(vs:Option Addr)(vc:Nat)(fs:Option Addr)(fc:Nat)(ev:Value)(wr fl:Bool)(tb pb:Nat)(ss:Option Addr)(gc:Nat)(w0 w:World)(hS:Cells w sb (aP i V F s c cap at_ x vs vc fs fc ev wr fl))(hP:Cells w pb [Pp (sO ⟨sb,0,nO⟩)])(hT:Cells w tb [U ss (gAt x i.a).s.length gc])(hc0:CodeAt w0 s c)(hx0:PicAt w0 x vs fs)(hi0:IntsAt w0 ss (gAt x i.a).s)(hB0:Below w0.heap.size w0 w)(K:SCtx V F c x vc fc i at_)(hA:nA i.k=true)(hBB:nB i.k=true)(hN:∃p:Nat,i.n=p∧(p:Int) < F)(hn:n≤w.heap.size)(he:∀b,eb=sO b→b < w.heap.size):
  fP 155 (λp=>#[p,Pp (sO ⟨tb,0,nO⟩),Pp (sO ⟨pb,0,nO⟩)]) n sb eb w x (cN x i.n (gAt x i.b) (gAt x i.a).s):=by
 intro wx xb v gs gcc L hb hp
 obtain⟨zxb,A,G,OF,EX⟩:=hp
 have hck:=fN K.kx i.a
 have hbk:=fN K.kx i.b
 have h60:c.length≤60:=K.lens.2.1
 have HOK:Hid (∀j,PicOk V F c (cN x i.n (gAt x i.b) ((gAt x i.a).s.take j))):=λj=>nS K.kx i.n hbk _ λq hq=>(ckGs_iff.1 hck).2.1 q (List.mem_of_mem_take hq)
 have HST:Hid (∀q∈(gAt x i.a).s,∃m:Nat,q=m∧m < c.length):=λq hq=>by
  have h:=dt ((ckGs_iff.1 hck).2.1 q hq)
  obtain⟨m,em⟩:=Int.eq_ofNat_of_zero_le h.1
  exact⟨m,em,by omega⟩
 have hl60:(gAt x i.a).s.length≤60:=eY (ckGs_iff.1 hck).2.2 (du h60 hck).1
 obtain⟨kb,ekb,hkb⟩:=K.varB hBB
 have egb:gAt x i.b=x.vars[kb]:=by rw[ekb,kL hkb]
 rw[egb] at HOK hbk ⊢
 obtain⟨b1,o1,e1,ss1,g1,G1,I1,k1,m1⟩:=hx0.1 kb hkb
 subst e1
 obtain⟨p,ep,hpF⟩:=hN
 have kb0:(0:Int)≤(kb:Int):=by omega
 have kb1:(kb:Int) < (x.vars.length:Int):=by omega
 have p0:(0:Int)≤(p:Int):=by omega
 have HJ:Hid (∀wz,Below w.heap.size w wz→∀(g:Gs) (sg:Option Addr) (cg:Nat),IntsAt wz sg g.s→g.s.length≤cg→cg≤maxLen→aC c g=0→Calls pG 72 #[pv V F s c cap,gv g sg cg,gv x.vars[kb] ss1 g1] wz λe w'=>(∃js jc,e=Rt (Tu #[Ag #[Bb (ae false g x.vars[kb]).n,Bb (ae false g x.vars[kb]).sp.n,I Y (ae false g x.vars[kb]).sp.lo,I Y (ae false g x.vars[kb]).sp.hi,Bb (ae false g x.vars[kb]).t,Bb (ae false g x.vars[kb]).f,U js (ae false g x.vars[kb]).s.length jc],I Y 0])∧IntsAt w' js (ae false g x.vars[kb]).s∧(ae false g x.vars[kb]).s.length≤jc∧jc≤maxLen∧∀a,js=sO a→wz.heap.size≤a.block)∧Below wz.heap.size wz w'):=λwz hz g sg cg q1 q2 q3 q4=>by
  have hbb:=hB0.trans (hz.mono hB0.size)
  have h:=nF (s:=s) (cap:=cap) K.h0 g sg cg x.vars[kb] ss1 g1 wz (hc0.below hbb (lR _)) q1 q2 q3 (I1.below hbb (lR _)) k1 m1 q4 hbk
  rw[sW h60 q4 hbk] at h
  exact h
 have HSP:Hid (∀wz,Below w.heap.size w wz→wz.cell? ⟨pb,0,nO⟩=sO (Pp (sO ⟨sb,0,nO⟩))∧(wz.cell? ⟨sb,6,nO⟩=sO (I Y V)∧wz.cell? ⟨sb,7,nO⟩=sO (I Y F)∧wz.cell? ⟨sb,8,nO⟩=sO (U s c.length cap))∧(wz.cell? ⟨sb,3,nO⟩=sO (I Y (kb:Int))∧wz.cell? ⟨sb,11,nO⟩=sO (U (sO ⟨b1,o1,nO⟩) x.vars.length vc))∧(wz.cell? ⟨b1,o1+kb * 7,nO⟩=sO (Bb x.vars[kb].n)∧wz.cell? ⟨b1,o1+kb * 7+1,nO⟩=sO (Bb x.vars[kb].sp.n)∧wz.cell? ⟨b1,o1+kb * 7+2,nO⟩=sO (I Y x.vars[kb].sp.lo)∧wz.cell? ⟨b1,o1+kb * 7+3,nO⟩=sO (I Y x.vars[kb].sp.hi)∧wz.cell? ⟨b1,o1+kb * 7+4,nO⟩=sO (Bb x.vars[kb].t)∧wz.cell? ⟨b1,o1+kb * 7+5,nO⟩=sO (Bb x.vars[kb].f)∧wz.cell? ⟨b1,o1+kb * 7+6,nO⟩=sO (U ss1 x.vars[kb].s.length g1))∧wz.cell? ⟨sb,4,nO⟩=sO (I Y (p:Int))∧wz.cell? ⟨tb,0,nO⟩=sO (U ss (gAt x i.a).s.length gc)):=λwz hz=>by
  have hbb:=hB0.trans (hz.mono hB0.size)
  have h:=hS.call hz
  exact⟨(hP.call hz).1 0 _ rfl,⟨h.1 6 _ rfl,h.1 7 _ rfl,h.1 8 _ rfl⟩,⟨by rw[←ekb];exact h.1 3 _ rfl,h.1 11 _ rfl⟩,(G1.below hbb (lR _)).1,by rw[←ep];exact h.1 4 _ rfl,(hT.call hz).1 0 _ rfl⟩
 have HII:Hid (∀wz,Below w.heap.size w wz→IntsAt wz ss (gAt x i.a).s):=λwz hz=>hi0.below (hB0.trans (hz.mono hB0.size)) (lR _)
 have HZ0:Hid (sb < w.heap.size∧n≤w.heap.size∧∀b,eb=sO b→b < w.heap.size):=⟨hS.2.1,hn,he⟩
 have HEP:Hid (i.n=p):=ep
 have HPF:Hid ((p:Int) < F):=hpF
 have HBK:Hid (aC c x.vars[kb]=0):=hbk
 have HXX:Hid (bP false v L=cN x i.n x.vars[kb] ((gAt x i.a).s.take 0)):=by show _=_;rw[EX];simp[cN]
 clear hS hP hT hc0 hx0 hi0 hB0 K hA hBB hn he ekb egb ep hpF hbk hck EX G1 I1 k1 m1
 generalize eL:(gAt x i.a).s=l at *
 clear eL
 have hcz:=(HSP.out wx hb).2.2.2.2.2
 go_enter Tryz.func155,Tryz.ntmps155
 go_wp2
 clear hcz
 go_loopw [9] (λi_ wr=>∃(j:Nat) (L':List Ro),j≤l.length∧i_=I Y j∧Cells wr xb [Bb false,U v.rs v.l.length v.rc,U gs L'.length gcc]∧PicG (ClT n sb eb xb) w.heap.size wr v gs gcc L'∧Off v (Value.slice gs L'.length gcc).ownBlock L' xb∧Hid (bP false v L'=cN x i.n x.vars[kb] (l.take j))∧Below w.heap.size wx wr∧Below w.heap.size w wr) (λi_ _=>l.length - (intOf i_).toNat)
 case atStart=>exact⟨0,L,Nat.zero_le _,rfl,A,G,OF,HXX,bR _ _,hb⟩
 case round=>
  clear A G OF HXX hb
  obtain⟨j,L',hj,rfl,AR,GR,OR,EP,BR,CR⟩:=hrel
  by_cases hlt:j < l.length
  ·have j0:(0:Int)≤(j:Int):=by omega
   have j1:(j:Int) < (l.length:Int):=by omega
   obtain⟨m,em,hmc⟩:=HST.out _ (gM hlt)
   have hok:=HOK.out j
   rw[←EP.out] at hok
   have hrw:=CS hok
   have hmL:m < L'.length:=by rw[hrw.1];exact hmc
   have hpL:p < L'[m].l.length:=by have:=hrw.2 m hmL;have:=HPF.out;omega
   have m0:(0:Int)≤(m:Int):=by omega
   have m1:(m:Int) < (L'.length:Int):=by omega
   have p1:(p:Int) < (L'[m].l.length:Int):=by omega
   obtain⟨tb1,to1,ess,zt,hct⟩:=(HII.out wr CR).get j hlt
   have hcj:=hct j hlt
   rw[em] at hcj
   obtain⟨fb,efb,hfb,zfb,hcm⟩:=GR.fform (by omega)
   have RW:=GR.rows _ (gM hmL)
   obtain⟨rb,erb,erB,hrb,zrb⟩:=RW.form (by omega)
   have nxr:xb≠rb:=λe=>OR.2.2 _ (gM hmL) (by rw[erB,e])
   obtain⟨y,EY0⟩:∃y,L'[m].l[p]=y:=⟨_,rfl⟩
   have EY:Hid (L'[m].l[p]=y):=EY0
   have YC:=GR.sf _ (gM hmL) _ (gM hpL)
   rw[EY0] at YC
   have YK:aC c y.g=0:=by
    have h:=gd hok (m:Int) (p:Int)
    rw[ul hmL hpL,EY0] at h
    exact h
   have HFA:Hid (fAt (bP false v L') (m:Int) (p:Int)=y.g):=by show _=_;rw[ul hmL hpL,EY0]
   have hdw:Below wr.heap.size wr wr.drew:=(bR _ _).drew
   have hcm':=hcm m hmL
   unfold roV at hcm'
   rw[erb] at hcm'
   subst efb
   have A3:=AR.call hdw
   have HK3:Hid (wr.drew.cell? ⟨xb,2,nO⟩=sO (U (sO ⟨fb,0,nO⟩) L'.length gcc)∧wr.drew.cell? ⟨pb,0,nO⟩=sO (Pp (sO ⟨sb,0,nO⟩))∧wr.drew.cell? ⟨sb,4,nO⟩=sO (I Y (p:Int))∧wr.drew.cell? ⟨fb,m,nO⟩=sO (U (sO ⟨rb,0,nO⟩) L'[m].l.length L'[m].rc)):=⟨A3.1 2 _ rfl,(HSP.out _ CR.drew).1,(HSP.out _ CR.drew).2.2.2.2.1,by rw[hdw.cell (by simp only;exact zfb)];exact hcm'⟩
   have HEM:Hid (l[j]=(m:Int)):=em
   clear em hcm hcm' hct A3 EY0 hok hrw
   subst ess
   have hhj:=aa hcj
   have A4:=AR.call hdw
   have G4:=GR.call hdw
   have B4:=BR.drew
   have C4:=CR.drew
   clear AR GR BR CR RW YC hdw hfb zfb zrb erB
   go_upto_region 3 with fail
   refine au (S:=(λwx=>wx.cell? ⟨xb,2,nO⟩=sO (U (sO ⟨fb,0,nO⟩) L'.length gcc)∧wx.cell? ⟨pb,0,nO⟩=sO (Pp (sO ⟨sb,0,nO⟩))∧wx.cell? ⟨sb,4,nO⟩=sO (I Y (p:Int))∧wx.cell? ⟨fb,m,nO⟩=sO (U (sO ⟨rb,0,nO⟩) L'[m].l.length L'[m].rc))) [] (by kernel_rfl) HK3.out (λhHeld=> ?_)
   generalize wr.drew=w4 at *
   refine vZ 0 ?_ ?_
   refine vZ 1 ?_ ?_
   refine vZ 2 ?_ ?_
   refine vZ 3 ?_ ?_
   refine vZ 4 ?_ ?_
   refine vZ 5 ?_ ?_
   refine vZ 6 ?_ ?_
   refine vZ 7 ?_ ?_
   refine vZ 8 ?_ ?_
   refine vZ 9 ?_ ?_
   refine vZ 10 ?_ ?_
   refine vZ 11 ?_ ?_
   refine vZ 12 ?_ ?_
   refine vZ 13 ?_ ?_
   refine aq (by kernel_rfl) ?_ _
   clear HK3 hcj hhj
   have hd4:Below w4.heap.size w4 w4.drew:=(bR _ _).drew
   have A5:=A4.call hd4
   have G5:=G4.call hd4
   have B5:=B4.drew
   have C5:=C4.drew
   clear A4 G4 B4 C4 hd4
   have YC:=G5.sf _ (gM hmL) _ (gM hpL)
   rw[EY.out] at YC
   have YI:=YC.1.at
   have Y1:=YC.2.1
   have Y2:=YC.2.2
   have CW:=C5
   have HZ:Hid (sb < w4.drew.heap.size∧n≤w4.drew.heap.size∧∀b,eb=sO b→b < w4.drew.heap.size):=⟨lL HZ0.out.1 C5.size,lT HZ0.out.2.1 C5.size,λb hb=>lL (HZ0.out.2.2 b hb) C5.size⟩
   have HK4:Hid (∀wz,Below w4.drew.heap.size w4.drew wz→wz.cell? ⟨pb,0,nO⟩=sO (Pp (sO ⟨sb,0,nO⟩))∧(wz.cell? ⟨sb,6,nO⟩=sO (I Y V)∧wz.cell? ⟨sb,7,nO⟩=sO (I Y F)∧wz.cell? ⟨sb,8,nO⟩=sO (U s c.length cap))∧(wz.cell? ⟨sb,3,nO⟩=sO (I Y (kb:Int))∧wz.cell? ⟨sb,11,nO⟩=sO (U (sO ⟨b1,o1,nO⟩) x.vars.length vc))∧(wz.cell? ⟨b1,o1+kb * 7,nO⟩=sO (Bb x.vars[kb].n)∧wz.cell? ⟨b1,o1+kb * 7+1,nO⟩=sO (Bb x.vars[kb].sp.n)∧wz.cell? ⟨b1,o1+kb * 7+2,nO⟩=sO (I Y x.vars[kb].sp.lo)∧wz.cell? ⟨b1,o1+kb * 7+3,nO⟩=sO (I Y x.vars[kb].sp.hi)∧wz.cell? ⟨b1,o1+kb * 7+4,nO⟩=sO (Bb x.vars[kb].t)∧wz.cell? ⟨b1,o1+kb * 7+5,nO⟩=sO (Bb x.vars[kb].f)∧wz.cell? ⟨b1,o1+kb * 7+6,nO⟩=sO (U ss1 x.vars[kb].s.length g1))):=λwz hz=>by
    have h:=HSP.out wz (C5.trans (hz.mono C5.size))
    exact⟨h.1,h.2.1,h.2.2.1,h.2.2.2.1⟩
   have GU5:=(G5.rows _ (gM hmL)).gu erb (k:=p) hpL
   rw[EY.out] at GU5
   have hcs:=C5.size
   clear YC
   go_upto_region 4 with fail
   refine au (S:=(λwx=>wx.cell? ⟨pb,0,nO⟩=sO (Pp (sO ⟨sb,0,nO⟩))∧(wx.cell? ⟨sb,6,nO⟩=sO (I Y V)∧wx.cell? ⟨sb,7,nO⟩=sO (I Y F)∧wx.cell? ⟨sb,8,nO⟩=sO (U s c.length cap))∧(wx.cell? ⟨sb,3,nO⟩=sO (I Y (kb:Int))∧wx.cell? ⟨sb,11,nO⟩=sO (U (sO ⟨b1,o1,nO⟩) x.vars.length vc))∧(wx.cell? ⟨b1,o1+kb * 7,nO⟩=sO (Bb x.vars[kb].n)∧wx.cell? ⟨b1,o1+kb * 7+1,nO⟩=sO (Bb x.vars[kb].sp.n)∧wx.cell? ⟨b1,o1+kb * 7+2,nO⟩=sO (I Y x.vars[kb].sp.lo)∧wx.cell? ⟨b1,o1+kb * 7+3,nO⟩=sO (I Y x.vars[kb].sp.hi)∧wx.cell? ⟨b1,o1+kb * 7+4,nO⟩=sO (Bb x.vars[kb].t)∧wx.cell? ⟨b1,o1+kb * 7+5,nO⟩=sO (Bb x.vars[kb].f)∧wx.cell? ⟨b1,o1+kb * 7+6,nO⟩=sO (U ss1 x.vars[kb].s.length g1)))) [] (by kernel_rfl) (HK4.out _ (bR _ _)) (λhHeld=> ?_)
   generalize w4.drew=w5 at *
   refine vZ 0 ?_ ?_
   refine vZ 1 ?_ ?_
   refine vZ 2 ?_ ?_
   refine vZ 3 ?_ ?_
   refine vZ 4 ?_ ?_
   refine vZ 5 ?_ ?_
   refine vZ 6 ?_ ?_
   refine vZ 8 ?_ ?_
   refine vZ 9 ?_ ?_
   refine vZ 10 ?_ ?_
   refine vZ 11 ?_ ?_
   refine vZ 12 ?_ ?_
   refine vZ 13 ?_ ?_
   refine vZ 14 ?_ ?_
   refine vZ 15 ?_ ?_
   refine vZ 16 ?_ ?_
   refine vZ 17 ?_ ?_
   refine vZ 18 ?_ ?_
   refine vZ 19 ?_ ?_
   refine an (i:=7) rfl (by kernel_rfl) (λK hK=> ?_)
   obtain⟨⟨q0,q1,q2,q3,q4,q5,q6⟩,qz⟩:=id GU5
   go_simp
   refine hK.out _ _ (HK4.out w5 (bR _ _)) (λhHeld=> ?_)
   clear hK K q0 q1 q2 q3 q4 q5 q6 qz
   refine sm ?_
   refine an (i:=20) rfl (by kernel_rfl) (λK hK=> ?_)
   go_simp
   refine(HJ.out w5 CW y.g y.ss y.cap YI Y1 Y2 YK).mono ?_
   rintro e w6 ⟨⟨js,jc,rfl,JI,J1,J2,JF⟩,hb6⟩
   refine hK.out _ _ (HK4.out w6 hb6) (λhHeld=> ?_)
   clear hK K
   refine sm ?_
   have G6:=G5.call hb6
   have JG:=Fb (y:=⟨ae false y.g x.vars[kb],js,jc⟩) JI JF J1 J2 G5 A5.2.1 HZ.out.1 HZ.out.2.1 HZ.out.2.2
   have GS:=G6.setF hmL erb hpL JG
   have RW6:=G6.rows _ (gM hmL)
   have GU:=RW6.gu erb (k:=p) hpL
   rw[EY.out] at GU
   have TH:=aa (RW6.thaw erb)
   have A6:=A5.call hb6
   have A7:Cells (fG w6 rb p ⟨ae false y.g x.vars[kb],js,jc⟩) xb [Bb false,U v.rs v.l.length v.rc,U (sO ⟨fb,0,nO⟩) L'.length gcc]:=A6.same (nR nxr) (by rw[nJ];exact lR _)
   have B7:Below w.heap.size wx (fG w6 rb p ⟨ae false y.g x.vars[kb],js,jc⟩):=iz (B5.trans (hb6.mono hcs)) hrb
   have C7:Below w.heap.size w (fG w6 rb p ⟨ae false y.g x.vars[kb],js,jc⟩):=iz (CW.trans (hb6.mono hcs)) hrb
   have HH:Hid (Cells (((((((w6.setCell ⟨rb,p * 7,nO⟩ (Bb (ae false y.g x.vars[kb]).n)).setCell ⟨rb,p * 7+1,nO⟩ (Bb (ae false y.g x.vars[kb]).sp.n)).setCell ⟨rb,p * 7+2,nO⟩ (I Y (ae false y.g x.vars[kb]).sp.lo)).setCell ⟨rb,p * 7+3,nO⟩ (I Y (ae false y.g x.vars[kb]).sp.hi)).setCell ⟨rb,p * 7+4,nO⟩ (Bb (ae false y.g x.vars[kb]).t)).setCell ⟨rb,p * 7+5,nO⟩ (Bb (ae false y.g x.vars[kb]).f)).setCell ⟨rb,p * 7+6,nO⟩ (U js (ae false y.g x.vars[kb]).s.length jc)) xb [Bb false,U v.rs v.l.length v.rc,U (sO ⟨fb,0,nO⟩) L'.length gcc]∧PicG (ClT n sb eb xb) w.heap.size (((((((w6.setCell ⟨rb,p * 7,nO⟩ (Bb (ae false y.g x.vars[kb]).n)).setCell ⟨rb,p * 7+1,nO⟩ (Bb (ae false y.g x.vars[kb]).sp.n)).setCell ⟨rb,p * 7+2,nO⟩ (I Y (ae false y.g x.vars[kb]).sp.lo)).setCell ⟨rb,p * 7+3,nO⟩ (I Y (ae false y.g x.vars[kb]).sp.hi)).setCell ⟨rb,p * 7+4,nO⟩ (Bb (ae false y.g x.vars[kb]).t)).setCell ⟨rb,p * 7+5,nO⟩ (Bb (ae false y.g x.vars[kb]).f)).setCell ⟨rb,p * 7+6,nO⟩ (U js (ae false y.g x.vars[kb]).s.length jc)) v (sO ⟨fb,0,nO⟩) gcc (L'.set m ⟨L'[m].rs,L'[m].rc,L'[m].l.set p ⟨ae false y.g x.vars[kb],js,jc⟩⟩)∧Below w.heap.size wx (((((((w6.setCell ⟨rb,p * 7,nO⟩ (Bb (ae false y.g x.vars[kb]).n)).setCell ⟨rb,p * 7+1,nO⟩ (Bb (ae false y.g x.vars[kb]).sp.n)).setCell ⟨rb,p * 7+2,nO⟩ (I Y (ae false y.g x.vars[kb]).sp.lo)).setCell ⟨rb,p * 7+3,nO⟩ (I Y (ae false y.g x.vars[kb]).sp.hi)).setCell ⟨rb,p * 7+4,nO⟩ (Bb (ae false y.g x.vars[kb]).t)).setCell ⟨rb,p * 7+5,nO⟩ (Bb (ae false y.g x.vars[kb]).f)).setCell ⟨rb,p * 7+6,nO⟩ (U js (ae false y.g x.vars[kb]).s.length jc))∧Below w.heap.size w (((((((w6.setCell ⟨rb,p * 7,nO⟩ (Bb (ae false y.g x.vars[kb]).n)).setCell ⟨rb,p * 7+1,nO⟩ (Bb (ae false y.g x.vars[kb]).sp.n)).setCell ⟨rb,p * 7+2,nO⟩ (I Y (ae false y.g x.vars[kb]).sp.lo)).setCell ⟨rb,p * 7+3,nO⟩ (I Y (ae false y.g x.vars[kb]).sp.hi)).setCell ⟨rb,p * 7+4,nO⟩ (Bb (ae false y.g x.vars[kb]).t)).setCell ⟨rb,p * 7+5,nO⟩ (Bb (ae false y.g x.vars[kb]).f)).setCell ⟨rb,p * 7+6,nO⟩ (U js (ae false y.g x.vars[kb]).s.length jc))):=⟨A7,GS,B7,C7⟩
   clear GU5 A7 B7 C7 GS A6 G6 JG RW6 JI JF J1 J2
   refine vZ 21 ?_ ?_
   refine vZ 22 ?_ ?_
   refine vZ 23 ?_ ?_
   refine vZ 24 ?_ ?_
   refine an (i:=25) rfl (by kernel_rfl) (λK hK=> ?_)
   obtain⟨⟨q0,q1,q2,q3,q4,q5,q6⟩,qz⟩:=id GU
   have f0:=TH.out (p * 7)
   have f1:=TH.out (p * 7+1)
   have f2:=TH.out (p * 7+2)
   have f3:=TH.out (p * 7+3)
   have f4:=TH.out (p * 7+4)
   have f5:=TH.out (p * 7+5)
   have f6:=TH.out (p * 7+6)
   go_simp
   refine hK.out _ _ (by have h:=HSP.out _ HH.out.2.2.2;exact⟨h.1,h.2.1,h.2.2.1,h.2.2.2.1⟩) (λhHeld=> ?_)
   clear hK K q0 q1 q2 q3 q4 q5 q6 qz f0 f1 f2 f3 f4 f5 f6
   refine sm ?_
   generalize eW:(((((((w6.setCell ⟨rb,p * 7,nO⟩ (Bb (ae false y.g x.vars[kb]).n)).setCell ⟨rb,p * 7+1,nO⟩ (Bb (ae false y.g x.vars[kb]).sp.n)).setCell ⟨rb,p * 7+2,nO⟩ (I Y (ae false y.g x.vars[kb]).sp.lo)).setCell ⟨rb,p * 7+3,nO⟩ (I Y (ae false y.g x.vars[kb]).sp.hi)).setCell ⟨rb,p * 7+4,nO⟩ (Bb (ae false y.g x.vars[kb]).t)).setCell ⟨rb,p * 7+5,nO⟩ (Bb (ae false y.g x.vars[kb]).f)).setCell ⟨rb,p * 7+6,nO⟩ (U js (ae false y.g x.vars[kb]).s.length jc))=w7 at *
   clear eW GU TH
   refine aq (by kernel_rfl) ?_ _
   clear HK4
   go_wp2
   go_roundw
   case rel=>exact⟨j+1,(L'.set m ⟨L'[m].rs,L'[m].rc,L'[m].l.set p ⟨ae false y.g x.vars[kb],js,jc⟩⟩),by omega,by go_num,by simp only[List.length_set];exact HH.out.1,HH.out.2.1,(FJ hmL (by simp)).2 OR,by show _=_;rw[By hmL,yP hlt,←EP.out,HEM.out,HEP.out,HFA.out],HH.out.2.2.1,HH.out.2.2.2⟩
   case measure=>simp[intOf];omega
  ·have j1:¬(j:Int) < (l.length:Int):=by omega
   have ej:l.take j=l:=List.take_of_length_le (by omega)
   have HF:Hid (∃v' gs' gc' L',lk n sb eb w.heap.size wr xb v' gs' gc' L' (cN x i.n x.vars[kb] l)):=⟨v,gs,gcc,L',zxb,AR,GR,OR,by rw[EP.out,ej]⟩
   clear AR GR OR CR EP ej
   go_wp2
   first|go_end0|refine bodyPost_ret (results_none rfl _ _ _) rfl ?_
   exact⟨rfl,HF.out,BR⟩
end
end Go.Proofs.YtmapdpcfanecdabGreatDoor
