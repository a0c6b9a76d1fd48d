import Derived.Test.YtmapdpcfanecdabGreatDoorU30
import Derived.Test.YtmapdpcfanecdabGreatDoorU31
import Derived.Test.YtmapdpcfanecdabGreatDoorU32
open Go.Ending renaming returned→Rt
open Go.IntKind renaming i64→Y
open Go.Obj renaming cells→Cc
open Go.Proofs.Tryz renaming prog→pG
open Go.RowKit.Below renaming heap_setCell→hSe,refl→bR
open Go.Value renaming agg→Ag,bool→Bb,int→I,pointer→Pp,slice→U,slice→j6,tuple→Tu
open Go.World renaming size_alloc→zA
open List renaming getElem_mem→gM,length→j1,length_append→q0,length_map→j4,length_take→j8,map_append→j7,take_of_length_le→j2,take_succ_eq_append_getElem→j3,zipWith→j5,zipWith_append→j9
open Nat renaming le_refl→lR,le_trans→lT,lt_of_lt_of_le→lL,zero_le→j0
open Option renaming none→nO,some→sO
set_option linter.unusedSimpArgs false
set_option linter.unusedVariables false
set_option maxHeartbeats 32000000
set_option maxRecDepth 100000
namespace Go.Proofs.YtmapdpcfanecdabGreatDoor
section
open Go.RowKit
def cR (op:Sp->Sp->Sp)(g h:Gs):Gs:=⟨g.n||h.n,op g.sp h.sp,g.t||h.t,g.f||h.f,cA [g,h]⟩

theorem mZ {V F:Int}{c:lI}{g h:Gs}(hk:aY V F c [g,h]=0):aw V F c=0/\aE c g=0/\aE c h=0:=by
 unfold aY at hk;split at hk
 ·rename_i hp
  simp only[bZ] at hk;split at hk
  ·rename_i hg
   split at hk
   ·rename_i hh
    exact⟨hp,hg,hh⟩
   ·contradiction
  ·contradiction
 ·contradiction

theorem fX {V F:Int}{c:lI}{g h:Gs}(hk:aY V F c [g,h]=0):((∀x∈g.s,0<=x/\x < 60)/\cW g.s=true)/\((∀x∈h.s,0<=x/\x < 60)/\cW h.s=true):=by
 obtain⟨a,b,d⟩:=mZ hk;have hl:c.length<=60:=by
  unfold aw at a;split at a
  ·contradiction
  ·split at a
   ·contradiction
   ·omega
 exact⟨cL hl b,cL hl d⟩

theorem LP (V F:Int)(s:oA)(c:lI)(cap:Nat)(g:Gs)(ss:oA)(gc:Nat)(h:Gs)(st:oA)(hc:Nat)(w:World)(hcd:CodeAt w s c)(hs:IntsAt w ss g.s)(h1:g.s.length<=gc)(h2:gc<=maxLen)(ht:IntsAt w st h.s)(h3:h.s.length<=hc)(h4:hc<=maxLen):
  Calls pG 161 #[pv V F s c cap,gv g ss gc,gv h st hc] w λe w'=>e=Rt (Tu #[Bb (if aY V F c [g,h]=0 then c7 g h else false),I Y (aY V F c [g,h])])/\bl w w':=by
 by_cases hck:aY V F c [g,h]=0
 ·refine(sZ V F s c cap g ss gc h st hc w hcd hs h1 h2 ht h3 h4 hck).mono ?_
  rintro e w' ⟨rfl,hb⟩;exact⟨by rw[if_pos hck,hck],hb⟩
 ·refine(Co V F s c cap g ss gc h st hc w hcd hs h1 h2 ht h3 h4 hck).mono ?_
  rintro e w' ⟨rfl,hb⟩;exact⟨by rw[if_neg hck],hb⟩
end
section
open Go.RowKit
attribute [local go_sem ↓] Go.wp_at_zero Go.wp_at_succ
theorem gZ {w5 w6:World}{wd:World}{B N:Nat}{js:oA}{jc:Nat}{g:Gs}{v:Value}(hI:IntsAt w5 js g.s)(h1:g.s.length<=jc)(h2:jc<=maxLen)(hF:∀a,js=sO a->wd.heap.size<=a.block)(hB:B<=N)(hv:∀{k},v.ownBlock=sO k->k < N)(hb:bl w5 w6)(hN:N<=wd.heap.size):bQ (λb=>B<=b/\v.ownBlock≠sO b) w6 ⟨g,js,jc⟩:=by
 refine⟨?_,h1,h2⟩;rcases hI with h|⟨b,off,e,hz,hc⟩
 ·exact .inl h
 ·have hbn:=hF _ e
  simp only at hbn;exact .inr ⟨b,off,e,⟨aa,λe'=>by have:=hv e';omega⟩,lL hz hb.size,λk hk=>by rw[hb.cell (by simp only;exact hz)];exact hc k hk⟩
theorem io (j:Gs->Gs->Gs)(a b:List Gs)(k:Nat)(h:k < a.length)(h':k < b.length):aN j (a.take (k+1)) (b.take (k+1))=aN j (a.take k) (b.take k)++[j a[k] b[k]]:=by
 unfold aN;rw[j3 h,j3 h',j9 an];rfl
theorem nM (j:Gs->Gs->Gs)(a b:List (List Gs))(k:Nat)(h:k < a.length)(h':k < b.length):j5 (aN j) (a.take (k+1)) (b.take (k+1))=j5 (aN j) (a.take k) (b.take k)++[aN j a[k] b[k]]:=by
 rw[j3 h,j3 h',j9 an];rfl
def yJ (wide:Bool)(j:Gs->Gs->Gs)(RR:Gs->Gs->Prop):Prop:=∀(g:Gs) (ss:oA) (gc:Nat) (h:Gs) (st:oA) (hc:Nat) (wx:World),IntsAt wx ss g.s->IntsAt wx st h.s->RR g h->Calls pG 114 #[gv g ss gc,gv h st hc,Bb wide] wx λe w'=>∃js jc,e=Rt (gv (j g h) js jc)/\IntsAt w' js (j g h).s/\(j g h).s.length<=jc/\jc<=maxLen/\(∀a,js=sO a->wx.heap.size<=a.block)/\bl wx w'

theorem mD {p:Prop}(h:p:=by
 rw[List.length_map,List.length_zipWith,List.length_take,List.length_take] at h1;omega):p:=h
theorem sj (wide:Bool)(j:Gs->Gs->Gs)(RR:Gs->Gs->Prop)(hJ:yJ wide j RR)(vx vy:List Gs)(fx fy:List (List Gs))(vs1:oA)(vc1:Nat)(fs1:oA)(fc1:Nat)(vs2:oA)(vc2:Nat)(fs2:oA)(fc2:Nat)(w:World)(hx:PicAt w ⟨false,vx,fx⟩ vs1 fs1)(hy:PicAt w ⟨false,vy,fy⟩ vs2 fs2)(hv:vx.length=vy.length)(hv8:vx.length<=8)(hf:fx.length=fy.length)(h60:fx.length<=60)(hr:∀i (h:i < fx.length) (h':i < fy.length),fx[i].length=fy[i].length/\fx[i].length<=3)(hR1:∀i (h:i < vx.length) (h':i < vy.length),RR vx[i] vy[i])(hR2:∀i (h:i < fx.length) (h':i < fy.length) k (hk:k < fx[i].length) (hk':k < fy[i].length),RR fx[i][k] fy[i][k]):
  Calls pG 70 #[xv ⟨false,vx,fx⟩ vs1 vc1 fs1 fc1,xv ⟨false,vy,fy⟩ vs2 vc2 fs2 fc2,Bb wide] w λe w'=>KT w.heap.size w' e ⟨false,aN j vx vy,j5 (aN j) fx fy⟩/\bl w w':=by
 obtain⟨ti,hi,hz0,hz1,hz2⟩:=info_parts Tryz.info_guess;obtain⟨tk,hk,hx0,hx1,hx2⟩:=info_parts Tryz.info_row;have HJ:Hid (∀(g:Gs) (ss:oA) (gc:Nat) (h:Gs) (st:oA) (hc:Nat) (wx:World),IntsAt wx ss g.s->IntsAt wx st h.s->RR g h->Calls pG 114 #[gv g ss gc,gv h st hc,Bb wide] wx λe w'=>∃js jc,e=Rt (gv (j g h) js jc)/\IntsAt w' js (j g h).s/\(j g h).s.length<=jc/\jc<=maxLen/\(∀a,js=sO a->wx.heap.size<=a.block)/\bl wx w'):=hJ;have HV:=ae hv;have HF:=ae hf;have HR:=ae hr;have HR1:=ae hR1;have HR2:=ae hR2;have HX:=ae hx;have HY:=ae hy;clear hJ hv hf hr hR1 hR2 hx hy;have hb0:Below w.heap.size w ((((w.alloc (Cc #[Bb false,U vs1 vx.length vc1,U fs1 fx.length fc1] 28)).alloc (Cc #[Bb false,U vs2 vy.length vc2,U fs2 fy.length fc2] 28)).alloc (Cc #[Bb false,U nO 0 0,U nO 0 0] 28)).alloc (Cc #[Bb false,U nO 0 0,U nO 0 0] 28)):=ai;have A0:=(XAt.new w ⟨false,vx,fx⟩ vs1 vc1 fs1 fc1).call (w':=((((w.alloc (Cc #[Bb false,U vs1 vx.length vc1,U fs1 fx.length fc1] 28)).alloc (Cc #[Bb false,U vs2 vy.length vc2,U fs2 fy.length fc2] 28)).alloc (Cc #[Bb false,U nO 0 0,U nO 0 0] 28)).alloc (Cc #[Bb false,U nO 0 0,U nO 0 0] 28))) ai;have B0:=(XAt.new (w.alloc (Cc #[Bb false,U vs1 vx.length vc1,U fs1 fx.length fc1] 28)) ⟨false,vy,fy⟩ vs2 vc2 fs2 fc2).call (w':=((((w.alloc (Cc #[Bb false,U vs1 vx.length vc1,U fs1 fx.length fc1] 28)).alloc (Cc #[Bb false,U vs2 vy.length vc2,U fs2 fy.length fc2] 28)).alloc (Cc #[Bb false,U nO 0 0,U nO 0 0] 28)).alloc (Cc #[Bb false,U nO 0 0,U nO 0 0] 28))) ai;have C0:=(X3.new ((w.alloc (Cc #[Bb false,U vs1 vx.length vc1,U fs1 fx.length fc1] 28)).alloc (Cc #[Bb false,U vs2 vy.length vc2,U fs2 fy.length fc2] 28)) 28 (Bb false) (U nO 0 0) (U nO 0 0)).call (w':=((((w.alloc (Cc #[Bb false,U vs1 vx.length vc1,U fs1 fx.length fc1] 28)).alloc (Cc #[Bb false,U vs2 vy.length vc2,U fs2 fy.length fc2] 28)).alloc (Cc #[Bb false,U nO 0 0,U nO 0 0] 28)).alloc (Cc #[Bb false,U nO 0 0,U nO 0 0] 28))) ai;have D0:=X3.new (((w.alloc (Cc #[Bb false,U vs1 vx.length vc1,U fs1 fx.length fc1] 28)).alloc (Cc #[Bb false,U vs2 vy.length vc2,U fs2 fy.length fc2] 28)).alloc (Cc #[Bb false,U nO 0 0,U nO 0 0] 28)) 28 (Bb false) (U nO 0 0) (U nO 0 0);have z0:w.heap.size+1+1+1+1<=((((w.alloc (Cc #[Bb false,U vs1 vx.length vc1,U fs1 fx.length fc1] 28)).alloc (Cc #[Bb false,U vs2 vy.length vc2,U fs2 fy.length fc2] 28)).alloc (Cc #[Bb false,U nO 0 0,U nO 0 0] 28)).alloc (Cc #[Bb false,U nO 0 0,U nO 0 0] 28)).heap.size:=ah;rw[zA] at B0;rw[zA,zA] at C0;rw[zA,zA,zA] at D0;(try simp only at A0 B0);go_enter Tryz.func70,Tryz.ntmps70;go_upto_region 6 with fail
 generalize ((((w.alloc (Cc #[Bb false,U vs1 vx.length vc1,U fs1 fx.length fc1] 28)).alloc (Cc #[Bb false,U vs2 vy.length vc2,U fs2 fy.length fc2] 28)).alloc (Cc #[Bb false,U nO 0 0,U nO 0 0] 28)).alloc (Cc #[Bb false,U nO 0 0,U nO 0 0] 28))=w1 at *;go_wp2;go_loopw [8] (λi wr=>∃(k:Nat) (vs:oA) (vc:Nat) (l:List Gc),k<=vx.length/\i=I Y k/\XAt wr w.heap.size ⟨false,vx,fx⟩ vs1 vc1 fs1 fc1/\XAt wr (w.heap.size+1) ⟨false,vy,fy⟩ vs2 vc2 fs2 fc2/\X3 wr (w.heap.size+1+1) (Bb false) (U nO 0 0) (U nO 0 0)/\X3 wr (w.heap.size+1+1+1) (Bb false) (U vs l.length vc) (U nO 0 0)/\SRow wr (w.heap.size+1+1+1+1) (U vs l.length vc) l/\Hid (l.map Gc.g=aN j (vx.take k) (vy.take k))/\bl w wr/\w.heap.size+1+1+1+1<=wr.heap.size) (λi _=>vx.length - (intOf i).toNat)
 case atStart=>exact⟨0,nO,0,[],j0 _,rfl,A0,B0,C0,D0,SRow.nil _ _,rfl,hb0,z0⟩
 case round=>
  obtain⟨k,vs,vc,l,hk1,rfl,AR,BR,CR,ZR,SR,HL,LR,zr⟩:=hrel;clear A0 B0 C0 D0 hb0 z0;have LL:Hid (l.length=k):=by
   show _=_;have h1:=congrArg j1 HL.out;have h2:=HV.out;unfold aN at h1;exact mD
  by_cases hlt:k < vx.length
  ·have n0:(0:Int)<=(k:Int):=by omega
   have n1:(k:Int) < (vx.length:Int):=aa;have hlt':k < vy.length:=by have:=HV.out;omega
   have n2:(k:Int) < (vy.length:Int):=aa;obtain⟨b1,o1,e1,ss1,g1,G1,I1,k1,m1⟩:=(HX.out.1.below LR (lR _)) k hlt;obtain⟨b2,o2,e2,ss2,g2,G2,I2,k2,m2⟩:=(HY.out.1.below LR (lR _)) k hlt';subst e1 e2;have hRk:=HR1.out k hlt hlt';(try simp only at G1 G2 I1 I2);have zb1:b1 < w.heap.size:=lU (HX.out.1) k hlt;have zb2:b2 < w.heap.size:=lU (HY.out.1) k hlt';obtain⟨⟨a0,a1,a2⟩,az,-⟩:=id AR;obtain⟨⟨c0,c1,c2⟩,cz,-⟩:=id BR;obtain⟨⟨y0,y1,y2⟩,yz,-⟩:=id ZR;have HKZ:Hid (∀wx,Below (w.heap.size+1+1+1+1) wr wx->wx.cell? ⟨w.heap.size+1+1+1,1,nO⟩=sO (U vs l.length vc)/\(wx.cell? ⟨w.heap.size,1,nO⟩=sO (U (sO ⟨b1,o1,nO⟩) vx.length vc1)/\(wx.cell? ⟨b1,o1+k * 7,nO⟩=sO (Bb vx[k].n)/\wx.cell? ⟨b1,o1+k * 7+1,nO⟩=sO (Bb vx[k].sp.n)/\wx.cell? ⟨b1,o1+k * 7+2,nO⟩=sO (I Y vx[k].sp.lo)/\wx.cell? ⟨b1,o1+k * 7+3,nO⟩=sO (I Y vx[k].sp.hi)/\wx.cell? ⟨b1,o1+k * 7+4,nO⟩=sO (Bb vx[k].t)/\wx.cell? ⟨b1,o1+k * 7+5,nO⟩=sO (Bb vx[k].f)/\wx.cell? ⟨b1,o1+k * 7+6,nO⟩=sO (U ss1 vx[k].s.length g1)))/\(wx.cell? ⟨w.heap.size+1,1,nO⟩=sO (U (sO ⟨b2,o2,nO⟩) vy.length vc2)/\(wx.cell? ⟨b2,o2+k * 7,nO⟩=sO (Bb vy[k].n)/\wx.cell? ⟨b2,o2+k * 7+1,nO⟩=sO (Bb vy[k].sp.n)/\wx.cell? ⟨b2,o2+k * 7+2,nO⟩=sO (I Y vy[k].sp.lo)/\wx.cell? ⟨b2,o2+k * 7+3,nO⟩=sO (I Y vy[k].sp.hi)/\wx.cell? ⟨b2,o2+k * 7+4,nO⟩=sO (Bb vy[k].t)/\wx.cell? ⟨b2,o2+k * 7+5,nO⟩=sO (Bb vy[k].f)/\wx.cell? ⟨b2,o2+k * 7+6,nO⟩=sO (U ss2 vy[k].s.length g2)))):=λwx hx=>⟨by rw[hx.cell (by simp only;omega)];exact y1,⟨by rw[hx.cell (by simp only;omega)];exact a1,(G1.low hx aa).1⟩,by rw[hx.cell (by simp only;omega)];exact c1,(G2.low hx aa).1⟩;have HD:bl wr wr.drew:=(bR _ _).drew;go_wp2;clear a0 a1 a2 az c0 c1 c2 cz y0 y1 y2 yz;refine aD (S:=(λwx=>wx.cell? ⟨w.heap.size+1+1+1,1,nO⟩=sO (U vs l.length vc)/\(wx.cell? ⟨w.heap.size,1,nO⟩=sO (U (sO ⟨b1,o1,nO⟩) vx.length vc1)/\(wx.cell? ⟨b1,o1+k * 7,nO⟩=sO (Bb vx[k].n)/\wx.cell? ⟨b1,o1+k * 7+1,nO⟩=sO (Bb vx[k].sp.n)/\wx.cell? ⟨b1,o1+k * 7+2,nO⟩=sO (I Y vx[k].sp.lo)/\wx.cell? ⟨b1,o1+k * 7+3,nO⟩=sO (I Y vx[k].sp.hi)/\wx.cell? ⟨b1,o1+k * 7+4,nO⟩=sO (Bb vx[k].t)/\wx.cell? ⟨b1,o1+k * 7+5,nO⟩=sO (Bb vx[k].f)/\wx.cell? ⟨b1,o1+k * 7+6,nO⟩=sO (U ss1 vx[k].s.length g1)))/\(wx.cell? ⟨w.heap.size+1,1,nO⟩=sO (U (sO ⟨b2,o2,nO⟩) vy.length vc2)/\(wx.cell? ⟨b2,o2+k * 7,nO⟩=sO (Bb vy[k].n)/\wx.cell? ⟨b2,o2+k * 7+1,nO⟩=sO (Bb vy[k].sp.n)/\wx.cell? ⟨b2,o2+k * 7+2,nO⟩=sO (I Y vy[k].sp.lo)/\wx.cell? ⟨b2,o2+k * 7+3,nO⟩=sO (I Y vy[k].sp.hi)/\wx.cell? ⟨b2,o2+k * 7+4,nO⟩=sO (Bb vy[k].t)/\wx.cell? ⟨b2,o2+k * 7+5,nO⟩=sO (Bb vy[k].f)/\wx.cell? ⟨b2,o2+k * 7+6,nO⟩=sO (U ss2 vy[k].s.length g2))))) [17] ag (HKZ.out _ (HD.mono zr)) (λhHeld=> ?_);refine vZ 0 ?_ ?_;refine vZ 1 ?_ ?_;refine vZ 2 ?_ ?_;refine vZ 3 ?_ ?_;refine vZ 4 ?_ ?_;refine vZ 5 ?_ ?_;refine vZ 6 ?_ ?_;refine vZ 7 ?_ ?_;refine vZ 8 ?_ ?_;refine vZ 9 ?_ ?_;refine vZ 10 ?_ ?_;refine vZ 11 ?_ ?_;refine vZ 12 ?_ ?_;refine aB (i:=13) rfl ag (λK hK=> ?_);go_simp;go_at_call 114;refine(HJ.out vx[k] ss1 g1 vy[k] ss2 g2 _ (I1.call HD) (I2.call HD) hRk).mono ?_;rintro e w5 ⟨js,jc,rfl,HI5,HJ1,HJ2,HF5,hb5⟩;have HW5:bl wr w5:=HD.trans (hb5.mono HD.size);have HB5:Below (w.heap.size+1+1+1+1) wr w5:=HW5.mono zr;go_wp2_with fail;refine hK.out _ _ (HKZ.out _ HB5) (λhHeld=> ?_);clear hK K;refine sm ?_;refine aB (i:=14) rfl ag (λK hK=> ?_);go_simp;have HW6:bl wr (w5.alloc (Cc #[Bb (j vx[k] vy[k]).n,Bb (j vx[k] vy[k]).sp.n,I Y (j vx[k] vy[k]).sp.lo,I Y (j vx[k] vy[k]).sp.hi,Bb (j vx[k] vy[k]).t,Bb (j vx[k] vy[k]).f,U js (j vx[k] vy[k]).s.length jc] 91)):=HW5.alloc HW5.size _;have HB6:Below (w.heap.size+1+1+1+1) wr (w5.alloc (Cc #[Bb (j vx[k] vy[k]).n,Bb (j vx[k] vy[k]).sp.n,I Y (j vx[k] vy[k]).sp.lo,I Y (j vx[k] vy[k]).sp.hi,Bb (j vx[k] vy[k]).t,Bb (j vx[k] vy[k]).f,U js (j vx[k] vy[k]).s.length jc] 91)):=HW6.mono zr;refine hK.out _ _ (HKZ.out _ HB6) (λhHeld=> ?_);clear hK K;refine sm ?_;refine aB (i:=15) rfl ag (λK hK=> ?_);have S6:=SR.call HW6;have GX:bQ (λb=>w.heap.size+1+1+1+1<=b/\(j6 vs l.length vc).ownBlock≠sO b) (w5.alloc (Cc #[Bb (j vx[k] vy[k]).n,Bb (j vx[k] vy[k]).sp.n,I Y (j vx[k] vy[k]).sp.lo,I Y (j vx[k] vy[k]).sp.hi,Bb (j vx[k] vy[k]).t,Bb (j vx[k] vy[k]).f,U js (j vx[k] vy[k]).s.length jc] 91)) ⟨j vx[k] vy[k],js,jc⟩:=gZ HI5 HJ1 HJ2 HF5 zr (λe=>(aM SR.1 e).1) ai (HD.size);refine dG _ rfl _ _ 25 rfl (w.heap.size+1+1+1+1) 91 ti (Ag #[Bb false,Bb false,I Y 0,I Y 0,Bb false,Bb false,U nO 0 0]) 7 64 Tryz.underlying25 hi hz0 hz1 hz2 rfl aj _ _ _ rfl S6.1 (sO ⟨w5.heap.size,0,nO⟩) 1 1 (bp ⟨j vx[k] vy[k],js,jc⟩) rfl rfl (λh=>aX) (lf w5 ⟨j vx[k] vy[k],js,jc⟩ #[Bb (j vx[k] vy[k]).n,Bb (j vx[k] vy[k]).sp.n,I Y (j vx[k] vy[k]).sp.lo,I Y (j vx[k] vy[k]).sp.hi,Bb (j vx[k] vy[k]).t,Bb (j vx[k] vy[k]).f,U js (j vx[k] vy[k]).s.length jc] _ rfl) (dj _) pD o9 hU ?_;intro v' w7 hown hgrow hat;have S7:=S6.grown (x:=⟨j vx[k] vy[k],js,jc⟩) GX hown hgrow hat;have HB7:Below (w.heap.size+1+1+1+1) wr w7:=HB6.grown hgrow hU (λk hk=>(aM S6.1 hk).2);obtain⟨vs',vc',rfl,-,-,-⟩:=S7.in;refine hK.out _ _ (HKZ.out _ HB7) (λhHeld=> ?_);clear hK K hown hgrow hat S6 GX HB6 HW6 HB5 HW5 HI5 HF5;refine sm ?_;refine vZ 16 ?_ ?_;refine bA (i:=17) rfl ag ag (λK hK=> ?_);have Z7:X3 w7 (w.heap.size+1+1+1) (Bb false) (U vs l.length vc) (U nO 0 0):=ZR.same (HB7.block _ aa) HB7.size;obtain⟨⟨y0,y1,y2⟩,yz,yf⟩:=id Z7;have yf1:=yf 1;clear yf;go_simp;refine hK.out _ _ ?_;clear hK K;refine sm ?_;refine aC ag ?_ _;clear y0 y1 y2 yz yf1;have A7:XAt w7 w.heap.size ⟨false,vx,fx⟩ _ vc1 fs1 fc1:=AR.same (HB7.block _ aa) HB7.size;have B7:XAt w7 (w.heap.size+1) ⟨false,vy,fy⟩ _ vc2 fs2 fc2:=BR.same (HB7.block _ aa) HB7.size;have C7:X3 w7 (w.heap.size+1+1) (Bb false) (U nO 0 0) (U nO 0 0):=CR.same (HB7.block _ aa) HB7.size;have L7:=LR.trans (HB7.mono aa);have z7:w.heap.size+1+1+1+1<=w7.heap.size:=lT zr HB7.size;have e7:∀b,b≠w.heap.size+1+1+1->(w7.setCell ⟨w.heap.size+1+1+1,1,nO⟩ (U vs' (l++[(⟨j vx[k] vy[k],js,jc⟩:Gc)]).length vc')).heap[b]? =w7.heap[b]? :=λb hb=>hSe _ _ _ _ hb;have s7:w7.heap.size<=(w7.setCell ⟨w.heap.size+1+1+1,1,nO⟩ (U vs' (l++[(⟨j vx[k] vy[k],js,jc⟩:Gc)]).length vc')).heap.size:=bx;clear AR BR CR ZR SR LR zr HKZ;go_wp2;go_roundw
   case rel=>exact⟨k+1,vs',vc',l++[⟨j vx[k] vy[k],js,jc⟩],aa,aJ,Dn,by first|exact B7.same (e7 _ (by omega)) s7|(simpa using B7.same (e7 _ (by omega)) s7),DB,by first|exact Z7.put1 _|(simpa using Z7.put1 (U vs' (l++[(⟨j vx[k] vy[k],js,jc⟩:Gc)]).length vc')),Dl,by show _=_;rw[j7,HL.out,io j vx vy k hlt hlt'];rfl,by first|exact L7.setCell (by simp only;omega) _|(simpa using L7.setCell (p:=⟨w.heap.size+1+1+1,1,nO⟩) (by simp only;omega) (U vs' (l++[(⟨j vx[k] vy[k],js,jc⟩:Gc)]).length vc')),pE⟩
   case measure=>simp[intOf];omega
  ·have n1':¬(k:Int) < (vx.length:Int):=by omega
   obtain⟨vs0,vc0,e0,hk0,hk00,GV0⟩:=SR.in;cases e0;have ek:k=vx.length:=aa;have et1:vx.take k=vx:=j2 aa;have et2:vy.take k=vy:=j2 (by have:=HV.out;omega)
   have LV:Hid (l.length=(aN j vx vy).length):=by
    show _=_;have h1:=congrArg j1 HL.out;rw[et1,et2,j4] at h1;exact h1
   rw[HL.out,et1,et2] at GV0;have GV:GsIn (λb=>w.heap.size+1+1+1+1<=b/\b < wr.heap.size) wr vs (aN j vx vy):=GV0.mono λb h1 h2=>⟨h1,h2⟩;have HVC:Hid (l.length<=vc/\vc<=maxLen):=⟨hk0,hk00⟩;clear GV0 SR LL HL hk0 hk00 et1 et2;have zn:w.heap.size+1+1+1+1<=wr.heap.size:=zr;obtain⟨⟨a0,a1,a2⟩,az,-⟩:=id AR;generalize hN:wr.heap.size=N at *;have HNN:=ae hN;clear hN;go_wp2;clear a0 a1 a2 az;go_loopw [9] (λi wr=>∃(k:Nat) (fs:oA) (fc:Nat) (L:List Rw),k<=fx.length/\i=I Y k/\XAt wr w.heap.size ⟨false,vx,fx⟩ vs1 vc1 fs1 fc1/\XAt wr (w.heap.size+1) ⟨false,vy,fy⟩ vs2 vc2 fs2 fc2/\X3 wr (w.heap.size+1+1) (Bb false) (U nO 0 0) (U nO 0 0)/\X3 wr (w.heap.size+1+1+1) (Bb false) (U vs l.length vc) (U fs L.length fc)/\FRow wr N (U fs L.length fc) L/\Hid (L.map Rw.l=j5 (aN j) (fx.take k) (fy.take k))/\GsIn (λb=>w.heap.size+1+1+1+1<=b/\b < N) wr vs (aN j vx vy)/\bl w wr/\N<=wr.heap.size) (λi _=>fx.length - (intOf i).toNat)
   case atStart=>exact⟨0,nO,0,[],j0 _,rfl,AR,BR,CR,ZR,FRow.nil _ _,rfl,GV,LR,Go.Proofs.YtmapdpcfanecdabGreatDoor.u9⟩
   case round=>
    clear AR BR CR ZR GV LR zr HNN;obtain⟨k2,fs,fc,L,hk2,rfl,AR,BR,CR,ZR,FR,HL,GV,LR,zr⟩:=hrel;generalize wr=w6 at *;clear wr;have LL:Hid (L.length=k2):=by
     show _=_;have h1:=congrArg j1 HL.out;have h2:=HF.out;exact mD
    obtain⟨⟨a0,a1,a2⟩,az,-⟩:=id AR;by_cases hlt2:k2 < fx.length
    ·have n0:(0:Int)<=(k2:Int):=by omega
     have n2':(k2:Int) < (fx.length:Int):=aa;have hlt2':k2 < fy.length:=pO;have n3':(k2:Int) < (fy.length:Int):=aa;go_wp2;clear a0 a1 a2 az;go_loopw [10,11] (λr i2 wo=>∃(m:Nat) (rs:oA) (rc:Nat) (lr:List Gc),m<=fx[k2].length/\r=U rs lr.length rc/\i2=I Y m/\bl w6 wo/\SRow wo w6.heap.size (U rs lr.length rc) lr/\Hid (lr.map Gc.g=aN j (fx[k2].take m) (fy[k2].take m))) (λ_ i2 _=>fx[k2].length - (intOf i2).toNat)
     case atStart=>exact⟨0,nO,0,[],j0 _,rfl,rfl,bR _ _,SRow.nil _ _,rfl⟩
     case round=>
      obtain⟨m,rs,rc,lr,hm,rfl,rfl,hbo,SR,HM⟩:=hrel;have hlen:=HR.out k2 hlt2 hlt2';have HEQ:=ae hlen.1;have h3:=hlen.2;clear hlen;have LM:Hid (lr.length=m):=by
       show _=_;have h1:=congrArg j1 HM.out;have h2:=HEQ.out;unfold aN at h1;exact mD
      obtain⟨⟨a0,a1,a2⟩,az,-⟩:=id (AR.call hbo);obtain⟨⟨c0,c1,c2⟩,cz,-⟩:=id (BR.call hbo);obtain⟨p1,q1,e1,zp1,r1,rc1,C1,k1,m1,J1⟩:=HX.out.2 k2 hlt2;obtain⟨p2,q2,e2,zp2,r2,rc2,C2,k2',m2,J2⟩:=HY.out.2 k2 hlt2';have hwo:=LR.trans (hbo.mono LR.size);have D1:wr.cell? ⟨p1,q1+k2,nO⟩=sO (U r1 fx[k2].length rc1):=Dp;have D2:wr.cell? ⟨p2,q2+k2,nO⟩=sO (U r2 fy[k2].length rc2):=by rw[hwo.cell (by simp only;exact zp2)];exact C2
      subst e1 e2;clear C1 C2;by_cases hltm:m < fx[k2].length
      ·have m0:(0:Int)<=(m:Int):=by omega
       have m1':(m:Int) < (fx[k2].length:Int):=aa;have hltm':m < fy[k2].length:=by have:=HEQ.out;omega
       have m2':(m:Int) < (fy[k2].length:Int):=aa;obtain⟨b1,o1,e1,ss1,g1,G1,I1,l1,l2⟩:=(J1.below hwo (lR _)) m hltm;obtain⟨b2,o2,e2,ss2,g2,G2,I2,l3,l4⟩:=(J2.below hwo (lR _)) m hltm';subst e1 e2;have zb1:b1 < w.heap.size:=lU J1 m hltm;have zb2:b2 < w.heap.size:=lU J2 m hltm';have hRk:=HR2.out k2 hlt2 hlt2' m hltm hltm';have zn6:w.heap.size+1+1+1+1<=w6.heap.size:=lT zn zr;have HKL:Hid (∀wx,Below w6.heap.size wr wx->(wx.cell? ⟨w.heap.size,2,nO⟩=sO (U (sO ⟨p1,q1,nO⟩) fx.length fc1)/\wx.cell? ⟨p1,q1+k2,nO⟩=sO (U (sO ⟨b1,o1,nO⟩) fx[k2].length rc1)/\(wx.cell? ⟨b1,o1+m * 7,nO⟩=sO (Bb fx[k2][m].n)/\wx.cell? ⟨b1,o1+m * 7+1,nO⟩=sO (Bb fx[k2][m].sp.n)/\wx.cell? ⟨b1,o1+m * 7+2,nO⟩=sO (I Y fx[k2][m].sp.lo)/\wx.cell? ⟨b1,o1+m * 7+3,nO⟩=sO (I Y fx[k2][m].sp.hi)/\wx.cell? ⟨b1,o1+m * 7+4,nO⟩=sO (Bb fx[k2][m].t)/\wx.cell? ⟨b1,o1+m * 7+5,nO⟩=sO (Bb fx[k2][m].f)/\wx.cell? ⟨b1,o1+m * 7+6,nO⟩=sO (U ss1 fx[k2][m].s.length g1)))/\(wx.cell? ⟨w.heap.size+1,2,nO⟩=sO (U (sO ⟨p2,q2,nO⟩) fy.length fc2)/\wx.cell? ⟨p2,q2+k2,nO⟩=sO (U (sO ⟨b2,o2,nO⟩) fy[k2].length rc2)/\(wx.cell? ⟨b2,o2+m * 7,nO⟩=sO (Bb fy[k2][m].n)/\wx.cell? ⟨b2,o2+m * 7+1,nO⟩=sO (Bb fy[k2][m].sp.n)/\wx.cell? ⟨b2,o2+m * 7+2,nO⟩=sO (I Y fy[k2][m].sp.lo)/\wx.cell? ⟨b2,o2+m * 7+3,nO⟩=sO (I Y fy[k2][m].sp.hi)/\wx.cell? ⟨b2,o2+m * 7+4,nO⟩=sO (Bb fy[k2][m].t)/\wx.cell? ⟨b2,o2+m * 7+5,nO⟩=sO (Bb fy[k2][m].f)/\wx.cell? ⟨b2,o2+m * 7+6,nO⟩=sO (U ss2 fy[k2][m].s.length g2)))):=λwx hx=>⟨⟨by rw[hx.cell (by simp only;omega)];exact a2,by rw[hx.cell (by simp only;omega)];exact D1,(G1.low hx aa).1⟩,by rw[hx.cell (by simp only;omega)];exact c2,by rw[hx.cell (by simp only;omega)];exact D2,(G2.low hx aa).1⟩;have HKZ:Hid (∀wx,bl wr wx->(wx.cell? ⟨w.heap.size,2,nO⟩=sO (U (sO ⟨p1,q1,nO⟩) fx.length fc1)/\wx.cell? ⟨p1,q1+k2,nO⟩=sO (U (sO ⟨b1,o1,nO⟩) fx[k2].length rc1)/\(wx.cell? ⟨b1,o1+m * 7,nO⟩=sO (Bb fx[k2][m].n)/\wx.cell? ⟨b1,o1+m * 7+1,nO⟩=sO (Bb fx[k2][m].sp.n)/\wx.cell? ⟨b1,o1+m * 7+2,nO⟩=sO (I Y fx[k2][m].sp.lo)/\wx.cell? ⟨b1,o1+m * 7+3,nO⟩=sO (I Y fx[k2][m].sp.hi)/\wx.cell? ⟨b1,o1+m * 7+4,nO⟩=sO (Bb fx[k2][m].t)/\wx.cell? ⟨b1,o1+m * 7+5,nO⟩=sO (Bb fx[k2][m].f)/\wx.cell? ⟨b1,o1+m * 7+6,nO⟩=sO (U ss1 fx[k2][m].s.length g1)))/\(wx.cell? ⟨w.heap.size+1,2,nO⟩=sO (U (sO ⟨p2,q2,nO⟩) fy.length fc2)/\wx.cell? ⟨p2,q2+k2,nO⟩=sO (U (sO ⟨b2,o2,nO⟩) fy[k2].length rc2)/\(wx.cell? ⟨b2,o2+m * 7,nO⟩=sO (Bb fy[k2][m].n)/\wx.cell? ⟨b2,o2+m * 7+1,nO⟩=sO (Bb fy[k2][m].sp.n)/\wx.cell? ⟨b2,o2+m * 7+2,nO⟩=sO (I Y fy[k2][m].sp.lo)/\wx.cell? ⟨b2,o2+m * 7+3,nO⟩=sO (I Y fy[k2][m].sp.hi)/\wx.cell? ⟨b2,o2+m * 7+4,nO⟩=sO (Bb fy[k2][m].t)/\wx.cell? ⟨b2,o2+m * 7+5,nO⟩=sO (Bb fy[k2][m].f)/\wx.cell? ⟨b2,o2+m * 7+6,nO⟩=sO (U ss2 fy[k2][m].s.length g2)))):=λwx hx=>HKL.out wx (hx.mono hbo.size);have HD:bl wr wr.drew:=(bR _ _).drew;go_wp2;clear a0 a1 a2 az c0 c1 c2 cz D1 D2;refine aD (S:=(λwx=>(wx.cell? ⟨w.heap.size,2,nO⟩=sO (U (sO ⟨p1,q1,nO⟩) fx.length fc1)/\wx.cell? ⟨p1,q1+k2,nO⟩=sO (U (sO ⟨b1,o1,nO⟩) fx[k2].length rc1)/\(wx.cell? ⟨b1,o1+m * 7,nO⟩=sO (Bb fx[k2][m].n)/\wx.cell? ⟨b1,o1+m * 7+1,nO⟩=sO (Bb fx[k2][m].sp.n)/\wx.cell? ⟨b1,o1+m * 7+2,nO⟩=sO (I Y fx[k2][m].sp.lo)/\wx.cell? ⟨b1,o1+m * 7+3,nO⟩=sO (I Y fx[k2][m].sp.hi)/\wx.cell? ⟨b1,o1+m * 7+4,nO⟩=sO (Bb fx[k2][m].t)/\wx.cell? ⟨b1,o1+m * 7+5,nO⟩=sO (Bb fx[k2][m].f)/\wx.cell? ⟨b1,o1+m * 7+6,nO⟩=sO (U ss1 fx[k2][m].s.length g1)))/\(wx.cell? ⟨w.heap.size+1,2,nO⟩=sO (U (sO ⟨p2,q2,nO⟩) fy.length fc2)/\wx.cell? ⟨p2,q2+k2,nO⟩=sO (U (sO ⟨b2,o2,nO⟩) fy[k2].length rc2)/\(wx.cell? ⟨b2,o2+m * 7,nO⟩=sO (Bb fy[k2][m].n)/\wx.cell? ⟨b2,o2+m * 7+1,nO⟩=sO (Bb fy[k2][m].sp.n)/\wx.cell? ⟨b2,o2+m * 7+2,nO⟩=sO (I Y fy[k2][m].sp.lo)/\wx.cell? ⟨b2,o2+m * 7+3,nO⟩=sO (I Y fy[k2][m].sp.hi)/\wx.cell? ⟨b2,o2+m * 7+4,nO⟩=sO (Bb fy[k2][m].t)/\wx.cell? ⟨b2,o2+m * 7+5,nO⟩=sO (Bb fy[k2][m].f)/\wx.cell? ⟨b2,o2+m * 7+6,nO⟩=sO (U ss2 fy[k2][m].s.length g2))))) [] ag (HKZ.out _ HD) (λhHeld=> ?_);refine vZ 0 ?_ ?_;refine vZ 1 ?_ ?_;refine vZ 2 ?_ ?_;refine vZ 3 ?_ ?_;refine vZ 4 ?_ ?_;refine vZ 5 ?_ ?_;refine vZ 6 ?_ ?_;refine vZ 7 ?_ ?_;refine vZ 8 ?_ ?_;refine vZ 9 ?_ ?_;refine vZ 10 ?_ ?_;refine vZ 11 ?_ ?_;refine vZ 12 ?_ ?_;refine vZ 13 ?_ ?_;refine vZ 14 ?_ ?_;refine vZ 15 ?_ ?_;refine vZ 16 ?_ ?_;refine vZ 17 ?_ ?_;refine aB (i:=18) rfl ag (λK hK=> ?_);go_simp;go_at_call 114;refine(HJ.out fx[k2][m] ss1 g1 fy[k2][m] ss2 g2 _ (I1.call HD) (I2.call HD) hRk).mono ?_;rintro e w7 ⟨js,jc,rfl,HI5,HJ1,HJ2,HF5,hb7⟩;have HW7:bl wr w7:=HD.trans (hb7.mono HD.size);go_wp2_with fail;refine hK.out _ _ (HKZ.out _ HW7) (λhHeld=> ?_);clear hK K;refine sm ?_;refine aB (i:=19) rfl ag (λK hK=> ?_);go_simp;have HW8:bl wr (w7.alloc (Cc #[Bb (j fx[k2][m] fy[k2][m]).n,Bb (j fx[k2][m] fy[k2][m]).sp.n,I Y (j fx[k2][m] fy[k2][m]).sp.lo,I Y (j fx[k2][m] fy[k2][m]).sp.hi,Bb (j fx[k2][m] fy[k2][m]).t,Bb (j fx[k2][m] fy[k2][m]).f,U js (j fx[k2][m] fy[k2][m]).s.length jc] 91)):=HW7.alloc HW7.size _;refine hK.out _ _ (HKZ.out _ HW8) (λhHeld=> ?_);clear hK K;refine sm ?_;refine aB (i:=20) rfl ag (λK hK=> ?_);have S8:=SR.call HW8;have z67:w6.heap.size<=wr.heap.size:=hbo.size;have GX:bQ (λb=>w6.heap.size<=b/\(j6 rs lr.length rc).ownBlock≠sO b) (w7.alloc (Cc #[Bb (j fx[k2][m] fy[k2][m]).n,Bb (j fx[k2][m] fy[k2][m]).sp.n,I Y (j fx[k2][m] fy[k2][m]).sp.lo,I Y (j fx[k2][m] fy[k2][m]).sp.hi,Bb (j fx[k2][m] fy[k2][m]).t,Bb (j fx[k2][m] fy[k2][m]).f,U js (j fx[k2][m] fy[k2][m]).s.length jc] 91)) ⟨j fx[k2][m] fy[k2][m],js,jc⟩:=gZ HI5 HJ1 HJ2 HF5 z67 (λe=>(aM SR.1 e).1) ai (HD.size);refine dG _ rfl _ _ 25 rfl w6.heap.size 91 ti (Ag #[Bb false,Bb false,I Y 0,I Y 0,Bb false,Bb false,U nO 0 0]) 7 64 Tryz.underlying25 hi hz0 hz1 hz2 rfl aj _ _ _ rfl S8.1 (sO ⟨w7.heap.size,0,nO⟩) 1 1 (bp ⟨j fx[k2][m] fy[k2][m],js,jc⟩) rfl rfl (λh=>aX) (lf w7 ⟨j fx[k2][m] fy[k2][m],js,jc⟩ #[Bb (j fx[k2][m] fy[k2][m]).n,Bb (j fx[k2][m] fy[k2][m]).sp.n,I Y (j fx[k2][m] fy[k2][m]).sp.lo,I Y (j fx[k2][m] fy[k2][m]).sp.hi,Bb (j fx[k2][m] fy[k2][m]).t,Bb (j fx[k2][m] fy[k2][m]).f,U js (j fx[k2][m] fy[k2][m]).s.length jc] _ rfl) (dj _) (by unfold maxLen;have:=LM.out;omega) (by have:=LM.out;omega) vk ?_;intro v' w9 hown hgrow hat;have S9:=S8.grown (x:=⟨j fx[k2][m] fy[k2][m],js,jc⟩) GX hown hgrow hat;have hb9:bl w6 w9:=(hbo.trans (HW8.mono hbo.size)).grown hgrow vk (λk hk=>(aM S8.1 hk).2);have HB9:Below w6.heap.size wr w9:=(HW8.mono hbo.size).grown hgrow vk (λk hk=>(aM S8.1 hk).2);obtain⟨rs',rc',rfl,-,-,-⟩:=S9.in;refine hK.out _ _ (HKL.out _ HB9) (λhHeld=> ?_);clear hK K hown hgrow hat S8 GX HW8 HW7 HI5 HF5;refine sm ?_;refine vZ 21 ?_ ?_;refine aC ag ?_ _;clear SR hbo HKZ HKL HB9;go_wp2;go_roundw
       case rel=>exact⟨m+1,rs',rc',lr++[⟨j fx[k2][m] fy[k2][m],js,jc⟩],aa,lM,aJ,hb9,S9,by show _=_;rw[j7,HM.out,io j fx[k2] fy[k2] m hltm hltm'];rfl⟩
       case measure=>simp[intOf];omega
      ·have m1':¬(m:Int) < (fx[k2].length:Int):=by omega
       have et1:fx[k2].take m=fx[k2]:=j2 aa;have et2:fy[k2].take m=fy[k2]:=j2 (by have:=HEQ.out;omega)
       obtain⟨rs0,rc0,e0,hk0,hk00,GR⟩:=SR.in;cases e0;have HLF:Hid (lr.length=(aN j fx[k2] fy[k2]).length):=by
        show _=_;have h1:=congrArg j1 HM.out;rw[et1,et2,j4] at h1;exact h1
       rw[HM.out,et1,et2] at GR;have A9:=AR.call hbo;have B9:=BR.call hbo;have C9:=CR.call hbo;have Z9:=ZR.call hbo;have F9:=FR.call hbo;have V9:=GV.call hbo;have L9:=hwo;have z9:N<=wr.heap.size:=lT zr hbo.size;have RX:n9 (λb=>N<=b/\(j6 fs L.length fc).ownBlock≠sO b) wr ⟨rs,rc,aN j fx[k2] fy[k2]⟩:=⟨GR.mono λb h1 _=>⟨lT zr h1,λe=>by have:=(aM FR.1 e).1;omega⟩,by rw[HLF.out] at hk0;exact hk0,hk00⟩
       clear AR BR CR ZR FR GV LR SR GR hbo zr hk0 hk00 LM HM hwo et1 et2;generalize wr=w9 at *;clear wr;obtain⟨⟨y0,y1,y2⟩,yz,yf⟩:=id Z9;have F10:=F9.call (w':=w9.alloc (Cc #[U rs lr.length rc] 25)) ai;have R10:n9 (λb=>N<=b/\(j6 fs L.length fc).ownBlock≠sO b) (w9.alloc (Cc #[U rs lr.length rc] 25)) ⟨rs,rc,aN j fx[k2] fy[k2]⟩:=⟨RX.1.call ai,RX.2⟩;go_wp2_with (at_builtin;refine aZ _ rfl _ _ 26 rfl N 25 tk (U nO 0 0) 1 24 Tryz.underlying26 hk hx0 hx1 hx2 rfl aj _ _ _ rfl F10.1 (sO ⟨w9.heap.size,0,nO⟩) 1 1 [U rs lr.length rc] rfl rfl (λh=>aX) ?qc2 lY ?qc4 ?qc5 ?qc6 ?_);(try (case qc2=>exact uK w9 _ _))
       case qc4=>unfold maxLen;have:=LL.out;omega
       case qc5=>have:=LL.out;omega
       (try (case qc6=>first|omega|(rw[zA];omega)|(simp;omega)|simp));intro v' w10 hown hgrow hat;rw[HLF.out] at hown;have F11:=F10.grown (x:=⟨rs,rc,aN j fx[k2] fy[k2]⟩) R10 hown hgrow fa;have hb10:Below N w9 w10:=((bR _ w9).alloc z9 _).grown hgrow an (λk hk=>(aM F10.1 hk).2);obtain⟨fs',fc',rfl,-,-,-⟩:=F11.rows;clear hown hgrow hat F10 F9 R10 RX y0 y1 y2 yz yf a0 a1 a2 az c0 c1 c2 cz D1 D2;have A4:XAt w10 w.heap.size ⟨false,vx,fx⟩ _ vc1 _ fc1:=A9.same (hb10.block _ aa) hb10.size;have B4:XAt w10 (w.heap.size+1) ⟨false,vy,fy⟩ _ vc2 _ fc2:=B9.same (hb10.block _ aa) hb10.size;have C4:X3 w10 (w.heap.size+1+1) (Bb false) (U nO 0 0) (U nO 0 0):=C9.same (hb10.block _ aa) hb10.size;have Z4:X3 w10 (w.heap.size+1+1+1) (Bb false) (U vs l.length vc) (U fs L.length fc):=Z9.same (hb10.block _ aa) hb10.size;have V4:GsIn (λb=>w.heap.size+1+1+1+1<=b/\b < N) w10 vs (aN j vx vy):=V9.same (λb hS _=>hb10.block b hS.2) hb10.size;have L4:=L9.trans (hb10.mono aa);have z4:N<=w10.heap.size:=lT z9 hb10.size;clear A9 B9 C9 Z9 V9 L9 z9 hb10;obtain⟨⟨y0,y1,y2⟩,yz,yf⟩:=id Z4;have yf2:=yf 2;clear yf;have e7:∀(x:Value) b,b≠w.heap.size+1+1+1->(w10.setCell ⟨w.heap.size+1+1+1,2,nO⟩ x).heap[b]? =w10.heap[b]? :=λx b hb=>hSe _ _ _ _ hb;have s7:∀(x:Value),w10.heap.size<=(w10.setCell ⟨w.heap.size+1+1+1,2,nO⟩ x).heap.size:=λx=>bx;have E7:=ae e7;have S7:=ae s7;clear e7 s7;go_wp2;go_roundw
       case rel=>exact⟨k2+1,fs',fc',L++[⟨rs,rc,aN j fx[k2] fy[k2]⟩],aa,aJ,A4.same (E7.out _ _ aa) (S7.out _),B4.same (E7.out _ _ aa) (S7.out _),C4.same (E7.out _ _ aa) (S7.out _),by rw[q0];exact Z4.put2 _,F11.old (λb hb=>E7.out _ b aa) (S7.out _),by show _=_;rw[j7,HL.out,nM j fx fy k2 hlt2 hlt2'];rfl,V4.same (λb hS _=>E7.out _ b aa) (S7.out _),L4.setCell au _,pi⟩
       case measure=>simp[intOf];omega
    ·have n2':¬(k2:Int) < (fx.length:Int):=by omega
     have et1:fx.take k2=fx:=j2 aa;have et2:fy.take k2=fy:=j2 pO;have ELL:Hid (L.length=(j5 (aN j) fx fy).length):=by
      show _=_;have h1:=congrArg j1 HL.out;rw[et1,et2,j4] at h1;exact h1
     have HFC:Hid (L.length<=fc/\fc<=maxLen):=by
      obtain⟨fs0,fc0,e0,hk0,hk00,-⟩:=FR.rows;cases e0;exact⟨hk0,hk00⟩
     have hch:∀b,b≠w.heap.size+1+1->(((w6.setCell ⟨w.heap.size+1+1,0,nO⟩ (Bb false)).setCell ⟨w.heap.size+1+1,1,nO⟩ (U vs l.length vc)).setCell ⟨w.heap.size+1+1,2,nO⟩ (U fs L.length fc)).heap[b]? =w6.heap[b]? :=λb hb=>lN;have hcz:w6.heap.size<=(((w6.setCell ⟨w.heap.size+1+1,0,nO⟩ (Bb false)).setCell ⟨w.heap.size+1+1,1,nO⟩ (U vs l.length vc)).setCell ⟨w.heap.size+1+1,2,nO⟩ (U fs L.length fc)).heap.size:=bx;have FX:=FR.old (w':=(((w6.setCell ⟨w.heap.size+1+1,0,nO⟩ (Bb false)).setCell ⟨w.heap.size+1+1,1,nO⟩ (U vs l.length vc)).setCell ⟨w.heap.size+1+1,2,nO⟩ (U fs L.length fc))) (λb hb=>hch b aa) hcz;have GX:=GV.same (w':=(((w6.setCell ⟨w.heap.size+1+1,0,nO⟩ (Bb false)).setCell ⟨w.heap.size+1+1,1,nO⟩ (U vs l.length vc)).setCell ⟨w.heap.size+1+1,2,nO⟩ (U fs L.length fc))) (λb hS _=>hch b aa) hcz;have BX:bl w (((w6.setCell ⟨w.heap.size+1+1,0,nO⟩ (Bb false)).setCell ⟨w.heap.size+1+1,1,nO⟩ (U vs l.length vc)).setCell ⟨w.heap.size+1+1,2,nO⟩ (U fs L.length fc)):=((LR.setCell au _).setCell au _).setCell au _;have HFX:Hid (∀wz:World,(∀b,w.heap.size<=b->b < (((w6.setCell ⟨w.heap.size+1+1,0,nO⟩ (Bb false)).setCell ⟨w.heap.size+1+1,1,nO⟩ (U vs l.length vc)).setCell ⟨w.heap.size+1+1,2,nO⟩ (U fs L.length fc)).heap.size->wz.heap[b]? =(((w6.setCell ⟨w.heap.size+1+1,0,nO⟩ (Bb false)).setCell ⟨w.heap.size+1+1,1,nO⟩ (U vs l.length vc)).setCell ⟨w.heap.size+1+1,2,nO⟩ (U fs L.length fc)).heap[b]?)->(((w6.setCell ⟨w.heap.size+1+1,0,nO⟩ (Bb false)).setCell ⟨w.heap.size+1+1,1,nO⟩ (U vs l.length vc)).setCell ⟨w.heap.size+1+1,2,nO⟩ (U fs L.length fc)).heap.size<=wz.heap.size->GsAt wz vs (aN j vx vy)/\RowsAt wz fs (j5 (aN j) fx fy)):=λwz hs hz=>by
      obtain⟨fs0,fc0,e0,hk0,hk00,RW0⟩:=(FX.olden (w':=wz) (λb hb hlt=>hs b aa hlt) hz).rows;cases e0;rw[HL.out,et1,et2] at RW0;exact⟨(GX.same (λb hS hlt=>hs b (by have:=hS.1;omega) hlt) hz).at,RW0⟩
     obtain⟨⟨y0,y1,y2⟩,yz,yf⟩:=id ZR;obtain⟨⟨d0,d1,d2⟩,dz,df⟩:=id CR;have f0:=df 0;have f1:=df 1;have f2:=df 2;clear df yf hch hcz FX GX et1 et2;go_wp2;refine bodyPost_ret (v:=Ag #[Bb false,U vs l.length vc,U fs L.length fc]) (by simp[results,Tryz.results70,go_sem,d0,d1,d2]) rfl ⟨⟨vs,vc,fs,fc,?_,(λwz hs hz=>HFX.out wz hs hz),?_,?_⟩,BX⟩
     ·rw[LV.out,ELL.out]
     ·rw[<-LV.out]
      exact HVC.out
     ·rw[<-ELL.out]
      exact HFC.out
theorem p4 (wide:Bool)(x y:Pic)(vs1:oA)(vc1:Nat)(fs1:oA)(fc1:Nat)(vs2:oA)(vc2:Nat)(fs2:oA)(fc2:Nat)(w:World)(hn:x.none=true):
  Calls pG 70 #[xv x vs1 vc1 fs1 fc1,xv y vs2 vc2 fs2 fc2,Bb wide] w λe w'=>e=Rt (xv y vs2 vc2 fs2 fc2)/\bl w w':=by
 obtain⟨xn,vx,fx⟩:=x;obtain⟨yn,vy,fy⟩:=y;simp only at hn;subst hn;go_enter Tryz.func70,Tryz.ntmps70;go_wp2;refine bodyPost_ret (v:=Ag #[Bb yn,U vs2 vy.length vc2,U fs2 fy.length fc2]) (by simp[results,Tryz.results70,go_sem]) rfl ⟨rfl,?_⟩;go_grown
theorem oc (wide:Bool)(x y:Pic)(vs1:oA)(vc1:Nat)(fs1:oA)(fc1:Nat)(vs2:oA)(vc2:Nat)(fs2:oA)(fc2:Nat)(w:World)(hm:x.none=false)(hn:y.none=true):
  Calls pG 70 #[xv x vs1 vc1 fs1 fc1,xv y vs2 vc2 fs2 fc2,Bb wide] w λe w'=>e=Rt (xv x vs1 vc1 fs1 fc1)/\bl w w':=by
 obtain⟨xn,vx,fx⟩:=x;obtain⟨yn,vy,fy⟩:=y;simp only at hn hm;subst hn hm;go_enter Tryz.func70,Tryz.ntmps70;go_wp2;refine bodyPost_ret (v:=Ag #[Bb false,U vs1 vx.length vc1,U fs1 fx.length fc1]) (by simp[results,Tryz.results70,go_sem]) rfl ⟨rfl,?_⟩;go_grown
theorem gj {V F:Int}{c:lI}{x:Pic}(h:aK V F c x=0)(hn:x.none=false):(x.vq.length:Int)=V/\x.fq.length=c.length/\(∀r∈x.fq,(r.length:Int)=F)/\(∀g∈x.vq,aE c g=0)/\∀r∈x.fq,∀g∈r,aE c g=0:=by
 unfold aK at h;split at h
 ·cases h
 ·rename_i h1
  split at h
  ·contradiction
  ·rename_i h2
   have h2':bZ c (bO x)=0:=iJ;have hall:=oM h2';have hf:bH V F c x=true:=fJ;unfold bH at hf;rw[hn] at hf;simp only[Bool.false_eq_true,if_false,Bool.and_eq_true,decide_eq_true_eq,Bool.not_eq_true',List.any_eq_false] at hf;refine⟨hf.1,hf.2.1,λr hr=>by have:=hf.2.2 r hr;simpa using this,λg hg=>hall g ?_,λr hr g hg=>hall g ?_⟩
   ·unfold bO;exact List.mem_append_left _ hg
   ·unfold bO;exact List.mem_append_right _ (List.mem_flatten.2 ⟨r,hr,hg⟩)
theorem gK {V F:Int}{c:lI}{g h:Gs}(h0:aw V F c=0)(hg:aE c g=0)(hh:aE c h=0):aY V F c [g,h]=0:=by
 unfold aY;rw[if_pos h0];unfold bZ;rw[if_pos hg];unfold bZ;rw[if_pos hh];rfl
def uI (c:lI)(g h:Gs):Prop:=aE c g=0/\aE c h=0
theorem tU {p:Prop}(h:p:=by
 rintro e w' ⟨v,rfl,hown,hb⟩;obtain⟨js,jc,rfl,hi,k1,k2,hf⟩:=IntsAt.own hown;rw[<-kd g h hg.1 hh.1] at hi k1 |-;exact⟨js,jc,rfl,hi,k1,k2,hf,hb⟩):p:=h
theorem rT {V F:Int}{c:lI}(h0:aw V F c=0):yJ false (cR bi) (uI c):=by
 intro g ss gc h st hc wx hs ht hR;have hck:=gK h0 hR.1 hR.2;obtain⟨hg,hh⟩:=fX hck;have l1:=cB hg.2 hg.1;have l2:=cB hh.2 hh.1;refine(vB g ss gc h st hc wx hs aa ht aa).mono ?_;exact tU
theorem Ke {V F:Int}{c:lI}(h0:aw V F c=0):yJ true (cR bq) (uI c):=by
 intro g ss gc h st hc wx hs ht hR;have hck:=gK h0 hR.1 hR.2;obtain⟨hg,hh⟩:=fX hck;have l1:=cB hg.2 hg.1;have l2:=cB hh.2 hh.1;refine(uP g ss gc h st hc wx hs aa ht aa).mono ?_;exact tU
theorem lk {V F:Int}{c:lI}(wide:Bool)(j:Gs->Gs->Gs)(hJ:yJ wide j (uI c))(x y:Pic)(vs1:oA)(vc1:Nat)(fs1:oA)(fc1:Nat)(vs2:oA)(vc2:Nat)(fs2:oA)(fc2:Nat)(w:World)(S:Nat->Prop)(hx:PicOn S w x vs1 fs1)(hy:PicOn S w y vs2 fs2)(p1:x.vq.length<=vc1/\vc1<=maxLen)(p2:x.fq.length<=fc1/\fc1<=maxLen)(q1:y.vq.length<=vc2/\vc2<=maxLen)(q2:y.fq.length<=fc2/\fc2<=maxLen)(h0:aw V F c=0)(h1:aK V F c x=0)(h2:aK V F c y=0):
  Calls pG 70 #[xv x vs1 vc1 fs1 fc1,xv y vs2 vc2 fs2 fc2,Bb wide] w λe w'=>(∃us uc gs gc,e=Rt (Ag #[Bb (aG j x y).none,U us (aG j x y).vq.length uc,U gs (aG j x y).fq.length gc])/\PicOn (λb=>S b\/w.heap.size<=b) w' (aG j x y) us gs/\((aG j x y).vq.length<=uc/\uc<=maxLen)/\((aG j x y).fq.length<=gc/\gc<=maxLen))/\bl w w':=by
 obtain⟨⟨hV1,hV8⟩,⟨hF0,hF3⟩,h60⟩:=bI h0;unfold aG;by_cases hn:x.none=true
 ·rw[if_pos hn]
  refine(p4 wide x y vs1 vc1 fs1 fc1 vs2 vc2 fs2 fc2 w hn).mono ?_;rintro e w' ⟨rfl,hb⟩;exact⟨⟨vs2,vc2,fs2,fc2,rfl,(hy.call hb).mono λb h _=>.inl h,q1,q2⟩,hb⟩
 ·have hn':x.none=false:=by simpa using hn
  rw[if_neg hn];by_cases hm:y.none=true
  ·rw[if_pos hm]
   refine(oc wide x y vs1 vc1 fs1 fc1 vs2 vc2 fs2 fc2 w hn' hm).mono ?_;rintro e w' ⟨rfl,hb⟩;exact⟨⟨vs1,vc1,fs1,fc1,rfl,(hx.call hb).mono λb h _=>.inl h,p1,p2⟩,hb⟩
  ·have hm':y.none=false:=by simpa using hm
   rw[if_neg hm];obtain⟨a1,a2,a3,a4,a5⟩:=gj h1 hn';obtain⟨b1,b2,b3,b4,b5⟩:=gj h2 hm';obtain⟨xn,vx,fx⟩:=x;obtain⟨yn,vy,fy⟩:=y;simp only at hn' hm' a1 a2 a3 a4 a5 b1 b2 b3 b4 b5;subst hn' hm';refine(sj wide j (uI c) hJ vx vy fx fy vs1 vc1 fs1 fc1 vs2 vc2 fs2 fc2 w hx.at hy.at aa aa aa aa
    (λi h h'=>CJ)
    (λi h h'=>⟨a4 _ (gM h),b4 _ (gM h')⟩)
    (λi h h' k hk hk'=>⟨a5 _ (gM h) _ (gM hk),b5 _ (gM h') _ (gM hk')⟩)).mono ?_
   rintro e w' ⟨⟨us,uc,gs,gc,he,h1,r1,r2⟩,h2⟩;exact⟨⟨us,uc,gs,gc,he,h1.mono λb h _=>.inr h,r1,r2⟩,h2⟩
def KJ (B:Nat)(w':World)(e:Ending)(x:Pic):Prop:=∃v gs gc L,x=aS x.none v L/\e=Rt (Ag #[Bb x.none,U v.rs v.l.length v.rc,U gs L.length gc])/\PicG (λb=>B<=b) B w' v gs gc L
theorem rY (xn:Bool)(vx:List Gs)(fx:List (List Gs))(vs1:oA)(vc1:Nat)(fs1:oA)(fc1:Nat)(w:World)(hx:PicAt w ⟨xn,vx,fx⟩ vs1 fs1)(hv8:vx.length<=1000000)(h60:fx.length<=1000000)(hr:∀i (h:i < fx.length),fx[i].length<=1000000)(hR1:∀g∈vx,g.s.length<=1000000)(hR2:∀i (h:i < fx.length),∀g∈fx[i],g.s.length<=1000000):
  Calls pG 29 #[xv ⟨xn,vx,fx⟩ vs1 vc1 fs1 fc1] w λe w'=>KJ w.heap.size w' e ⟨xn,vx,fx⟩/\bl w w':=by
 obtain⟨ti,hi,hz0,hz1,hz2⟩:=info_parts Tryz.info_guess;obtain⟨tk,hk,hx0,hx1,hx2⟩:=info_parts Tryz.info_row;have HO:Hid (∀(g:Gs) (ss:oA) (gc:Nat) (wx:World),IntsAt wx ss g.s->g.s.length<=1000000->Calls pG 68 #[gv g ss gc] wx λe w'=>(∃js jc,e=Rt (gv g js jc)/\IntsAt w' js g.s/\g.s.length<=jc/\jc<=maxLen/\∀a,js=sO a->wx.heap.size<=a.block)/\bl wx w'):=λg ss gc wx h1 h2=>Cs g ss gc wx h1 h2;have HR:=ae hr;have HR1:=ae hR1;have HR2:=ae hR2;have HX:=ae hx;clear hr hR1 hR2 hx;have hb0:Below w.heap.size w (((w.alloc (Cc #[Bb xn,U vs1 vx.length vc1,U fs1 fx.length fc1] 28)).alloc (Cc #[Bb false,U nO 0 0,U nO 0 0] 28)).alloc (Cc #[Bb xn,U nO 0 0,U nO 0 0] 28)):=ai;have A0:=(XAt.new w ⟨xn,vx,fx⟩ vs1 vc1 fs1 fc1).call (w':=(((w.alloc (Cc #[Bb xn,U vs1 vx.length vc1,U fs1 fx.length fc1] 28)).alloc (Cc #[Bb false,U nO 0 0,U nO 0 0] 28)).alloc (Cc #[Bb xn,U nO 0 0,U nO 0 0] 28))) ai;have C0:=(X3.new (w.alloc (Cc #[Bb xn,U vs1 vx.length vc1,U fs1 fx.length fc1] 28)) 28 (Bb false) (U nO 0 0) (U nO 0 0)).call (w':=(((w.alloc (Cc #[Bb xn,U vs1 vx.length vc1,U fs1 fx.length fc1] 28)).alloc (Cc #[Bb false,U nO 0 0,U nO 0 0] 28)).alloc (Cc #[Bb xn,U nO 0 0,U nO 0 0] 28))) ai;have D0:=X3.new ((w.alloc (Cc #[Bb xn,U vs1 vx.length vc1,U fs1 fx.length fc1] 28)).alloc (Cc #[Bb false,U nO 0 0,U nO 0 0] 28)) 28 (Bb xn) (U nO 0 0) (U nO 0 0);have z0:w.heap.size+1+1+1<=(((w.alloc (Cc #[Bb xn,U vs1 vx.length vc1,U fs1 fx.length fc1] 28)).alloc (Cc #[Bb false,U nO 0 0,U nO 0 0] 28)).alloc (Cc #[Bb xn,U nO 0 0,U nO 0 0] 28)).heap.size:=ah;rw[zA] at C0;rw[zA,zA] at D0;(try simp only at A0);go_enter Tryz.func29,Tryz.ntmps29;go_upto_region 3 with fail
 generalize (((w.alloc (Cc #[Bb xn,U vs1 vx.length vc1,U fs1 fx.length fc1] 28)).alloc (Cc #[Bb false,U nO 0 0,U nO 0 0] 28)).alloc (Cc #[Bb xn,U nO 0 0,U nO 0 0] 28))=w1 at *;go_wp2;go_loopw [5] (λi wr=>∃(k:Nat) (vs:oA) (vc:Nat) (l:List Gc),k<=vx.length/\i=I Y k/\XAt wr w.heap.size ⟨xn,vx,fx⟩ vs1 vc1 fs1 fc1/\X3 wr (w.heap.size+1) (Bb false) (U nO 0 0) (U nO 0 0)/\X3 wr (w.heap.size+1+1) (Bb xn) (U vs l.length vc) (U nO 0 0)/\SRow wr (w.heap.size+1+1+1) (U vs l.length vc) l/\Hid (l.map Gc.g=vx.take k)/\bl w wr/\w.heap.size+1+1+1<=wr.heap.size) (λi _=>vx.length - (intOf i).toNat)
 case atStart=>exact⟨0,nO,0,[],j0 _,rfl,A0,C0,D0,SRow.nil _ _,rfl,hb0,z0⟩
 case round=>
  obtain⟨k,vs,vc,l,hk1,rfl,AR,CR,ZR,SR,HL,LR,zr⟩:=hrel;clear A0 C0 D0 hb0 z0;have LL:Hid (l.length=k):=by
   show _=_;have h1:=congrArg j1 HL.out;rw[j4,j8] at h1;omega
  by_cases hlt:k < vx.length
  ·have n0:(0:Int)<=(k:Int):=by omega
   have n1:(k:Int) < (vx.length:Int):=aa;obtain⟨b1,o1,e1,ss1,g1,G1,I1,k1,m1⟩:=(HX.out.1.below LR (lR _)) k hlt;subst e1;have hlk:=HR1.out _ (gM hlt);(try simp only at G1 I1);have zb1:b1 < w.heap.size:=lU (HX.out.1) k hlt;obtain⟨⟨a0,a1,a2⟩,az,-⟩:=id AR;obtain⟨⟨y0,y1,y2⟩,yz,-⟩:=id ZR;have HKZ:Hid (∀wx,Below (w.heap.size+1+1+1) wr wx->wx.cell? ⟨w.heap.size+1+1,1,nO⟩=sO (U vs l.length vc)/\(wx.cell? ⟨w.heap.size,1,nO⟩=sO (U (sO ⟨b1,o1,nO⟩) vx.length vc1)/\(wx.cell? ⟨b1,o1+k * 7,nO⟩=sO (Bb vx[k].n)/\wx.cell? ⟨b1,o1+k * 7+1,nO⟩=sO (Bb vx[k].sp.n)/\wx.cell? ⟨b1,o1+k * 7+2,nO⟩=sO (I Y vx[k].sp.lo)/\wx.cell? ⟨b1,o1+k * 7+3,nO⟩=sO (I Y vx[k].sp.hi)/\wx.cell? ⟨b1,o1+k * 7+4,nO⟩=sO (Bb vx[k].t)/\wx.cell? ⟨b1,o1+k * 7+5,nO⟩=sO (Bb vx[k].f)/\wx.cell? ⟨b1,o1+k * 7+6,nO⟩=sO (U ss1 vx[k].s.length g1)))):=λwx hx=>⟨by rw[hx.cell (by simp only;omega)];exact y1,⟨by rw[hx.cell (by simp only;omega)];exact a1,(G1.low hx aa).1⟩⟩;have HD:bl wr wr.drew:=(bR _ _).drew;go_wp2;clear a0 a1 a2 az y0 y1 y2 yz;refine aD (S:=(λwx=>wx.cell? ⟨w.heap.size+1+1,1,nO⟩=sO (U vs l.length vc)/\(wx.cell? ⟨w.heap.size,1,nO⟩=sO (U (sO ⟨b1,o1,nO⟩) vx.length vc1)/\(wx.cell? ⟨b1,o1+k * 7,nO⟩=sO (Bb vx[k].n)/\wx.cell? ⟨b1,o1+k * 7+1,nO⟩=sO (Bb vx[k].sp.n)/\wx.cell? ⟨b1,o1+k * 7+2,nO⟩=sO (I Y vx[k].sp.lo)/\wx.cell? ⟨b1,o1+k * 7+3,nO⟩=sO (I Y vx[k].sp.hi)/\wx.cell? ⟨b1,o1+k * 7+4,nO⟩=sO (Bb vx[k].t)/\wx.cell? ⟨b1,o1+k * 7+5,nO⟩=sO (Bb vx[k].f)/\wx.cell? ⟨b1,o1+k * 7+6,nO⟩=sO (U ss1 vx[k].s.length g1))))) [12] ag (HKZ.out _ (HD.mono zr)) (λhHeld=> ?_);refine vZ 0 ?_ ?_;refine vZ 1 ?_ ?_;refine vZ 2 ?_ ?_;refine vZ 3 ?_ ?_;refine vZ 4 ?_ ?_;refine vZ 5 ?_ ?_;refine vZ 6 ?_ ?_;refine vZ 7 ?_ ?_;refine aB (i:=8) rfl ag (λK hK=> ?_);go_simp;go_at_call 68;refine(HO.out vx[k] ss1 g1 _ (I1.call HD) hlk).mono ?_;rintro e w5 ⟨⟨js,jc,rfl,HI5,HJ1,HJ2,HF5⟩,hb5⟩;have HW5:bl wr w5:=HD.trans (hb5.mono HD.size);have HB5:Below (w.heap.size+1+1+1) wr w5:=HW5.mono zr;go_wp2_with fail;refine hK.out _ _ (HKZ.out _ HB5) (λhHeld=> ?_);clear hK K;refine sm ?_;refine aB (i:=9) rfl ag (λK hK=> ?_);go_simp;have HW6:bl wr (w5.alloc (Cc #[Bb vx[k].n,Bb vx[k].sp.n,I Y vx[k].sp.lo,I Y vx[k].sp.hi,Bb vx[k].t,Bb vx[k].f,U js vx[k].s.length jc] 91)):=HW5.alloc HW5.size _;have HB6:Below (w.heap.size+1+1+1) wr (w5.alloc (Cc #[Bb vx[k].n,Bb vx[k].sp.n,I Y vx[k].sp.lo,I Y vx[k].sp.hi,Bb vx[k].t,Bb vx[k].f,U js vx[k].s.length jc] 91)):=HW6.mono zr;refine hK.out _ _ (HKZ.out _ HB6) (λhHeld=> ?_);clear hK K;refine sm ?_;refine aB (i:=10) rfl ag (λK hK=> ?_);have S6:=SR.call HW6;have GX:bQ (λb=>w.heap.size+1+1+1<=b/\(j6 vs l.length vc).ownBlock≠sO b) (w5.alloc (Cc #[Bb vx[k].n,Bb vx[k].sp.n,I Y vx[k].sp.lo,I Y vx[k].sp.hi,Bb vx[k].t,Bb vx[k].f,U js vx[k].s.length jc] 91)) ⟨vx[k],js,jc⟩:=gZ HI5 HJ1 HJ2 HF5 zr (λe=>(aM SR.1 e).1) ai (HD.size);refine dG _ rfl _ _ 25 rfl (w.heap.size+1+1+1) 91 ti (Ag #[Bb false,Bb false,I Y 0,I Y 0,Bb false,Bb false,U nO 0 0]) 7 64 Tryz.underlying25 hi hz0 hz1 hz2 rfl aj _ _ _ rfl S6.1 (sO ⟨w5.heap.size,0,nO⟩) 1 1 (bp ⟨vx[k],js,jc⟩) rfl rfl (λh=>aX) (lf w5 ⟨vx[k],js,jc⟩ #[Bb vx[k].n,Bb vx[k].sp.n,I Y vx[k].sp.lo,I Y vx[k].sp.hi,Bb vx[k].t,Bb vx[k].f,U js vx[k].s.length jc] _ rfl) (dj _) pD o9 hU ?_;intro v' w7 hown hgrow hat;have S7:=S6.grown (x:=⟨vx[k],js,jc⟩) GX hown hgrow hat;have HB7:Below (w.heap.size+1+1+1) wr w7:=HB6.grown hgrow hU (λk hk=>(aM S6.1 hk).2);obtain⟨vs',vc',rfl,-,-,-⟩:=S7.in;refine hK.out _ _ (HKZ.out _ HB7) (λhHeld=> ?_);clear hK K hown hgrow hat S6 GX HB6 HW6 HB5 HW5 HI5 HF5;refine sm ?_;refine vZ 11 ?_ ?_;refine bA (i:=12) rfl ag ag (λK hK=> ?_);have Z7:X3 w7 (w.heap.size+1+1) (Bb xn) (U vs l.length vc) (U nO 0 0):=ZR.same (HB7.block _ aa) HB7.size;obtain⟨⟨y0,y1,y2⟩,yz,yf⟩:=id Z7;have yf1:=yf 1;clear yf;go_simp;refine hK.out _ _ ?_;clear hK K;refine sm ?_;refine aC ag ?_ _;clear y0 y1 y2 yz yf1;have A7:XAt w7 w.heap.size ⟨xn,vx,fx⟩ _ vc1 fs1 fc1:=AR.same (HB7.block _ aa) HB7.size;have C7:X3 w7 (w.heap.size+1) (Bb false) (U nO 0 0) (U nO 0 0):=CR.same (HB7.block _ aa) HB7.size;have L7:=LR.trans (HB7.mono aa);have z7:w.heap.size+1+1+1<=w7.heap.size:=lT zr HB7.size;have e7:∀b,b≠w.heap.size+1+1->(w7.setCell ⟨w.heap.size+1+1,1,nO⟩ (U vs' (l++[(⟨vx[k],js,jc⟩:Gc)]).length vc')).heap[b]? =w7.heap[b]? :=λb hb=>hSe _ _ _ _ hb;have s7:w7.heap.size<=(w7.setCell ⟨w.heap.size+1+1,1,nO⟩ (U vs' (l++[(⟨vx[k],js,jc⟩:Gc)]).length vc')).heap.size:=bx;clear AR CR ZR SR LR zr HKZ;go_wp2;go_roundw
   case rel=>exact⟨k+1,vs',vc',l++[⟨vx[k],js,jc⟩],aa,aJ,Dn,DB,by first|exact Z7.put1 _|(simpa using Z7.put1 (U vs' (l++[(⟨vx[k],js,jc⟩:Gc)]).length vc')),Dl,by show _=_;rw[j7,HL.out,j3 hlt];rfl,by first|exact L7.setCell (by simp only;omega) _|(simpa using L7.setCell (p:=⟨w.heap.size+1+1,1,nO⟩) (by simp only;omega) (U vs' (l++[(⟨vx[k],js,jc⟩:Gc)]).length vc')),pE⟩
   case measure=>simp[intOf];omega
  ·have n1':¬(k:Int) < (vx.length:Int):=by omega
   have et1:vx.take k=vx:=j2 aa;have HLV:Hid (l.map Gc.g=vx):=by show _=_;rw[HL.out,et1]
   have GV:VRow (λb=>w.heap.size+1+1+1<=b/\b < wr.heap.size) wr (w.heap.size+1+1+1) (U vs l.length vc) l:=SR.vrow.mono λb h1 h2=>⟨h1,h2⟩;clear SR LL HL et1;have zn:w.heap.size+1+1+1<=wr.heap.size:=zr;obtain⟨⟨a0,a1,a2⟩,az,-⟩:=id AR;generalize hN:wr.heap.size=N at *;have HNN:=ae hN;clear hN;go_wp2;clear a0 a1 a2 az;go_loopw [6] (λi wr=>∃(k:Nat) (fs:oA) (fc:Nat) (L:List Ro),k<=fx.length/\i=I Y k/\XAt wr w.heap.size ⟨xn,vx,fx⟩ vs1 vc1 fs1 fc1/\X3 wr (w.heap.size+1) (Bb false) (U nO 0 0) (U nO 0 0)/\X3 wr (w.heap.size+1+1) (Bb xn) (U vs l.length vc) (U fs L.length fc)/\FRowS wr N (U fs L.length fc) L/\Hid (L.map roG=fx.take k)/\VRow (λb=>w.heap.size+1+1+1<=b/\b < N) wr (w.heap.size+1+1+1) (U vs l.length vc) l/\bl w wr/\N<=wr.heap.size) (λi _=>fx.length - (intOf i).toNat)
   case atStart=>exact⟨0,nO,0,[],j0 _,rfl,AR,CR,ZR,FRowS.nil _ _,rfl,GV,LR,Go.Proofs.YtmapdpcfanecdabGreatDoor.u9⟩
   case round=>
    clear AR CR ZR GV LR zr HNN;obtain⟨k2,fs,fc,L,hk2,rfl,AR,CR,ZR,FR,HL,GV,LR,zr⟩:=hrel;generalize wr=w6 at *;clear wr;have LL:Hid (L.length=k2):=by
     show _=_;have h1:=congrArg j1 HL.out;rw[j4,j8] at h1;omega
    obtain⟨⟨a0,a1,a2⟩,az,-⟩:=id AR;by_cases hlt2:k2 < fx.length
    ·have n0:(0:Int)<=(k2:Int):=by omega
     have n2':(k2:Int) < (fx.length:Int):=aa;go_wp2;clear a0 a1 a2 az;go_loopw [7,8] (λr i2 wo=>∃(m:Nat) (rs:oA) (rc:Nat) (lr:List Gc),m<=fx[k2].length/\r=U rs lr.length rc/\i2=I Y m/\bl w6 wo/\SRow wo w6.heap.size (U rs lr.length rc) lr/\Hid (lr.map Gc.g=fx[k2].take m)) (λ_ i2 _=>fx[k2].length - (intOf i2).toNat)
     case atStart=>exact⟨0,nO,0,[],j0 _,rfl,rfl,bR _ _,SRow.nil _ _,rfl⟩
     case round=>
      obtain⟨m,rs,rc,lr,hm,rfl,rfl,hbo,SR,HM⟩:=hrel;have h3:=HR.out k2 hlt2;have LM:Hid (lr.length=m):=by
       show _=_;have h1:=congrArg j1 HM.out;rw[j4,j8] at h1;omega
      obtain⟨⟨a0,a1,a2⟩,az,-⟩:=id (AR.call hbo);obtain⟨p1,q1,e1,zp1,r1,rc1,C1,k1,m1,J1⟩:=HX.out.2 k2 hlt2;have hwo:=LR.trans (hbo.mono LR.size);have D1:wr.cell? ⟨p1,q1+k2,nO⟩=sO (U r1 fx[k2].length rc1):=Dp;subst e1;clear C1;by_cases hltm:m < fx[k2].length
      ·have m0:(0:Int)<=(m:Int):=by omega
       have m1':(m:Int) < (fx[k2].length:Int):=aa;obtain⟨b1,o1,e1,ss1,g1,G1,I1,l1,l2⟩:=(J1.below hwo (lR _)) m hltm;subst e1;have hlk:=HR2.out k2 hlt2 _ (gM hltm);obtain⟨⟨q0',q1',q2',q3',q4',q5',q6'⟩,qz'⟩:=id G1;go_wp2_with fail;refine(HO.out fx[k2][m] ss1 g1 _ I1 hlk).mono ?_;rintro e w7 ⟨⟨js,jc,rfl,HI5,HJ1,HJ2,HF5⟩,hb7⟩;clear q0' q1' q2' q3' q4' q5' q6' qz' G1 a0 a1 a2 az D1;have HW8:bl wr (w7.alloc (Cc #[Bb fx[k2][m].n,Bb fx[k2][m].sp.n,I Y fx[k2][m].sp.lo,I Y fx[k2][m].sp.hi,Bb fx[k2][m].t,Bb fx[k2][m].f,U js fx[k2][m].s.length jc] 91)):=hb7.alloc hb7.size _;have S8:=SR.call HW8;have z67:w6.heap.size<=wr.heap.size:=hbo.size;have GX:bQ (λb=>w6.heap.size<=b/\(j6 rs lr.length rc).ownBlock≠sO b) (w7.alloc (Cc #[Bb fx[k2][m].n,Bb fx[k2][m].sp.n,I Y fx[k2][m].sp.lo,I Y fx[k2][m].sp.hi,Bb fx[k2][m].t,Bb fx[k2][m].f,U js fx[k2][m].s.length jc] 91)) ⟨fx[k2][m],js,jc⟩:=gZ HI5 HJ1 HJ2 HF5 z67 (λe=>(aM SR.1 e).1) ai (lR _);go_wp2_with (at_builtin;refine aZ _ rfl _ _ 25 rfl w6.heap.size 91 ti (Ag #[Bb false,Bb false,I Y 0,I Y 0,Bb false,Bb false,U nO 0 0]) 7 64 Tryz.underlying25 hi hz0 hz1 hz2 rfl aj _ _ _ rfl S8.1 (sO ⟨w7.heap.size,0,nO⟩) 1 1 (bp ⟨fx[k2][m],js,jc⟩) rfl rfl (λh=>aX) ?qc2 (dj _) ?qc4 ?qc5 ?qc6 ?_);(try (case qc2=>exact lf w7 ⟨fx[k2][m],js,jc⟩ #[Bb fx[k2][m].n,Bb fx[k2][m].sp.n,I Y fx[k2][m].sp.lo,I Y fx[k2][m].sp.hi,Bb fx[k2][m].t,Bb fx[k2][m].f,U js fx[k2][m].s.length jc] _ rfl))
       case qc4=>unfold maxLen;have:=LM.out;omega
       case qc5=>have:=LM.out;omega
       (try (case qc6=>have:=hb7.size;first|omega|(rw[zA];omega)|(simp;omega)|simp));intro v' w9 hown hgrow hat;have S9:=S8.grown (x:=⟨fx[k2][m],js,jc⟩) GX hown hgrow fa;have hb9:bl w6 w9:=(hbo.trans (HW8.mono hbo.size)).grown hgrow (by rw[zA];have:=hb7.size;omega) (λk hk=>(aM S8.1 hk).2)
       obtain⟨rs',rc',rfl,-,-,-⟩:=S9.in;clear SR hbo hown hgrow hat S8 GX HW8 HI5 HF5;go_wp2;go_roundw
       case rel=>exact⟨m+1,rs',rc',lr++[⟨fx[k2][m],js,jc⟩],aa,lM,aJ,hb9,S9,by show _=_;rw[j7,HM.out,j3 hltm];rfl⟩
       case measure=>simp[intOf];omega
      ·have m1':¬(m:Int) < (fx[k2].length:Int):=by omega
       have et1:fx[k2].take m=fx[k2]:=j2 aa;have HRL:Hid (roG ⟨rs,rc,lr⟩=fx[k2]):=by show lr.map Gc.g=_;rw[HM.out,et1]
       have A9:=AR.call hbo;have C9:=CR.call hbo;have Z9:=ZR.call hbo;have F9:=FR.call hbo;have V9:=GV.call hbo;have L9:=hwo;have z9:N<=wr.heap.size:=lT zr hbo.size;have z69:=zr;clear AR CR ZR GV LR zr LM HM hwo et1;generalize wr=w9 at *;clear wr;obtain⟨⟨y0,y1,y2⟩,yz,yf⟩:=id Z9;have hba:bl w6 (w9.alloc (Cc #[U rs lr.length rc] 25)):=hbo.alloc hbo.size _;have F10:=FR.call hba;have VX:VRow (λb=>w6.heap.size<=b) (w9.alloc (Cc #[U rs lr.length rc] 25)) w6.heap.size (roV ⟨rs,rc,lr⟩) lr:=SR.vrow.call ai;go_wp2_with (at_builtin;refine aZ _ rfl _ _ 26 rfl N 25 tk (U nO 0 0) 1 24 Tryz.underlying26 hk hx0 hx1 hx2 rfl aj _ _ _ rfl F10.own (sO ⟨w9.heap.size,0,nO⟩) 1 1 [U rs lr.length rc] rfl rfl (λh=>aX) ?qc2 lY ?qc4 ?qc5 ?qc6 ?_);(try (case qc2=>exact uK w9 _ _))
       case qc4=>unfold maxLen;have:=LL.out;omega
       case qc5=>have:=LL.out;omega
       (try (case qc6=>first|omega|(rw[zA];omega)|(simp;omega)|simp));intro v' w10 hown hgrow hat;have F11:=FR.grown hba z69 (x:=⟨rs,rc,lr⟩) VX hown hgrow fa;have hb10:Below N w9 w10:=((bR _ w9).alloc z9 _).grown hgrow an (λk hk=>(aM F10.own hk).2);obtain⟨fs',fc',rfl⟩:=F11.form;clear hown hgrow hat F10 F9 FR SR hbo hba VX y0 y1 y2 yz yf a0 a1 a2 az D1;have A4:XAt w10 w.heap.size ⟨xn,vx,fx⟩ _ vc1 _ fc1:=A9.same (hb10.block _ aa) hb10.size;have C4:X3 w10 (w.heap.size+1) (Bb false) (U nO 0 0) (U nO 0 0):=C9.same (hb10.block _ aa) hb10.size;have Z4:X3 w10 (w.heap.size+1+1) (Bb xn) (U vs l.length vc) (U fs L.length fc):=Z9.same (hb10.block _ aa) hb10.size;have V4:VRow (λb=>w.heap.size+1+1+1<=b/\b < N) w10 (w.heap.size+1+1+1) (U vs l.length vc) l:=V9.same (λb hS _=>hb10.block b hS.2) hb10.size;have L4:=L9.trans (hb10.mono aa);have z4:N<=w10.heap.size:=lT z9 hb10.size;clear A9 C9 Z9 V9 L9 z9 hb10;obtain⟨⟨y0,y1,y2⟩,yz,yf⟩:=id Z4;have yf2:=yf 2;clear yf;have e7:∀(x:Value) b,b≠w.heap.size+1+1->(w10.setCell ⟨w.heap.size+1+1,2,nO⟩ x).heap[b]? =w10.heap[b]? :=λx b hb=>hSe _ _ _ _ hb;have s7:∀(x:Value),w10.heap.size<=(w10.setCell ⟨w.heap.size+1+1,2,nO⟩ x).heap.size:=λx=>bx;have E7:=ae e7;have S7:=ae s7;clear e7 s7;go_wp2;go_roundw
       case rel=>exact⟨k2+1,fs',fc',L++[⟨rs,rc,lr⟩],aa,aJ,A4.same (E7.out _ _ aa) (S7.out _),C4.same (E7.out _ _ aa) (S7.out _),by first|exact Z4.put2 _|(rw[q0];exact Z4.put2 _),F11.olden (λb hb _=>E7.out _ b aa) (S7.out _),by show _=_;rw[j7,HL.out,j3 hlt2,List.map_cons,HRL.out];rfl,V4.same (λb hS _=>E7.out _ b aa) (S7.out _),L4.setCell au _,pi⟩
       case measure=>simp[intOf];omega
    ·have n2':¬(k2:Int) < (fx.length:Int):=by omega
     have et1:fx.take k2=fx:=j2 aa;have hch:∀b,b≠w.heap.size+1->(((w6.setCell ⟨w.heap.size+1,0,nO⟩ (Bb xn)).setCell ⟨w.heap.size+1,1,nO⟩ (U vs l.length vc)).setCell ⟨w.heap.size+1,2,nO⟩ (U fs L.length fc)).heap[b]? =w6.heap[b]? :=λb hb=>lN;have hcz:w6.heap.size<=(((w6.setCell ⟨w.heap.size+1,0,nO⟩ (Bb xn)).setCell ⟨w.heap.size+1,1,nO⟩ (U vs l.length vc)).setCell ⟨w.heap.size+1,2,nO⟩ (U fs L.length fc)).heap.size:=bx;have FX:=FR.olden (w':=(((w6.setCell ⟨w.heap.size+1,0,nO⟩ (Bb xn)).setCell ⟨w.heap.size+1,1,nO⟩ (U vs l.length vc)).setCell ⟨w.heap.size+1,2,nO⟩ (U fs L.length fc))) (λb hb _=>hch b aa) hcz;have GX:=GV.same (w':=(((w6.setCell ⟨w.heap.size+1,0,nO⟩ (Bb xn)).setCell ⟨w.heap.size+1,1,nO⟩ (U vs l.length vc)).setCell ⟨w.heap.size+1,2,nO⟩ (U fs L.length fc))) (λb hS _=>hch b aa) hcz;have BX:bl w (((w6.setCell ⟨w.heap.size+1,0,nO⟩ (Bb xn)).setCell ⟨w.heap.size+1,1,nO⟩ (U vs l.length vc)).setCell ⟨w.heap.size+1,2,nO⟩ (U fs L.length fc)):=((LR.setCell au _).setCell au _).setCell au _;have PX:=((FX.pic GX (λb h=>h) zn).mono (T':=λb=>w.heap.size<=b) λb hb _=>aa).down (C:=w.heap.size) aa;have HPX:Hid (KJ w.heap.size (((w6.setCell ⟨w.heap.size+1,0,nO⟩ (Bb xn)).setCell ⟨w.heap.size+1,1,nO⟩ (U vs l.length vc)).setCell ⟨w.heap.size+1,2,nO⟩ (U fs L.length fc)) (Rt (Ag #[Bb xn,U vs l.length vc,U fs L.length fc])) ⟨xn,vx,fx⟩):=⟨⟨vs,vc,l⟩,fs,fc,L,by unfold aS;rw[show roG ⟨vs,vc,l⟩=vx from HLV.out,HL.out,et1],rfl,PX⟩;obtain⟨⟨y0,y1,y2⟩,yz,yf⟩:=id ZR;obtain⟨⟨d0,d1,d2⟩,dz,df⟩:=id CR;have f0:=df 0;have f1:=df 1;have f2:=df 2;clear df yf hch hcz FX GX et1 PX;go_wp2;refine bodyPost_ret (v:=Ag #[Bb xn,U vs l.length vc,U fs L.length fc]) (by simp[results,Tryz.results29,go_sem,d0,d1,d2]) rfl ⟨HPX.out,BX⟩
structure SCtx (V F:Int) (c:lI) (x:Pic) (vc fc:Nat) (i:Ins) (at_:Int):Prop where
 h0:aw V F c=0
 kx:PicOk V F c x
 hi:i=bK c at_
 a0:0<=at_
 a1:at_ < c.length
 cv:x.vq.length<=vc/\vc<=maxLen
 cf:x.fq.length<=fc/\fc<=maxLen
section
variable {V F:Int} {c:lI} {x:Pic} {vc fc:Nat} {i:Ins} {at_:Int}
theorem SCtx.one (K:SCtx V F c x vc fc i at_):bk V F c.length i=0:=by rw[K.hi];exact(de K.h0).each _ (oQ K.a0 K.a1)
theorem SCtx.lens (K:SCtx V F c x vc fc i at_):x.vq.length<=8/\c.length<=60/\x.fq.length=c.length/\0<=F/\F<=3/\0<=V:=by
 have hp:=de K.h0;have:=hp.v1;have:=hp.v8;have:=hp.f0;have:=hp.f3;have:=hp.len;have:=K.kx.vq;have:=K.kx.fq;omega
theorem gk {x:Pic}{k:Nat}(h:k < x.vq.length):gAt x (k:Int)=x.vq[k]:=by unfold gAt;simp[List.getD,List.getElem?_eq_getElem h]
theorem mv {p:Prop}(h:p:=by
 have hv:=K.kx.vq;obtain⟨k,hk⟩:=Int.eq_ofNat_of_zero_le this.1;exact⟨k,hk,aa⟩):p:=h
theorem SCtx.varA (K:SCtx V F c x vc fc i at_)(hA:nA i.k=true):∃k:Nat,i.a=k/\k < x.vq.length:=by
 have:=(cd K.one).2.2.1 hA;exact mv
theorem SCtx.varB (K:SCtx V F c x vc fc i at_)(hB:nB i.k=true):∃k:Nat,i.b=k/\k < x.vq.length:=by
 have:=(cd K.one).2.2.2.1 hB;exact mv
theorem SCtx.varTo (K:SCtx V F c x vc fc i at_)(hT:nTo i.k=true):∃k:Nat,i.tgt=k/\k < x.vq.length:=by
 have:=(cd K.one).2.1 hT;exact mv
theorem SCtx.uno (K:SCtx V F c x vc fc i at_){g:Gs}(hg:aE c g=0):aY V F c [g]=0:=by unfold aY;rw[if_pos K.h0];unfold bZ;rw[if_pos hg];rfl
theorem SCtx.duo (K:SCtx V F c x vc fc i at_){g h:Gs}(hg:aE c g=0)(hh:aE c h=0):aY V F c [g,h]=0:=by unfold aY;rw[if_pos K.h0];unfold bZ;rw[if_pos hg];unfold bZ;rw[if_pos hh];rfl
end
theorem mK (sb:Nat)(i:Ins)(V F:Int)(s:oA)(c:lI)(cap:Nat)(at_:Int)(x:Pic)(vs:oA)(vc:Nat)(fs:oA)(fc:Nat)(ev:Value)(wr fl:Bool)(w:World)(hS:Cells w sb (aT i V F s c cap at_ x vs vc fs fc ev wr fl))(hc:CodeAt w s c)(hx:PicAt w x vs fs)(K:SCtx V F c x vc fc i at_)(hA:nA i.k=true):
  Calls pG 95 #[Pp (sO ⟨sb,0,nO⟩)] w λe w'=>e=Rt (Tu #[Bb (b8 (gAt x i.a)),Bb (cF (gAt x i.a))])/\bl w w':=by
 obtain⟨k,ek,hk⟩:=K.varA hA;have eg:gAt x i.a=x.vq[k]:=by rw[ek,gk hk]
 rw[eg];have hgk:=K.kx.gv _ (gM hk);obtain⟨b1,o1,e1,ss1,g1,G1,I1,k1,m1⟩:=hx.1 k hk;subst e1;have n0:(0:Int)<=(k:Int):=aa;have n1:(k:Int) < (x.vq.length:Int):=aa;have HT:Hid (∀wx,bl w wx->Calls pG 160 #[pv V F s c cap,gv x.vq[k] ss1 g1] wx λe w'=>e=Rt (Tu #[Bb (b8 x.vq[k]),Bb (cF x.vq[k]),I Y 0])/\bl wx w'):=λwx hb=>Gf V F s c cap x.vq[k] ss1 g1 wx (hc.call hb) (I1.call hb) k1 m1 (K.uno hgk);have HKZ:Hid (∀wx,bl w wx->(wx.cell? ⟨sb,6,nO⟩=sO (I Y V)/\wx.cell? ⟨sb,7,nO⟩=sO (I Y F)/\wx.cell? ⟨sb,8,nO⟩=sO (U s c.length cap))/\(wx.cell? ⟨sb,2,nO⟩=sO (I Y (k:Int))/\wx.cell? ⟨sb,11,nO⟩=sO (U (sO ⟨b1,o1,nO⟩) x.vq.length vc))/\(wx.cell? ⟨b1,o1+k * 7,nO⟩=sO (Bb x.vq[k].n)/\wx.cell? ⟨b1,o1+k * 7+1,nO⟩=sO (Bb x.vq[k].sp.n)/\wx.cell? ⟨b1,o1+k * 7+2,nO⟩=sO (I Y x.vq[k].sp.lo)/\wx.cell? ⟨b1,o1+k * 7+3,nO⟩=sO (I Y x.vq[k].sp.hi)/\wx.cell? ⟨b1,o1+k * 7+4,nO⟩=sO (Bb x.vq[k].t)/\wx.cell? ⟨b1,o1+k * 7+5,nO⟩=sO (Bb x.vq[k].f)/\wx.cell? ⟨b1,o1+k * 7+6,nO⟩=sO (U ss1 x.vq[k].s.length g1))):=λwx hb=>⟨⟨(hS.call hb).1 6 _ rfl,(hS.call hb).1 7 _ rfl,(hS.call hb).1 8 _ rfl⟩,⟨by rw[<-ek];exact(hS.call hb).1 2 _ rfl,(hS.call hb).1 11 _ rfl⟩,(G1.call hb).1⟩;clear hS hc hx eg ek hA;go_enter Tryz.func95,Tryz.ntmps95;go_upto_region 1 with fail
 have B1:bl w w.drew:=(bR _ _).drew;refine wp_region_held_drew (S:=(λwx=>(wx.cell? ⟨sb,6,nO⟩=sO (I Y V)/\wx.cell? ⟨sb,7,nO⟩=sO (I Y F)/\wx.cell? ⟨sb,8,nO⟩=sO (U s c.length cap))/\(wx.cell? ⟨sb,2,nO⟩=sO (I Y (k:Int))/\wx.cell? ⟨sb,11,nO⟩=sO (U (sO ⟨b1,o1,nO⟩) x.vq.length vc))/\(wx.cell? ⟨b1,o1+k * 7,nO⟩=sO (Bb x.vq[k].n)/\wx.cell? ⟨b1,o1+k * 7+1,nO⟩=sO (Bb x.vq[k].sp.n)/\wx.cell? ⟨b1,o1+k * 7+2,nO⟩=sO (I Y x.vq[k].sp.lo)/\wx.cell? ⟨b1,o1+k * 7+3,nO⟩=sO (I Y x.vq[k].sp.hi)/\wx.cell? ⟨b1,o1+k * 7+4,nO⟩=sO (Bb x.vq[k].t)/\wx.cell? ⟨b1,o1+k * 7+5,nO⟩=sO (Bb x.vq[k].f)/\wx.cell? ⟨b1,o1+k * 7+6,nO⟩=sO (U ss1 x.vq[k].s.length g1)))) ag (HKZ.out _ B1) (λhHeld=> ?_);generalize w.drew=w1 at *;refine vH 0 ?_ ?_;refine vH 1 ?_ ?_;refine vH 2 ?_ ?_;refine vH 3 ?_ ?_;refine vH 4 ?_ ?_;refine vH 5 ?_ ?_;refine vH 6 ?_ ?_;refine vH 7 ?_ ?_;refine vH 8 ?_ ?_;refine vH 9 ?_ ?_;refine vH 10 ?_ ?_;refine vH 11 ?_ ?_;refine vH 12 ?_ ?_;refine vH 13 ?_ ?_;refine vH 14 ?_ ?_;refine vH 15 ?_ ?_;refine wpAnyH_ready (rs:=[16]) ag ah ?_;refine AllReadyH.cons rfl (λK hK=> ?_) AllReadyH.nil;go_simp;refine(HT.out w1 B1).mono ?_;rintro e w2 ⟨rfl,hb2⟩;have B2:=B1.trans (hb2.mono (B1.size));refine hK.out _ _ (HKZ.out _ B2) (λhHeld2=> ?_);clear hK K hb2 B1;refine sm ?_;refine vH 17 ?_ ?_;refine vH 18 ?_ ?_;refine vH 19 ?_ ?_;refine vH 20 ?_ ?_;refine vH 21 ?_ ?_;refine vH 22 ?_ ?_;refine vH 23 ?_ ?_;refine wpAnyH_done ag ?_ _;go_wp2;refine bodyPost_ret (v:=Tu #[Bb (b8 x.vq[k]),Bb (cF x.vq[k])]) (by simp[results,Tryz.results95,go_sem]) rfl ⟨rfl,B2⟩
def ModS (sb:Nat)(w w':World):Prop:=Below sb w w'/\∀b,b < w.heap.size->b≠sb->w'.heap[b]? =w.heap[b]?
theorem ModS.of {sb:Nat}{w w':World}(h:bl w w')(hs:sb < w.heap.size):ModS sb w w':=⟨h.mono (Nat.le_of_lt hs),λb hb _=>h.block b hb⟩
theorem ModS.trans {sb:Nat}{w w1 w2:World}(h:ModS sb w w1)(h':ModS sb w1 w2):ModS sb w w2:=⟨h.1.trans h'.1,λb hb hne=>by rw[h'.2 b (lL hb h.1.size) hne,h.2 b hb hne]⟩
theorem ModS.put {sb:Nat}{w w1:World}(h:ModS sb w w1)(j:Nat)(u:Value):ModS sb w (w1.setCell ⟨sb,j,nO⟩ u):=⟨h.1.setCell (lR _) _,λb hb hne=>by rw[hSe _ _ _ _ hne];exact h.2 b hb hne⟩
theorem uw (sb:Nat)(i:Ins)(V F:Int)(s:oA)(c:lI)(cap:Nat)(at_:Int)(x:Pic)(vs:oA)(vc:Nat)(fs:oA)(fc:Nat)(ev:Value)(wr fl:Bool)(w0 w:World)(hS:Cells w sb (aT i V F s c cap at_ x vs vc fs fc ev wr fl))(hc0:CodeAt w0 s c)(hx0:PicAt w0 x vs fs)(hz0:w0.heap.size<=sb)(hB0:bl w0 w)(K:SCtx V F c x vc fc i at_)(hA:nA i.k=true):
  Calls pG 154 #[Pp (sO ⟨sb,0,nO⟩)] w λe w'=>(∃ss gc,e=Rt (U ss (gAt x i.a).s.length gc)/\IntsAt w0 ss (gAt x i.a).s/\(gAt x i.a).s.length<=gc/\gc<=maxLen)/\Cells w' sb (aT i V F s c cap at_ x vs vc fs fc ev (bJ (gAt x i.a)) fl)/\ModS sb w w':=by
 have hx:=hx0;obtain⟨k,ek,hk⟩:=K.varA hA;have eg:gAt x i.a=x.vq[k]:=by rw[ek,gk hk]
 rw[eg];have hgk:=K.kx.gv _ (gM hk);obtain⟨b1,o1,e1,ss1,g1,G1,I1,k1,m1⟩:=hx.1 k hk;subst e1;have n0:(0:Int)<=(k:Int):=aa;have n1:(k:Int) < (x.vq.length:Int):=aa;have I0:=I1;have HKZ:Hid (∀wx,bl w wx->(wx.cell? ⟨sb,2,nO⟩=sO (I Y (k:Int))/\wx.cell? ⟨sb,11,nO⟩=sO (U (sO ⟨b1,o1,nO⟩) x.vq.length vc))/\(wx.cell? ⟨b1,o1+k * 7,nO⟩=sO (Bb x.vq[k].n)/\wx.cell? ⟨b1,o1+k * 7+1,nO⟩=sO (Bb x.vq[k].sp.n)/\wx.cell? ⟨b1,o1+k * 7+2,nO⟩=sO (I Y x.vq[k].sp.lo)/\wx.cell? ⟨b1,o1+k * 7+3,nO⟩=sO (I Y x.vq[k].sp.hi)/\wx.cell? ⟨b1,o1+k * 7+4,nO⟩=sO (Bb x.vq[k].t)/\wx.cell? ⟨b1,o1+k * 7+5,nO⟩=sO (Bb x.vq[k].f)/\wx.cell? ⟨b1,o1+k * 7+6,nO⟩=sO (U ss1 x.vq[k].s.length g1))):=λwx hb=>⟨⟨by rw[<-ek];exact(hS.call hb).1 2 _ rfl,(hS.call hb).1 11 _ rfl⟩,((G1.call hB0).call hb).1⟩;have HSS:=ae hS;clear hS hc0 hx hx0 eg ek hA hgk G1;go_enter Tryz.func154,Tryz.ntmps154;go_upto_region 1 with fail
 go_cut [3] (λt3 wc=>∃ab,t3=Pp (sO ⟨ab,0,nO⟩)/\w.heap.size<=ab/\Cells wc ab [Bb x.vq[k].n,Bb x.vq[k].sp.n,I Y x.vq[k].sp.lo,I Y x.vq[k].sp.hi,Bb x.vq[k].t,Bb x.vq[k].f,U ss1 x.vq[k].s.length g1]/\bl w wc)
 case first=>
  rename_i J1 K1 hJ1 hK1;have B1:bl w w.drew:=(bR _ _).drew;refine wp_region_held_drew (S:=(λwx=>(wx.cell? ⟨sb,2,nO⟩=sO (I Y (k:Int))/\wx.cell? ⟨sb,11,nO⟩=sO (U (sO ⟨b1,o1,nO⟩) x.vq.length vc))/\(wx.cell? ⟨b1,o1+k * 7,nO⟩=sO (Bb x.vq[k].n)/\wx.cell? ⟨b1,o1+k * 7+1,nO⟩=sO (Bb x.vq[k].sp.n)/\wx.cell? ⟨b1,o1+k * 7+2,nO⟩=sO (I Y x.vq[k].sp.lo)/\wx.cell? ⟨b1,o1+k * 7+3,nO⟩=sO (I Y x.vq[k].sp.hi)/\wx.cell? ⟨b1,o1+k * 7+4,nO⟩=sO (Bb x.vq[k].t)/\wx.cell? ⟨b1,o1+k * 7+5,nO⟩=sO (Bb x.vq[k].f)/\wx.cell? ⟨b1,o1+k * 7+6,nO⟩=sO (U ss1 x.vq[k].s.length g1)))) ag (HKZ.out _ B1) (λhHeld=> ?_);generalize w.drew=w1 at *;refine vH 0 ?_ ?_;refine vH 1 ?_ ?_;refine vH 2 ?_ ?_;refine vH 3 ?_ ?_;refine vH 4 ?_ ?_;refine vH 5 ?_ ?_;refine vH 6 ?_ ?_;refine vH 7 ?_ ?_;refine vH 8 ?_ ?_;refine vH 9 ?_ ?_;refine vH 10 ?_ ?_;refine vH 11 ?_ ?_;refine wpAnyH_ready (rs:=[12]) ag ah ?_;refine AllReadyH.cons rfl (λK hK=> ?_) AllReadyH.nil;go_simp;have hb2:Below w1.heap.size w1 (w1.alloc (Cc #[Bb false,Bb false,I Y 0,I Y 0,Bb false,Bb false,U nO 0 0] 91)):=ai;have B2:=B1.trans (hb2.mono (B1.size));have A2:Cells (w1.alloc (Cc #[Bb false,Bb false,I Y 0,I Y 0,Bb false,Bb false,U nO 0 0] 91)) w1.heap.size [Bb false,Bb false,I Y 0,I Y 0,Bb false,Bb false,U nO 0 0]:=Cells.new w1 91 [Bb false,Bb false,I Y 0,I Y 0,Bb false,Bb false,U nO 0 0];have zab:=B1.size;clear B1;refine hK.out _ _ (HKZ.out _ B2) (λhHeld2=> ?_);clear hK K hb2;refine sm ?_;generalize w1.alloc (Cc #[Bb false,Bb false,I Y 0,I Y 0,Bb false,Bb false,U nO 0 0] 91)=w2 at *;generalize w1.heap.size=ab at *;refine wpAnyH_ready (rs:=[13]) ag ah ?_;refine AllReadyH.cons rfl (λK hK=> ?_) AllReadyH.nil;have r0:=A2.1 0 _ rfl;have r1:=A2.1 1 _ rfl;have r2:=A2.1 2 _ rfl;have r3:=A2.1 3 _ rfl;have r4:=A2.1 4 _ rfl;have r5:=A2.1 5 _ rfl;have r6:=A2.1 6 _ rfl;have f0:=A2.2.2 0;have f1:=A2.2.2 1;have f2:=A2.2.2 2;have f3:=A2.2.2 3;have f4:=A2.2.2 4;have f5:=A2.2.2 5;have f6:=A2.2.2 6;go_simp;have A3:Cells (((((((w2.setCell ⟨ab,0,nO⟩ (Bb x.vq[k].n)).setCell ⟨ab,1,nO⟩ (Bb x.vq[k].sp.n)).setCell ⟨ab,2,nO⟩ (I Y x.vq[k].sp.lo)).setCell ⟨ab,3,nO⟩ (I Y x.vq[k].sp.hi)).setCell ⟨ab,4,nO⟩ (Bb x.vq[k].t)).setCell ⟨ab,5,nO⟩ (Bb x.vq[k].f)).setCell ⟨ab,6,nO⟩ (U ss1 x.vq[k].s.length g1)) ab [Bb x.vq[k].n,Bb x.vq[k].sp.n,I Y x.vq[k].sp.lo,I Y x.vq[k].sp.hi,Bb x.vq[k].t,Bb x.vq[k].f,U ss1 x.vq[k].s.length g1]:=(((((((A2.put 0 ah _).put 1 ah _).put 2 ah _).put 3 ah _).put 4 ah _).put 5 ah _).put 6 ah _);have B3:bl w (((((((w2.setCell ⟨ab,0,nO⟩ (Bb x.vq[k].n)).setCell ⟨ab,1,nO⟩ (Bb x.vq[k].sp.n)).setCell ⟨ab,2,nO⟩ (I Y x.vq[k].sp.lo)).setCell ⟨ab,3,nO⟩ (I Y x.vq[k].sp.hi)).setCell ⟨ab,4,nO⟩ (Bb x.vq[k].t)).setCell ⟨ab,5,nO⟩ (Bb x.vq[k].f)).setCell ⟨ab,6,nO⟩ (U ss1 x.vq[k].s.length g1)):=(((((((B2.setCell au _).setCell au _).setCell au _).setCell au _).setCell au _).setCell au _).setCell au _);refine hK.out _ _ (HKZ.out _ B3) (λhHeld3=> ?_);clear hK K r0 f0 r1 f1 r2 f2 r3 f3 r4 f4 r5 f5 r6 f6 A2 B2;refine sm ?_;generalize (((((((w2.setCell ⟨ab,0,nO⟩ (Bb x.vq[k].n)).setCell ⟨ab,1,nO⟩ (Bb x.vq[k].sp.n)).setCell ⟨ab,2,nO⟩ (I Y x.vq[k].sp.lo)).setCell ⟨ab,3,nO⟩ (I Y x.vq[k].sp.hi)).setCell ⟨ab,4,nO⟩ (Bb x.vq[k].t)).setCell ⟨ab,5,nO⟩ (Bb x.vq[k].f)).setCell ⟨ab,6,nO⟩ (U ss1 x.vq[k].s.length g1))=w3 at *;refine wpAnyH_done ag ?_ _;first|refine hK1 _ _ (Met.intro (hJ1 _ _ ?_))|refine Met.intro (hJ1 _ _ ?_)|refine hJ1 _ _ ?_
  (repeat apply Exists.intro)
  refine⟨?_,rfl⟩;exact⟨ab,rfl,zab,A3,B3⟩
 obtain⟨ab,rfl,zab,A1,B1⟩:=hcut;have S1:=HSS.out.call B1;have M1:=ModS.of B1 HSS.out.2.1;have zsb:=HSS.out.2.1;have a0:=A1.1 0 _ rfl;have a1:=A1.1 1 _ rfl;have a4:=A1.1 4 _ rfl;have a5:=A1.1 5 _ rfl;have a6:=A1.1 6 _ rfl;have s14:=S1.1 14 _ rfl;have f14:=S1.2.2 14;cases hn:x.vq[k].n with
 |true=>
  rw[hn] at a0;go_wp2;go_ret;exact⟨⟨ss1,g1,rfl,I0,k1,m1⟩,by rw[show bJ x.vq[k]=true by simp[bJ,hn]];exact S1.put 14 (by simp[aT]) _,M1.put 14 _⟩
 |false=>
  rw[hn] at a0;cases hp:x.vq[k].sp.n with
  |false=>
   rw[hp] at a1;go_wp2;go_ret;exact⟨⟨ss1,g1,rfl,I0,k1,m1⟩,by rw[show bJ x.vq[k]=true by simp[bJ,hn,hp]];exact S1.put 14 (by simp[aT]) _,M1.put 14 _⟩
  |true=>
   rw[hp] at a1;cases ht:x.vq[k].t with
   |true=>
    rw[ht] at a4;go_wp2;go_ret;exact⟨⟨ss1,g1,rfl,I0,k1,m1⟩,by rw[show bJ x.vq[k]=true by simp[bJ,hn,hp,ht]];exact S1.put 14 (by simp[aT]) _,M1.put 14 _⟩
   |false=>
    rw[ht] at a4;cases hf:x.vq[k].f with
    |true=>
     rw[hf] at a5;go_wp2;go_ret;exact⟨⟨ss1,g1,rfl,I0,k1,m1⟩,by rw[show bJ x.vq[k]=true by simp[bJ,hn,hp,ht,hf]];exact S1.put 14 (by simp[aT]) _,M1.put 14 _⟩
    |false=>
     rw[hf] at a5;go_wp2;go_ret;exact⟨⟨ss1,g1,rfl,I0,k1,m1⟩,by rw[show bJ x.vq[k]=false by simp[bJ,hn,hp,ht,hf]];exact S1.put 14 (by simp[aT]) _,M1.put 14 _⟩
end
section
open Go.RowKit
def doE (u k:Int):Int:=if u=0 then(if k < 4\/10 < k then 6 else 0) else u

theorem mA {c:lI}{g:Gs}(hn:ap g=true)(hk:aE c g=0):g=noneG:=by
 have ho:=ckSp_ok.mp (iI hk);clear hk;obtain⟨n,⟨sn,lo,hi⟩,t,f,s⟩:=g;cases s with
 |cons x r=>simp[ap,aL] at hn
 |nil=>
  simp[ap,aL] at hn;obtain⟨rfl,rfl,rfl,rfl⟩:=hn;obtain⟨l1,l2⟩:=ho.2.2.1 rfl;simp only at l1 l2;subst l1 l2;rfl
theorem Ai (g h:Gs):cD 4 g h=(g,false):=by simp[cD]
theorem uu (g h:Gs):cD 10 g h=(⟨false,⟨true,0,0⟩,cF g,b8 g,[]⟩,false):=by simp[cD]
theorem mg {k:Int}{g h:Gs}(hk:k=5\/k=6\/k=7\/k=8\/k=9)(hn:(ap g||ap h)=true):cD k g h=(noneG,false):=by
 unfold cD;rw[if_neg aa,if_neg aa,if_pos hn]
theorem AJ {k:Int}{g h:Gs}(hk:k=5\/k=6\/k=7)(hn:(ap g||ap h)=false):cD k g h=(⟨false,cn k g.sp h.sp,false,false,[]⟩,aL g||aL h):=by
 unfold cD;rw[if_neg aa,if_neg aa,if_neg (by rw[hn];simp),if_neg aa,if_neg aa]
theorem Ka {g h:Gs}(hn:(ap g||ap h)=false):cD 8 g h=(⟨false,⟨true,0,0⟩,!(g.sp.n||h.sp.n)&&decide (g.sp.lo < h.sp.hi),!(g.sp.n||h.sp.n)&&decide (h.sp.lo<=g.sp.hi),[]⟩,aL g||aL h):=by
 unfold cD;rw[if_neg aa,if_neg aa,if_neg (by rw[hn];simp),if_neg aa,if_pos rfl]
theorem IB {g h:Gs}(hn:(ap g||ap h)=false):cD 9 g h=(⟨false,⟨true,0,0⟩,(g.n&&h.n)||(!(aF g.sp h.sp).n||((g.t&&h.t)||((g.f&&h.f)||g.s.any λx=>h.s.contains x))),!cM g h,[]⟩,false):=by
 unfold cD;rw[if_neg aa,if_neg aa,if_neg (by rw[hn];simp),if_pos rfl]
theorem wm {g:Gs}(h:ap g=true):g.sp.n=true:=by
 unfold ap at h;cases e:g.sp.n
 ·rw[e] at h;simp at h
 ·rfl
theorem tV {g h:Gs}(hn:(ap g||ap h)=true):(g.sp.n||h.sp.n)=true:=by
 cases e:ap g
 ·rw[e] at hn
  rw[wm (g:=h) lO];simp
 ·rw[wm e];rfl
theorem kL (f:Gs->Bool)(g h:Gs):[g,h].any f=(f g||f h):=ah
theorem Lq {k:Int}{g h:Gs}(hk:k=5\/k=6\/k=7):cD k g h=(⟨false,cn k g.sp h.sp,false,false,[]⟩,[g,h].any aL&& ![g,h].any ap):=by
 rw[kL,kL];cases hn:(ap g||ap h)
 ·rw[AJ hk hn];simp
 ·rw[mg aa hn]
  have e:cn k g.sp h.sp=⟨true,0,0⟩:=by unfold cn;rw[if_pos (tV hn)]
  rw[e];simp[noneG]
theorem MV {g h:Gs}:cD 8 g h=(⟨false,⟨true,0,0⟩,!(g.sp.n||h.sp.n)&&decide (g.sp.lo < h.sp.hi),!(g.sp.n||h.sp.n)&&decide (h.sp.lo<=g.sp.hi),[]⟩,[g,h].any aL&& ![g,h].any ap):=by
 rw[kL,kL];cases hn:(ap g||ap h)
 ·rw[Ka hn];simp
 ·rw[mg aa hn,tV hn];simp[noneG]
theorem no_none:cF noneG=false/\b8 noneG=false:=aj

theorem mU {p:Prop}(h:p:=by
 rintro e w' ⟨rfl,hb⟩;exact⟨_,none,0,_,rfl,by rw[if_pos rfl,Lq (by omega)],.inl rfl,Nat.zero_le _,Nat.zero_le _,(λa ha=>fY),λhn=>absurd rfl hn,hb⟩):p:=h
theorem doU (V F:Int)(s:oA)(c:lI)(cap:Nat)(g:Gs)(ss:oA)(gc:Nat)(h:Gs)(st:oA)(hc:Nat)(k:Int)(w:World)(hcd:CodeAt w s c)(hs:IntsAt w ss g.s)(h1:g.s.length<=gc)(h2:gc<=maxLen)(ht:IntsAt w st h.s)(h3:h.s.length<=hc)(h4:hc<=maxLen):
  Calls pG 164 #[pv V F s c cap,I Y k,gv g ss gc,gv h st hc] w λe w'=>∃J js jc wr,e=Rt (Tu #[gv J js jc,Bb wr,I Y (doE (aY V F c [g,h]) k)])/\(J,wr)=(if doE (aY V F c [g,h]) k=0 then cD k g h else(bC,false))/\IntsAt w' js J.s/\J.s.length<=jc/\jc<=maxLen/\(∀a,js=sO a->w.heap.size<=a.block)/\(doE (aY V F c [g,h]) k≠0->js=nO/\jc=0)/\bl w w':=by
 by_cases hck:aY V F c [g,h]=0
 ·obtain⟨-,hg,hh⟩:=mZ hck
  have ok1:=ckSp_ok.mp (iI hg);have ok2:=ckSp_ok.mp (iI hh);by_cases hk:k < 4\/10 < k
  ·have he:doE (aY V F c [g,h]) k=6:=by unfold doE;rw[if_pos hck,if_pos hk]
   rw[he];have hb0:∀j:Int,4<=j->j<=10->(k==j)=false:=λj a b=>an;refine(KC V F s c cap g ss gc h st hc k w hcd hs h1 h2 ht h3 h4 hck (hb0 4 aa aa) (hb0 5 aa aa) (hb0 6 aa aa) (hb0 7 aa aa) (hb0 8 aa aa) (hb0 9 aa aa) (hb0 10 aa aa)).mono ?_;rintro e w' ⟨rfl,hb⟩;exact⟨bC,nO,0,false,rfl,by rw[if_neg (by omega)],.inl rfl,j0 _,j0 _,(λa ha=>fY),λ_=>⟨rfl,rfl⟩,hb⟩
  ·have he:doE (aY V F c [g,h]) k=0:=by unfold doE;rw[if_pos hck,if_neg hk]
   rw[he];have h7:k=4\/k=5\/k=6\/k=7\/k=8\/k=9\/k=10:=aa;rcases h7 with rfl|rfl|rfl|rfl|rfl|rfl|rfl
   ·have hl:=(fX hck).1
    have l1:=cB hl.2 hl.1;refine(M0 V F s c cap g ss gc h st hc w hcd hs h1 h2 ht h3 h4 hck aa).mono ?_;rintro e w' ⟨v,rfl,hown,hb⟩;obtain⟨js,jc,rfl,hi,hjl,hm,hfa⟩:=IntsAt.own hown;exact⟨g,js,jc,false,rfl,by rw[if_pos rfl,Ai],hi,hjl,hm,hfa,λhn=>absurd rfl hn,hb⟩
   ·refine(MT V F s c cap g ss gc h st hc w hcd hs h1 h2 ht h3 h4 hck).mono ?_
    exact mU
   ·refine(MX V F s c cap g ss gc h st hc w hcd hs h1 h2 ht h3 h4 hck).mono ?_
    exact mU
   ·refine(MU V F s c cap g ss gc h st hc w hcd hs h1 h2 ht h3 h4 hck).mono ?_
    exact mU
   ·refine(MQ V F s c cap g ss gc h st hc w hcd hs h1 h2 ht h3 h4 hck).mono ?_
    rintro e w' ⟨rfl,hb⟩;exact⟨_,nO,0,_,rfl,by rw[if_pos rfl,MV],.inl rfl,j0 _,j0 _,(λa ha=>fY),λhn=>absurd rfl hn,hb⟩
   ·have mx:maxLen<=9223372036854775807:=by decide
    cases hn:(ap g||ap h)
    ·refine(KY V F s c cap g ss gc h st hc w hcd hs h1 h2 ht h3 h4 hck _ _ (λwx hbx=>Gw g ss gc h st hc wx (hs.below hbx (lR _)) aa (ht.below hbx (lR _)) aa (ckSps_ok.mpr ⟨ok1,ok2⟩) (by rw[kL];exact hn))).mono ?_
     rintro e w' ⟨rfl,hb⟩;exact⟨_,nO,0,_,rfl,by rw[if_pos rfl,IB hn],.inl rfl,j0 _,j0 _,(λa ha=>fY),λhn=>absurd rfl hn,hb⟩
    ·refine(KY V F s c cap g ss gc h st hc w hcd hs h1 h2 ht h3 h4 hck _ _ (λwx hbx=>FY g ss gc h st hc wx (by rw[kL];exact hn))).mono ?_
     rintro e w' ⟨rfl,hb⟩;exact⟨_,nO,0,_,rfl,by rw[if_pos rfl,mg (by omega) hn];rfl,.inl rfl,j0 _,j0 _,(λa ha=>fY),λhn=>absurd rfl hn,hb⟩
   ·refine(Mx V F s c cap g ss gc h st hc w hcd hs h1 h2 ht h3 h4 hck (iI hg)).mono ?_
    rintro e w' ⟨rfl,hb⟩;exact⟨_,nO,0,_,rfl,by rw[if_pos rfl,uu],.inl rfl,j0 _,j0 _,(λa ha=>fY),λhn=>absurd rfl hn,hb⟩
 ·have he:doE (aY V F c [g,h]) k=aY V F c [g,h]:=by unfold doE;rw[if_neg hck]
  rw[he];refine(Lh V F s c cap g ss gc h st hc k w hcd hs h1 h2 ht h3 h4 hck).mono ?_;rintro e w' ⟨rfl,hb⟩;exact⟨bC,nO,0,false,rfl,by rw[if_neg hck],.inl rfl,j0 _,j0 _,(λa ha=>fY),λ_=>⟨rfl,rfl⟩,hb⟩
end
end Go.Proofs.YtmapdpcfanecdabGreatDoor
