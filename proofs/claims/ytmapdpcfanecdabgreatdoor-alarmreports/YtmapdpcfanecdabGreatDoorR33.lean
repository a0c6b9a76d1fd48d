import Derived.Test.YtmapdpcfanecdabGreatDoorR30
import Derived.Test.YtmapdpcfanecdabGreatDoorR31
import Derived.Test.YtmapdpcfanecdabGreatDoorR32
open Go.Ending renaming returned→Rt
open Go.IntKind renaming i64→Y
open Go.Obj renaming cells→Cc
open Go.Proofs.Tryz renaming prog→pG
open Go.RowKit.Below renaming heap_setCell→hSe,refl→bR
open Go.Value renaming agg→Ag,bool→Bb,int→I,pointer→Pp,slice→U,slice→j8,tuple→Tu
open Go.World renaming setCell→j1,size_alloc→zA
open List renaming getElem_mem→gM,length→j2,length_append→q0,length_map→j3,length_take→j4,length_zipWith→q3,map_append→j9,mem_singleton→q5,take_of_length_le→j5,take_succ_eq_append_getElem→j6,zipWith→j7,zipWith_append→q4
open Nat renaming le_refl→lR,le_trans→lT,lt_of_lt_of_le→lL,zero_le→j0
open Option renaming none→nO,some→sO
set_option linter.unusedSimpArgs false
set_option linter.unusedVariables false
set_option maxHeartbeats 32000000
set_option maxRecDepth 100000
namespace Go.Proofs.YtmapdpcfanecdabGreatDoor
section
open Go.RowKit
def cS (op:Sp->Sp->Sp)(g h:Gs):Gs:=⟨g.n||h.n,op g.sp h.sp,g.t||h.t,g.f||h.f,cq [g,h]⟩

theorem lG {V F:Int}{c:List Ins}{g h:Gs}(hk:aQ V F c [g,h]=0):ah V F c=0/\aq c g=0/\aq c h=0:=by
 unfold aQ at hk;split at hk
 ·rename_i hp
  simp only[bU] at hk;split at hk
  ·rename_i hg
   split at hk
   ·rename_i hh
    exact⟨hp,hg,hh⟩
   ·contradiction
  ·contradiction
 ·contradiction

theorem fP {V F:Int}{c:List Ins}{g h:Gs}(hk:aQ V F c [g,h]=0):((∀x∈g.s,0<=x/\x < 60)/\cT g.s=true)/\((∀x∈h.s,0<=x/\x < 60)/\cT h.s=true):=by
 obtain⟨a,b,d⟩:=lG hk;have hl:c.length<=60:=by
  unfold ah at a;split at a
  ·contradiction
  ·split at a
   ·contradiction
   ·omega
 exact⟨cI hl b,cI hl d⟩

theorem Hk (V F:Int)(s:oA)(c:List Ins)(cap:Nat)(g:Gs)(ss:oA)(gc:Nat)(h:Gs)(st:oA)(hc:Nat)(w:World)(hcd:CodeAt w s c)(hs:IntsAt w ss g.s)(h1:g.s.length<=gc)(h2:gc<=maxLen)(ht:IntsAt w st h.s)(h3:h.s.length<=hc)(h4:hc<=maxLen):
  Calls pG 161 #[pv V F s c cap,gv g ss gc,gv h st hc] w λe w'=>e=Rt (Tu #[Bb (if aQ V F c [g,h]=0 then cY g h else false),I Y (aQ V F c [g,h])])/\Below w.heap.size w w':=by
 by_cases hck:aQ V F c [g,h]=0
 ·refine(p7 V F s c cap g ss gc h st hc w hcd hs h1 h2 ht h3 h4 hck).mono ?_
  rintro e w' ⟨rfl,hb⟩;exact⟨by rw[if_pos hck,hck],hb⟩
 ·refine(yr V F s c cap g ss gc h st hc w hcd hs h1 h2 ht h3 h4 hck).mono ?_
  rintro e w' ⟨rfl,hb⟩;exact⟨by rw[if_neg hck],hb⟩
end
section
open Go.RowKit
attribute [local go_sem ↓] Go.wp_at_zero Go.wp_at_succ
theorem gK {w5 w6:World}{wd:World}{B N:Nat}{js:oA}{jc:Nat}{g:Gs}{v:Value}(hI:IntsAt w5 js g.s)(h1:g.s.length<=jc)(h2:jc<=maxLen)(hF:∀a,js=sO a->wd.heap.size<=a.block)(hB:B<=N)(hv:∀{k},v.ownBlock=sO k->k < N)(hb:Below w5.heap.size w5 w6)(hN:N<=wd.heap.size):bH (λb=>B<=b/\v.ownBlock≠sO b) w6 ⟨g,js,jc⟩:=by
 refine⟨?_,h1,h2⟩;rcases hI with h|⟨b,off,e,hz,hc⟩
 ·exact .inl h
 ·have hbn:=hF _ e
  simp only at hbn;exact .inr ⟨b,off,e,⟨by omega,λe'=>by have:=hv e';omega⟩,lL hz hb.size,λk hk=>by rw[hb.cell (by simp only;exact hz)];exact hc k hk⟩
theorem g8 (j:Gs->Gs->Gs)(a b:List Gs)(k:Nat)(h:k < a.length)(h':k < b.length):aI j (a.take (k+1)) (b.take (k+1))=aI j (a.take k) (b.take k)++[j a[k] b[k]]:=by
 unfold aI;rw[j6 h,j6 h',q4 (by simp;omega)];rfl
theorem mw (j:Gs->Gs->Gs)(a b:List (List Gs))(k:Nat)(h:k < a.length)(h':k < b.length):j7 (aI j) (a.take (k+1)) (b.take (k+1))=j7 (aI j) (a.take k) (b.take k)++[aI j a[k] b[k]]:=by
 rw[j6 h,j6 h',q4 (by simp;omega)];rfl
def vj (wide:Bool)(j:Gs->Gs->Gs)(RR:Gs->Gs->Prop):Prop:=∀(g:Gs) (ss:oA) (gc:Nat) (h:Gs) (st:oA) (hc:Nat) (wx:World),IntsAt wx ss g.s->IntsAt wx st h.s->RR g h->Calls pG 114 #[gv g ss gc,gv h st hc,Bb wide] wx λe w'=>∃js jc,e=Rt (gv (j g h) js jc)/\IntsAt w' js (j g h).s/\(j g h).s.length<=jc/\jc<=maxLen/\(∀a,js=sO a->wx.heap.size<=a.block)/\Below wx.heap.size wx w'

theorem oU (wide:Bool)(j:Gs->Gs->Gs)(RR:Gs->Gs->Prop)(hJ:vj wide j RR)(vx vy:List Gs)(fx fy:List (List Gs))(vs1:oA)(vc1:Nat)(fs1:oA)(fc1:Nat)(vs2:oA)(vc2:Nat)(fs2:oA)(fc2:Nat)(w:World)(hx:PicAt w ⟨false,vx,fx⟩ vs1 fs1)(hy:PicAt w ⟨false,vy,fy⟩ vs2 fs2)(hv:vx.length=vy.length)(hv8:vx.length<=8)(hf:fx.length=fy.length)(h60:fx.length<=60)(hr:∀i (h:i < fx.length) (h':i < fy.length),fx[i].length=fy[i].length/\fx[i].length<=3)(hR1:∀i (h:i < vx.length) (h':i < vy.length),RR vx[i] vy[i])(hR2:∀i (h:i < fx.length) (h':i < fy.length) k (hk:k < fx[i].length) (hk':k < fy[i].length),RR fx[i][k] fy[i][k]):
  Calls pG 70 #[xv ⟨false,vx,fx⟩ vs1 vc1 fs1 fc1,xv ⟨false,vy,fy⟩ vs2 vc2 fs2 fc2,Bb wide] w λe w'=>GM w.heap.size w' e ⟨false,aI j vx vy,j7 (aI j) fx fy⟩/\Below w.heap.size w w':=by
 obtain⟨ti,hi,hz0,hz1,hz2⟩:=info_parts Tryz.info_guess;obtain⟨tk,hk,hx0,hx1,hx2⟩:=info_parts Tryz.info_row;have HJ:Hid (∀(g:Gs) (ss:oA) (gc:Nat) (h:Gs) (st:oA) (hc:Nat) (wx:World),IntsAt wx ss g.s->IntsAt wx st h.s->RR g h->Calls pG 114 #[gv g ss gc,gv h st hc,Bb wide] wx λe w'=>∃js jc,e=Rt (gv (j g h) js jc)/\IntsAt w' js (j g h).s/\(j g h).s.length<=jc/\jc<=maxLen/\(∀a,js=sO a->wx.heap.size<=a.block)/\Below wx.heap.size wx w'):=hJ;have HV:=aa hv;have HF:=aa hf;have HR:=aa hr;have HR1:=aa hR1;have HR2:=aa hR2;have HX:=aa hx;have HY:=aa hy;clear hJ hv hf hr hR1 hR2 hx hy;have hb0:Below w.heap.size w ((((w.alloc (Cc #[Bb false,U vs1 vx.length vc1,U fs1 fx.length fc1] 28)).alloc (Cc #[Bb false,U vs2 vy.length vc2,U fs2 fy.length fc2] 28)).alloc (Cc #[Bb false,U nO 0 0,U nO 0 0] 28)).alloc (Cc #[Bb false,U nO 0 0,U nO 0 0] 28)):=by go_grown
 have A0:=(XAt.new w ⟨false,vx,fx⟩ vs1 vc1 fs1 fc1).call (w':=((((w.alloc (Cc #[Bb false,U vs1 vx.length vc1,U fs1 fx.length fc1] 28)).alloc (Cc #[Bb false,U vs2 vy.length vc2,U fs2 fy.length fc2] 28)).alloc (Cc #[Bb false,U nO 0 0,U nO 0 0] 28)).alloc (Cc #[Bb false,U nO 0 0,U nO 0 0] 28))) (by go_grown);have B0:=(XAt.new (w.alloc (Cc #[Bb false,U vs1 vx.length vc1,U fs1 fx.length fc1] 28)) ⟨false,vy,fy⟩ vs2 vc2 fs2 fc2).call (w':=((((w.alloc (Cc #[Bb false,U vs1 vx.length vc1,U fs1 fx.length fc1] 28)).alloc (Cc #[Bb false,U vs2 vy.length vc2,U fs2 fy.length fc2] 28)).alloc (Cc #[Bb false,U nO 0 0,U nO 0 0] 28)).alloc (Cc #[Bb false,U nO 0 0,U nO 0 0] 28))) (by go_grown);have C0:=(X3.new ((w.alloc (Cc #[Bb false,U vs1 vx.length vc1,U fs1 fx.length fc1] 28)).alloc (Cc #[Bb false,U vs2 vy.length vc2,U fs2 fy.length fc2] 28)) 28 (Bb false) (U nO 0 0) (U nO 0 0)).call (w':=((((w.alloc (Cc #[Bb false,U vs1 vx.length vc1,U fs1 fx.length fc1] 28)).alloc (Cc #[Bb false,U vs2 vy.length vc2,U fs2 fy.length fc2] 28)).alloc (Cc #[Bb false,U nO 0 0,U nO 0 0] 28)).alloc (Cc #[Bb false,U nO 0 0,U nO 0 0] 28))) (by go_grown);have D0:=X3.new (((w.alloc (Cc #[Bb false,U vs1 vx.length vc1,U fs1 fx.length fc1] 28)).alloc (Cc #[Bb false,U vs2 vy.length vc2,U fs2 fy.length fc2] 28)).alloc (Cc #[Bb false,U nO 0 0,U nO 0 0] 28)) 28 (Bb false) (U nO 0 0) (U nO 0 0);have z0:w.heap.size+1+1+1+1<=((((w.alloc (Cc #[Bb false,U vs1 vx.length vc1,U fs1 fx.length fc1] 28)).alloc (Cc #[Bb false,U vs2 vy.length vc2,U fs2 fy.length fc2] 28)).alloc (Cc #[Bb false,U nO 0 0,U nO 0 0] 28)).alloc (Cc #[Bb false,U nO 0 0,U nO 0 0] 28)).heap.size:=by simp
 rw[zA] at B0;rw[zA,zA] at C0;rw[zA,zA,zA] at D0
 (try simp only at A0 B0)
 go_enter Tryz.func70,Tryz.ntmps70
 go_upto_region 6 with fail
 generalize ((((w.alloc (Cc #[Bb false,U vs1 vx.length vc1,U fs1 fx.length fc1] 28)).alloc (Cc #[Bb false,U vs2 vy.length vc2,U fs2 fy.length fc2] 28)).alloc (Cc #[Bb false,U nO 0 0,U nO 0 0] 28)).alloc (Cc #[Bb false,U nO 0 0,U nO 0 0] 28))=w1 at *;go_wp2;go_loopw [8] (λi wr=>∃(k:Nat) (vs:oA) (vc:Nat) (l:List Gc),k<=vx.length/\i=I Y k/\XAt wr w.heap.size ⟨false,vx,fx⟩ vs1 vc1 fs1 fc1/\XAt wr (w.heap.size+1) ⟨false,vy,fy⟩ vs2 vc2 fs2 fc2/\X3 wr (w.heap.size+1+1) (Bb false) (U nO 0 0) (U nO 0 0)/\X3 wr (w.heap.size+1+1+1) (Bb false) (U vs l.length vc) (U nO 0 0)/\SRow wr (w.heap.size+1+1+1+1) (U vs l.length vc) l/\Hid (l.map Gc.g=aI j (vx.take k) (vy.take k))/\Below w.heap.size w wr/\w.heap.size+1+1+1+1<=wr.heap.size) (λi _=>vx.length - (intOf i).toNat)
 case atStart=>exact⟨0,nO,0,[],j0 _,rfl,A0,B0,C0,D0,SRow.nil _ _,rfl,hb0,z0⟩
 case round=>
  obtain⟨k,vs,vc,l,hk1,rfl,AR,BR,CR,ZR,SR,HL,LR,zr⟩:=hrel;clear A0 B0 C0 D0 hb0 z0;have LL:Hid (l.length=k):=by
   show _=_;have h1:=congrArg j2 HL.out;have h2:=HV.out;unfold aI at h1;rw[j3,q3,j4,j4] at h1;omega
  by_cases hlt:k < vx.length
  ·have n0:(0:Int)<=(k:Int):=by omega
   have n1:(k:Int) < (vx.length:Int):=by omega
   have hlt':k < vy.length:=by have:=HV.out;omega
   have n2:(k:Int) < (vy.length:Int):=by omega
   obtain⟨b1,o1,e1,ss1,g1,G1,I1,k1,m1⟩:=(HX.out.1.below LR (lR _)) k hlt;obtain⟨b2,o2,e2,ss2,g2,G2,I2,k2,m2⟩:=(HY.out.1.below LR (lR _)) k hlt';subst e1 e2;have hRk:=HR1.out k hlt hlt'
   (try simp only at G1 G2 I1 I2)
   have zb1:b1 < w.heap.size:=la (HX.out.1) k hlt;have zb2:b2 < w.heap.size:=la (HY.out.1) k hlt';obtain⟨⟨a0,a1,a2⟩,az,-⟩:=id AR;obtain⟨⟨c0,c1,c2⟩,cz,-⟩:=id BR;obtain⟨⟨y0,y1,y2⟩,yz,-⟩:=id ZR;have HKZ:Hid (∀wx,Below (w.heap.size+1+1+1+1) wr wx->wx.cell? ⟨w.heap.size+1+1+1,1,nO⟩=sO (U vs l.length vc)/\(wx.cell? ⟨w.heap.size,1,nO⟩=sO (U (sO ⟨b1,o1,nO⟩) vx.length vc1)/\(wx.cell? ⟨b1,o1+k * 7,nO⟩=sO (Bb vx[k].n)/\wx.cell? ⟨b1,o1+k * 7+1,nO⟩=sO (Bb vx[k].sp.n)/\wx.cell? ⟨b1,o1+k * 7+2,nO⟩=sO (I Y vx[k].sp.lo)/\wx.cell? ⟨b1,o1+k * 7+3,nO⟩=sO (I Y vx[k].sp.hi)/\wx.cell? ⟨b1,o1+k * 7+4,nO⟩=sO (Bb vx[k].t)/\wx.cell? ⟨b1,o1+k * 7+5,nO⟩=sO (Bb vx[k].f)/\wx.cell? ⟨b1,o1+k * 7+6,nO⟩=sO (U ss1 vx[k].s.length g1)))/\(wx.cell? ⟨w.heap.size+1,1,nO⟩=sO (U (sO ⟨b2,o2,nO⟩) vy.length vc2)/\(wx.cell? ⟨b2,o2+k * 7,nO⟩=sO (Bb vy[k].n)/\wx.cell? ⟨b2,o2+k * 7+1,nO⟩=sO (Bb vy[k].sp.n)/\wx.cell? ⟨b2,o2+k * 7+2,nO⟩=sO (I Y vy[k].sp.lo)/\wx.cell? ⟨b2,o2+k * 7+3,nO⟩=sO (I Y vy[k].sp.hi)/\wx.cell? ⟨b2,o2+k * 7+4,nO⟩=sO (Bb vy[k].t)/\wx.cell? ⟨b2,o2+k * 7+5,nO⟩=sO (Bb vy[k].f)/\wx.cell? ⟨b2,o2+k * 7+6,nO⟩=sO (U ss2 vy[k].s.length g2)))):=λwx hx=>⟨by rw[hx.cell (by simp only;omega)];exact y1,⟨by rw[hx.cell (by simp only;omega)];exact a1,(G1.low hx (by omega)).1⟩,by rw[hx.cell (by simp only;omega)];exact c1,(G2.low hx (by omega)).1⟩;have HD:Below wr.heap.size wr wr.drew:=(bR _ _).drew;go_wp2;clear a0 a1 a2 az c0 c1 c2 cz y0 y1 y2 yz;refine aw (S:=(λwx=>wx.cell? ⟨w.heap.size+1+1+1,1,nO⟩=sO (U vs l.length vc)/\(wx.cell? ⟨w.heap.size,1,nO⟩=sO (U (sO ⟨b1,o1,nO⟩) vx.length vc1)/\(wx.cell? ⟨b1,o1+k * 7,nO⟩=sO (Bb vx[k].n)/\wx.cell? ⟨b1,o1+k * 7+1,nO⟩=sO (Bb vx[k].sp.n)/\wx.cell? ⟨b1,o1+k * 7+2,nO⟩=sO (I Y vx[k].sp.lo)/\wx.cell? ⟨b1,o1+k * 7+3,nO⟩=sO (I Y vx[k].sp.hi)/\wx.cell? ⟨b1,o1+k * 7+4,nO⟩=sO (Bb vx[k].t)/\wx.cell? ⟨b1,o1+k * 7+5,nO⟩=sO (Bb vx[k].f)/\wx.cell? ⟨b1,o1+k * 7+6,nO⟩=sO (U ss1 vx[k].s.length g1)))/\(wx.cell? ⟨w.heap.size+1,1,nO⟩=sO (U (sO ⟨b2,o2,nO⟩) vy.length vc2)/\(wx.cell? ⟨b2,o2+k * 7,nO⟩=sO (Bb vy[k].n)/\wx.cell? ⟨b2,o2+k * 7+1,nO⟩=sO (Bb vy[k].sp.n)/\wx.cell? ⟨b2,o2+k * 7+2,nO⟩=sO (I Y vy[k].sp.lo)/\wx.cell? ⟨b2,o2+k * 7+3,nO⟩=sO (I Y vy[k].sp.hi)/\wx.cell? ⟨b2,o2+k * 7+4,nO⟩=sO (Bb vy[k].t)/\wx.cell? ⟨b2,o2+k * 7+5,nO⟩=sO (Bb vy[k].f)/\wx.cell? ⟨b2,o2+k * 7+6,nO⟩=sO (U ss2 vy[k].s.length g2))))) [17] (by kernel_rfl) (HKZ.out _ (HD.mono zr)) (λhHeld=> ?_);refine vZ 0 ?_ ?_;refine vZ 1 ?_ ?_;refine vZ 2 ?_ ?_;refine vZ 3 ?_ ?_;refine vZ 4 ?_ ?_;refine vZ 5 ?_ ?_;refine vZ 6 ?_ ?_;refine vZ 7 ?_ ?_;refine vZ 8 ?_ ?_;refine vZ 9 ?_ ?_;refine vZ 10 ?_ ?_;refine vZ 11 ?_ ?_;refine vZ 12 ?_ ?_;refine am (i:=13) rfl (by kernel_rfl) (λK hK=> ?_);go_simp;go_at_call 114;refine(HJ.out vx[k] ss1 g1 vy[k] ss2 g2 _ (I1.call HD) (I2.call HD) hRk).mono ?_;rintro e w5 ⟨js,jc,rfl,HI5,HJ1,HJ2,HF5,hb5⟩;have HW5:Below wr.heap.size wr w5:=HD.trans (hb5.mono HD.size);have HB5:Below (w.heap.size+1+1+1+1) wr w5:=HW5.mono zr;go_wp2_with fail;refine hK.out _ _ (HKZ.out _ HB5) (λhHeld=> ?_);clear hK K;refine sm ?_;refine am (i:=14) rfl (by kernel_rfl) (λK hK=> ?_);go_simp;have HW6:Below wr.heap.size wr (w5.alloc (Cc #[Bb (j vx[k] vy[k]).n,Bb (j vx[k] vy[k]).sp.n,I Y (j vx[k] vy[k]).sp.lo,I Y (j vx[k] vy[k]).sp.hi,Bb (j vx[k] vy[k]).t,Bb (j vx[k] vy[k]).f,U js (j vx[k] vy[k]).s.length jc] 91)):=HW5.alloc HW5.size _;have HB6:Below (w.heap.size+1+1+1+1) wr (w5.alloc (Cc #[Bb (j vx[k] vy[k]).n,Bb (j vx[k] vy[k]).sp.n,I Y (j vx[k] vy[k]).sp.lo,I Y (j vx[k] vy[k]).sp.hi,Bb (j vx[k] vy[k]).t,Bb (j vx[k] vy[k]).f,U js (j vx[k] vy[k]).s.length jc] 91)):=HW6.mono zr;refine hK.out _ _ (HKZ.out _ HB6) (λhHeld=> ?_);clear hK K;refine sm ?_;refine am (i:=15) rfl (by kernel_rfl) (λK hK=> ?_);have S6:=SR.call HW6;have GX:bH (λb=>w.heap.size+1+1+1+1<=b/\(j8 vs l.length vc).ownBlock≠sO b) (w5.alloc (Cc #[Bb (j vx[k] vy[k]).n,Bb (j vx[k] vy[k]).sp.n,I Y (j vx[k] vy[k]).sp.lo,I Y (j vx[k] vy[k]).sp.hi,Bb (j vx[k] vy[k]).t,Bb (j vx[k] vy[k]).f,U js (j vx[k] vy[k]).s.length jc] 91)) ⟨j vx[k] vy[k],js,jc⟩:=gK HI5 HJ1 HJ2 HF5 zr (λe=>(aH SR.1 e).1) (by go_grown) (HD.size);refine dK _ rfl _ _ 25 rfl (w.heap.size+1+1+1+1) 91 ti (Ag #[Bb false,Bb false,I Y 0,I Y 0,Bb false,Bb false,U nO 0 0]) 7 64 Tryz.underlying25 hi hz0 hz1 hz2 rfl (by decide) _ _ _ rfl S6.1 (sO ⟨w5.heap.size,0,nO⟩) 1 1 (bh ⟨j vx[k] vy[k],js,jc⟩) rfl rfl (λh=>by cases h) (kJ w5 ⟨j vx[k] vy[k],js,jc⟩ #[Bb (j vx[k] vy[k]).n,Bb (j vx[k] vy[k]).sp.n,I Y (j vx[k] vy[k]).sp.lo,I Y (j vx[k] vy[k]).sp.hi,Bb (j vx[k] vy[k]).t,Bb (j vx[k] vy[k]).f,U js (j vx[k] vy[k]).s.length jc] _ rfl) (dg _) (by unfold maxLen;have:=LL.out;omega) (by have:=LL.out;omega) (by rw[zA];have:=HW5.size;omega) ?_;intro v' w7 hown hgrow hat;have S7:=S6.grown (x:=⟨j vx[k] vy[k],js,jc⟩) GX hown hgrow hat;have HB7:Below (w.heap.size+1+1+1+1) wr w7:=HB6.grown hgrow (by rw[zA];have:=HW5.size;omega) (λk hk=>(aH S6.1 hk).2)
   obtain⟨vs',vc',rfl,-,-,-⟩:=S7.in;refine hK.out _ _ (HKZ.out _ HB7) (λhHeld=> ?_);clear hK K hown hgrow hat S6 GX HB6 HW6 HB5 HW5 HI5 HF5;refine sm ?_;refine vZ 16 ?_ ?_;refine bo (i:=17) rfl (by kernel_rfl) (by kernel_rfl) (λK hK=> ?_);have Z7:X3 w7 (w.heap.size+1+1+1) (Bb false) (U vs l.length vc) (U nO 0 0):=ZR.same (HB7.block _ (by omega)) HB7.size;obtain⟨⟨y0,y1,y2⟩,yz,yf⟩:=id Z7;have yf1:=yf 1;clear yf;go_simp;refine hK.out _ _ ?_;clear hK K;refine sm ?_;refine ap (by kernel_rfl) ?_ _;clear y0 y1 y2 yz yf1;have A7:XAt w7 w.heap.size ⟨false,vx,fx⟩ _ vc1 fs1 fc1:=AR.same (HB7.block _ (by omega)) HB7.size;have B7:XAt w7 (w.heap.size+1) ⟨false,vy,fy⟩ _ vc2 fs2 fc2:=BR.same (HB7.block _ (by omega)) HB7.size;have C7:X3 w7 (w.heap.size+1+1) (Bb false) (U nO 0 0) (U nO 0 0):=CR.same (HB7.block _ (by omega)) HB7.size;have L7:=LR.trans (HB7.mono (by omega));have z7:w.heap.size+1+1+1+1<=w7.heap.size:=lT zr HB7.size;have e7:∀b,b≠w.heap.size+1+1+1->(w7.setCell ⟨w.heap.size+1+1+1,1,nO⟩ (U vs' (l++[(⟨j vx[k] vy[k],js,jc⟩:Gc)]).length vc')).heap[b]? =w7.heap[b]? :=λb hb=>hSe _ _ _ _ hb;have s7:w7.heap.size<=(w7.setCell ⟨w.heap.size+1+1+1,1,nO⟩ (U vs' (l++[(⟨j vx[k] vy[k],js,jc⟩:Gc)]).length vc')).heap.size:=by simp[j1]
   clear AR BR CR ZR SR LR zr HKZ;go_wp2;go_roundw
   case rel=>exact⟨k+1,vs',vc',l++[⟨j vx[k] vy[k],js,jc⟩],by omega,by go_num,by first|exact A7.same (e7 _ (by omega)) s7|(simpa using A7.same (e7 _ (by omega)) s7),by first|exact B7.same (e7 _ (by omega)) s7|(simpa using B7.same (e7 _ (by omega)) s7),by first|exact C7.same (e7 _ (by omega)) s7|(simpa using C7.same (e7 _ (by omega)) s7),by first|exact Z7.put1 _|(simpa using Z7.put1 (U vs' (l++[(⟨j vx[k] vy[k],js,jc⟩:Gc)]).length vc')),by first|exact S7.old (λb hb=>e7 b (by omega)) s7|(simpa using S7.old (λb hb=>e7 b (by omega)) s7),by show _=_;rw[j9,HL.out,g8 j vx vy k hlt hlt'];rfl,by first|exact L7.setCell (by simp only;omega) _|(simpa using L7.setCell (p:=⟨w.heap.size+1+1+1,1,nO⟩) (by simp only;omega) (U vs' (l++[(⟨j vx[k] vy[k],js,jc⟩:Gc)]).length vc')),by simpa[j1] using z7⟩
   case measure=>simp[intOf];omega
  ·have n1':¬(k:Int) < (vx.length:Int):=by omega
   obtain⟨vs0,vc0,e0,hk0,hk00,GV0⟩:=SR.in;cases e0;have ek:k=vx.length:=by omega
   have et1:vx.take k=vx:=j5 (by omega);have et2:vy.take k=vy:=j5 (by have:=HV.out;omega)
   have LV:Hid (l.length=(aI j vx vy).length):=by
    show _=_;have h1:=congrArg j2 HL.out;rw[et1,et2,j3] at h1;exact h1
   rw[HL.out,et1,et2] at GV0;have GV:GsIn (λb=>w.heap.size+1+1+1+1<=b/\b < wr.heap.size) wr vs (aI j vx vy):=GV0.mono λb h1 h2=>⟨h1,h2⟩;have HVC:Hid (l.length<=vc/\vc<=maxLen):=⟨hk0,hk00⟩;clear GV0 SR LL HL hk0 hk00 et1 et2;have zn:w.heap.size+1+1+1+1<=wr.heap.size:=zr;obtain⟨⟨a0,a1,a2⟩,az,-⟩:=id AR;generalize hN:wr.heap.size=N at *;have HNN:=aa hN;clear hN;go_wp2;clear a0 a1 a2 az;go_loopw [9] (λi wr=>∃(k:Nat) (fs:oA) (fc:Nat) (L:List Rw),k<=fx.length/\i=I Y k/\XAt wr w.heap.size ⟨false,vx,fx⟩ vs1 vc1 fs1 fc1/\XAt wr (w.heap.size+1) ⟨false,vy,fy⟩ vs2 vc2 fs2 fc2/\X3 wr (w.heap.size+1+1) (Bb false) (U nO 0 0) (U nO 0 0)/\X3 wr (w.heap.size+1+1+1) (Bb false) (U vs l.length vc) (U fs L.length fc)/\FRow wr N (U fs L.length fc) L/\Hid (L.map Rw.l=j7 (aI j) (fx.take k) (fy.take k))/\GsIn (λb=>w.heap.size+1+1+1+1<=b/\b < N) wr vs (aI j vx vy)/\Below w.heap.size w wr/\N<=wr.heap.size) (λi _=>fx.length - (intOf i).toNat)
   case atStart=>exact⟨0,nO,0,[],j0 _,rfl,AR,BR,CR,ZR,FRow.nil _ _,rfl,GV,LR,by rw[HNN.out];exact lR _⟩
   case round=>
    clear AR BR CR ZR GV LR zr HNN;obtain⟨k2,fs,fc,L,hk2,rfl,AR,BR,CR,ZR,FR,HL,GV,LR,zr⟩:=hrel;generalize wr=w6 at *;clear wr;have LL:Hid (L.length=k2):=by
     show _=_;have h1:=congrArg j2 HL.out;have h2:=HF.out;rw[j3,q3,j4,j4] at h1;omega
    obtain⟨⟨a0,a1,a2⟩,az,-⟩:=id AR;by_cases hlt2:k2 < fx.length
    ·have n0:(0:Int)<=(k2:Int):=by omega
     have n2':(k2:Int) < (fx.length:Int):=by omega
     have hlt2':k2 < fy.length:=by have:=HF.out;omega
     have n3':(k2:Int) < (fy.length:Int):=by omega
     go_wp2;clear a0 a1 a2 az;go_loopw [10,11] (λr i2 wo=>∃(m:Nat) (rs:oA) (rc:Nat) (lr:List Gc),m<=fx[k2].length/\r=U rs lr.length rc/\i2=I Y m/\Below w6.heap.size w6 wo/\SRow wo w6.heap.size (U rs lr.length rc) lr/\Hid (lr.map Gc.g=aI j (fx[k2].take m) (fy[k2].take m))) (λ_ i2 _=>fx[k2].length - (intOf i2).toNat)
     case atStart=>exact⟨0,nO,0,[],j0 _,rfl,rfl,bR _ _,SRow.nil _ _,rfl⟩
     case round=>
      obtain⟨m,rs,rc,lr,hm,rfl,rfl,hbo,SR,HM⟩:=hrel;have hlen:=HR.out k2 hlt2 hlt2';have HEQ:=aa hlen.1;have h3:=hlen.2;clear hlen;have LM:Hid (lr.length=m):=by
       show _=_;have h1:=congrArg j2 HM.out;have h2:=HEQ.out;unfold aI at h1;rw[j3,q3,j4,j4] at h1;omega
      obtain⟨⟨a0,a1,a2⟩,az,-⟩:=id (AR.call hbo);obtain⟨⟨c0,c1,c2⟩,cz,-⟩:=id (BR.call hbo);obtain⟨p1,q1,e1,zp1,r1,rc1,C1,k1,m1,J1⟩:=HX.out.2 k2 hlt2;obtain⟨p2,q2,e2,zp2,r2,rc2,C2,k2',m2,J2⟩:=HY.out.2 k2 hlt2';have hwo:=LR.trans (hbo.mono LR.size);have D1:wr.cell? ⟨p1,q1+k2,nO⟩=sO (U r1 fx[k2].length rc1):=by rw[hwo.cell (by simp only;exact zp1)];exact C1
      have D2:wr.cell? ⟨p2,q2+k2,nO⟩=sO (U r2 fy[k2].length rc2):=by rw[hwo.cell (by simp only;exact zp2)];exact C2
      subst e1 e2;clear C1 C2;by_cases hltm:m < fx[k2].length
      ·have m0:(0:Int)<=(m:Int):=by omega
       have m1':(m:Int) < (fx[k2].length:Int):=by omega
       have hltm':m < fy[k2].length:=by have:=HEQ.out;omega
       have m2':(m:Int) < (fy[k2].length:Int):=by omega
       obtain⟨b1,o1,e1,ss1,g1,G1,I1,l1,l2⟩:=(J1.below hwo (lR _)) m hltm;obtain⟨b2,o2,e2,ss2,g2,G2,I2,l3,l4⟩:=(J2.below hwo (lR _)) m hltm';subst e1 e2;have zb1:b1 < w.heap.size:=la J1 m hltm;have zb2:b2 < w.heap.size:=la J2 m hltm';have hRk:=HR2.out k2 hlt2 hlt2' m hltm hltm';have zn6:w.heap.size+1+1+1+1<=w6.heap.size:=lT zn zr;have HKL:Hid (∀wx,Below w6.heap.size wr wx->(wx.cell? ⟨w.heap.size,2,nO⟩=sO (U (sO ⟨p1,q1,nO⟩) fx.length fc1)/\wx.cell? ⟨p1,q1+k2,nO⟩=sO (U (sO ⟨b1,o1,nO⟩) fx[k2].length rc1)/\(wx.cell? ⟨b1,o1+m * 7,nO⟩=sO (Bb fx[k2][m].n)/\wx.cell? ⟨b1,o1+m * 7+1,nO⟩=sO (Bb fx[k2][m].sp.n)/\wx.cell? ⟨b1,o1+m * 7+2,nO⟩=sO (I Y fx[k2][m].sp.lo)/\wx.cell? ⟨b1,o1+m * 7+3,nO⟩=sO (I Y fx[k2][m].sp.hi)/\wx.cell? ⟨b1,o1+m * 7+4,nO⟩=sO (Bb fx[k2][m].t)/\wx.cell? ⟨b1,o1+m * 7+5,nO⟩=sO (Bb fx[k2][m].f)/\wx.cell? ⟨b1,o1+m * 7+6,nO⟩=sO (U ss1 fx[k2][m].s.length g1)))/\(wx.cell? ⟨w.heap.size+1,2,nO⟩=sO (U (sO ⟨p2,q2,nO⟩) fy.length fc2)/\wx.cell? ⟨p2,q2+k2,nO⟩=sO (U (sO ⟨b2,o2,nO⟩) fy[k2].length rc2)/\(wx.cell? ⟨b2,o2+m * 7,nO⟩=sO (Bb fy[k2][m].n)/\wx.cell? ⟨b2,o2+m * 7+1,nO⟩=sO (Bb fy[k2][m].sp.n)/\wx.cell? ⟨b2,o2+m * 7+2,nO⟩=sO (I Y fy[k2][m].sp.lo)/\wx.cell? ⟨b2,o2+m * 7+3,nO⟩=sO (I Y fy[k2][m].sp.hi)/\wx.cell? ⟨b2,o2+m * 7+4,nO⟩=sO (Bb fy[k2][m].t)/\wx.cell? ⟨b2,o2+m * 7+5,nO⟩=sO (Bb fy[k2][m].f)/\wx.cell? ⟨b2,o2+m * 7+6,nO⟩=sO (U ss2 fy[k2][m].s.length g2)))):=λwx hx=>⟨⟨by rw[hx.cell (by simp only;omega)];exact a2,by rw[hx.cell (by simp only;omega)];exact D1,(G1.low hx (by omega)).1⟩,by rw[hx.cell (by simp only;omega)];exact c2,by rw[hx.cell (by simp only;omega)];exact D2,(G2.low hx (by omega)).1⟩;have HKZ:Hid (∀wx,Below wr.heap.size wr wx->(wx.cell? ⟨w.heap.size,2,nO⟩=sO (U (sO ⟨p1,q1,nO⟩) fx.length fc1)/\wx.cell? ⟨p1,q1+k2,nO⟩=sO (U (sO ⟨b1,o1,nO⟩) fx[k2].length rc1)/\(wx.cell? ⟨b1,o1+m * 7,nO⟩=sO (Bb fx[k2][m].n)/\wx.cell? ⟨b1,o1+m * 7+1,nO⟩=sO (Bb fx[k2][m].sp.n)/\wx.cell? ⟨b1,o1+m * 7+2,nO⟩=sO (I Y fx[k2][m].sp.lo)/\wx.cell? ⟨b1,o1+m * 7+3,nO⟩=sO (I Y fx[k2][m].sp.hi)/\wx.cell? ⟨b1,o1+m * 7+4,nO⟩=sO (Bb fx[k2][m].t)/\wx.cell? ⟨b1,o1+m * 7+5,nO⟩=sO (Bb fx[k2][m].f)/\wx.cell? ⟨b1,o1+m * 7+6,nO⟩=sO (U ss1 fx[k2][m].s.length g1)))/\(wx.cell? ⟨w.heap.size+1,2,nO⟩=sO (U (sO ⟨p2,q2,nO⟩) fy.length fc2)/\wx.cell? ⟨p2,q2+k2,nO⟩=sO (U (sO ⟨b2,o2,nO⟩) fy[k2].length rc2)/\(wx.cell? ⟨b2,o2+m * 7,nO⟩=sO (Bb fy[k2][m].n)/\wx.cell? ⟨b2,o2+m * 7+1,nO⟩=sO (Bb fy[k2][m].sp.n)/\wx.cell? ⟨b2,o2+m * 7+2,nO⟩=sO (I Y fy[k2][m].sp.lo)/\wx.cell? ⟨b2,o2+m * 7+3,nO⟩=sO (I Y fy[k2][m].sp.hi)/\wx.cell? ⟨b2,o2+m * 7+4,nO⟩=sO (Bb fy[k2][m].t)/\wx.cell? ⟨b2,o2+m * 7+5,nO⟩=sO (Bb fy[k2][m].f)/\wx.cell? ⟨b2,o2+m * 7+6,nO⟩=sO (U ss2 fy[k2][m].s.length g2)))):=λwx hx=>HKL.out wx (hx.mono hbo.size);have HD:Below wr.heap.size wr wr.drew:=(bR _ _).drew;go_wp2;clear a0 a1 a2 az c0 c1 c2 cz D1 D2;refine aw (S:=(λwx=>(wx.cell? ⟨w.heap.size,2,nO⟩=sO (U (sO ⟨p1,q1,nO⟩) fx.length fc1)/\wx.cell? ⟨p1,q1+k2,nO⟩=sO (U (sO ⟨b1,o1,nO⟩) fx[k2].length rc1)/\(wx.cell? ⟨b1,o1+m * 7,nO⟩=sO (Bb fx[k2][m].n)/\wx.cell? ⟨b1,o1+m * 7+1,nO⟩=sO (Bb fx[k2][m].sp.n)/\wx.cell? ⟨b1,o1+m * 7+2,nO⟩=sO (I Y fx[k2][m].sp.lo)/\wx.cell? ⟨b1,o1+m * 7+3,nO⟩=sO (I Y fx[k2][m].sp.hi)/\wx.cell? ⟨b1,o1+m * 7+4,nO⟩=sO (Bb fx[k2][m].t)/\wx.cell? ⟨b1,o1+m * 7+5,nO⟩=sO (Bb fx[k2][m].f)/\wx.cell? ⟨b1,o1+m * 7+6,nO⟩=sO (U ss1 fx[k2][m].s.length g1)))/\(wx.cell? ⟨w.heap.size+1,2,nO⟩=sO (U (sO ⟨p2,q2,nO⟩) fy.length fc2)/\wx.cell? ⟨p2,q2+k2,nO⟩=sO (U (sO ⟨b2,o2,nO⟩) fy[k2].length rc2)/\(wx.cell? ⟨b2,o2+m * 7,nO⟩=sO (Bb fy[k2][m].n)/\wx.cell? ⟨b2,o2+m * 7+1,nO⟩=sO (Bb fy[k2][m].sp.n)/\wx.cell? ⟨b2,o2+m * 7+2,nO⟩=sO (I Y fy[k2][m].sp.lo)/\wx.cell? ⟨b2,o2+m * 7+3,nO⟩=sO (I Y fy[k2][m].sp.hi)/\wx.cell? ⟨b2,o2+m * 7+4,nO⟩=sO (Bb fy[k2][m].t)/\wx.cell? ⟨b2,o2+m * 7+5,nO⟩=sO (Bb fy[k2][m].f)/\wx.cell? ⟨b2,o2+m * 7+6,nO⟩=sO (U ss2 fy[k2][m].s.length g2))))) [] (by kernel_rfl) (HKZ.out _ HD) (λhHeld=> ?_);refine vZ 0 ?_ ?_;refine vZ 1 ?_ ?_;refine vZ 2 ?_ ?_;refine vZ 3 ?_ ?_;refine vZ 4 ?_ ?_;refine vZ 5 ?_ ?_;refine vZ 6 ?_ ?_;refine vZ 7 ?_ ?_;refine vZ 8 ?_ ?_;refine vZ 9 ?_ ?_;refine vZ 10 ?_ ?_;refine vZ 11 ?_ ?_;refine vZ 12 ?_ ?_;refine vZ 13 ?_ ?_;refine vZ 14 ?_ ?_;refine vZ 15 ?_ ?_;refine vZ 16 ?_ ?_;refine vZ 17 ?_ ?_;refine am (i:=18) rfl (by kernel_rfl) (λK hK=> ?_);go_simp;go_at_call 114;refine(HJ.out fx[k2][m] ss1 g1 fy[k2][m] ss2 g2 _ (I1.call HD) (I2.call HD) hRk).mono ?_;rintro e w7 ⟨js,jc,rfl,HI5,HJ1,HJ2,HF5,hb7⟩;have HW7:Below wr.heap.size wr w7:=HD.trans (hb7.mono HD.size);go_wp2_with fail;refine hK.out _ _ (HKZ.out _ HW7) (λhHeld=> ?_);clear hK K;refine sm ?_;refine am (i:=19) rfl (by kernel_rfl) (λK hK=> ?_);go_simp;have HW8:Below wr.heap.size wr (w7.alloc (Cc #[Bb (j fx[k2][m] fy[k2][m]).n,Bb (j fx[k2][m] fy[k2][m]).sp.n,I Y (j fx[k2][m] fy[k2][m]).sp.lo,I Y (j fx[k2][m] fy[k2][m]).sp.hi,Bb (j fx[k2][m] fy[k2][m]).t,Bb (j fx[k2][m] fy[k2][m]).f,U js (j fx[k2][m] fy[k2][m]).s.length jc] 91)):=HW7.alloc HW7.size _;refine hK.out _ _ (HKZ.out _ HW8) (λhHeld=> ?_);clear hK K;refine sm ?_;refine am (i:=20) rfl (by kernel_rfl) (λK hK=> ?_);have S8:=SR.call HW8;have z67:w6.heap.size<=wr.heap.size:=hbo.size;have GX:bH (λb=>w6.heap.size<=b/\(j8 rs lr.length rc).ownBlock≠sO b) (w7.alloc (Cc #[Bb (j fx[k2][m] fy[k2][m]).n,Bb (j fx[k2][m] fy[k2][m]).sp.n,I Y (j fx[k2][m] fy[k2][m]).sp.lo,I Y (j fx[k2][m] fy[k2][m]).sp.hi,Bb (j fx[k2][m] fy[k2][m]).t,Bb (j fx[k2][m] fy[k2][m]).f,U js (j fx[k2][m] fy[k2][m]).s.length jc] 91)) ⟨j fx[k2][m] fy[k2][m],js,jc⟩:=gK HI5 HJ1 HJ2 HF5 z67 (λe=>(aH SR.1 e).1) (by go_grown) (HD.size);refine dK _ rfl _ _ 25 rfl w6.heap.size 91 ti (Ag #[Bb false,Bb false,I Y 0,I Y 0,Bb false,Bb false,U nO 0 0]) 7 64 Tryz.underlying25 hi hz0 hz1 hz2 rfl (by decide) _ _ _ rfl S8.1 (sO ⟨w7.heap.size,0,nO⟩) 1 1 (bh ⟨j fx[k2][m] fy[k2][m],js,jc⟩) rfl rfl (λh=>by cases h) (kJ w7 ⟨j fx[k2][m] fy[k2][m],js,jc⟩ #[Bb (j fx[k2][m] fy[k2][m]).n,Bb (j fx[k2][m] fy[k2][m]).sp.n,I Y (j fx[k2][m] fy[k2][m]).sp.lo,I Y (j fx[k2][m] fy[k2][m]).sp.hi,Bb (j fx[k2][m] fy[k2][m]).t,Bb (j fx[k2][m] fy[k2][m]).f,U js (j fx[k2][m] fy[k2][m]).s.length jc] _ rfl) (dg _) (by unfold maxLen;have:=LM.out;omega) (by have:=LM.out;omega) (by rw[zA];have:=HW7.size;omega) ?_;intro v' w9 hown hgrow hat;have S9:=S8.grown (x:=⟨j fx[k2][m] fy[k2][m],js,jc⟩) GX hown hgrow hat;have hb9:Below w6.heap.size w6 w9:=(hbo.trans (HW8.mono hbo.size)).grown hgrow (by rw[zA];have:=HW7.size;omega) (λk hk=>(aH S8.1 hk).2)
       have HB9:Below w6.heap.size wr w9:=(HW8.mono hbo.size).grown hgrow (by rw[zA];have:=HW7.size;omega) (λk hk=>(aH S8.1 hk).2)
       obtain⟨rs',rc',rfl,-,-,-⟩:=S9.in;refine hK.out _ _ (HKL.out _ HB9) (λhHeld=> ?_);clear hK K hown hgrow hat S8 GX HW8 HW7 HI5 HF5;refine sm ?_;refine vZ 21 ?_ ?_;refine ap (by kernel_rfl) ?_ _;clear SR hbo HKZ HKL HB9;go_wp2;go_roundw
       case rel=>exact⟨m+1,rs',rc',lr++[⟨j fx[k2][m] fy[k2][m],js,jc⟩],by omega,by first|rfl|(rw[q0];rfl),by go_num,hb9,S9,by show _=_;rw[j9,HM.out,g8 j fx[k2] fy[k2] m hltm hltm'];rfl⟩
       case measure=>simp[intOf];omega
      ·have m1':¬(m:Int) < (fx[k2].length:Int):=by omega
       have et1:fx[k2].take m=fx[k2]:=j5 (by omega);have et2:fy[k2].take m=fy[k2]:=j5 (by have:=HEQ.out;omega)
       obtain⟨rs0,rc0,e0,hk0,hk00,GR⟩:=SR.in;cases e0;have HLF:Hid (lr.length=(aI j fx[k2] fy[k2]).length):=by
        show _=_;have h1:=congrArg j2 HM.out;rw[et1,et2,j3] at h1;exact h1
       rw[HM.out,et1,et2] at GR;have A9:=AR.call hbo;have B9:=BR.call hbo;have C9:=CR.call hbo;have Z9:=ZR.call hbo;have F9:=FR.call hbo;have V9:=GV.call hbo;have L9:=hwo;have z9:N<=wr.heap.size:=lT zr hbo.size;have RX:nu (λb=>N<=b/\(j8 fs L.length fc).ownBlock≠sO b) wr ⟨rs,rc,aI j fx[k2] fy[k2]⟩:=⟨GR.mono λb h1 _=>⟨lT zr h1,λe=>by have:=(aH FR.1 e).1;omega⟩,by rw[HLF.out] at hk0;exact hk0,hk00⟩
       clear AR BR CR ZR FR GV LR SR GR hbo zr hk0 hk00 LM HM hwo et1 et2;generalize wr=w9 at *;clear wr;obtain⟨⟨y0,y1,y2⟩,yz,yf⟩:=id Z9;have F10:=F9.call (w':=w9.alloc (Cc #[U rs lr.length rc] 25)) (by go_grown);have R10:nu (λb=>N<=b/\(j8 fs L.length fc).ownBlock≠sO b) (w9.alloc (Cc #[U rs lr.length rc] 25)) ⟨rs,rc,aI j fx[k2] fy[k2]⟩:=⟨RX.1.call (by go_grown),RX.2⟩;go_wp2_with (at_builtin;refine aT _ rfl _ _ 26 rfl N 25 tk (U nO 0 0) 1 24 Tryz.underlying26 hk hx0 hx1 hx2 rfl (by decide) _ _ _ rfl F10.1 (sO ⟨w9.heap.size,0,nO⟩) 1 1 [U rs lr.length rc] rfl rfl (λh=>by cases h) ?qc2 (by intro u hu;rw[q5.1 hu];rfl) ?qc4 ?qc5 ?qc6 ?_)
       (try (case qc2=>exact sP w9 _ _))
       case qc4=>unfold maxLen;have:=LL.out;omega
       case qc5=>have:=LL.out;omega
       (try (case qc6=>first|omega|(rw[zA];omega)|(simp;omega)|simp))
       intro v' w10 hown hgrow hat;rw[HLF.out] at hown;have F11:=F10.grown (x:=⟨rs,rc,aI j fx[k2] fy[k2]⟩) R10 hown hgrow (by rw[zA];exact hat);have hb10:Below N w9 w10:=((bR _ w9).alloc z9 _).grown hgrow (by simp;omega) (λk hk=>(aH F10.1 hk).2);obtain⟨fs',fc',rfl,-,-,-⟩:=F11.rows;clear hown hgrow hat F10 F9 R10 RX y0 y1 y2 yz yf a0 a1 a2 az c0 c1 c2 cz D1 D2;have A4:XAt w10 w.heap.size ⟨false,vx,fx⟩ _ vc1 _ fc1:=A9.same (hb10.block _ (by omega)) hb10.size;have B4:XAt w10 (w.heap.size+1) ⟨false,vy,fy⟩ _ vc2 _ fc2:=B9.same (hb10.block _ (by omega)) hb10.size;have C4:X3 w10 (w.heap.size+1+1) (Bb false) (U nO 0 0) (U nO 0 0):=C9.same (hb10.block _ (by omega)) hb10.size;have Z4:X3 w10 (w.heap.size+1+1+1) (Bb false) (U vs l.length vc) (U fs L.length fc):=Z9.same (hb10.block _ (by omega)) hb10.size;have V4:GsIn (λb=>w.heap.size+1+1+1+1<=b/\b < N) w10 vs (aI j vx vy):=V9.same (λb hS _=>hb10.block b hS.2) hb10.size;have L4:=L9.trans (hb10.mono (by omega));have z4:N<=w10.heap.size:=lT z9 hb10.size;clear A9 B9 C9 Z9 V9 L9 z9 hb10;obtain⟨⟨y0,y1,y2⟩,yz,yf⟩:=id Z4;have yf2:=yf 2;clear yf;have e7:∀(x:Value) b,b≠w.heap.size+1+1+1->(w10.setCell ⟨w.heap.size+1+1+1,2,nO⟩ x).heap[b]? =w10.heap[b]? :=λx b hb=>hSe _ _ _ _ hb;have s7:∀(x:Value),w10.heap.size<=(w10.setCell ⟨w.heap.size+1+1+1,2,nO⟩ x).heap.size:=λx=>by simp[j1]
       have E7:=aa e7;have S7:=aa s7;clear e7 s7;go_wp2;go_roundw
       case rel=>exact⟨k2+1,fs',fc',L++[⟨rs,rc,aI j fx[k2] fy[k2]⟩],by omega,by go_num,A4.same (E7.out _ _ (by omega)) (S7.out _),B4.same (E7.out _ _ (by omega)) (S7.out _),C4.same (E7.out _ _ (by omega)) (S7.out _),by rw[q0];exact Z4.put2 _,F11.old (λb hb=>E7.out _ b (by omega)) (S7.out _),by show _=_;rw[j9,HL.out,mw j fx fy k2 hlt2 hlt2'];rfl,V4.same (λb hS _=>E7.out _ b (by omega)) (S7.out _),L4.setCell (by simp only;omega) _,by simpa[j1] using z4⟩
       case measure=>simp[intOf];omega
    ·have n2':¬(k2:Int) < (fx.length:Int):=by omega
     have et1:fx.take k2=fx:=j5 (by omega);have et2:fy.take k2=fy:=j5 (by have:=HF.out;omega)
     have ELL:Hid (L.length=(j7 (aI j) fx fy).length):=by
      show _=_;have h1:=congrArg j2 HL.out;rw[et1,et2,j3] at h1;exact h1
     have HFC:Hid (L.length<=fc/\fc<=maxLen):=by
      obtain⟨fs0,fc0,e0,hk0,hk00,-⟩:=FR.rows;cases e0;exact⟨hk0,hk00⟩
     have hch:∀b,b≠w.heap.size+1+1->(((w6.setCell ⟨w.heap.size+1+1,0,nO⟩ (Bb false)).setCell ⟨w.heap.size+1+1,1,nO⟩ (U vs l.length vc)).setCell ⟨w.heap.size+1+1,2,nO⟩ (U fs L.length fc)).heap[b]? =w6.heap[b]? :=λb hb=>by rw[hSe _ _ _ _ hb,hSe _ _ _ _ hb,hSe _ _ _ _ hb]
     have hcz:w6.heap.size<=(((w6.setCell ⟨w.heap.size+1+1,0,nO⟩ (Bb false)).setCell ⟨w.heap.size+1+1,1,nO⟩ (U vs l.length vc)).setCell ⟨w.heap.size+1+1,2,nO⟩ (U fs L.length fc)).heap.size:=by simp[j1]
     have FX:=FR.old (w':=(((w6.setCell ⟨w.heap.size+1+1,0,nO⟩ (Bb false)).setCell ⟨w.heap.size+1+1,1,nO⟩ (U vs l.length vc)).setCell ⟨w.heap.size+1+1,2,nO⟩ (U fs L.length fc))) (λb hb=>hch b (by omega)) hcz;have GX:=GV.same (w':=(((w6.setCell ⟨w.heap.size+1+1,0,nO⟩ (Bb false)).setCell ⟨w.heap.size+1+1,1,nO⟩ (U vs l.length vc)).setCell ⟨w.heap.size+1+1,2,nO⟩ (U fs L.length fc))) (λb hS _=>hch b (by omega)) hcz;have BX:Below w.heap.size w (((w6.setCell ⟨w.heap.size+1+1,0,nO⟩ (Bb false)).setCell ⟨w.heap.size+1+1,1,nO⟩ (U vs l.length vc)).setCell ⟨w.heap.size+1+1,2,nO⟩ (U fs L.length fc)):=((LR.setCell (by simp only;omega) _).setCell (by simp only;omega) _).setCell (by simp only;omega) _;have HFX:Hid (∀wz:World,(∀b,w.heap.size<=b->b < (((w6.setCell ⟨w.heap.size+1+1,0,nO⟩ (Bb false)).setCell ⟨w.heap.size+1+1,1,nO⟩ (U vs l.length vc)).setCell ⟨w.heap.size+1+1,2,nO⟩ (U fs L.length fc)).heap.size->wz.heap[b]? =(((w6.setCell ⟨w.heap.size+1+1,0,nO⟩ (Bb false)).setCell ⟨w.heap.size+1+1,1,nO⟩ (U vs l.length vc)).setCell ⟨w.heap.size+1+1,2,nO⟩ (U fs L.length fc)).heap[b]?)->(((w6.setCell ⟨w.heap.size+1+1,0,nO⟩ (Bb false)).setCell ⟨w.heap.size+1+1,1,nO⟩ (U vs l.length vc)).setCell ⟨w.heap.size+1+1,2,nO⟩ (U fs L.length fc)).heap.size<=wz.heap.size->GsAt wz vs (aI j vx vy)/\RowsAt wz fs (j7 (aI j) fx fy)):=λwz hs hz=>by
      obtain⟨fs0,fc0,e0,hk0,hk00,RW0⟩:=(FX.olden (w':=wz) (λb hb hlt=>hs b (by omega) hlt) hz).rows;cases e0;rw[HL.out,et1,et2] at RW0;exact⟨(GX.same (λb hS hlt=>hs b (by have:=hS.1;omega) hlt) hz).at,RW0⟩
     obtain⟨⟨y0,y1,y2⟩,yz,yf⟩:=id ZR;obtain⟨⟨d0,d1,d2⟩,dz,df⟩:=id CR;have f0:=df 0;have f1:=df 1;have f2:=df 2;clear df yf hch hcz FX GX et1 et2;go_wp2;refine bodyPost_ret (v:=Ag #[Bb false,U vs l.length vc,U fs L.length fc]) (by simp[results,Tryz.results70,go_sem,d0,d1,d2]) rfl ⟨⟨vs,vc,fs,fc,?_,(λwz hs hz=>HFX.out wz hs hz),?_,?_⟩,BX⟩
     ·rw[LV.out,ELL.out]
     ·rw[<-LV.out]
      exact HVC.out
     ·rw[<-ELL.out]
      exact HFC.out
theorem nW (wide:Bool)(x y:Pic)(vs1:oA)(vc1:Nat)(fs1:oA)(fc1:Nat)(vs2:oA)(vc2:Nat)(fs2:oA)(fc2:Nat)(w:World)(hn:x.none=true):
  Calls pG 70 #[xv x vs1 vc1 fs1 fc1,xv y vs2 vc2 fs2 fc2,Bb wide] w λe w'=>e=Rt (xv y vs2 vc2 fs2 fc2)/\Below w.heap.size w w':=by
 obtain⟨xn,vx,fx⟩:=x;obtain⟨yn,vy,fy⟩:=y;simp only at hn;subst hn;go_enter Tryz.func70,Tryz.ntmps70;go_wp2;refine bodyPost_ret (v:=Ag #[Bb yn,U vs2 vy.length vc2,U fs2 fy.length fc2]) (by simp[results,Tryz.results70,go_sem]) rfl ⟨rfl,?_⟩;go_grown
theorem mZ (wide:Bool)(x y:Pic)(vs1:oA)(vc1:Nat)(fs1:oA)(fc1:Nat)(vs2:oA)(vc2:Nat)(fs2:oA)(fc2:Nat)(w:World)(hm:x.none=false)(hn:y.none=true):
  Calls pG 70 #[xv x vs1 vc1 fs1 fc1,xv y vs2 vc2 fs2 fc2,Bb wide] w λe w'=>e=Rt (xv x vs1 vc1 fs1 fc1)/\Below w.heap.size w w':=by
 obtain⟨xn,vx,fx⟩:=x;obtain⟨yn,vy,fy⟩:=y;simp only at hn hm;subst hn hm;go_enter Tryz.func70,Tryz.ntmps70;go_wp2;refine bodyPost_ret (v:=Ag #[Bb false,U vs1 vx.length vc1,U fs1 fx.length fc1]) (by simp[results,Tryz.results70,go_sem]) rfl ⟨rfl,?_⟩;go_grown
theorem gj {V F:Int}{c:List Ins}{x:Pic}(h:aF V F c x=0)(hn:x.none=false):(x.vars.length:Int)=V/\x.flds.length=c.length/\(∀r∈x.flds,(r.length:Int)=F)/\(∀g∈x.vars,aq c g=0)/\∀r∈x.flds,∀g∈r,aq c g=0:=by
 unfold aF at h;split at h
 ·cases h
 ·rename_i h1
  split at h
  ·contradiction
  ·rename_i h2
   have h2':bU c (bF x)=0:=by simpa using h2
   have hall:=mJ h2';have hf:bC V F c x=true:=by simpa using h1
   unfold bC at hf;rw[hn] at hf;simp only[Bool.false_eq_true,if_false,Bool.and_eq_true,decide_eq_true_eq,Bool.not_eq_true',List.any_eq_false] at hf;refine⟨hf.1,hf.2.1,λr hr=>by have:=hf.2.2 r hr;simpa using this,λg hg=>hall g ?_,λr hr g hg=>hall g ?_⟩
   ·unfold bF;exact List.mem_append_left _ hg
   ·unfold bF;exact List.mem_append_right _ (List.mem_flatten.2 ⟨r,hr,hg⟩)
theorem gq {V F:Int}{c:List Ins}{g h:Gs}(h0:ah V F c=0)(hg:aq c g=0)(hh:aq c h=0):aQ V F c [g,h]=0:=by
 unfold aQ;rw[if_pos h0];unfold bU;rw[if_pos hg];unfold bU;rw[if_pos hh];rfl
def pH (c:List Ins)(g h:Gs):Prop:=aq c g=0/\aq c h=0
theorem pI {p:Prop}(h:p:=by
 rintro e w' ⟨v,rfl,hown,hb⟩;obtain⟨js,jc,rfl,hi,k1,k2,hf⟩:=IntsAt.own hown;rw[<-iN g h hg.1 hh.1] at hi k1 |-;exact⟨js,jc,rfl,hi,k1,k2,hf,hb⟩):p:=h
theorem pt {V F:Int}{c:List Ins}(h0:ah V F c=0):vj false (cS aU) (pH c):=by
 intro g ss gc h st hc wx hs ht hR;have hck:=gq h0 hR.1 hR.2;obtain⟨hg,hh⟩:=fP hck;have l1:=cy hg.2 hg.1;have l2:=cy hh.2 hh.1;refine(tC g ss gc h st hc wx hs (by omega) ht (by omega)).mono ?_;exact pI
theorem Fb {V F:Int}{c:List Ins}(h0:ah V F c=0):vj true (cS aY) (pH c):=by
 intro g ss gc h st hc wx hs ht hR;have hck:=gq h0 hR.1 hR.2;obtain⟨hg,hh⟩:=fP hck;have l1:=cy hg.2 hg.1;have l2:=cy hh.2 hh.1;refine(tJ g ss gc h st hc wx hs (by omega) ht (by omega)).mono ?_;exact pI
theorem kF {V F:Int}{c:List Ins}(wide:Bool)(j:Gs->Gs->Gs)(hJ:vj wide j (pH c))(x y:Pic)(vs1:oA)(vc1:Nat)(fs1:oA)(fc1:Nat)(vs2:oA)(vc2:Nat)(fs2:oA)(fc2:Nat)(w:World)(S:Nat->Prop)(hx:PicOn S w x vs1 fs1)(hy:PicOn S w y vs2 fs2)(p1:x.vars.length<=vc1/\vc1<=maxLen)(p2:x.flds.length<=fc1/\fc1<=maxLen)(q1:y.vars.length<=vc2/\vc2<=maxLen)(q2:y.flds.length<=fc2/\fc2<=maxLen)(h0:ah V F c=0)(h1:aF V F c x=0)(h2:aF V F c y=0):
  Calls pG 70 #[xv x vs1 vc1 fs1 fc1,xv y vs2 vc2 fs2 fc2,Bb wide] w λe w'=>(∃us uc gs gc,e=Rt (Ag #[Bb (aB j x y).none,U us (aB j x y).vars.length uc,U gs (aB j x y).flds.length gc])/\PicOn (λb=>S b\/w.heap.size<=b) w' (aB j x y) us gs/\((aB j x y).vars.length<=uc/\uc<=maxLen)/\((aB j x y).flds.length<=gc/\gc<=maxLen))/\Below w.heap.size w w':=by
 obtain⟨⟨hV1,hV8⟩,⟨hF0,hF3⟩,h60⟩:=bw h0;unfold aB;by_cases hn:x.none=true
 ·rw[if_pos hn]
  refine(nW wide x y vs1 vc1 fs1 fc1 vs2 vc2 fs2 fc2 w hn).mono ?_;rintro e w' ⟨rfl,hb⟩;exact⟨⟨vs2,vc2,fs2,fc2,rfl,(hy.call hb).mono λb h _=>.inl h,q1,q2⟩,hb⟩
 ·have hn':x.none=false:=by simpa using hn
  rw[if_neg hn];by_cases hm:y.none=true
  ·rw[if_pos hm]
   refine(mZ wide x y vs1 vc1 fs1 fc1 vs2 vc2 fs2 fc2 w hn' hm).mono ?_;rintro e w' ⟨rfl,hb⟩;exact⟨⟨vs1,vc1,fs1,fc1,rfl,(hx.call hb).mono λb h _=>.inl h,p1,p2⟩,hb⟩
  ·have hm':y.none=false:=by simpa using hm
   rw[if_neg hm];obtain⟨a1,a2,a3,a4,a5⟩:=gj h1 hn';obtain⟨b1,b2,b3,b4,b5⟩:=gj h2 hm';obtain⟨xn,vx,fx⟩:=x;obtain⟨yn,vy,fy⟩:=y;simp only at hn' hm' a1 a2 a3 a4 a5 b1 b2 b3 b4 b5;subst hn' hm';refine(oU wide j (pH c) hJ vx vy fx fy vs1 vc1 fs1 fc1 vs2 vc2 fs2 fc2 w hx.at hy.at (by omega) (by omega) (by omega) (by omega)
    (λi h h'=>by have:=a3 _ (gM h);have:=b3 _ (gM h');omega)
    (λi h h'=>⟨a4 _ (gM h),b4 _ (gM h')⟩)
    (λi h h' k hk hk'=>⟨a5 _ (gM h) _ (gM hk),b5 _ (gM h') _ (gM hk')⟩)).mono ?_
   rintro e w' ⟨⟨us,uc,gs,gc,he,h1,r1,r2⟩,h2⟩;exact⟨⟨us,uc,gs,gc,he,h1.mono λb h _=>.inr h,r1,r2⟩,h2⟩
def EQ (B:Nat)(w':World)(e:Ending)(x:Pic):Prop:=∃v gs gc L,x=aL x.none v L/\e=Rt (Ag #[Bb x.none,U v.rs v.l.length v.rc,U gs L.length gc])/\PicG (λb=>B<=b) B w' v gs gc L
theorem pA (xn:Bool)(vx:List Gs)(fx:List (List Gs))(vs1:oA)(vc1:Nat)(fs1:oA)(fc1:Nat)(w:World)(hx:PicAt w ⟨xn,vx,fx⟩ vs1 fs1)(hv8:vx.length<=1000000)(h60:fx.length<=1000000)(hr:∀i (h:i < fx.length),fx[i].length<=1000000)(hR1:∀g∈vx,g.s.length<=1000000)(hR2:∀i (h:i < fx.length),∀g∈fx[i],g.s.length<=1000000):
  Calls pG 29 #[xv ⟨xn,vx,fx⟩ vs1 vc1 fs1 fc1] w λe w'=>EQ w.heap.size w' e ⟨xn,vx,fx⟩/\Below w.heap.size w w':=by
 obtain⟨ti,hi,hz0,hz1,hz2⟩:=info_parts Tryz.info_guess;obtain⟨tk,hk,hx0,hx1,hx2⟩:=info_parts Tryz.info_row;have HO:Hid (∀(g:Gs) (ss:oA) (gc:Nat) (wx:World),IntsAt wx ss g.s->g.s.length<=1000000->Calls pG 68 #[gv g ss gc] wx λe w'=>(∃js jc,e=Rt (gv g js jc)/\IntsAt w' js g.s/\g.s.length<=jc/\jc<=maxLen/\∀a,js=sO a->wx.heap.size<=a.block)/\Below wx.heap.size wx w'):=λg ss gc wx h1 h2=>yN g ss gc wx h1 h2;have HR:=aa hr;have HR1:=aa hR1;have HR2:=aa hR2;have HX:=aa hx;clear hr hR1 hR2 hx;have hb0:Below w.heap.size w (((w.alloc (Cc #[Bb xn,U vs1 vx.length vc1,U fs1 fx.length fc1] 28)).alloc (Cc #[Bb false,U nO 0 0,U nO 0 0] 28)).alloc (Cc #[Bb xn,U nO 0 0,U nO 0 0] 28)):=by go_grown
 have A0:=(XAt.new w ⟨xn,vx,fx⟩ vs1 vc1 fs1 fc1).call (w':=(((w.alloc (Cc #[Bb xn,U vs1 vx.length vc1,U fs1 fx.length fc1] 28)).alloc (Cc #[Bb false,U nO 0 0,U nO 0 0] 28)).alloc (Cc #[Bb xn,U nO 0 0,U nO 0 0] 28))) (by go_grown);have C0:=(X3.new (w.alloc (Cc #[Bb xn,U vs1 vx.length vc1,U fs1 fx.length fc1] 28)) 28 (Bb false) (U nO 0 0) (U nO 0 0)).call (w':=(((w.alloc (Cc #[Bb xn,U vs1 vx.length vc1,U fs1 fx.length fc1] 28)).alloc (Cc #[Bb false,U nO 0 0,U nO 0 0] 28)).alloc (Cc #[Bb xn,U nO 0 0,U nO 0 0] 28))) (by go_grown);have D0:=X3.new ((w.alloc (Cc #[Bb xn,U vs1 vx.length vc1,U fs1 fx.length fc1] 28)).alloc (Cc #[Bb false,U nO 0 0,U nO 0 0] 28)) 28 (Bb xn) (U nO 0 0) (U nO 0 0);have z0:w.heap.size+1+1+1<=(((w.alloc (Cc #[Bb xn,U vs1 vx.length vc1,U fs1 fx.length fc1] 28)).alloc (Cc #[Bb false,U nO 0 0,U nO 0 0] 28)).alloc (Cc #[Bb xn,U nO 0 0,U nO 0 0] 28)).heap.size:=by simp
 rw[zA] at C0;rw[zA,zA] at D0
 (try simp only at A0)
 go_enter Tryz.func29,Tryz.ntmps29
 go_upto_region 3 with fail
 generalize (((w.alloc (Cc #[Bb xn,U vs1 vx.length vc1,U fs1 fx.length fc1] 28)).alloc (Cc #[Bb false,U nO 0 0,U nO 0 0] 28)).alloc (Cc #[Bb xn,U nO 0 0,U nO 0 0] 28))=w1 at *;go_wp2;go_loopw [5] (λi wr=>∃(k:Nat) (vs:oA) (vc:Nat) (l:List Gc),k<=vx.length/\i=I Y k/\XAt wr w.heap.size ⟨xn,vx,fx⟩ vs1 vc1 fs1 fc1/\X3 wr (w.heap.size+1) (Bb false) (U nO 0 0) (U nO 0 0)/\X3 wr (w.heap.size+1+1) (Bb xn) (U vs l.length vc) (U nO 0 0)/\SRow wr (w.heap.size+1+1+1) (U vs l.length vc) l/\Hid (l.map Gc.g=vx.take k)/\Below w.heap.size w wr/\w.heap.size+1+1+1<=wr.heap.size) (λi _=>vx.length - (intOf i).toNat)
 case atStart=>exact⟨0,nO,0,[],j0 _,rfl,A0,C0,D0,SRow.nil _ _,rfl,hb0,z0⟩
 case round=>
  obtain⟨k,vs,vc,l,hk1,rfl,AR,CR,ZR,SR,HL,LR,zr⟩:=hrel;clear A0 C0 D0 hb0 z0;have LL:Hid (l.length=k):=by
   show _=_;have h1:=congrArg j2 HL.out;rw[j3,j4] at h1;omega
  by_cases hlt:k < vx.length
  ·have n0:(0:Int)<=(k:Int):=by omega
   have n1:(k:Int) < (vx.length:Int):=by omega
   obtain⟨b1,o1,e1,ss1,g1,G1,I1,k1,m1⟩:=(HX.out.1.below LR (lR _)) k hlt;subst e1;have hlk:=HR1.out _ (gM hlt)
   (try simp only at G1 I1)
   have zb1:b1 < w.heap.size:=la (HX.out.1) k hlt;obtain⟨⟨a0,a1,a2⟩,az,-⟩:=id AR;obtain⟨⟨y0,y1,y2⟩,yz,-⟩:=id ZR;have HKZ:Hid (∀wx,Below (w.heap.size+1+1+1) wr wx->wx.cell? ⟨w.heap.size+1+1,1,nO⟩=sO (U vs l.length vc)/\(wx.cell? ⟨w.heap.size,1,nO⟩=sO (U (sO ⟨b1,o1,nO⟩) vx.length vc1)/\(wx.cell? ⟨b1,o1+k * 7,nO⟩=sO (Bb vx[k].n)/\wx.cell? ⟨b1,o1+k * 7+1,nO⟩=sO (Bb vx[k].sp.n)/\wx.cell? ⟨b1,o1+k * 7+2,nO⟩=sO (I Y vx[k].sp.lo)/\wx.cell? ⟨b1,o1+k * 7+3,nO⟩=sO (I Y vx[k].sp.hi)/\wx.cell? ⟨b1,o1+k * 7+4,nO⟩=sO (Bb vx[k].t)/\wx.cell? ⟨b1,o1+k * 7+5,nO⟩=sO (Bb vx[k].f)/\wx.cell? ⟨b1,o1+k * 7+6,nO⟩=sO (U ss1 vx[k].s.length g1)))):=λwx hx=>⟨by rw[hx.cell (by simp only;omega)];exact y1,⟨by rw[hx.cell (by simp only;omega)];exact a1,(G1.low hx (by omega)).1⟩⟩;have HD:Below wr.heap.size wr wr.drew:=(bR _ _).drew;go_wp2;clear a0 a1 a2 az y0 y1 y2 yz;refine aw (S:=(λwx=>wx.cell? ⟨w.heap.size+1+1,1,nO⟩=sO (U vs l.length vc)/\(wx.cell? ⟨w.heap.size,1,nO⟩=sO (U (sO ⟨b1,o1,nO⟩) vx.length vc1)/\(wx.cell? ⟨b1,o1+k * 7,nO⟩=sO (Bb vx[k].n)/\wx.cell? ⟨b1,o1+k * 7+1,nO⟩=sO (Bb vx[k].sp.n)/\wx.cell? ⟨b1,o1+k * 7+2,nO⟩=sO (I Y vx[k].sp.lo)/\wx.cell? ⟨b1,o1+k * 7+3,nO⟩=sO (I Y vx[k].sp.hi)/\wx.cell? ⟨b1,o1+k * 7+4,nO⟩=sO (Bb vx[k].t)/\wx.cell? ⟨b1,o1+k * 7+5,nO⟩=sO (Bb vx[k].f)/\wx.cell? ⟨b1,o1+k * 7+6,nO⟩=sO (U ss1 vx[k].s.length g1))))) [12] (by kernel_rfl) (HKZ.out _ (HD.mono zr)) (λhHeld=> ?_);refine vZ 0 ?_ ?_;refine vZ 1 ?_ ?_;refine vZ 2 ?_ ?_;refine vZ 3 ?_ ?_;refine vZ 4 ?_ ?_;refine vZ 5 ?_ ?_;refine vZ 6 ?_ ?_;refine vZ 7 ?_ ?_;refine am (i:=8) rfl (by kernel_rfl) (λK hK=> ?_);go_simp;go_at_call 68;refine(HO.out vx[k] ss1 g1 _ (I1.call HD) hlk).mono ?_;rintro e w5 ⟨⟨js,jc,rfl,HI5,HJ1,HJ2,HF5⟩,hb5⟩;have HW5:Below wr.heap.size wr w5:=HD.trans (hb5.mono HD.size);have HB5:Below (w.heap.size+1+1+1) wr w5:=HW5.mono zr;go_wp2_with fail;refine hK.out _ _ (HKZ.out _ HB5) (λhHeld=> ?_);clear hK K;refine sm ?_;refine am (i:=9) rfl (by kernel_rfl) (λK hK=> ?_);go_simp;have HW6:Below wr.heap.size wr (w5.alloc (Cc #[Bb vx[k].n,Bb vx[k].sp.n,I Y vx[k].sp.lo,I Y vx[k].sp.hi,Bb vx[k].t,Bb vx[k].f,U js vx[k].s.length jc] 91)):=HW5.alloc HW5.size _;have HB6:Below (w.heap.size+1+1+1) wr (w5.alloc (Cc #[Bb vx[k].n,Bb vx[k].sp.n,I Y vx[k].sp.lo,I Y vx[k].sp.hi,Bb vx[k].t,Bb vx[k].f,U js vx[k].s.length jc] 91)):=HW6.mono zr;refine hK.out _ _ (HKZ.out _ HB6) (λhHeld=> ?_);clear hK K;refine sm ?_;refine am (i:=10) rfl (by kernel_rfl) (λK hK=> ?_);have S6:=SR.call HW6;have GX:bH (λb=>w.heap.size+1+1+1<=b/\(j8 vs l.length vc).ownBlock≠sO b) (w5.alloc (Cc #[Bb vx[k].n,Bb vx[k].sp.n,I Y vx[k].sp.lo,I Y vx[k].sp.hi,Bb vx[k].t,Bb vx[k].f,U js vx[k].s.length jc] 91)) ⟨vx[k],js,jc⟩:=gK HI5 HJ1 HJ2 HF5 zr (λe=>(aH SR.1 e).1) (by go_grown) (HD.size);refine dK _ rfl _ _ 25 rfl (w.heap.size+1+1+1) 91 ti (Ag #[Bb false,Bb false,I Y 0,I Y 0,Bb false,Bb false,U nO 0 0]) 7 64 Tryz.underlying25 hi hz0 hz1 hz2 rfl (by decide) _ _ _ rfl S6.1 (sO ⟨w5.heap.size,0,nO⟩) 1 1 (bh ⟨vx[k],js,jc⟩) rfl rfl (λh=>by cases h) (kJ w5 ⟨vx[k],js,jc⟩ #[Bb vx[k].n,Bb vx[k].sp.n,I Y vx[k].sp.lo,I Y vx[k].sp.hi,Bb vx[k].t,Bb vx[k].f,U js vx[k].s.length jc] _ rfl) (dg _) (by unfold maxLen;have:=LL.out;omega) (by have:=LL.out;omega) (by rw[zA];have:=HW5.size;omega) ?_;intro v' w7 hown hgrow hat;have S7:=S6.grown (x:=⟨vx[k],js,jc⟩) GX hown hgrow hat;have HB7:Below (w.heap.size+1+1+1) wr w7:=HB6.grown hgrow (by rw[zA];have:=HW5.size;omega) (λk hk=>(aH S6.1 hk).2)
   obtain⟨vs',vc',rfl,-,-,-⟩:=S7.in;refine hK.out _ _ (HKZ.out _ HB7) (λhHeld=> ?_);clear hK K hown hgrow hat S6 GX HB6 HW6 HB5 HW5 HI5 HF5;refine sm ?_;refine vZ 11 ?_ ?_;refine bo (i:=12) rfl (by kernel_rfl) (by kernel_rfl) (λK hK=> ?_);have Z7:X3 w7 (w.heap.size+1+1) (Bb xn) (U vs l.length vc) (U nO 0 0):=ZR.same (HB7.block _ (by omega)) HB7.size;obtain⟨⟨y0,y1,y2⟩,yz,yf⟩:=id Z7;have yf1:=yf 1;clear yf;go_simp;refine hK.out _ _ ?_;clear hK K;refine sm ?_;refine ap (by kernel_rfl) ?_ _;clear y0 y1 y2 yz yf1;have A7:XAt w7 w.heap.size ⟨xn,vx,fx⟩ _ vc1 fs1 fc1:=AR.same (HB7.block _ (by omega)) HB7.size;have C7:X3 w7 (w.heap.size+1) (Bb false) (U nO 0 0) (U nO 0 0):=CR.same (HB7.block _ (by omega)) HB7.size;have L7:=LR.trans (HB7.mono (by omega));have z7:w.heap.size+1+1+1<=w7.heap.size:=lT zr HB7.size;have e7:∀b,b≠w.heap.size+1+1->(w7.setCell ⟨w.heap.size+1+1,1,nO⟩ (U vs' (l++[(⟨vx[k],js,jc⟩:Gc)]).length vc')).heap[b]? =w7.heap[b]? :=λb hb=>hSe _ _ _ _ hb;have s7:w7.heap.size<=(w7.setCell ⟨w.heap.size+1+1,1,nO⟩ (U vs' (l++[(⟨vx[k],js,jc⟩:Gc)]).length vc')).heap.size:=by simp[j1]
   clear AR CR ZR SR LR zr HKZ;go_wp2;go_roundw
   case rel=>exact⟨k+1,vs',vc',l++[⟨vx[k],js,jc⟩],by omega,by go_num,by first|exact A7.same (e7 _ (by omega)) s7|(simpa using A7.same (e7 _ (by omega)) s7),by first|exact C7.same (e7 _ (by omega)) s7|(simpa using C7.same (e7 _ (by omega)) s7),by first|exact Z7.put1 _|(simpa using Z7.put1 (U vs' (l++[(⟨vx[k],js,jc⟩:Gc)]).length vc')),by first|exact S7.old (λb hb=>e7 b (by omega)) s7|(simpa using S7.old (λb hb=>e7 b (by omega)) s7),by show _=_;rw[j9,HL.out,j6 hlt];rfl,by first|exact L7.setCell (by simp only;omega) _|(simpa using L7.setCell (p:=⟨w.heap.size+1+1,1,nO⟩) (by simp only;omega) (U vs' (l++[(⟨vx[k],js,jc⟩:Gc)]).length vc')),by simpa[j1] using z7⟩
   case measure=>simp[intOf];omega
  ·have n1':¬(k:Int) < (vx.length:Int):=by omega
   have et1:vx.take k=vx:=j5 (by omega);have HLV:Hid (l.map Gc.g=vx):=by show _=_;rw[HL.out,et1]
   have GV:VRow (λb=>w.heap.size+1+1+1<=b/\b < wr.heap.size) wr (w.heap.size+1+1+1) (U vs l.length vc) l:=SR.vrow.mono λb h1 h2=>⟨h1,h2⟩;clear SR LL HL et1;have zn:w.heap.size+1+1+1<=wr.heap.size:=zr;obtain⟨⟨a0,a1,a2⟩,az,-⟩:=id AR;generalize hN:wr.heap.size=N at *;have HNN:=aa hN;clear hN;go_wp2;clear a0 a1 a2 az;go_loopw [6] (λi wr=>∃(k:Nat) (fs:oA) (fc:Nat) (L:List Ro),k<=fx.length/\i=I Y k/\XAt wr w.heap.size ⟨xn,vx,fx⟩ vs1 vc1 fs1 fc1/\X3 wr (w.heap.size+1) (Bb false) (U nO 0 0) (U nO 0 0)/\X3 wr (w.heap.size+1+1) (Bb xn) (U vs l.length vc) (U fs L.length fc)/\FRowS wr N (U fs L.length fc) L/\Hid (L.map roG=fx.take k)/\VRow (λb=>w.heap.size+1+1+1<=b/\b < N) wr (w.heap.size+1+1+1) (U vs l.length vc) l/\Below w.heap.size w wr/\N<=wr.heap.size) (λi _=>fx.length - (intOf i).toNat)
   case atStart=>exact⟨0,nO,0,[],j0 _,rfl,AR,CR,ZR,FRowS.nil _ _,rfl,GV,LR,by rw[HNN.out];exact lR _⟩
   case round=>
    clear AR CR ZR GV LR zr HNN;obtain⟨k2,fs,fc,L,hk2,rfl,AR,CR,ZR,FR,HL,GV,LR,zr⟩:=hrel;generalize wr=w6 at *;clear wr;have LL:Hid (L.length=k2):=by
     show _=_;have h1:=congrArg j2 HL.out;rw[j3,j4] at h1;omega
    obtain⟨⟨a0,a1,a2⟩,az,-⟩:=id AR;by_cases hlt2:k2 < fx.length
    ·have n0:(0:Int)<=(k2:Int):=by omega
     have n2':(k2:Int) < (fx.length:Int):=by omega
     go_wp2;clear a0 a1 a2 az;go_loopw [7,8] (λr i2 wo=>∃(m:Nat) (rs:oA) (rc:Nat) (lr:List Gc),m<=fx[k2].length/\r=U rs lr.length rc/\i2=I Y m/\Below w6.heap.size w6 wo/\SRow wo w6.heap.size (U rs lr.length rc) lr/\Hid (lr.map Gc.g=fx[k2].take m)) (λ_ i2 _=>fx[k2].length - (intOf i2).toNat)
     case atStart=>exact⟨0,nO,0,[],j0 _,rfl,rfl,bR _ _,SRow.nil _ _,rfl⟩
     case round=>
      obtain⟨m,rs,rc,lr,hm,rfl,rfl,hbo,SR,HM⟩:=hrel;have h3:=HR.out k2 hlt2;have LM:Hid (lr.length=m):=by
       show _=_;have h1:=congrArg j2 HM.out;rw[j3,j4] at h1;omega
      obtain⟨⟨a0,a1,a2⟩,az,-⟩:=id (AR.call hbo);obtain⟨p1,q1,e1,zp1,r1,rc1,C1,k1,m1,J1⟩:=HX.out.2 k2 hlt2;have hwo:=LR.trans (hbo.mono LR.size);have D1:wr.cell? ⟨p1,q1+k2,nO⟩=sO (U r1 fx[k2].length rc1):=by rw[hwo.cell (by simp only;exact zp1)];exact C1
      subst e1;clear C1;by_cases hltm:m < fx[k2].length
      ·have m0:(0:Int)<=(m:Int):=by omega
       have m1':(m:Int) < (fx[k2].length:Int):=by omega
       obtain⟨b1,o1,e1,ss1,g1,G1,I1,l1,l2⟩:=(J1.below hwo (lR _)) m hltm;subst e1;have hlk:=HR2.out k2 hlt2 _ (gM hltm);obtain⟨⟨q0',q1',q2',q3',q4',q5',q6'⟩,qz'⟩:=id G1;go_wp2_with (go_at_call 68;fail);refine(HO.out fx[k2][m] ss1 g1 _ I1 hlk).mono ?_;rintro e w7 ⟨⟨js,jc,rfl,HI5,HJ1,HJ2,HF5⟩,hb7⟩;clear q0' q1' q2' q3' q4' q5' q6' qz' G1 a0 a1 a2 az D1;have HW8:Below wr.heap.size wr (w7.alloc (Cc #[Bb fx[k2][m].n,Bb fx[k2][m].sp.n,I Y fx[k2][m].sp.lo,I Y fx[k2][m].sp.hi,Bb fx[k2][m].t,Bb fx[k2][m].f,U js fx[k2][m].s.length jc] 91)):=hb7.alloc hb7.size _;have S8:=SR.call HW8;have z67:w6.heap.size<=wr.heap.size:=hbo.size;have GX:bH (λb=>w6.heap.size<=b/\(j8 rs lr.length rc).ownBlock≠sO b) (w7.alloc (Cc #[Bb fx[k2][m].n,Bb fx[k2][m].sp.n,I Y fx[k2][m].sp.lo,I Y fx[k2][m].sp.hi,Bb fx[k2][m].t,Bb fx[k2][m].f,U js fx[k2][m].s.length jc] 91)) ⟨fx[k2][m],js,jc⟩:=gK HI5 HJ1 HJ2 HF5 z67 (λe=>(aH SR.1 e).1) (by go_grown) (lR _);go_wp2_with (at_builtin;refine aT _ rfl _ _ 25 rfl w6.heap.size 91 ti (Ag #[Bb false,Bb false,I Y 0,I Y 0,Bb false,Bb false,U nO 0 0]) 7 64 Tryz.underlying25 hi hz0 hz1 hz2 rfl (by decide) _ _ _ rfl S8.1 (sO ⟨w7.heap.size,0,nO⟩) 1 1 (bh ⟨fx[k2][m],js,jc⟩) rfl rfl (λh=>by cases h) ?qc2 (dg _) ?qc4 ?qc5 ?qc6 ?_)
       (try (case qc2=>exact kJ w7 ⟨fx[k2][m],js,jc⟩ #[Bb fx[k2][m].n,Bb fx[k2][m].sp.n,I Y fx[k2][m].sp.lo,I Y fx[k2][m].sp.hi,Bb fx[k2][m].t,Bb fx[k2][m].f,U js fx[k2][m].s.length jc] _ rfl))
       case qc4=>unfold maxLen;have:=LM.out;omega
       case qc5=>have:=LM.out;omega
       (try (case qc6=>have:=hb7.size;first|omega|(rw[zA];omega)|(simp;omega)|simp))
       intro v' w9 hown hgrow hat;have S9:=S8.grown (x:=⟨fx[k2][m],js,jc⟩) GX hown hgrow (by rw[zA];exact hat);have hb9:Below w6.heap.size w6 w9:=(hbo.trans (HW8.mono hbo.size)).grown hgrow (by rw[zA];have:=hb7.size;omega) (λk hk=>(aH S8.1 hk).2)
       obtain⟨rs',rc',rfl,-,-,-⟩:=S9.in;clear SR hbo hown hgrow hat S8 GX HW8 HI5 HF5;go_wp2;go_roundw
       case rel=>exact⟨m+1,rs',rc',lr++[⟨fx[k2][m],js,jc⟩],by omega,by first|rfl|(rw[q0];rfl),by go_num,hb9,S9,by show _=_;rw[j9,HM.out,j6 hltm];rfl⟩
       case measure=>simp[intOf];omega
      ·have m1':¬(m:Int) < (fx[k2].length:Int):=by omega
       have et1:fx[k2].take m=fx[k2]:=j5 (by omega);have HRL:Hid (roG ⟨rs,rc,lr⟩=fx[k2]):=by show lr.map Gc.g=_;rw[HM.out,et1]
       have A9:=AR.call hbo;have C9:=CR.call hbo;have Z9:=ZR.call hbo;have F9:=FR.call hbo;have V9:=GV.call hbo;have L9:=hwo;have z9:N<=wr.heap.size:=lT zr hbo.size;have z69:=zr;clear AR CR ZR GV LR zr LM HM hwo et1;generalize wr=w9 at *;clear wr;obtain⟨⟨y0,y1,y2⟩,yz,yf⟩:=id Z9;have hba:Below w6.heap.size w6 (w9.alloc (Cc #[U rs lr.length rc] 25)):=hbo.alloc hbo.size _;have F10:=FR.call hba;have VX:VRow (λb=>w6.heap.size<=b) (w9.alloc (Cc #[U rs lr.length rc] 25)) w6.heap.size (roV ⟨rs,rc,lr⟩) lr:=SR.vrow.call (by go_grown);go_wp2_with (at_builtin;refine aT _ rfl _ _ 26 rfl N 25 tk (U nO 0 0) 1 24 Tryz.underlying26 hk hx0 hx1 hx2 rfl (by decide) _ _ _ rfl F10.own (sO ⟨w9.heap.size,0,nO⟩) 1 1 [U rs lr.length rc] rfl rfl (λh=>by cases h) ?qc2 (by intro u hu;rw[q5.1 hu];rfl) ?qc4 ?qc5 ?qc6 ?_)
       (try (case qc2=>exact sP w9 _ _))
       case qc4=>unfold maxLen;have:=LL.out;omega
       case qc5=>have:=LL.out;omega
       (try (case qc6=>first|omega|(rw[zA];omega)|(simp;omega)|simp))
       intro v' w10 hown hgrow hat;have F11:=FR.grown hba z69 (x:=⟨rs,rc,lr⟩) VX hown hgrow (by rw[zA];exact hat);have hb10:Below N w9 w10:=((bR _ w9).alloc z9 _).grown hgrow (by simp;omega) (λk hk=>(aH F10.own hk).2);obtain⟨fs',fc',rfl⟩:=F11.form;clear hown hgrow hat F10 F9 FR SR hbo hba VX y0 y1 y2 yz yf a0 a1 a2 az D1;have A4:XAt w10 w.heap.size ⟨xn,vx,fx⟩ _ vc1 _ fc1:=A9.same (hb10.block _ (by omega)) hb10.size;have C4:X3 w10 (w.heap.size+1) (Bb false) (U nO 0 0) (U nO 0 0):=C9.same (hb10.block _ (by omega)) hb10.size;have Z4:X3 w10 (w.heap.size+1+1) (Bb xn) (U vs l.length vc) (U fs L.length fc):=Z9.same (hb10.block _ (by omega)) hb10.size;have V4:VRow (λb=>w.heap.size+1+1+1<=b/\b < N) w10 (w.heap.size+1+1+1) (U vs l.length vc) l:=V9.same (λb hS _=>hb10.block b hS.2) hb10.size;have L4:=L9.trans (hb10.mono (by omega));have z4:N<=w10.heap.size:=lT z9 hb10.size;clear A9 C9 Z9 V9 L9 z9 hb10;obtain⟨⟨y0,y1,y2⟩,yz,yf⟩:=id Z4;have yf2:=yf 2;clear yf;have e7:∀(x:Value) b,b≠w.heap.size+1+1->(w10.setCell ⟨w.heap.size+1+1,2,nO⟩ x).heap[b]? =w10.heap[b]? :=λx b hb=>hSe _ _ _ _ hb;have s7:∀(x:Value),w10.heap.size<=(w10.setCell ⟨w.heap.size+1+1,2,nO⟩ x).heap.size:=λx=>by simp[j1]
       have E7:=aa e7;have S7:=aa s7;clear e7 s7;go_wp2;go_roundw
       case rel=>exact⟨k2+1,fs',fc',L++[⟨rs,rc,lr⟩],by omega,by go_num,A4.same (E7.out _ _ (by omega)) (S7.out _),C4.same (E7.out _ _ (by omega)) (S7.out _),by first|exact Z4.put2 _|(rw[q0];exact Z4.put2 _),F11.olden (λb hb _=>E7.out _ b (by omega)) (S7.out _),by show _=_;rw[j9,HL.out,j6 hlt2,List.map_cons,HRL.out];rfl,V4.same (λb hS _=>E7.out _ b (by omega)) (S7.out _),L4.setCell (by simp only;omega) _,by simpa[j1] using z4⟩
       case measure=>simp[intOf];omega
    ·have n2':¬(k2:Int) < (fx.length:Int):=by omega
     have et1:fx.take k2=fx:=j5 (by omega);have hch:∀b,b≠w.heap.size+1->(((w6.setCell ⟨w.heap.size+1,0,nO⟩ (Bb xn)).setCell ⟨w.heap.size+1,1,nO⟩ (U vs l.length vc)).setCell ⟨w.heap.size+1,2,nO⟩ (U fs L.length fc)).heap[b]? =w6.heap[b]? :=λb hb=>by rw[hSe _ _ _ _ hb,hSe _ _ _ _ hb,hSe _ _ _ _ hb]
     have hcz:w6.heap.size<=(((w6.setCell ⟨w.heap.size+1,0,nO⟩ (Bb xn)).setCell ⟨w.heap.size+1,1,nO⟩ (U vs l.length vc)).setCell ⟨w.heap.size+1,2,nO⟩ (U fs L.length fc)).heap.size:=by simp[j1]
     have FX:=FR.olden (w':=(((w6.setCell ⟨w.heap.size+1,0,nO⟩ (Bb xn)).setCell ⟨w.heap.size+1,1,nO⟩ (U vs l.length vc)).setCell ⟨w.heap.size+1,2,nO⟩ (U fs L.length fc))) (λb hb _=>hch b (by omega)) hcz;have GX:=GV.same (w':=(((w6.setCell ⟨w.heap.size+1,0,nO⟩ (Bb xn)).setCell ⟨w.heap.size+1,1,nO⟩ (U vs l.length vc)).setCell ⟨w.heap.size+1,2,nO⟩ (U fs L.length fc))) (λb hS _=>hch b (by omega)) hcz;have BX:Below w.heap.size w (((w6.setCell ⟨w.heap.size+1,0,nO⟩ (Bb xn)).setCell ⟨w.heap.size+1,1,nO⟩ (U vs l.length vc)).setCell ⟨w.heap.size+1,2,nO⟩ (U fs L.length fc)):=((LR.setCell (by simp only;omega) _).setCell (by simp only;omega) _).setCell (by simp only;omega) _;have PX:=((FX.pic GX (λb h=>h) zn).mono (T':=λb=>w.heap.size<=b) λb hb _=>by omega).down (C:=w.heap.size) (by omega);have HPX:Hid (EQ w.heap.size (((w6.setCell ⟨w.heap.size+1,0,nO⟩ (Bb xn)).setCell ⟨w.heap.size+1,1,nO⟩ (U vs l.length vc)).setCell ⟨w.heap.size+1,2,nO⟩ (U fs L.length fc)) (Rt (Ag #[Bb xn,U vs l.length vc,U fs L.length fc])) ⟨xn,vx,fx⟩):=⟨⟨vs,vc,l⟩,fs,fc,L,by unfold aL;rw[show roG ⟨vs,vc,l⟩=vx from HLV.out,HL.out,et1],rfl,PX⟩;obtain⟨⟨y0,y1,y2⟩,yz,yf⟩:=id ZR;obtain⟨⟨d0,d1,d2⟩,dz,df⟩:=id CR;have f0:=df 0;have f1:=df 1;have f2:=df 2;clear df yf hch hcz FX GX et1 PX;go_wp2;refine bodyPost_ret (v:=Ag #[Bb xn,U vs l.length vc,U fs L.length fc]) (by simp[results,Tryz.results29,go_sem,d0,d1,d2]) rfl ⟨HPX.out,BX⟩
structure SCtx (V F:Int) (c:List Ins) (x:Pic) (vc fc:Nat) (i:Ins) (at_:Int):Prop where
 h0:ah V F c=0
 kx:PicOk V F c x
 hi:i=bu c at_
 a0:0<=at_
 a1:at_ < c.length
 cv:x.vars.length<=vc/\vc<=maxLen
 cf:x.flds.length<=fc/\fc<=maxLen
section
variable {V F:Int} {c:List Ins} {x:Pic} {vc fc:Nat} {i:Ins} {at_:Int}
theorem SCtx.one (K:SCtx V F c x vc fc i at_):aW V F c.length i=0:=by rw[K.hi];exact(de K.h0).each _ (nr K.a0 K.a1)
theorem SCtx.lens (K:SCtx V F c x vc fc i at_):x.vars.length<=8/\c.length<=60/\x.flds.length=c.length/\0<=F/\F<=3/\0<=V:=by
 have hp:=de K.h0;have:=hp.v1;have:=hp.v8;have:=hp.f0;have:=hp.f3;have:=hp.len;have:=K.kx.vars;have:=K.kx.flds;omega
theorem dJ {x:Pic}{k:Nat}(h:k < x.vars.length):gAt x (k:Int)=x.vars[k]:=by unfold gAt;simp[List.getD,List.getElem?_eq_getElem h]
theorem lI {p:Prop}(h:p:=by
 have hv:=K.kx.vars;obtain⟨k,hk⟩:=Int.eq_ofNat_of_zero_le this.1;exact⟨k,hk,by omega⟩):p:=h
theorem SCtx.varA (K:SCtx V F c x vc fc i at_)(hA:nA i.k=true):∃k:Nat,i.a=k/\k < x.vars.length:=by
 have:=(bX K.one).2.2.1 hA;exact lI
theorem SCtx.varB (K:SCtx V F c x vc fc i at_)(hB:nB i.k=true):∃k:Nat,i.b=k/\k < x.vars.length:=by
 have:=(bX K.one).2.2.2.1 hB;exact lI
theorem SCtx.varTo (K:SCtx V F c x vc fc i at_)(hT:nTo i.k=true):∃k:Nat,i.tgt=k/\k < x.vars.length:=by
 have:=(bX K.one).2.1 hT;exact lI
theorem SCtx.uno (K:SCtx V F c x vc fc i at_){g:Gs}(hg:aq c g=0):aQ V F c [g]=0:=by unfold aQ;rw[if_pos K.h0];unfold bU;rw[if_pos hg];rfl
theorem SCtx.duo (K:SCtx V F c x vc fc i at_){g h:Gs}(hg:aq c g=0)(hh:aq c h=0):aQ V F c [g,h]=0:=by unfold aQ;rw[if_pos K.h0];unfold bU;rw[if_pos hg];unfold bU;rw[if_pos hh];rfl
end
theorem lX (sb:Nat)(i:Ins)(V F:Int)(s:oA)(c:List Ins)(cap:Nat)(at_:Int)(x:Pic)(vs:oA)(vc:Nat)(fs:oA)(fc:Nat)(ev:Value)(wr fl:Bool)(w:World)(hS:Cells w sb (aM i V F s c cap at_ x vs vc fs fc ev wr fl))(hc:CodeAt w s c)(hx:PicAt w x vs fs)(K:SCtx V F c x vc fc i at_)(hA:nA i.k=true):
  Calls pG 95 #[Pp (sO ⟨sb,0,nO⟩)] w λe w'=>e=Rt (Tu #[Bb (bT (gAt x i.a)),Bb (cA (gAt x i.a))])/\Below w.heap.size w w':=by
 obtain⟨k,ek,hk⟩:=K.varA hA;have eg:gAt x i.a=x.vars[k]:=by rw[ek,dJ hk]
 rw[eg];have hgk:=K.kx.gv _ (gM hk);obtain⟨b1,o1,e1,ss1,g1,G1,I1,k1,m1⟩:=hx.1 k hk;subst e1;have n0:(0:Int)<=(k:Int):=by omega
 have n1:(k:Int) < (x.vars.length:Int):=by omega
 have HT:Hid (∀wx,Below w.heap.size w wx->Calls pG 160 #[pv V F s c cap,gv x.vars[k] ss1 g1] wx λe w'=>e=Rt (Tu #[Bb (bT x.vars[k]),Bb (cA x.vars[k]),I Y 0])/\Below wx.heap.size wx w'):=λwx hb=>Ea V F s c cap x.vars[k] ss1 g1 wx (hc.call hb) (I1.call hb) k1 m1 (K.uno hgk);have HKZ:Hid (∀wx,Below w.heap.size w wx->(wx.cell? ⟨sb,6,nO⟩=sO (I Y V)/\wx.cell? ⟨sb,7,nO⟩=sO (I Y F)/\wx.cell? ⟨sb,8,nO⟩=sO (U s c.length cap))/\(wx.cell? ⟨sb,2,nO⟩=sO (I Y (k:Int))/\wx.cell? ⟨sb,11,nO⟩=sO (U (sO ⟨b1,o1,nO⟩) x.vars.length vc))/\(wx.cell? ⟨b1,o1+k * 7,nO⟩=sO (Bb x.vars[k].n)/\wx.cell? ⟨b1,o1+k * 7+1,nO⟩=sO (Bb x.vars[k].sp.n)/\wx.cell? ⟨b1,o1+k * 7+2,nO⟩=sO (I Y x.vars[k].sp.lo)/\wx.cell? ⟨b1,o1+k * 7+3,nO⟩=sO (I Y x.vars[k].sp.hi)/\wx.cell? ⟨b1,o1+k * 7+4,nO⟩=sO (Bb x.vars[k].t)/\wx.cell? ⟨b1,o1+k * 7+5,nO⟩=sO (Bb x.vars[k].f)/\wx.cell? ⟨b1,o1+k * 7+6,nO⟩=sO (U ss1 x.vars[k].s.length g1))):=λwx hb=>⟨⟨(hS.call hb).1 6 _ rfl,(hS.call hb).1 7 _ rfl,(hS.call hb).1 8 _ rfl⟩,⟨by rw[<-ek];exact(hS.call hb).1 2 _ rfl,(hS.call hb).1 11 _ rfl⟩,(G1.call hb).1⟩;clear hS hc hx eg ek hA;go_enter Tryz.func95,Tryz.ntmps95
 go_upto_region 1 with fail
 have B1:Below w.heap.size w w.drew:=(bR _ _).drew;refine wp_region_held_drew (S:=(λwx=>(wx.cell? ⟨sb,6,nO⟩=sO (I Y V)/\wx.cell? ⟨sb,7,nO⟩=sO (I Y F)/\wx.cell? ⟨sb,8,nO⟩=sO (U s c.length cap))/\(wx.cell? ⟨sb,2,nO⟩=sO (I Y (k:Int))/\wx.cell? ⟨sb,11,nO⟩=sO (U (sO ⟨b1,o1,nO⟩) x.vars.length vc))/\(wx.cell? ⟨b1,o1+k * 7,nO⟩=sO (Bb x.vars[k].n)/\wx.cell? ⟨b1,o1+k * 7+1,nO⟩=sO (Bb x.vars[k].sp.n)/\wx.cell? ⟨b1,o1+k * 7+2,nO⟩=sO (I Y x.vars[k].sp.lo)/\wx.cell? ⟨b1,o1+k * 7+3,nO⟩=sO (I Y x.vars[k].sp.hi)/\wx.cell? ⟨b1,o1+k * 7+4,nO⟩=sO (Bb x.vars[k].t)/\wx.cell? ⟨b1,o1+k * 7+5,nO⟩=sO (Bb x.vars[k].f)/\wx.cell? ⟨b1,o1+k * 7+6,nO⟩=sO (U ss1 x.vars[k].s.length g1)))) (by kernel_rfl) (HKZ.out _ B1) (λhHeld=> ?_);generalize w.drew=w1 at *;refine vH 0 ?_ ?_;refine vH 1 ?_ ?_;refine vH 2 ?_ ?_;refine vH 3 ?_ ?_;refine vH 4 ?_ ?_;refine vH 5 ?_ ?_;refine vH 6 ?_ ?_;refine vH 7 ?_ ?_;refine vH 8 ?_ ?_;refine vH 9 ?_ ?_;refine vH 10 ?_ ?_;refine vH 11 ?_ ?_;refine vH 12 ?_ ?_;refine vH 13 ?_ ?_;refine vH 14 ?_ ?_;refine vH 15 ?_ ?_;refine wpAnyH_ready (rs:=[16]) (by kernel_rfl) (by simp) ?_;refine AllReadyH.cons rfl (λK hK=> ?_) AllReadyH.nil;go_simp;refine(HT.out w1 B1).mono ?_;rintro e w2 ⟨rfl,hb2⟩;have B2:=B1.trans (hb2.mono (B1.size));refine hK.out _ _ (HKZ.out _ B2) (λhHeld2=> ?_);clear hK K hb2 B1;refine sm ?_;refine vH 17 ?_ ?_;refine vH 18 ?_ ?_;refine vH 19 ?_ ?_;refine vH 20 ?_ ?_;refine vH 21 ?_ ?_;refine vH 22 ?_ ?_;refine vH 23 ?_ ?_;refine wpAnyH_done (by kernel_rfl) ?_ _;go_wp2;refine bodyPost_ret (v:=Tu #[Bb (bT x.vars[k]),Bb (cA x.vars[k])]) (by simp[results,Tryz.results95,go_sem]) rfl ⟨rfl,B2⟩
def ModS (sb:Nat)(w w':World):Prop:=Below sb w w'/\∀b,b < w.heap.size->b≠sb->w'.heap[b]? =w.heap[b]?
theorem ModS.of {sb:Nat}{w w':World}(h:Below w.heap.size w w')(hs:sb < w.heap.size):ModS sb w w':=⟨h.mono (Nat.le_of_lt hs),λb hb _=>h.block b hb⟩
theorem ModS.trans {sb:Nat}{w w1 w2:World}(h:ModS sb w w1)(h':ModS sb w1 w2):ModS sb w w2:=⟨h.1.trans h'.1,λb hb hne=>by rw[h'.2 b (lL hb h.1.size) hne,h.2 b hb hne]⟩
theorem ModS.put {sb:Nat}{w w1:World}(h:ModS sb w w1)(j:Nat)(u:Value):ModS sb w (w1.setCell ⟨sb,j,nO⟩ u):=⟨h.1.setCell (lR _) _,λb hb hne=>by rw[hSe _ _ _ _ hne];exact h.2 b hb hne⟩
theorem sR (sb:Nat)(i:Ins)(V F:Int)(s:oA)(c:List Ins)(cap:Nat)(at_:Int)(x:Pic)(vs:oA)(vc:Nat)(fs:oA)(fc:Nat)(ev:Value)(wr fl:Bool)(w0 w:World)(hS:Cells w sb (aM i V F s c cap at_ x vs vc fs fc ev wr fl))(hc0:CodeAt w0 s c)(hx0:PicAt w0 x vs fs)(hz0:w0.heap.size<=sb)(hB0:Below w0.heap.size w0 w)(K:SCtx V F c x vc fc i at_)(hA:nA i.k=true):
  Calls pG 154 #[Pp (sO ⟨sb,0,nO⟩)] w λe w'=>(∃ss gc,e=Rt (U ss (gAt x i.a).s.length gc)/\IntsAt w0 ss (gAt x i.a).s/\(gAt x i.a).s.length<=gc/\gc<=maxLen)/\Cells w' sb (aM i V F s c cap at_ x vs vc fs fc ev (bB (gAt x i.a)) fl)/\ModS sb w w':=by
 have hx:=hx0;obtain⟨k,ek,hk⟩:=K.varA hA;have eg:gAt x i.a=x.vars[k]:=by rw[ek,dJ hk]
 rw[eg];have hgk:=K.kx.gv _ (gM hk);obtain⟨b1,o1,e1,ss1,g1,G1,I1,k1,m1⟩:=hx.1 k hk;subst e1;have n0:(0:Int)<=(k:Int):=by omega
 have n1:(k:Int) < (x.vars.length:Int):=by omega
 have I0:=I1;have HKZ:Hid (∀wx,Below w.heap.size w wx->(wx.cell? ⟨sb,2,nO⟩=sO (I Y (k:Int))/\wx.cell? ⟨sb,11,nO⟩=sO (U (sO ⟨b1,o1,nO⟩) x.vars.length vc))/\(wx.cell? ⟨b1,o1+k * 7,nO⟩=sO (Bb x.vars[k].n)/\wx.cell? ⟨b1,o1+k * 7+1,nO⟩=sO (Bb x.vars[k].sp.n)/\wx.cell? ⟨b1,o1+k * 7+2,nO⟩=sO (I Y x.vars[k].sp.lo)/\wx.cell? ⟨b1,o1+k * 7+3,nO⟩=sO (I Y x.vars[k].sp.hi)/\wx.cell? ⟨b1,o1+k * 7+4,nO⟩=sO (Bb x.vars[k].t)/\wx.cell? ⟨b1,o1+k * 7+5,nO⟩=sO (Bb x.vars[k].f)/\wx.cell? ⟨b1,o1+k * 7+6,nO⟩=sO (U ss1 x.vars[k].s.length g1))):=λwx hb=>⟨⟨by rw[<-ek];exact(hS.call hb).1 2 _ rfl,(hS.call hb).1 11 _ rfl⟩,((G1.call hB0).call hb).1⟩;have HSS:=aa hS;clear hS hc0 hx hx0 eg ek hA hgk G1;go_enter Tryz.func154,Tryz.ntmps154
 go_upto_region 1 with fail
 go_cut [3] (λt3 wc=>∃ab,t3=Pp (sO ⟨ab,0,nO⟩)/\w.heap.size<=ab/\Cells wc ab [Bb x.vars[k].n,Bb x.vars[k].sp.n,I Y x.vars[k].sp.lo,I Y x.vars[k].sp.hi,Bb x.vars[k].t,Bb x.vars[k].f,U ss1 x.vars[k].s.length g1]/\Below w.heap.size w wc)
 case first=>
  rename_i J1 K1 hJ1 hK1;have B1:Below w.heap.size w w.drew:=(bR _ _).drew;refine wp_region_held_drew (S:=(λwx=>(wx.cell? ⟨sb,2,nO⟩=sO (I Y (k:Int))/\wx.cell? ⟨sb,11,nO⟩=sO (U (sO ⟨b1,o1,nO⟩) x.vars.length vc))/\(wx.cell? ⟨b1,o1+k * 7,nO⟩=sO (Bb x.vars[k].n)/\wx.cell? ⟨b1,o1+k * 7+1,nO⟩=sO (Bb x.vars[k].sp.n)/\wx.cell? ⟨b1,o1+k * 7+2,nO⟩=sO (I Y x.vars[k].sp.lo)/\wx.cell? ⟨b1,o1+k * 7+3,nO⟩=sO (I Y x.vars[k].sp.hi)/\wx.cell? ⟨b1,o1+k * 7+4,nO⟩=sO (Bb x.vars[k].t)/\wx.cell? ⟨b1,o1+k * 7+5,nO⟩=sO (Bb x.vars[k].f)/\wx.cell? ⟨b1,o1+k * 7+6,nO⟩=sO (U ss1 x.vars[k].s.length g1)))) (by kernel_rfl) (HKZ.out _ B1) (λhHeld=> ?_);generalize w.drew=w1 at *;refine vH 0 ?_ ?_;refine vH 1 ?_ ?_;refine vH 2 ?_ ?_;refine vH 3 ?_ ?_;refine vH 4 ?_ ?_;refine vH 5 ?_ ?_;refine vH 6 ?_ ?_;refine vH 7 ?_ ?_;refine vH 8 ?_ ?_;refine vH 9 ?_ ?_;refine vH 10 ?_ ?_;refine vH 11 ?_ ?_;refine wpAnyH_ready (rs:=[12]) (by kernel_rfl) (by simp) ?_;refine AllReadyH.cons rfl (λK hK=> ?_) AllReadyH.nil;go_simp;have hb2:Below w1.heap.size w1 (w1.alloc (Cc #[Bb false,Bb false,I Y 0,I Y 0,Bb false,Bb false,U nO 0 0] 91)):=by go_grown
  have B2:=B1.trans (hb2.mono (B1.size));have A2:Cells (w1.alloc (Cc #[Bb false,Bb false,I Y 0,I Y 0,Bb false,Bb false,U nO 0 0] 91)) w1.heap.size [Bb false,Bb false,I Y 0,I Y 0,Bb false,Bb false,U nO 0 0]:=Cells.new w1 91 [Bb false,Bb false,I Y 0,I Y 0,Bb false,Bb false,U nO 0 0];have zab:=B1.size;clear B1;refine hK.out _ _ (HKZ.out _ B2) (λhHeld2=> ?_);clear hK K hb2;refine sm ?_;generalize w1.alloc (Cc #[Bb false,Bb false,I Y 0,I Y 0,Bb false,Bb false,U nO 0 0] 91)=w2 at *;generalize w1.heap.size=ab at *;refine wpAnyH_ready (rs:=[13]) (by kernel_rfl) (by simp) ?_;refine AllReadyH.cons rfl (λK hK=> ?_) AllReadyH.nil;have r0:=A2.1 0 _ rfl;have r1:=A2.1 1 _ rfl;have r2:=A2.1 2 _ rfl;have r3:=A2.1 3 _ rfl;have r4:=A2.1 4 _ rfl;have r5:=A2.1 5 _ rfl;have r6:=A2.1 6 _ rfl;have f0:=A2.2.2 0;have f1:=A2.2.2 1;have f2:=A2.2.2 2;have f3:=A2.2.2 3;have f4:=A2.2.2 4;have f5:=A2.2.2 5;have f6:=A2.2.2 6;go_simp;have A3:Cells (((((((w2.setCell ⟨ab,0,nO⟩ (Bb x.vars[k].n)).setCell ⟨ab,1,nO⟩ (Bb x.vars[k].sp.n)).setCell ⟨ab,2,nO⟩ (I Y x.vars[k].sp.lo)).setCell ⟨ab,3,nO⟩ (I Y x.vars[k].sp.hi)).setCell ⟨ab,4,nO⟩ (Bb x.vars[k].t)).setCell ⟨ab,5,nO⟩ (Bb x.vars[k].f)).setCell ⟨ab,6,nO⟩ (U ss1 x.vars[k].s.length g1)) ab [Bb x.vars[k].n,Bb x.vars[k].sp.n,I Y x.vars[k].sp.lo,I Y x.vars[k].sp.hi,Bb x.vars[k].t,Bb x.vars[k].f,U ss1 x.vars[k].s.length g1]:=(((((((A2.put 0 (by simp) _).put 1 (by simp) _).put 2 (by simp) _).put 3 (by simp) _).put 4 (by simp) _).put 5 (by simp) _).put 6 (by simp) _);have B3:Below w.heap.size w (((((((w2.setCell ⟨ab,0,nO⟩ (Bb x.vars[k].n)).setCell ⟨ab,1,nO⟩ (Bb x.vars[k].sp.n)).setCell ⟨ab,2,nO⟩ (I Y x.vars[k].sp.lo)).setCell ⟨ab,3,nO⟩ (I Y x.vars[k].sp.hi)).setCell ⟨ab,4,nO⟩ (Bb x.vars[k].t)).setCell ⟨ab,5,nO⟩ (Bb x.vars[k].f)).setCell ⟨ab,6,nO⟩ (U ss1 x.vars[k].s.length g1)):=(((((((B2.setCell (by simp only;omega) _).setCell (by simp only;omega) _).setCell (by simp only;omega) _).setCell (by simp only;omega) _).setCell (by simp only;omega) _).setCell (by simp only;omega) _).setCell (by simp only;omega) _);refine hK.out _ _ (HKZ.out _ B3) (λhHeld3=> ?_);clear hK K r0 f0 r1 f1 r2 f2 r3 f3 r4 f4 r5 f5 r6 f6 A2 B2;refine sm ?_;generalize (((((((w2.setCell ⟨ab,0,nO⟩ (Bb x.vars[k].n)).setCell ⟨ab,1,nO⟩ (Bb x.vars[k].sp.n)).setCell ⟨ab,2,nO⟩ (I Y x.vars[k].sp.lo)).setCell ⟨ab,3,nO⟩ (I Y x.vars[k].sp.hi)).setCell ⟨ab,4,nO⟩ (Bb x.vars[k].t)).setCell ⟨ab,5,nO⟩ (Bb x.vars[k].f)).setCell ⟨ab,6,nO⟩ (U ss1 x.vars[k].s.length g1))=w3 at *;refine wpAnyH_done (by kernel_rfl) ?_ _
  first|refine hK1 _ _ (Met.intro (hJ1 _ _ ?_))|refine Met.intro (hJ1 _ _ ?_)|refine hJ1 _ _ ?_
  (repeat apply Exists.intro)
  refine⟨?_,rfl⟩;exact⟨ab,rfl,zab,A3,B3⟩
 obtain⟨ab,rfl,zab,A1,B1⟩:=hcut;have S1:=HSS.out.call B1;have M1:=ModS.of B1 HSS.out.2.1;have zsb:=HSS.out.2.1;have a0:=A1.1 0 _ rfl;have a1:=A1.1 1 _ rfl;have a4:=A1.1 4 _ rfl;have a5:=A1.1 5 _ rfl;have a6:=A1.1 6 _ rfl;have s14:=S1.1 14 _ rfl;have f14:=S1.2.2 14;cases hn:x.vars[k].n with
 |true=>
  rw[hn] at a0;go_wp2;go_ret;exact⟨⟨ss1,g1,rfl,I0,k1,m1⟩,by rw[show bB x.vars[k]=true by simp[bB,hn]];exact S1.put 14 (by simp[aM]) _,M1.put 14 _⟩
 |false=>
  rw[hn] at a0;cases hp:x.vars[k].sp.n with
  |false=>
   rw[hp] at a1;go_wp2;go_ret;exact⟨⟨ss1,g1,rfl,I0,k1,m1⟩,by rw[show bB x.vars[k]=true by simp[bB,hn,hp]];exact S1.put 14 (by simp[aM]) _,M1.put 14 _⟩
  |true=>
   rw[hp] at a1;cases ht:x.vars[k].t with
   |true=>
    rw[ht] at a4;go_wp2;go_ret;exact⟨⟨ss1,g1,rfl,I0,k1,m1⟩,by rw[show bB x.vars[k]=true by simp[bB,hn,hp,ht]];exact S1.put 14 (by simp[aM]) _,M1.put 14 _⟩
   |false=>
    rw[ht] at a4;cases hf:x.vars[k].f with
    |true=>
     rw[hf] at a5;go_wp2;go_ret;exact⟨⟨ss1,g1,rfl,I0,k1,m1⟩,by rw[show bB x.vars[k]=true by simp[bB,hn,hp,ht,hf]];exact S1.put 14 (by simp[aM]) _,M1.put 14 _⟩
    |false=>
     rw[hf] at a5;go_wp2;go_ret;exact⟨⟨ss1,g1,rfl,I0,k1,m1⟩,by rw[show bB x.vars[k]=false by simp[bB,hn,hp,ht,hf]];exact S1.put 14 (by simp[aM]) _,M1.put 14 _⟩
end
section
open Go.RowKit
def doE (u k:Int):Int:=if u=0 then(if k < 4\/10 < k then 6 else 0) else u

theorem lS {c:List Ins}{g:Gs}(hn:ag g=true)(hk:aq c g=0):g=noneG:=by
 have ho:=ckSp_ok.mp (im hk);clear hk;obtain⟨n,⟨sn,lo,hi⟩,t,f,s⟩:=g;cases s with
 |cons x r=>simp[ag,aG] at hn
 |nil=>
  simp[ag,aG] at hn;obtain⟨rfl,rfl,rfl,rfl⟩:=hn;obtain⟨l1,l2⟩:=ho.2.2.1 rfl;simp only at l1 l2;subst l1 l2;rfl
theorem yd (g h:Gs):cu 4 g h=(g,false):=by simp[cu]
theorem sq (g h:Gs):cu 10 g h=(⟨false,⟨true,0,0⟩,cA g,bT g,[]⟩,false):=by simp[cu]
theorem gk {k:Int}{g h:Gs}(hk:k=5\/k=6\/k=7\/k=8\/k=9)(hn:(ag g||ag h)=true):cu k g h=(noneG,false):=by
 unfold cu;rw[if_neg (by omega),if_neg (by omega),if_pos hn]
theorem yj {k:Int}{g h:Gs}(hk:k=5\/k=6\/k=7)(hn:(ag g||ag h)=false):cu k g h=(⟨false,bY k g.sp h.sp,false,false,[]⟩,aG g||aG h):=by
 unfold cu;rw[if_neg (by omega),if_neg (by omega),if_neg (by rw[hn];simp),if_neg (by omega),if_neg (by omega)]
theorem Fr {g h:Gs}(hn:(ag g||ag h)=false):cu 8 g h=(⟨false,⟨true,0,0⟩,!(g.sp.n||h.sp.n)&&decide (g.sp.lo < h.sp.hi),!(g.sp.n||h.sp.n)&&decide (h.sp.lo<=g.sp.hi),[]⟩,aG g||aG h):=by
 unfold cu;rw[if_neg (by omega),if_neg (by omega),if_neg (by rw[hn];simp),if_neg (by omega),if_pos rfl]
theorem FB {g h:Gs}(hn:(ag g||ag h)=false):cu 9 g h=(⟨false,⟨true,0,0⟩,(g.n&&h.n)||(!(au g.sp h.sp).n||((g.t&&h.t)||((g.f&&h.f)||g.s.any λx=>h.s.contains x))),!cL g h,[]⟩,false):=by
 unfold cu;rw[if_neg (by omega),if_neg (by omega),if_neg (by rw[hn];simp),if_pos rfl]
theorem un {g:Gs}(h:ag g=true):g.sp.n=true:=by
 unfold ag at h;cases e:g.sp.n
 ·rw[e] at h;simp at h
 ·rfl
theorem pQ {g h:Gs}(hn:(ag g||ag h)=true):(g.sp.n||h.sp.n)=true:=by
 cases e:ag g
 ·rw[e] at hn
  rw[un (g:=h) (by simpa using hn)];simp
 ·rw[un e];rfl
theorem i7 (f:Gs->Bool)(g h:Gs):[g,h].any f=(f g||f h):=by simp
theorem Iv {k:Int}{g h:Gs}(hk:k=5\/k=6\/k=7):cu k g h=(⟨false,bY k g.sp h.sp,false,false,[]⟩,[g,h].any aG&& ![g,h].any ag):=by
 rw[i7,i7];cases hn:(ag g||ag h)
 ·rw[yj hk hn];simp
 ·rw[gk (by omega) hn]
  have e:bY k g.sp h.sp=⟨true,0,0⟩:=by unfold bY;rw[if_pos (pQ hn)]
  rw[e];simp[noneG]
theorem KI {g h:Gs}:cu 8 g h=(⟨false,⟨true,0,0⟩,!(g.sp.n||h.sp.n)&&decide (g.sp.lo < h.sp.hi),!(g.sp.n||h.sp.n)&&decide (h.sp.lo<=g.sp.hi),[]⟩,[g,h].any aG&& ![g,h].any ag):=by
 rw[i7,i7];cases hn:(ag g||ag h)
 ·rw[Fr hn];simp
 ·rw[gk (by omega) hn,pQ hn];simp[noneG]
theorem no_none:cA noneG=false/\bT noneG=false:=by decide

theorem lD {p:Prop}(h:p:=by
 rintro e w' ⟨rfl,hb⟩;exact⟨_,none,0,_,rfl,by rw[if_pos rfl,Iv (by omega)],.inl rfl,Nat.zero_le _,Nat.zero_le _,(λa ha=>by cases ha),λhn=>absurd rfl hn,hb⟩):p:=h
theorem doU (V F:Int)(s:oA)(c:List Ins)(cap:Nat)(g:Gs)(ss:oA)(gc:Nat)(h:Gs)(st:oA)(hc:Nat)(k:Int)(w:World)(hcd:CodeAt w s c)(hs:IntsAt w ss g.s)(h1:g.s.length<=gc)(h2:gc<=maxLen)(ht:IntsAt w st h.s)(h3:h.s.length<=hc)(h4:hc<=maxLen):
  Calls pG 164 #[pv V F s c cap,I Y k,gv g ss gc,gv h st hc] w λe w'=>∃J js jc wr,e=Rt (Tu #[gv J js jc,Bb wr,I Y (doE (aQ V F c [g,h]) k)])/\(J,wr)=(if doE (aQ V F c [g,h]) k=0 then cu k g h else(bn,false))/\IntsAt w' js J.s/\J.s.length<=jc/\jc<=maxLen/\(∀a,js=sO a->w.heap.size<=a.block)/\(doE (aQ V F c [g,h]) k≠0->js=nO/\jc=0)/\Below w.heap.size w w':=by
 by_cases hck:aQ V F c [g,h]=0
 ·obtain⟨-,hg,hh⟩:=lG hck
  have ok1:=ckSp_ok.mp (im hg);have ok2:=ckSp_ok.mp (im hh);by_cases hk:k < 4\/10 < k
  ·have he:doE (aQ V F c [g,h]) k=6:=by unfold doE;rw[if_pos hck,if_pos hk]
   rw[he];have hb0:∀j:Int,4<=j->j<=10->(k==j)=false:=λj a b=>by simp;omega
   refine(Fp V F s c cap g ss gc h st hc k w hcd hs h1 h2 ht h3 h4 hck (hb0 4 (by omega) (by omega)) (hb0 5 (by omega) (by omega)) (hb0 6 (by omega) (by omega)) (hb0 7 (by omega) (by omega)) (hb0 8 (by omega) (by omega)) (hb0 9 (by omega) (by omega)) (hb0 10 (by omega) (by omega))).mono ?_;rintro e w' ⟨rfl,hb⟩;exact⟨bn,nO,0,false,rfl,by rw[if_neg (by omega)],.inl rfl,j0 _,j0 _,(λa ha=>by cases ha),λ_=>⟨rfl,rfl⟩,hb⟩
  ·have he:doE (aQ V F c [g,h]) k=0:=by unfold doE;rw[if_pos hck,if_neg hk]
   rw[he];have h7:k=4\/k=5\/k=6\/k=7\/k=8\/k=9\/k=10:=by omega
   rcases h7 with rfl|rfl|rfl|rfl|rfl|rfl|rfl
   ·have hl:=(fP hck).1
    have l1:=cy hl.2 hl.1;refine(KT V F s c cap g ss gc h st hc w hcd hs h1 h2 ht h3 h4 hck (by omega)).mono ?_;rintro e w' ⟨v,rfl,hown,hb⟩;obtain⟨js,jc,rfl,hi,hjl,hm,hfa⟩:=IntsAt.own hown;exact⟨g,js,jc,false,rfl,by rw[if_pos rfl,yd],hi,hjl,hm,hfa,λhn=>absurd rfl hn,hb⟩
   ·refine(KV V F s c cap g ss gc h st hc w hcd hs h1 h2 ht h3 h4 hck).mono ?_
    exact lD
   ·refine(KZ V F s c cap g ss gc h st hc w hcd hs h1 h2 ht h3 h4 hck).mono ?_
    exact lD
   ·refine(KG V F s c cap g ss gc h st hc w hcd hs h1 h2 ht h3 h4 hck).mono ?_
    exact lD
   ·refine(KY V F s c cap g ss gc h st hc w hcd hs h1 h2 ht h3 h4 hck).mono ?_
    rintro e w' ⟨rfl,hb⟩;exact⟨_,nO,0,_,rfl,by rw[if_pos rfl,KI],.inl rfl,j0 _,j0 _,(λa ha=>by cases ha),λhn=>absurd rfl hn,hb⟩
   ·have mx:maxLen<=9223372036854775807:=by decide
    cases hn:(ag g||ag h)
    ·refine(Ha V F s c cap g ss gc h st hc w hcd hs h1 h2 ht h3 h4 hck _ _ (λwx hbx=>Dd g ss gc h st hc wx (hs.below hbx (lR _)) (by omega) (ht.below hbx (lR _)) (by omega) (ckSps_ok.mpr ⟨ok1,ok2⟩) (by rw[i7];exact hn))).mono ?_
     rintro e w' ⟨rfl,hb⟩;exact⟨_,nO,0,_,rfl,by rw[if_pos rfl,FB hn],.inl rfl,j0 _,j0 _,(λa ha=>by cases ha),λhn=>absurd rfl hn,hb⟩
    ·refine(Ha V F s c cap g ss gc h st hc w hcd hs h1 h2 ht h3 h4 hck _ _ (λwx hbx=>CO g ss gc h st hc wx (by rw[i7];exact hn))).mono ?_
     rintro e w' ⟨rfl,hb⟩;exact⟨_,nO,0,_,rfl,by rw[if_pos rfl,gk (by omega) hn];rfl,.inl rfl,j0 _,j0 _,(λa ha=>by cases ha),λhn=>absurd rfl hn,hb⟩
   ·refine(KB V F s c cap g ss gc h st hc w hcd hs h1 h2 ht h3 h4 hck (im hg)).mono ?_
    rintro e w' ⟨rfl,hb⟩;exact⟨_,nO,0,_,rfl,by rw[if_pos rfl,sq],.inl rfl,j0 _,j0 _,(λa ha=>by cases ha),λhn=>absurd rfl hn,hb⟩
 ·have he:doE (aQ V F c [g,h]) k=aQ V F c [g,h]:=by unfold doE;rw[if_neg hck]
  rw[he];refine(Hi V F s c cap g ss gc h st hc k w hcd hs h1 h2 ht h3 h4 hck).mono ?_;rintro e w' ⟨rfl,hb⟩;exact⟨bn,nO,0,false,rfl,by rw[if_neg hck],.inl rfl,j0 _,j0 _,(λa ha=>by cases ha),λ_=>⟨rfl,rfl⟩,hb⟩
end
end Go.Proofs.YtmapdpcfanecdabGreatDoor
