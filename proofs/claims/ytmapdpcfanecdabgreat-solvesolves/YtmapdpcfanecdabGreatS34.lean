import Derived.Test.YtmapdpcfanecdabGreatS33
import Derived.Lib.AppendZeros
import Derived.Laws.AppendOwn
open Go.Ending renaming returned→Rt
open Go.IntKind renaming i64→Y
open Go.Obj renaming cells→Cc
open Go.Proofs.Tryz renaming prog→pG
open Go.RowKit.Below renaming heap_setCell→hSe,refl→bR
open Go.Value renaming agg→Ag,bool→Bb,int→I,pointer→Pp,slice→U
open Go.World renaming setCell→q5,size_alloc→zA
open List renaming drop_eq_getElem_cons→q6,drop_eq_nil_of_le→j9,getD→j8,getElem_mem→gM,length→q7,length_append→j7,length_map→q4,length_take→q9,map_append→q8,take_length→z5,take_of_length_le→q3,take_succ_eq_append_getElem→z3
open Nat renaming le_refl→lR,le_trans→lT,zero_le→j6
open Option renaming none→nO,some→sO
set_option linter.unusedSimpArgs false
set_option linter.unusedVariables false
set_option maxHeartbeats 32000000
set_option maxRecDepth 100000
namespace Go.Proofs.YtmapdpcfanecdabGreat
section
open Go.RowKit
attribute [local go_sem ↓] Go.wp_at_zero Go.wp_at_succ
theorem mo (wide:Bool)(x y:Pic)(vs1:oA)(vc1:Nat)(fs1:oA)(fc1:Nat)(vs2:oA)(vc2:Nat)(fs2:oA)(fc2:Nat)(w:World)(hn:x.none=true):
  Calls pG 41 #[xv x vs1 vc1 fs1 fc1,xv y vs2 vc2 fs2 fc2,Bb wide] w λe w'=>e=Rt (xv y vs2 vc2 fs2 fc2)/\Below w.heap.size w w':=by
 obtain⟨xn,vx,fx⟩:=x;obtain⟨yn,vy,fy⟩:=y;simp only at hn;subst hn;go_enter Tryz.func41,Tryz.ntmps41;go_wp2;refine bodyPost_ret (v:=Ag #[Bb yn,U vs2 vy.length vc2,U fs2 fy.length fc2]) (by simp[results,Tryz.results41,go_sem]) rfl ⟨rfl,?_⟩;go_grown
theorem lH (wide:Bool)(x y:Pic)(vs1:oA)(vc1:Nat)(fs1:oA)(fc1:Nat)(vs2:oA)(vc2:Nat)(fs2:oA)(fc2:Nat)(w:World)(hm:x.none=false)(hn:y.none=true):
  Calls pG 41 #[xv x vs1 vc1 fs1 fc1,xv y vs2 vc2 fs2 fc2,Bb wide] w λe w'=>e=Rt (xv x vs1 vc1 fs1 fc1)/\Below w.heap.size w w':=by
 obtain⟨xn,vx,fx⟩:=x;obtain⟨yn,vy,fy⟩:=y;simp only at hn hm;subst hn hm;go_enter Tryz.func41,Tryz.ntmps41;go_wp2;refine bodyPost_ret (v:=Ag #[Bb false,U vs1 vx.length vc1,U fs1 fx.length fc1]) (by simp[results,Tryz.results41,go_sem]) rfl ⟨rfl,?_⟩;go_grown
theorem dH {V F:Int}{c:List Ins}{x:Pic}(h:an V F c x=0)(hn:x.none=false):(x.vars.length:Int)=V/\x.flds.length=c.length/\(∀r∈x.flds,(r.length:Int)=F)/\(∀g∈x.vars,ap c g=0)/\∀r∈x.flds,∀g∈r,ap c g=0:=by
 unfold an at h;split at h
 ·cases h
 ·rename_i h1
  split at h
  ·contradiction
  ·rename_i h2
   have h2':bm c (bu x)=0:=by simpa using h2
   have hall:=lA h2';have hf:bh V F c x=true:=by simpa using h1
   unfold bh at hf;rw[hn] at hf;simp only[Bool.false_eq_true,if_false,Bool.and_eq_true,decide_eq_true_eq,Bool.not_eq_true',List.any_eq_false] at hf;refine⟨hf.1,hf.2.1,λr hr=>by have:=hf.2.2 r hr;simpa using this,λg hg=>hall g ?_,λr hr g hg=>hall g ?_⟩
   ·unfold bu;exact List.mem_append_left _ hg
   ·unfold bu;exact List.mem_append_right _ (List.mem_flatten.2 ⟨r,hr,hg⟩)
theorem fk {V F:Int}{c:List Ins}{g h:Gs}(h0:ag V F c=0)(hg:ap c g=0)(hh:ap c h=0):aP V F c [g,h]=0:=by
 unfold aP;rw[if_pos h0];unfold bm;rw[if_pos hg];unfold bm;rw[if_pos hh];rfl
def nz (c:List Ins)(g h:Gs):Prop:=ap c g=0/\ap c h=0
theorem oZ {p:Prop}(h:p:=by
 rintro e w' ⟨v,rfl,hown,hb⟩;obtain⟨js,jc,rfl,hi,k1,k2,hf⟩:=IntsAt.own hown;rw[<-gH g h hg.1 hh.1] at hi k1 |-;exact⟨js,jc,rfl,hi,k1,k2,hf,hb⟩):p:=h
theorem mY {V F:Int}{c:List Ins}(h0:ag V F c=0):so false (cy aT) (nz c):=by
 intro g ss gc h st hc wx hs ht hR;have hck:=fk h0 hR.1 hR.2;obtain⟨hg,hh⟩:=eE hck;have l1:=bZ hg.2 hg.1;have l2:=bZ hh.2 hh.1;refine(pK g ss gc h st hc wx hs (by omega) ht (by omega)).mono ?_;exact oZ
theorem AS {V F:Int}{c:List Ins}(h0:ag V F c=0):so true (cy aV) (nz c):=by
 intro g ss gc h st hc wx hs ht hR;have hck:=fk h0 hR.1 hR.2;obtain⟨hg,hh⟩:=eE hck;have l1:=bZ hg.2 hg.1;have l2:=bZ hh.2 hh.1;refine(pX g ss gc h st hc wx hs (by omega) ht (by omega)).mono ?_;exact oZ
theorem it {V F:Int}{c:List Ins}(wide:Bool)(j:Gs->Gs->Gs)(hJ:so wide j (nz c))(x y:Pic)(vs1:oA)(vc1:Nat)(fs1:oA)(fc1:Nat)(vs2:oA)(vc2:Nat)(fs2:oA)(fc2:Nat)(w:World)(S:Nat->Prop)(hx:PicOn S w x vs1 fs1)(hy:PicOn S w y vs2 fs2)(p1:x.vars.length<=vc1/\vc1<=maxLen)(p2:x.flds.length<=fc1/\fc1<=maxLen)(q1:y.vars.length<=vc2/\vc2<=maxLen)(q2:y.flds.length<=fc2/\fc2<=maxLen)(h0:ag V F c=0)(h1:an V F c x=0)(h2:an V F c y=0):
  Calls pG 41 #[xv x vs1 vc1 fs1 fc1,xv y vs2 vc2 fs2 fc2,Bb wide] w λe w'=>(∃us uc gs gc,e=Rt (Ag #[Bb (aw j x y).none,U us (aw j x y).vars.length uc,U gs (aw j x y).flds.length gc])/\PicOn (λb=>S b\/w.heap.size<=b) w' (aw j x y) us gs/\((aw j x y).vars.length<=uc/\uc<=maxLen)/\((aw j x y).flds.length<=gc/\gc<=maxLen))/\Below w.heap.size w w':=by
 obtain⟨⟨hV1,hV8⟩,⟨hF0,hF3⟩,h60⟩:=bq h0;unfold aw;by_cases hn:x.none=true
 ·rw[if_pos hn]
  refine(mo wide x y vs1 vc1 fs1 fc1 vs2 vc2 fs2 fc2 w hn).mono ?_;rintro e w' ⟨rfl,hb⟩;exact⟨⟨vs2,vc2,fs2,fc2,rfl,(hy.call hb).mono λb h _=>.inl h,q1,q2⟩,hb⟩
 ·have hn':x.none=false:=by simpa using hn
  rw[if_neg hn];by_cases hm:y.none=true
  ·rw[if_pos hm]
   refine(lH wide x y vs1 vc1 fs1 fc1 vs2 vc2 fs2 fc2 w hn' hm).mono ?_;rintro e w' ⟨rfl,hb⟩;exact⟨⟨vs1,vc1,fs1,fc1,rfl,(hx.call hb).mono λb h _=>.inl h,p1,p2⟩,hb⟩
  ·have hm':y.none=false:=by simpa using hm
   rw[if_neg hm];obtain⟨a1,a2,a3,a4,a5⟩:=dH h1 hn';obtain⟨b1,b2,b3,b4,b5⟩:=dH h2 hm';obtain⟨xn,vx,fx⟩:=x;obtain⟨yn,vy,fy⟩:=y;simp only at hn' hm' a1 a2 a3 a4 a5 b1 b2 b3 b4 b5;subst hn' hm';refine(mV wide j (nz c) hJ vx vy fx fy vs1 vc1 fs1 fc1 vs2 vc2 fs2 fc2 w hx.at hy.at (by omega) (by omega) (by omega) (by omega)
    (λi h h'=>by have:=a3 _ (gM h);have:=b3 _ (gM h');omega)
    (λi h h'=>⟨a4 _ (gM h),b4 _ (gM h')⟩)
    (λi h h' k hk hk'=>⟨a5 _ (gM h) _ (gM hk),b5 _ (gM h') _ (gM hk')⟩)).mono ?_
   rintro e w' ⟨⟨us,uc,gs,gc,he,h1,r1,r2⟩,h2⟩;exact⟨⟨us,uc,gs,gc,he,h1.mono λb h _=>.inr h,r1,r2⟩,h2⟩
theorem ke (a b:List Gs)(k:Nat)(h:k < a.length)(h':k < b.length):cN (a.drop k) (b.drop k)=(bT a[k] b[k]&&cN (a.drop (k+1)) (b.drop (k+1))):=by
 unfold cN;rw[q6 h,q6 h'];rfl
def fu (a b:List (List Gs)):Bool:=(List.zipWith cN a b).all id
theorem tN (a b:List (List Gs))(k:Nat)(h:k < a.length)(h':k < b.length):fu (a.drop k) (b.drop k)=(cN a[k] b[k]&&fu (a.drop (k+1)) (b.drop (k+1))):=by
 unfold fu;rw[q6 h,q6 h'];rfl
theorem pN (vx vy:List Gs)(fx fy:List (List Gs))(vs1:oA)(vc1:Nat)(fs1:oA)(fc1:Nat)(vs2:oA)(vc2:Nat)(fs2:oA)(fc2:Nat)(w:World)(hx:PicAt w ⟨false,vx,fx⟩ vs1 fs1)(hy:PicAt w ⟨false,vy,fy⟩ vs2 fs2)(hv:vx.length=vy.length)(hv8:vx.length<=8)(hf:fx.length=fy.length)(h60:fx.length<=60)(hr:∀i (h:i < fx.length) (h':i < fy.length),fx[i].length=fy[i].length/\fx[i].length<=3):
  Calls pG 42 #[xv ⟨false,vx,fx⟩ vs1 vc1 fs1 fc1,xv ⟨false,vy,fy⟩ vs2 vc2 fs2 fc2] w λe w'=>e=Rt (Bb (cN vx vy&&fu fx fy))/\Below w.heap.size w w':=by
 have HV:=aa hv;have HF:=aa hf;have HR:=aa hr;have HX:=aa hx;have HY:=aa hy;clear hv hf hr hx hy;obtain⟨res,HRES,hres⟩:∃r,Hid (r=(cN vx vy&&fu fx fy))/\(cN vx vy&&fu fx fy)=r:=⟨_,rfl,rfl⟩;rw[hres];clear hres;have hb0:Below w.heap.size w ((w.alloc (Cc #[Bb false,U vs1 vx.length vc1,U fs1 fx.length fc1] 28)).alloc (Cc #[Bb false,U vs2 vy.length vc2,U fs2 fy.length fc2] 28)):=by go_grown
 have A0:=(XAt.new w ⟨false,vx,fx⟩ vs1 vc1 fs1 fc1).call (w':=((w.alloc (Cc #[Bb false,U vs1 vx.length vc1,U fs1 fx.length fc1] 28)).alloc (Cc #[Bb false,U vs2 vy.length vc2,U fs2 fy.length fc2] 28))) (by go_grown);have B0:=XAt.new (w.alloc (Cc #[Bb false,U vs1 vx.length vc1,U fs1 fx.length fc1] 28)) ⟨false,vy,fy⟩ vs2 vc2 fs2 fc2;rw[zA] at B0
 (try simp only at A0 B0)
 go_enter Tryz.func42,Tryz.ntmps42
 go_upto_region 5 with fail
 generalize ((w.alloc (Cc #[Bb false,U vs1 vx.length vc1,U fs1 fx.length fc1] 28)).alloc (Cc #[Bb false,U vs2 vy.length vc2,U fs2 fy.length fc2] 28))=w1 at *;go_wp2;go_loopw [5] (λi wr=>∃k:Nat,k<=vx.length/\i=I Y k/\Below w1.heap.size w1 wr/\Hid (cN vx vy=cN (vx.drop k) (vy.drop k))) (λi _=>vx.length - (intOf i).toNat)
 case atStart=>exact⟨0,j6 _,rfl,bR _ _,rfl⟩
 case round=>
  obtain⟨k,hk,rfl,hbr,HK⟩:=hrel;obtain⟨⟨a0,a1,a2⟩,az,-⟩:=id (A0.call hbr);obtain⟨⟨c0,c1,c2⟩,cz,-⟩:=id (B0.call hbr);have LR:=hb0.trans (hbr.mono hb0.size);by_cases hlt:k < vx.length
  ·have n0:(0:Int)<=(k:Int):=by omega
   have n1:(k:Int) < (vx.length:Int):=by omega
   have hlt':k < vy.length:=by have:=HV.out;omega
   have n2:(k:Int) < (vy.length:Int):=by omega
   obtain⟨b1,o1,e1,ss1,g1,G1,I1,k1,m1⟩:=(HX.out.1.below LR (lR _)) k hlt;obtain⟨b2,o2,e2,ss2,g2,G2,I2,k2,m2⟩:=(HY.out.1.below LR (lR _)) k hlt';subst e1 e2
   (try simp only at G1 G2 I1 I2 k1 k2)
   have hl1:vx[k].s.length<=9223372036854775807:=by unfold maxLen at m1;omega
   have hl2:vy[k].s.length<=9223372036854775807:=by unfold maxLen at m2;omega
   have HKZ:Hid (∀wx,Below wr.heap.size wr wx->(wx.cell? ⟨w.heap.size,1,nO⟩=sO (U (sO ⟨b1,o1,nO⟩) vx.length vc1)/\(wx.cell? ⟨b1,o1+k * 7,nO⟩=sO (Bb vx[k].n)/\wx.cell? ⟨b1,o1+k * 7+1,nO⟩=sO (Bb vx[k].sp.n)/\wx.cell? ⟨b1,o1+k * 7+2,nO⟩=sO (I Y vx[k].sp.lo)/\wx.cell? ⟨b1,o1+k * 7+3,nO⟩=sO (I Y vx[k].sp.hi)/\wx.cell? ⟨b1,o1+k * 7+4,nO⟩=sO (Bb vx[k].t)/\wx.cell? ⟨b1,o1+k * 7+5,nO⟩=sO (Bb vx[k].f)/\wx.cell? ⟨b1,o1+k * 7+6,nO⟩=sO (U ss1 vx[k].s.length g1)))/\(wx.cell? ⟨w.heap.size+1,1,nO⟩=sO (U (sO ⟨b2,o2,nO⟩) vy.length vc2)/\(wx.cell? ⟨b2,o2+k * 7,nO⟩=sO (Bb vy[k].n)/\wx.cell? ⟨b2,o2+k * 7+1,nO⟩=sO (Bb vy[k].sp.n)/\wx.cell? ⟨b2,o2+k * 7+2,nO⟩=sO (I Y vy[k].sp.lo)/\wx.cell? ⟨b2,o2+k * 7+3,nO⟩=sO (I Y vy[k].sp.hi)/\wx.cell? ⟨b2,o2+k * 7+4,nO⟩=sO (Bb vy[k].t)/\wx.cell? ⟨b2,o2+k * 7+5,nO⟩=sO (Bb vy[k].f)/\wx.cell? ⟨b2,o2+k * 7+6,nO⟩=sO (U ss2 vy[k].s.length g2)))):=λwx hx=>⟨⟨by rw[hx.cell (by simp only;exact az)];exact a1,(G1.call hx).1⟩,by rw[hx.cell (by simp only;exact cz)];exact c1,(G2.call hx).1⟩;have HD:Below wr.heap.size wr wr.drew:=(bR _ _).drew;have HS:=aa (ke vx vy k hlt hlt');go_wp2;clear a0 a1 a2 az c0 c1 c2 cz;refine am (S:=(λwx=>(wx.cell? ⟨w.heap.size,1,nO⟩=sO (U (sO ⟨b1,o1,nO⟩) vx.length vc1)/\(wx.cell? ⟨b1,o1+k * 7,nO⟩=sO (Bb vx[k].n)/\wx.cell? ⟨b1,o1+k * 7+1,nO⟩=sO (Bb vx[k].sp.n)/\wx.cell? ⟨b1,o1+k * 7+2,nO⟩=sO (I Y vx[k].sp.lo)/\wx.cell? ⟨b1,o1+k * 7+3,nO⟩=sO (I Y vx[k].sp.hi)/\wx.cell? ⟨b1,o1+k * 7+4,nO⟩=sO (Bb vx[k].t)/\wx.cell? ⟨b1,o1+k * 7+5,nO⟩=sO (Bb vx[k].f)/\wx.cell? ⟨b1,o1+k * 7+6,nO⟩=sO (U ss1 vx[k].s.length g1)))/\(wx.cell? ⟨w.heap.size+1,1,nO⟩=sO (U (sO ⟨b2,o2,nO⟩) vy.length vc2)/\(wx.cell? ⟨b2,o2+k * 7,nO⟩=sO (Bb vy[k].n)/\wx.cell? ⟨b2,o2+k * 7+1,nO⟩=sO (Bb vy[k].sp.n)/\wx.cell? ⟨b2,o2+k * 7+2,nO⟩=sO (I Y vy[k].sp.lo)/\wx.cell? ⟨b2,o2+k * 7+3,nO⟩=sO (I Y vy[k].sp.hi)/\wx.cell? ⟨b2,o2+k * 7+4,nO⟩=sO (Bb vy[k].t)/\wx.cell? ⟨b2,o2+k * 7+5,nO⟩=sO (Bb vy[k].f)/\wx.cell? ⟨b2,o2+k * 7+6,nO⟩=sO (U ss2 vy[k].s.length g2))))) [] (by kernel_rfl) (HKZ.out _ HD) (λhHeld=> ?_);refine vZ 0 ?_ ?_;refine vZ 1 ?_ ?_;refine vZ 2 ?_ ?_;refine vZ 3 ?_ ?_;refine vZ 4 ?_ ?_;refine vZ 5 ?_ ?_;refine vZ 6 ?_ ?_;refine vZ 7 ?_ ?_;refine vZ 8 ?_ ?_;refine vZ 9 ?_ ?_;refine ai (i:=10) rfl (by kernel_rfl) (λK hK=> ?_);go_simp;go_at_call 77;refine(mt vx[k] ss1 g1 vy[k] ss2 g2 _ (I1.call HD) hl1 (I2.call HD) hl2).mono ?_;rintro e w5 ⟨rfl,hb5⟩;have HB5:Below wr.heap.size wr w5:=HD.trans (hb5.mono HD.size);go_wp2_with fail;refine hK.out _ _ (HKZ.out _ HB5) (λhHeld=> ?_);clear hK K;refine sm ?_;refine vZ 11 ?_ ?_;refine aj (by kernel_rfl) ?_ _;rcases (show bT vx[k] vy[k]=false\/bT vx[k] vy[k]=true by cases bT vx[k] vy[k]<;>simp) with hs|hs<;>have HSG:=aa hs<;>rw[hs]<;>clear hs
   ·go_wp2
    go_ret;refine⟨av ?_,LR.trans (HB5.mono LR.size)⟩;rw[HRES.out,HK.out,HS.out,HSG.out];rfl
   ·go_wp2
    go_roundw
    case rel=>exact⟨k+1,by omega,by go_num,hbr.trans (HB5.mono hbr.size),by show _=_;rw[HK.out,HS.out,HSG.out];rfl⟩
    case measure=>simp[intOf];omega
  ·have n1:¬(k:Int) < (vx.length:Int):=by omega
   have HRE:Hid (res=fu fx fy):=by
    show _=_;rw[HRES.out,HK.out,j9 (by omega)];rfl
   have A2:=A0.call hbr;have B2:=B0.call hbr;generalize wr=w2 at *;clear wr HRES HK A0 B0;go_wp2;clear a0 a1 a2 az c0 c1 c2 cz;go_loopw [6] (λi wr=>∃k:Nat,k<=fx.length/\i=I Y k/\Below w2.heap.size w2 wr/\Hid (res=fu (fx.drop k) (fy.drop k))) (λi _=>fx.length - (intOf i).toNat)
   case atStart=>exact⟨0,j6 _,rfl,bR _ _,HRE⟩
   case round=>
    obtain⟨k2,hk2,rfl,hbq,HT⟩:=hrel;generalize wr=w3 at *;clear wr;obtain⟨⟨a0,a1,a2⟩,az,-⟩:=id (A2.call hbq);by_cases hlt2:k2 < fx.length
    ·have n0:(0:Int)<=(k2:Int):=by omega
     have n2':(k2:Int) < (fx.length:Int):=by omega
     have hlt2':k2 < fy.length:=by have:=HF.out;omega
     have n3':(k2:Int) < (fy.length:Int):=by omega
     have HU:=aa (tN fx fy k2 hlt2 hlt2');go_wp2;clear a0 a1 a2 az;go_loopw [7] (λi wr=>∃m:Nat,m<=fx[k2].length/\i=I Y m/\Below w2.heap.size w2 wr/\Hid (res=(cN (fx[k2].drop m) (fy[k2].drop m)&&fu (fx.drop (k2+1)) (fy.drop (k2+1))))) (λi _=>fx[k2].length - (intOf i).toNat)
     case atStart=>exact⟨0,j6 _,rfl,hbq,by show _=_;rw[HT.out,HU.out];rfl⟩
     case round=>
      obtain⟨m,hm,rfl,hbo,HV2⟩:=hrel;have hlen:=HR.out k2 hlt2 hlt2';have HEQ:=aa hlen.1;have h3:=hlen.2;clear hlen;obtain⟨⟨a0,a1,a2⟩,az,-⟩:=id (A2.call hbo);obtain⟨⟨c0,c1,c2⟩,cz,-⟩:=id (B2.call hbo);have hwo:=LR.trans (hbo.mono LR.size);obtain⟨p1,q1,e1,zp1,r1,rc1,D1,k1,m1,J1⟩:=(HX.out.2.below hwo (lR _)) k2 hlt2;obtain⟨p2,q2,e2,zp2,r2,rc2,D2,k2',m2,J2⟩:=(HY.out.2.below hwo (lR _)) k2 hlt2';subst e1 e2
      (try simp only at D1 D2 J1 J2 k1 k2')
      by_cases hltm:m < fx[k2].length
      ·have m0:(0:Int)<=(m:Int):=by omega
       have m1':(m:Int) < (fx[k2].length:Int):=by omega
       have hltm':m < fy[k2].length:=by have:=HEQ.out;omega
       have m2':(m:Int) < (fy[k2].length:Int):=by omega
       obtain⟨b1,o1,e1,ss1,g1,G1,I1,l1,l2⟩:=J1 m hltm;obtain⟨b2,o2,e2,ss2,g2,G2,I2,l3,l4⟩:=J2 m hltm';subst e1 e2;have hl1:fx[k2][m].s.length<=9223372036854775807:=by unfold maxLen at l2;omega
       have hl2:fy[k2][m].s.length<=9223372036854775807:=by unfold maxLen at l4;omega
       have HKZ:Hid (∀wx,Below wr.heap.size wr wx->(wx.cell? ⟨w.heap.size,2,nO⟩=sO (U (sO ⟨p1,q1,nO⟩) fx.length fc1)/\wx.cell? ⟨p1,q1+k2,nO⟩=sO (U (sO ⟨b1,o1,nO⟩) fx[k2].length rc1)/\(wx.cell? ⟨b1,o1+m * 7,nO⟩=sO (Bb fx[k2][m].n)/\wx.cell? ⟨b1,o1+m * 7+1,nO⟩=sO (Bb fx[k2][m].sp.n)/\wx.cell? ⟨b1,o1+m * 7+2,nO⟩=sO (I Y fx[k2][m].sp.lo)/\wx.cell? ⟨b1,o1+m * 7+3,nO⟩=sO (I Y fx[k2][m].sp.hi)/\wx.cell? ⟨b1,o1+m * 7+4,nO⟩=sO (Bb fx[k2][m].t)/\wx.cell? ⟨b1,o1+m * 7+5,nO⟩=sO (Bb fx[k2][m].f)/\wx.cell? ⟨b1,o1+m * 7+6,nO⟩=sO (U ss1 fx[k2][m].s.length g1)))/\(wx.cell? ⟨w.heap.size+1,2,nO⟩=sO (U (sO ⟨p2,q2,nO⟩) fy.length fc2)/\wx.cell? ⟨p2,q2+k2,nO⟩=sO (U (sO ⟨b2,o2,nO⟩) fy[k2].length rc2)/\(wx.cell? ⟨b2,o2+m * 7,nO⟩=sO (Bb fy[k2][m].n)/\wx.cell? ⟨b2,o2+m * 7+1,nO⟩=sO (Bb fy[k2][m].sp.n)/\wx.cell? ⟨b2,o2+m * 7+2,nO⟩=sO (I Y fy[k2][m].sp.lo)/\wx.cell? ⟨b2,o2+m * 7+3,nO⟩=sO (I Y fy[k2][m].sp.hi)/\wx.cell? ⟨b2,o2+m * 7+4,nO⟩=sO (Bb fy[k2][m].t)/\wx.cell? ⟨b2,o2+m * 7+5,nO⟩=sO (Bb fy[k2][m].f)/\wx.cell? ⟨b2,o2+m * 7+6,nO⟩=sO (U ss2 fy[k2][m].s.length g2)))):=λwx hx=>⟨⟨by rw[hx.cell (by simp only;exact az)];exact a2,by rw[hx.cell (by simp only;exact zp1)];exact D1,(G1.call hx).1⟩,by rw[hx.cell (by simp only;exact cz)];exact c2,by rw[hx.cell (by simp only;exact zp2)];exact D2,(G2.call hx).1⟩;have HD:Below wr.heap.size wr wr.drew:=(bR _ _).drew;have HS:=aa (ke fx[k2] fy[k2] m hltm hltm');go_wp2;clear a0 a1 a2 az c0 c1 c2 cz D1 D2;refine am (S:=(λwx=>(wx.cell? ⟨w.heap.size,2,nO⟩=sO (U (sO ⟨p1,q1,nO⟩) fx.length fc1)/\wx.cell? ⟨p1,q1+k2,nO⟩=sO (U (sO ⟨b1,o1,nO⟩) fx[k2].length rc1)/\(wx.cell? ⟨b1,o1+m * 7,nO⟩=sO (Bb fx[k2][m].n)/\wx.cell? ⟨b1,o1+m * 7+1,nO⟩=sO (Bb fx[k2][m].sp.n)/\wx.cell? ⟨b1,o1+m * 7+2,nO⟩=sO (I Y fx[k2][m].sp.lo)/\wx.cell? ⟨b1,o1+m * 7+3,nO⟩=sO (I Y fx[k2][m].sp.hi)/\wx.cell? ⟨b1,o1+m * 7+4,nO⟩=sO (Bb fx[k2][m].t)/\wx.cell? ⟨b1,o1+m * 7+5,nO⟩=sO (Bb fx[k2][m].f)/\wx.cell? ⟨b1,o1+m * 7+6,nO⟩=sO (U ss1 fx[k2][m].s.length g1)))/\(wx.cell? ⟨w.heap.size+1,2,nO⟩=sO (U (sO ⟨p2,q2,nO⟩) fy.length fc2)/\wx.cell? ⟨p2,q2+k2,nO⟩=sO (U (sO ⟨b2,o2,nO⟩) fy[k2].length rc2)/\(wx.cell? ⟨b2,o2+m * 7,nO⟩=sO (Bb fy[k2][m].n)/\wx.cell? ⟨b2,o2+m * 7+1,nO⟩=sO (Bb fy[k2][m].sp.n)/\wx.cell? ⟨b2,o2+m * 7+2,nO⟩=sO (I Y fy[k2][m].sp.lo)/\wx.cell? ⟨b2,o2+m * 7+3,nO⟩=sO (I Y fy[k2][m].sp.hi)/\wx.cell? ⟨b2,o2+m * 7+4,nO⟩=sO (Bb fy[k2][m].t)/\wx.cell? ⟨b2,o2+m * 7+5,nO⟩=sO (Bb fy[k2][m].f)/\wx.cell? ⟨b2,o2+m * 7+6,nO⟩=sO (U ss2 fy[k2][m].s.length g2))))) [] (by kernel_rfl) (HKZ.out _ HD) (λhHeld=> ?_);refine vZ 0 ?_ ?_;refine vZ 1 ?_ ?_;refine vZ 2 ?_ ?_;refine vZ 3 ?_ ?_;refine vZ 4 ?_ ?_;refine vZ 5 ?_ ?_;refine vZ 6 ?_ ?_;refine vZ 7 ?_ ?_;refine vZ 8 ?_ ?_;refine vZ 9 ?_ ?_;refine vZ 10 ?_ ?_;refine vZ 11 ?_ ?_;refine vZ 12 ?_ ?_;refine vZ 13 ?_ ?_;refine vZ 14 ?_ ?_;refine vZ 15 ?_ ?_;refine ai (i:=16) rfl (by kernel_rfl) (λK hK=> ?_);go_simp;go_at_call 77;refine(mt fx[k2][m] ss1 g1 fy[k2][m] ss2 g2 _ (I1.call HD) hl1 (I2.call HD) hl2).mono ?_;rintro e w5 ⟨rfl,hb5⟩;have HB5:Below wr.heap.size wr w5:=HD.trans (hb5.mono HD.size);go_wp2_with fail;refine hK.out _ _ (HKZ.out _ HB5) (λhHeld=> ?_);clear hK K;refine sm ?_;refine vZ 17 ?_ ?_;refine aj (by kernel_rfl) ?_ _;rcases (show bT fx[k2][m] fy[k2][m]=false\/bT fx[k2][m] fy[k2][m]=true by cases bT fx[k2][m] fy[k2][m]<;>simp) with hs|hs<;>have HSG:=aa hs<;>rw[hs]<;>clear hs
       ·go_wp2
        go_ret;refine⟨av ?_,hwo.trans (HB5.mono hwo.size)⟩;rw[HV2.out,HS.out,HSG.out];rfl
       ·go_wp2
        go_roundw
        case rel=>exact⟨m+1,by omega,by go_num,hbo.trans (HB5.mono hbo.size),by show _=_;rw[HV2.out,HS.out,HSG.out];rfl⟩
        case measure=>simp[intOf];omega
      ·have m1':¬(m:Int) < (fx[k2].length:Int):=by omega
       go_wp2;go_roundw
       case rel=>exact⟨k2+1,by omega,by go_num,hbo,by show _=_;rw[HV2.out,j9 (by omega)];rfl⟩
       case measure=>simp[intOf];omega
    ·have n2':¬(k2:Int) < (fx.length:Int):=by omega
     go_wp2;go_ret;refine⟨av ?_,LR.trans (hbq.mono LR.size)⟩;rw[HT.out,j9 (by omega)];rfl

theorem pO (x y:Pic)(vs1:oA)(vc1:Nat)(fs1:oA)(fc1:Nat)(vs2:oA)(vc2:Nat)(fs2:oA)(fc2:Nat)(w:World)(hn:x.none=true):
  Calls pG 42 #[xv x vs1 vc1 fs1 fc1,xv y vs2 vc2 fs2 fc2] w λe w'=>e=Rt (Bb true)/\Below w.heap.size w w':=by
 obtain⟨xn,vx,fx⟩:=x;obtain⟨yn,vy,fy⟩:=y;simp only at hn;subst hn;go_enter Tryz.func42,Tryz.ntmps42;go_wp2;go_ret;exact⟨rfl,by go_grown⟩
theorem oT (x y:Pic)(vs1:oA)(vc1:Nat)(fs1:oA)(fc1:Nat)(vs2:oA)(vc2:Nat)(fs2:oA)(fc2:Nat)(w:World)(hm:x.none=false)(hn:y.none=true):
  Calls pG 42 #[xv x vs1 vc1 fs1 fc1,xv y vs2 vc2 fs2 fc2] w λe w'=>e=Rt (Bb false)/\Below w.heap.size w w':=by
 obtain⟨xn,vx,fx⟩:=x;obtain⟨yn,vy,fy⟩:=y;simp only at hn hm;subst hn hm;go_enter Tryz.func42,Tryz.ntmps42;go_wp2;go_ret;exact⟨rfl,by go_grown⟩
theorem kM {V F:Int}{c:List Ins}(x y:Pic)(vs1:oA)(vc1:Nat)(fs1:oA)(fc1:Nat)(vs2:oA)(vc2:Nat)(fs2:oA)(fc2:Nat)(w:World)(hx:PicAt w x vs1 fs1)(hy:PicAt w y vs2 fs2)(h0:ag V F c=0)(h1:an V F c x=0)(h2:an V F c y=0):
  Calls pG 42 #[xv x vs1 vc1 fs1 fc1,xv y vs2 vc2 fs2 fc2] w λe w'=>e=Rt (Bb (aH x y))/\Below w.heap.size w w':=by
 obtain⟨⟨hV1,hV8⟩,⟨hF0,hF3⟩,h60⟩:=bq h0;by_cases hn:x.none=true
 ·have e:aH x y=true:=by unfold aH;rw[hn];rfl
  rw[e];exact pO x y vs1 vc1 fs1 fc1 vs2 vc2 fs2 fc2 w hn
 ·have hn':x.none=false:=by simpa using hn
  by_cases hm:y.none=true
  ·have e:aH x y=false:=by unfold aH;rw[hn',hm];rfl
   rw[e];exact oT x y vs1 vc1 fs1 fc1 vs2 vc2 fs2 fc2 w hn' hm
  ·have hm':y.none=false:=by simpa using hm
   obtain⟨a1,a2,a3,a4,a5⟩:=dH h1 hn';obtain⟨b1,b2,b3,b4,b5⟩:=dH h2 hm';obtain⟨xn,vx,fx⟩:=x;obtain⟨yn,vy,fy⟩:=y;simp only at hn' hm' a1 a2 a3 a4 a5 b1 b2 b3 b4 b5;subst hn' hm';exact pN vx vy fx fy vs1 vc1 fs1 fc1 vs2 vc2 fs2 fc2 w hx hy (by omega) (by omega) (by omega) (by omega)
    (λi h h'=>by have:=a3 _ (gM h);have:=b3 _ (gM h');omega)
theorem kW (w:World):Calls pG 65 #[] w λe w'=>e=Rt (Ag #[Bb false,Bb true,I Y 0,I Y 0,Bb false,Bb false,U nO 0 0])/\Below w.heap.size w w':=by
 go_enter Tryz.func65,Tryz.ntmps65;go_wp2;refine bodyPost_ret (v:=Ag #[Bb false,Bb true,I Y 0,I Y 0,Bb false,Bb false,U nO 0 0]) (by simp[results,Tryz.results65,go_sem]) rfl ⟨rfl,by go_grown⟩
theorem wf (a b:List Int)(ss:oA)(gc:Nat)(st:oA)(hc:Nat)(w:World)(ha:a.length<=maxLen)(hb:b.length<=maxLen)(h1:IntsAt w ss a)(h2:IntsAt w st b):
  Calls pG 157 #[U ss a.length gc,U st b.length hc] w λe w'=>e=Rt (Bb (decide (a=b)))/\Below w.heap.size w w':=by
 have hm:maxLen<=9223372036854775807:=by decide
 rcases h1 with rfl|⟨b1,o1,rfl,hb1,hc1⟩
 ·refine(Tryz.slices_Equal_int_empty ss st gc b.length hc w (by omega)).mono ?_
  rintro e w' ⟨rfl,rfl⟩;refine⟨av ?_,bR _ _⟩;cases b<;>simp
 ·rcases h2 with rfl|⟨b2,o2,rfl,hb2,hc2⟩
  ·by_cases h0:a.length=0
   ·have e0:a=[]:=List.eq_nil_of_length_eq_zero h0
    subst e0;refine(Tryz.slices_Equal_int_empty (sO ⟨b1,o1,nO⟩) st gc 0 hc w (by omega)).mono ?_;rintro e w' ⟨rfl,rfl⟩;exact⟨rfl,bR _ _⟩
   ·have e1:decide (a=[])=false:=by
     have:a≠[]:=λe=>h0 (by rw[e];rfl);simpa using this
    rw[e1];have e2:((a.length:Int)!=0)=true:=by simp;exact λe=>h0 (by rw[e];rfl)
    clear e1 h0 hc1 hb1;go_enter Tryz.func157,Tryz.ntmps157;go_wp2;go_ret;exact⟨rfl,bR _ _⟩
  ·refine(Tryz.slices_Equal_int b1 o1 a.length gc b2 o2 b.length hc a b w (lR _) (lR _) (by omega) (by omega) (λj hj=>by rw[hc1 j hj];simp[j8,hj]) (λj hj=>by rw[hc2 j hj];simp[j8,hj])).mono ?_
   rintro e w' ⟨rfl,q,rfl⟩;refine⟨av ?_,below_drewN (bR _ _) q⟩;rw[z5,z5];by_cases h:a=b
   ·simp[h]
   ·simp[h]
theorem kh (g:Gs)(ss:oA)(gc:Nat)(h:Gs)(st:oA)(hc:Nat)(w:World)(hs:IntsAt w ss g.s)(ht:IntsAt w st h.s)(h1:g.s.length<=maxLen)(h2:h.s.length<=maxLen):
  Calls pG 132 #[gv g ss gc,gv h st hc] w λe w'=>e=Rt (Bb (cR g h))/\Below w.heap.size w w':=by
 have B0:Below w.heap.size w ((w.alloc (Cc #[Bb g.n,Bb g.sp.n,I Y g.sp.lo,I Y g.sp.hi,Bb g.t,Bb g.f,U ss g.s.length gc] 61)).alloc (Cc #[Bb h.n,Bb h.sp.n,I Y h.sp.lo,I Y h.sp.hi,Bb h.t,Bb h.f,U st h.s.length hc] 61)):=by go_grown
 have HE:=aa (wf g.s h.s ss gc st hc ((w.alloc (Cc #[Bb g.n,Bb g.sp.n,I Y g.sp.lo,I Y g.sp.hi,Bb g.t,Bb g.f,U ss g.s.length gc] 61)).alloc (Cc #[Bb h.n,Bb h.sp.n,I Y h.sp.lo,I Y h.sp.hi,Bb h.t,Bb h.f,U st h.s.length hc] 61)) h1 h2 (hs.below B0 (lR _)) (ht.below B0 (lR _)));have HR:Hid (cR g h=(g.n==h.n&&(@decide _ (g.sp.dq h.sp)&&(g.t==h.t&&(g.f==h.f&&decide (g.s=h.s)))))):=rfl;generalize cR g h=r at HR |-;generalize decide (g.s=h.s)=q at HR HE;clear hs ht;by_cases e1:g.n=h.n
 ·by_cases e2:g.sp=h.sp
  ·by_cases e3:g.t=h.t
   ·by_cases e4:g.f=h.f
    ·have HQ:Hid (r=q):=by show _=_;rw[HR.out,e1,e2,e3,e4];simp
     clear HR;obtain⟨n,sp,t,f,sl⟩:=g;obtain⟨n',sp',t',f',sl'⟩:=h;simp only at e1 e2 e3 e4 HE h1 h2;subst e1 e2 e3 e4;go_enter Tryz.func132,Tryz.ntmps132;go_wp2_with (go_at_call 157;fail);refine HE.out.mono ?_;rintro e w1 ⟨rfl,hb1⟩;go_wp2;go_ret;exact⟨av HQ.out.symm,Below.trans (by go_grown) (hb1.mono (by simp;omega))⟩
    ·have HQ:Hid (r=false):=by show _=_;rw[HR.out,e1,e2,e3];simp[e4]
     have d4:(g.f==h.f)=false:=by simpa using e4
     clear HR HE e4;obtain⟨n,sp,t,f,sl⟩:=g;obtain⟨n',sp',t',f',sl'⟩:=h;simp only at e1 e2 e3 d4 h1 h2;subst e1 e2 e3;go_enter Tryz.func132,Tryz.ntmps132;go_wp2;go_ret;exact⟨av HQ.out.symm,by go_grown⟩
   ·have HQ:Hid (r=false):=by show _=_;rw[HR.out,e1,e2];simp[e3]
    have d3:(g.t==h.t)=false:=by simpa using e3
    clear HR HE e3;obtain⟨n,sp,t,f,sl⟩:=g;obtain⟨n',sp',t',f',sl'⟩:=h;simp only at e1 e2 d3 h1 h2;subst e1 e2;go_enter Tryz.func132,Tryz.ntmps132;go_wp2;go_ret;exact⟨av HQ.out.symm,by go_grown⟩
  ·have HQ:Hid (r=false):=by show _=_;rw[HR.out,e1];simp[e2]
   clear HR HE;obtain⟨n,⟨sn,lo,hi⟩,t,f,sl⟩:=g;obtain⟨n',⟨sn',lo',hi'⟩,t',f',sl'⟩:=h;simp only at e1 e2 h1 h2;subst e1;by_cases a1:sn=sn'
   ·subst a1
    by_cases a2:lo=lo'
    ·subst a2
     have a3:¬hi=hi':=λe=>e2 (by rw[e]);clear e2;go_enter Tryz.func132,Tryz.ntmps132;go_wp2;go_ret;exact⟨av HQ.out.symm,by go_grown⟩
    ·clear e2
     go_enter Tryz.func132,Tryz.ntmps132;go_wp2;go_ret;exact⟨av HQ.out.symm,by go_grown⟩
   ·clear e2
    go_enter Tryz.func132,Tryz.ntmps132;go_wp2;go_ret;exact⟨av HQ.out.symm,by go_grown⟩
 ·have HQ:Hid (r=false):=by show _=_;rw[HR.out];simp[e1]
  have d1:(g.n==h.n)=false:=by simpa using e1
  clear HR HE e1;obtain⟨n,sp,t,f,sl⟩:=g;obtain⟨n',sp',t',f',sl'⟩:=h;simp only at d1 h1 h2;go_enter Tryz.func132,Tryz.ntmps132;go_wp2;go_ret;exact⟨av HQ.out.symm,by go_grown⟩

theorem ip (g:Gs)(ss:oA)(gc:Nat)(w:World)(hs:IntsAt w ss g.s)(h1:g.s.length<=maxLen):
  Calls pG 106 #[gv g ss gc] w λe w'=>e=Rt (Bb (cu g))/\Below w.heap.size w w':=by
 have B0:Below w.heap.size w (w.alloc (Cc #[Bb g.n,Bb g.sp.n,I Y g.sp.lo,I Y g.sp.hi,Bb g.t,Bb g.f,U ss g.s.length gc] 61)):=by go_grown
 have G0:=GuAt.new w g ss gc;have I0:=hs.below B0 (lR _);have HN:=aa kW;have HI:Hid (∀wx,IntsAt wx ss g.s->Calls pG 132 #[gv g ss gc,Ag #[Bb false,Bb true,I Y 0,I Y 0,Bb false,Bb false,U nO 0 0]] wx λe w'=>e=Rt (Bb (cR g noneG))/\Below wx.heap.size wx w'):=λwx hx=>kh g ss gc noneG nO 0 wx hx (.inl rfl) h1 (j6 _);have HR:Hid (cu g= !cR g noneG):=rfl;generalize cu g=r at HR |-;generalize cR g noneG=q at HR HI;clear hs;go_enter Tryz.func106,Tryz.ntmps106
 go_upto_region 1 with fail
 generalize w.alloc (Cc #[Bb g.n,Bb g.sp.n,I Y g.sp.lo,I Y g.sp.hi,Bb g.t,Bb g.f,U ss g.s.length gc] 61)=w1 at *;have HKZ:Hid (∀wx,Below w1.heap.size w1 wx->(wx.cell? ⟨w.heap.size,0,nO⟩=sO (Bb g.n)/\wx.cell? ⟨w.heap.size,0+1,nO⟩=sO (Bb g.sp.n)/\wx.cell? ⟨w.heap.size,0+2,nO⟩=sO (I Y g.sp.lo)/\wx.cell? ⟨w.heap.size,0+3,nO⟩=sO (I Y g.sp.hi)/\wx.cell? ⟨w.heap.size,0+4,nO⟩=sO (Bb g.t)/\wx.cell? ⟨w.heap.size,0+5,nO⟩=sO (Bb g.f)/\wx.cell? ⟨w.heap.size,0+6,nO⟩=sO (U ss g.s.length gc))):=λwx hx=>(G0.call hx).1;have HD:Below w1.heap.size w1 w1.drew:=(bR _ _).drew;refine am (S:=(λwx=>(wx.cell? ⟨w.heap.size,0,nO⟩=sO (Bb g.n)/\wx.cell? ⟨w.heap.size,0+1,nO⟩=sO (Bb g.sp.n)/\wx.cell? ⟨w.heap.size,0+2,nO⟩=sO (I Y g.sp.lo)/\wx.cell? ⟨w.heap.size,0+3,nO⟩=sO (I Y g.sp.hi)/\wx.cell? ⟨w.heap.size,0+4,nO⟩=sO (Bb g.t)/\wx.cell? ⟨w.heap.size,0+5,nO⟩=sO (Bb g.f)/\wx.cell? ⟨w.heap.size,0+6,nO⟩=sO (U ss g.s.length gc)))) [] (by kernel_rfl) (HKZ.out _ HD) (λhHeld=> ?_);refine vZ 0 ?_ ?_;refine ai (i:=1) rfl (by kernel_rfl) (λK hK=> ?_);go_simp;go_at_call 65;refine(HN.out _).mono ?_;rintro e w2 ⟨rfl,hb2⟩;have HB2:Below w1.heap.size w1 w2:=HD.trans (hb2.mono HD.size);go_wp2_with fail;refine hK.out _ _ (HKZ.out _ HB2) (λhHeld=> ?_);clear hK K;refine sm ?_;refine ai (i:=2) rfl (by kernel_rfl) (λK hK=> ?_);go_simp;go_at_call 132;refine(HI.out _ (I0.below HB2 (lR _))).mono ?_;rintro e w3 ⟨rfl,hb3⟩;have HB3:Below w1.heap.size w1 w3:=HB2.trans (hb3.mono HB2.size);go_wp2_with fail;refine hK.out _ _ (HKZ.out _ HB3) (λhHeld=> ?_);clear hK K;refine sm ?_;refine vZ 3 ?_ ?_;refine vZ 4 ?_ ?_;refine aj (by kernel_rfl) ?_ _;go_wp2;go_ret;exact⟨av HR.out.symm,B0.trans (HB3.mono B0.size)⟩
theorem AE (n:Nat)(w:World)(hn:n<=1000):
  Calls pG 156 #[U nO 0 0,I Y (n:Int)] w λe w'=>(∃rs rc,e=Rt (U rs 0 rc)/\w'.ownsRow w.heap.size 61 7 (U rs 0 rc) 0 [])/\Below w.heap.size w w':=by
 obtain⟨ti,hi,hz0,hz1,hz2⟩:=info_parts Tryz.info_guess;cases n with
 |zero=>
  go_enter Tryz.func156,Tryz.ntmps156;go_wp2;go_ret;exact⟨⟨nO,0,rfl,rfl,.inl ⟨rfl,rfl⟩⟩,bR _ _⟩
 |succ m=>
  have happ:=Lib.run_append_nil_zeros (P:=pG) w 25 3 25 61 ti (Ag #[Bb false,Bb false,I Y 0,I Y 0,Bb false,Bb false,U nO 0 0]) .i64 .i64 Tryz.underlying25 Tryz.underlying3 hi hz0 (m+1) (by omega) (by rw[hz1];omega) (by omega) (by rw[hz2];omega);have hge:=grownCap_ge w (m+1) 0 61;have hle:=grownCap_le_maxLen w (m+1) 0 61 (by unfold maxLen;omega);have HA:=aa happ;have HO:Hid (∀cap,m+1<=cap->cap<=maxLen->(w.drew.alloc (Cc (Builtin.zeroCells (Value.cells (Ag #[Bb false,Bb false,I Y 0,I Y 0,Bb false,Bb false,U nO 0 0])) (m+1)++Builtin.zeroCells (Value.cells (Ag #[Bb false,Bb false,I Y 0,I Y 0,Bb false,Bb false,U nO 0 0])) (cap - (m+1))) 61)).ownsRow w.heap.size 61 7 (U (sO ⟨w.heap.size,0,nO⟩) 0 cap) 0 []):=λcap h1 h2=>by
   refine World.ownsRow_made w.drew _ cap (lR _) h2 ?_;rw[Array.size_append,size_zeroCells,size_zeroCells];have:(Value.cells (Ag #[Bb false,Bb false,I Y 0,I Y 0,Bb false,Bb false,U nO 0 0])).size=7:=rfl;rw[this,<-Nat.add_mul];congr 1;omega
  have hnp:(0:Int) < ((m+1:Nat):Int):=by omega
  have hnn:¬((m+1:Nat):Int) < 0:=by omega
  generalize grownCap w (m+1) 0 61=cp at *;clear happ;generalize hN:m+1=N at *;clear hN;go_enter Tryz.func156,Tryz.ntmps156;go_wp2_with (at_builtin;refine Lib.wpList_append_run _ rfl _ _ _ _ rfl _ _ rfl rfl _ _ HA.out ?_);have h0c:(0:Int)<=(cp:Int):=by omega
  go_wp2;go_ret;refine⟨⟨_,_,rfl,HO.out cp hge hle⟩,?_⟩;exact((bR _ w).drew).alloc (by simp) _

def nk (w':World)(e:Ending)(l:List Gs):Prop:=∃rs rc,e=Rt (U rs l.length rc)/\GsAt w' rs l/\l.length<=rc/\rc<=maxLen
theorem oH (ls:oA)(lc:Nat)(L:List (List Gs))(w:World)(h:RowsAt w ls L)(hl:L.length<=1000)(ht:L.flatten.length<=1000):
  Calls pG 131 #[U ls L.length lc] w λe w'=>nk w' e L.flatten/\Below w.heap.size w w':=by
 obtain⟨ti,hi,hz0,hz1,hz2⟩:=info_parts Tryz.info_guess;have HG:=aa AE;obtain⟨N,eN⟩:∃N,N=L.flatten.length:=⟨_,rfl⟩;have HLE:Hid (∀k,(L.take k).flatten.length<=1000):=λk=>by
  have h1:L.flatten=(L.take k).flatten++(L.drop k).flatten:=by rw[<-List.flatten_append,List.take_append_drop]
  have h2:=congrArg q7 h1;rw[j7] at h2;omega
 rw[<-eN] at ht;have EN:=aa eN;clear eN;go_enter Tryz.func131,Tryz.ntmps131;go_wp2;go_loopw [3,11] (λz i wr=>∃k:Nat,k<=L.length/\i=I Y k/\z=I Y ((L.take k).flatten.length:Int)/\wr=w) (λ_ i _=>L.length - (intOf i).toNat)
 case atStart=>exact⟨0,j6 _,rfl,by simp,rfl⟩
 case round=>
  obtain⟨k,hk,rfl,rfl,hwr⟩:=hrel;rw[hwr];clear hwr;by_cases hlt:k < L.length
  ·have n0:(0:Int)<=(k:Int):=by omega
   have n1:(k:Int) < (L.length:Int):=by omega
   obtain⟨b,off,rfl,zb,rs,rc,C1,k1,m1,J1⟩:=h k hlt;have HF:=aa (ia L k hlt);have hle:=HLE.out (k+1);rw[HF.out,j7] at hle;obtain⟨z0,e0⟩:∃z0,z0=(L.take k).flatten.length:=⟨_,rfl⟩;obtain⟨z1,e1⟩:∃z1,z1=L[k].length:=⟨_,rfl⟩;rw[<-e0,<-e1] at hle;rw[<-e1] at C1;rw[<-e0];have E0:=aa e0;have E1:=aa e1;clear e0 e1 J1 k1;have hnn:¬((z0:Int)+(z1:Int)) < 0:=by omega
   go_wp2;go_roundw
   case rel=>exact⟨k+1,by omega,by go_num,by rw[HF.out,j7,<-E0.out,<-E1.out];first|rfl|go_num|(simp;omega),by first|rfl|trivial⟩
   case measure=>simp[intOf];omega
  ·have n1:¬(k:Int) < (L.length:Int):=by omega
   have et:L.take k=L:=q3 (by omega);rw[et,<-EN.out];go_wp2_with (go_at_call 156;fail);refine(HG.out _ w ht).mono ?_;rintro e w1 ⟨⟨rs0,rc0,rfl,O1⟩,hb1⟩;have C1:CRow w1 w.heap.size (U rs0 0 rc0) []:=⟨O1,λx hx=>by simp at hx⟩;clear O1 HG et;go_wp2;go_loopw [6,27] (λv i wy=>∃(k:Nat) (rs:oA) (rc:Nat) (l:List Gc),k<=L.length/\i=I Y k/\v=U rs l.length rc/\Below w.heap.size w wy/\Hid (l.map Gc.g=(L.take k).flatten)/\CRow wy w.heap.size (U rs l.length rc) l) (λ_ i _=>L.length - (intOf i).toNat)
   case atStart=>exact⟨0,rs0,rc0,[],j6 _,rfl,rfl,hb1,rfl,C1⟩
   case round=>
    clear C1 hb1;obtain⟨k2,rs,rc,l,hk2,rfl,rfl,hby,HE,CL⟩:=hrel;have LL:Hid (l.length=(L.take k2).flatten.length):=by show _=_;rw[<-HE.out,q4]
    by_cases hlt2:k2 < L.length
    ·have n0:(0:Int)<=(k2:Int):=by omega
     have n2:(k2:Int) < (L.length:Int):=by omega
     obtain⟨b,off,rfl,zb,r1,rc1,D1,k1,m1,J1⟩:=h k2 hlt2;obtain⟨lr,elr,hnr,hnnr,hgr,hlr⟩:=J1.gcsTo hby
     have D1':wr.cell? ⟨b,off+k2,nO⟩=sO (U r1 L[k2].length rc1):=by rw[hby.cell (by simp only;exact zb)];exact D1
     have hsum:l.length+L[k2].length<=1000:=by have h1:=HLE.out (k2+1);rw[ia L k2 hlt2,j7] at h1;have:=LL.out;omega
     have HLL:Hid (lr.length=L[k2].length):=by show _=_;rw[<-elr,q4]
     have HNR:=aa hnr;have HLR:=aa elr;clear D1 J1 hnr elr;go_wp2_with (at_builtin;refine aY _ rfl _ _ 25 rfl w.heap.size 61 ti (Ag #[Bb false,Bb false,I Y 0,I Y 0,Bb false,Bb false,U nO 0 0]) 7 64 Tryz.underlying25 hi hz0 hz1 hz2 rfl (by decide) _ _ _ rfl CL.1 r1 L[k2].length rc1 (aF lr) rfl hlr hnnr ?qb2 (gU _) ?qb4 ?qb5 ?qb6 ?_)
     (try (case qb2=>exact HNR.out))
     case qb4=>unfold maxLen;omega
     case qb5=>omega
     (try (case qb6=>exact hby.size))
     intro v1 w5 hown5 hgrow5 hat5;have hb5:Below w.heap.size w w5:=hby.grown hgrow5 hby.size (λk hk=>(aC CL.1 hk).2);have CR5:CRow w5 w.heap.size v1 (l++lr):=CL.grown hgr (by rw[HLL.out];exact hown5) hgrow5;obtain⟨rs',rc',rfl,-,-,-,-⟩:=CR5.at;clear hown5 hgrow5 hat5 HNR hnnr hgr hlr D1' CL;go_wp2;go_roundw
     case rel=>exact⟨k2+1,rs',rc',l++lr,by omega,by go_num,by first|rfl|(rw[j7]),hb5,by show _=_;rw[q8,HE.out,HLR.out,ia _ _ hlt2],CR5⟩
     case measure=>simp[intOf];omega
    ·have n2:¬(k2:Int) < (L.length:Int):=by omega
     have et:L.take k2=L:=q3 (by omega);obtain⟨ra,rb,e0,kv1,kv2,GA,-⟩:=CL.at;cases e0;rw[HE.out,et] at GA;have LF:Hid (l.length=L.flatten.length):=by show _=_;rw[LL.out,et]
     go_wp2;go_ret;refine⟨⟨rs,rc,by show Ending.returned (U rs l.length rc)=_;rw[LF.out],GA,by rw[<-LF.out];exact kv1,kv2⟩,hby⟩

theorem Bn (w:World){vs rs:oA}{vc rc:Nat}{a b:List Gs}(h1:GsAt w vs a)(k1:a.length<=vc)(m1:vc<=maxLen)(h2:GsAt w rs b)(k2:b.length<=rc)(m2:rc<=maxLen):
  RowsAt (w.alloc (Cc #[U vs a.length vc,U rs b.length rc] 25)) (sO ⟨w.heap.size,0,nO⟩) [a,b]:=by
 intro i hi
 match i,hi with
 |0,_=>exact⟨w.heap.size,0,rfl,by simp,vs,vc,by simp[go_sem],k1,m1,h1.alloc _⟩
 |1,_=>exact⟨w.heap.size,0,rfl,by simp,rs,rc,by simp[go_sem],k2,m2,h2.alloc _⟩
 |i+2,h=>simp at h;omega
theorem mZ (x:Pic)(vs:oA)(vc:Nat)(fs:oA)(fc:Nat)(w:World)(h:PicAt w x vs fs)(hvc:x.vars.length<=vc)(hvm:vc<=maxLen)(hl:x.flds.length<=1000)(ha:(bu x).length<=1000):
  Calls pG 102 #[xv x vs vc fs fc] w λe w'=>nk w' e (bu x)/\Below w.heap.size w w':=by
 have B0:Below w.heap.size w (w.alloc (Cc #[Bb x.none,U vs x.vars.length vc,U fs x.flds.length fc] 28)):=by go_grown
 have A0:=XAt.new w x vs vc fs fc;have PV:=h.1.below B0 (lR _);have PF:=h.2.below B0 (lR _);have hf:x.flds.flatten.length<=1000:=by unfold bu at ha;rw[j7] at ha;omega
 obtain⟨fl,efl⟩:∃fl,fl=x.flds.flatten:=⟨_,rfl⟩;have HC1:Hid (∀wx,RowsAt wx fs x.flds->Calls pG 131 #[U fs x.flds.length fc] wx λe w'=>nk w' e fl/\Below wx.heap.size wx w'):=λwx hx=>by rw[efl];exact oH fs fc x.flds wx hx hl hf
 have EA:[x.vars,fl].flatten=bu x:=by unfold bu;rw[efl];simp
 have HC2:Hid (∀wx a,RowsAt wx (sO a) [x.vars,fl]->Calls pG 131 #[U (sO a) 2 2] wx λe w'=>nk w' e (bu x)/\Below wx.heap.size wx w'):=λwx a hx=>by rw[<-EA];exact oH (sO a) 2 [x.vars,fl] wx hx (by simp) (by rw[EA];exact ha)
 clear efl EA hf;clear h ha;go_enter Tryz.func102,Tryz.ntmps102
 go_upto_region 1 with fail
 generalize w.alloc (Cc #[Bb x.none,U vs x.vars.length vc,U fs x.flds.length fc] 28)=w1 at *;obtain⟨⟨a0,a1,a2⟩,az,-⟩:=id A0;have HKZ:Hid (∀wx,Below w1.heap.size w1 wx->wx.cell? ⟨w.heap.size,1,nO⟩=sO (U vs x.vars.length vc)/\wx.cell? ⟨w.heap.size,2,nO⟩=sO (U fs x.flds.length fc)):=λwx hx=>⟨by rw[hx.cell (by simp only;exact az)];exact a1,by rw[hx.cell (by simp only;exact az)];exact a2⟩;have HD:Below w1.heap.size w1 w1.drew:=(bR _ _).drew;clear a0 a1 a2 az;refine am (S:=(λwx=>wx.cell? ⟨w.heap.size,1,nO⟩=sO (U vs x.vars.length vc)/\wx.cell? ⟨w.heap.size,2,nO⟩=sO (U fs x.flds.length fc))) [] (by kernel_rfl) (HKZ.out _ HD) (λhHeld=> ?_);refine vZ 0 ?_ ?_;refine vZ 1 ?_ ?_;refine vZ 2 ?_ ?_;refine vZ 3 ?_ ?_;refine ai (i:=4) rfl (by kernel_rfl) (λK hK=> ?_);go_simp;go_at_call 131;refine(HC1.out _ (PF.below HD (lR _))).mono ?_;rintro e w2 ⟨⟨rs,rc,rfl,GF,k1,k2⟩,hb2⟩;have HB2:Below w1.heap.size w1 w2:=HD.trans (hb2.mono HD.size);go_wp2_with fail;refine hK.out _ _ (HKZ.out _ HB2) (λhHeld=> ?_);clear hK K;refine sm ?_;refine ai (i:=5) rfl (by kernel_rfl) (λK hK=> ?_);go_simp;have hba:Below w2.heap.size w2 (w2.alloc (Cc #[U vs x.vars.length vc,U rs fl.length rc] 25)):=by go_grown
 have HB3:Below w1.heap.size w1 (w2.alloc (Cc #[U vs x.vars.length vc,U rs fl.length rc] 25)):=HB2.trans (hba.mono HB2.size);refine hK.out _ _ (HKZ.out _ HB3) (λhHeld=> ?_);clear hK K;refine sm ?_;have RR:RowsAt (w2.alloc (Cc #[U vs x.vars.length vc,U rs fl.length rc] 25)) (sO ⟨w2.heap.size,0,nO⟩) [x.vars,fl]:=Bn w2 (PV.below HB2 (lR _)) hvc hvm GF k1 k2;refine ai (i:=6) rfl (by kernel_rfl) (λK hK=> ?_);go_simp;go_at_call 131;refine(HC2.out _ _ RR).mono ?_;rintro e w4 ⟨⟨ra,rb,rfl,GA,j1,j2⟩,hb4⟩;have HB4:Below w1.heap.size w1 w4:=HB3.trans (hb4.mono HB3.size);go_wp2_with fail;refine hK.out _ _ (HKZ.out _ HB4) (λhHeld=> ?_);clear hK K;refine sm ?_;refine vZ 7 ?_ ?_;refine aj (by kernel_rfl) ?_ _;go_wp2;go_ret;exact⟨⟨ra,rb,rfl,GA,j1,j2⟩,B0.trans (HB4.mono B0.size)⟩
theorem uE (l:List Gs)(rs:oA)(rc q:Nat)(V F:Int)(s:oA)(c:List Ins)(cap:Nat)(w:World)(hp:PrAt w q V F s c cap):
  Calls pG 133 #[U rs l.length rc,Pp (sO ⟨q,0,nO⟩)] w λe w'=>e=Rt (Bb ((λr:List Gs=> !decide ((r.length:Int)=F)) l))/\Below w.heap.size w w':=by
 obtain⟨⟨p0,p1,p2⟩,pz⟩:=id hp;by_cases h:(l.length:Int)=F
 ·have e1:((l.length:Int)!=F)=false:=by simpa using h
  have er:(λr:List Gs=> !decide ((r.length:Int)=F)) l=false:=by simp[h]
  rw[er];clear er h;go_enter Tryz.func133,Tryz.ntmps133;go_wp2;go_ret;exact⟨rfl,by go_grown⟩
 ·have e1:((l.length:Int)!=F)=true:=by simpa using h
  have er:(λr:List Gs=> !decide ((r.length:Int)=F)) l=true:=by simp[h]
  rw[er];clear er h;go_enter Tryz.func133,Tryz.ntmps133;go_wp2;go_ret;exact⟨rfl,by go_grown⟩
theorem sh (q:Nat)(V F:Int)(s:oA)(c:List Ins)(cap:Nat)(fs:oA)(fc:Nat)(L:List (List Gs))(w:World)(hl:L.length<=9223372036854775807)(h:RowsAt w fs L)(hp:PrAt w q V F s c cap):
  Calls pG 158 #[U fs L.length fc,.func (.func 133) #[] #[Pp (sO ⟨q,0,nO⟩)]] w λe w'=>∃n:Int,e=Rt (I Y n)/\decide (0<=n)=L.any (λr:List Gs=> !decide ((r.length:Int)=F))/\Below w.heap.size w w':=by
 have HF:Hid (∀(l:List Gs) (rs:oA) (rc:Nat) (wx:World),PrAt wx q V F s c cap->Calls pG 133 #[U rs l.length rc,Pp (sO ⟨q,0,nO⟩)] wx λe w'=>e=Rt (Bb ((λr:List Gs=> !decide ((r.length:Int)=F)) l))/\Below wx.heap.size wx w'):=λl rs rc wx hx=>uE l rs rc q V F s c cap wx hx;generalize hpp:(λr:List Gs=> !decide ((r.length:Int)=F))=pp at *;clear hpp;go_enter Tryz.func158,Tryz.ntmps158;go_wp2;go_loopw [8] (λi wr=>∃k:Nat,k<=L.length/\i=I Y k/\Below w.heap.size w wr/\Hid (L.any pp=(L.drop k).any pp)) (λi _=>L.length - (intOf i).toNat)
 case atStart=>exact⟨0,j6 _,rfl,bR _ _,rfl⟩
 case round=>
  obtain⟨k,hk,rfl,hbr,HA⟩:=hrel;by_cases hlt:k < L.length
  ·obtain⟨b,off,rfl,zb,rs,rc,C1,k1,m1,-⟩:=h k hlt
   have n0:(0:Int)<=(k:Int):=by omega
   have n1:(k:Int) < (L.length:Int):=by omega
   have s0:=hbr.size;have c0:wr.cell? ⟨b,off+k,nO⟩=sO (U rs L[k].length rc):=by rw[hbr.cell (by simp only;exact zb)];exact C1
   have HN:Hid ((L.drop k).any pp=(pp L[k]||(L.drop (k+1)).any pp)):=fQ L pp k hlt;clear C1 h;go_wp2_with (go_at_call 133;fail);refine(HF.out L[k] _ _ _ (hp.call hbr)).mono ?_;rintro e w1 ⟨rfl,hb1⟩;cases hpk:pp L[k] with
   |true=>
    have HT:Hid (L.any pp=true):=by show _=_;rw[HA.out,HN.out,hpk];rfl
    clear HN HA;go_wp2;go_ret;exact⟨_,rfl,by rw[HT.out];simp,hbr.trans (hb1.mono s0)⟩
   |false=>
    have HT:Hid (L.any pp=(L.drop (k+1)).any pp):=by show _=_;rw[HA.out,HN.out,hpk];rfl
    clear HN HA;go_wp2;go_roundw
    case rel=>exact⟨k+1,by omega,by go_num,hbr.trans (hb1.mono s0),HT⟩
    case measure=>simp[intOf];omega
  ·go_wp2
   go_ret;exact⟨_,rfl,by rw[HA.out,j9 (by omega)];rfl,hbr⟩
theorem m8 (q:Nat)(V F:Int)(s:oA)(c:List Ins)(cap:Nat)(fs:oA)(fc:Nat)(L:List (List Gs))(w:World)(hl:L.length<=9223372036854775807)(h:RowsAt w fs L)(hp:PrAt w q V F s c cap):
  Calls pG 134 #[U fs L.length fc,.func (.func 133) #[] #[Pp (sO ⟨q,0,nO⟩)]] w λe w'=>e=Rt (Bb (L.any (λr:List Gs=> !decide ((r.length:Int)=F))))/\Below w.heap.size w w':=by
 have HI:=aa (sh q V F s c cap fs fc L w hl h hp);generalize L.any (λr:List Gs=> !decide ((r.length:Int)=F))=res at *;go_enter Tryz.func134,Tryz.ntmps134;go_wp2_with (go_at_call 158;fail);refine HI.out.mono ?_;rintro e w1 ⟨n,rfl,hn,hb1⟩;subst hn;go_wp2;go_ret;exact⟨rfl,hb1⟩
theorem rT (V F:Int)(s:oA)(c:List Ins)(cap:Nat)(vars:List Gs)(flds:List (List Gs))(vs:oA)(vc:Nat)(fs:oA)(fc:Nat)(w:World):
  Calls pG 105 #[pv V F s c cap,xv ⟨true,vars,flds⟩ vs vc fs fc] w λe w'=>e=Rt (Bb (decide (vars.length=0)&&decide (flds.length=0)))/\Below w.heap.size w w':=by
 cases vars with
 |nil=>
  cases flds with
  |nil=>
   go_enter Tryz.func105,Tryz.ntmps105;go_wp2;go_ret;exact⟨rfl,by go_grown⟩
  |cons r flds=>
   go_enter Tryz.func105,Tryz.ntmps105;go_wp2;go_ret;exact⟨rfl,by go_grown⟩
 |cons g vars=>
  go_enter Tryz.func105,Tryz.ntmps105;go_wp2;go_ret;exact⟨rfl,by go_grown⟩
theorem rD (V F:Int)(s:oA)(c:List Ins)(cap:Nat)(vars:List Gs)(flds:List (List Gs))(vs:oA)(vc:Nat)(fs:oA)(fc:Nat)(w:World)(h:¬(vars.length:Int)=V):
  Calls pG 105 #[pv V F s c cap,xv ⟨false,vars,flds⟩ vs vc fs fc] w λe w'=>e=Rt (Bb false)/\Below w.heap.size w w':=by
 have hmf:∀(fn:Fn) (first cp:Array Value) (w:World),(Instr.makeFunc fn first cp).run pG w=.ok (.func fn first cp) w:=λ_ _ _ _=>rfl;have n1:((vars.length:Int)==V)=false:=by simpa using h
 clear h;go_enter Tryz.func105,Tryz.ntmps105;go_wp2;go_ret;exact⟨rfl,by go_grown⟩
theorem rH (V F:Int)(s:oA)(c:List Ins)(cap:Nat)(vars:List Gs)(flds:List (List Gs))(vs:oA)(vc:Nat)(fs:oA)(fc:Nat)(w:World)(h:¬flds.length=c.length):
  Calls pG 105 #[pv (vars.length:Int) F s c cap,xv ⟨false,vars,flds⟩ vs vc fs fc] w λe w'=>e=Rt (Bb false)/\Below w.heap.size w w':=by
 have hmf:∀(fn:Fn) (first cp:Array Value) (w:World),(Instr.makeFunc fn first cp).run pG w=.ok (.func fn first cp) w:=λ_ _ _ _=>rfl;have n1:((flds.length:Int)==(c.length:Int))=false:=by simp;omega
 clear h;go_enter Tryz.func105,Tryz.ntmps105;go_wp2;go_ret;exact⟨rfl,by go_grown⟩
theorem rQ (V F:Int)(s:oA)(c:List Ins)(cap:Nat)(vars:List Gs)(flds:List (List Gs))(vs:oA)(vc:Nat)(fs:oA)(fc:Nat)(w:World)(hR:RowsAt w fs flds)(h:flds.length=c.length)(h60:c.length<=60):
  Calls pG 105 #[pv (vars.length:Int) F s c cap,xv ⟨false,vars,flds⟩ vs vc fs fc] w λe w'=>e=Rt (Bb (!(flds.any (λr:List Gs=> !decide ((r.length:Int)=F)))))/\Below w.heap.size w w':=by
 have hmf:∀(fn:Fn) (first cp:Array Value) (w:World),(Instr.makeFunc fn first cp).run pG w=.ok (.func fn first cp) w:=λ_ _ _ _=>rfl;have n1:((flds.length:Int)==(c.length:Int))=true:=by simp;omega
 have hl:flds.length<=9223372036854775807:=by omega
 have B0:Below w.heap.size w ((w.alloc (Cc #[I Y (vars.length:Int),I Y F,U s c.length cap] 24)).alloc (Cc #[Bb false,U vs vars.length vc,U fs flds.length fc] 28)):=by go_grown
 have P0:=(PrAt.new w (vars.length:Int) F s c cap).call (w':=((w.alloc (Cc #[I Y (vars.length:Int),I Y F,U s c.length cap] 24)).alloc (Cc #[Bb false,U vs vars.length vc,U fs flds.length fc] 28))) (by go_grown);have HC:=aa (m8 w.heap.size (vars.length:Int) F s c cap fs fc flds ((w.alloc (Cc #[I Y (vars.length:Int),I Y F,U s c.length cap] 24)).alloc (Cc #[Bb false,U vs vars.length vc,U fs flds.length fc] 28)) hl (hR.below B0 (lR _)) P0);generalize flds.any (λr:List Gs=> !decide ((r.length:Int)=F))=q at *;clear hR h P0;go_enter Tryz.func105,Tryz.ntmps105;go_wp2_with (go_at_call 134;fail);refine HC.out.mono ?_;rintro e w1 ⟨rfl,hb1⟩;go_wp2;go_ret;exact⟨rfl,B0.trans (hb1.mono B0.size)⟩

theorem lm (V F:Int)(s:oA)(c:List Ins)(cap:Nat)(x:Pic)(vs:oA)(vc:Nat)(fs:oA)(fc:Nat)(w:World)(hP:PicAt w x vs fs)(h60:c.length<=60):
  Calls pG 105 #[pv V F s c cap,xv x vs vc fs fc] w λe w'=>e=Rt (Bb (bh V F c x))/\Below w.heap.size w w':=by
 obtain⟨n,vars,flds⟩:=x;cases n with
 |true=>exact rT V F s c cap vars flds vs vc fs fc w
 |false=>
  by_cases h1:(vars.length:Int)=V
  ·by_cases h2:flds.length=c.length
   ·have e1:bh V F c ⟨false,vars,flds⟩= !(flds.any (λr:List Gs=> !decide ((r.length:Int)=F))):=by
     unfold bh;simp[h1,h2]
    rw[e1];have h:=rQ V F s c cap vars flds vs vc fs fc w hP.2 h2 h60;rw[h1] at h;exact h
   ·have e1:bh V F c ⟨false,vars,flds⟩=false:=by
     unfold bh;simp[h2]
    rw[e1];have h:=rH V F s c cap vars flds vs vc fs fc w h2;rw[h1] at h;exact h
  ·have e1:bh V F c ⟨false,vars,flds⟩=false:=by
    unfold bh;simp[h1]
   rw[e1];exact rD V F s c cap vars flds vs vc fs fc w h1
theorem rF (ls:oA)(L:List Gs)(lc:Nat)(w:World)(hl:L.length<=9223372036854775807)(hL:GsAt w ls L):
  Calls pG 135 #[U ls L.length lc,.func (.func 106) #[] #[]] w λe w'=>∃n:Int,e=Rt (I Y n)/\decide (0<=n)=L.any cu/\Below w.heap.size w w':=by
 have HF:=aa ip;generalize cu=p at *;go_enter Tryz.func135,Tryz.ntmps135;go_wp2;go_loopw [8] (λi wr=>∃k:Nat,k<=L.length/\i=I Y k/\GsAt wr ls L/\Below w.heap.size w wr/\Hid (L.any p=(L.drop k).any p)) (λi _=>L.length - (intOf i).toNat)
 case atStart=>exact⟨0,j6 _,rfl,hL,bR _ _,rfl⟩
 case round=>
  obtain⟨k,hk,rfl,hR,hbr,HA⟩:=hrel;by_cases hlt:k < L.length
  ·obtain⟨b,off,rfl,ss,gc,hG,hI,l1,l2⟩:=hR k hlt
   obtain⟨⟨g0,g1,g2,g3,g4,g5,g6⟩,gz⟩:=id hG;have n0:(0:Int)<=(k:Int):=by omega
   have n1:(k:Int) < (L.length:Int):=by omega
   have s0:=hbr.size;have HN:Hid ((L.drop k).any p=(p L[k]||(L.drop (k+1)).any p)):=fQ L p k hlt;go_wp2_with (go_at_call 106;fail);refine(HF.out L[k] ss gc _ hI (lT l1 l2)).mono ?_;rintro e w1 ⟨rfl,hb1⟩;cases hp:p L[k] with
   |true=>
    have HT:Hid (L.any p=true):=by show _=_;rw[HA.out,HN.out,hp];rfl
    clear HN HA;go_wp2;go_ret;exact⟨_,rfl,by rw[HT.out];simp,hbr.trans (hb1.mono s0)⟩
   |false=>
    have HT:Hid (L.any p=(L.drop (k+1)).any p):=by show _=_;rw[HA.out,HN.out,hp];rfl
    have hR':=hR.call hb1;clear HN HA;go_wp2;go_roundw
    case rel=>exact⟨k+1,by omega,by go_num,hR',hbr.trans (hb1.mono s0),HT⟩
    case measure=>simp[intOf];omega
  ·go_wp2
   go_ret;exact⟨_,rfl,by rw[HA.out,j9 (by omega)];rfl,hbr⟩
theorem mT (ls:oA)(L:List Gs)(lc:Nat)(w:World)(hl:L.length<=9223372036854775807)(hL:GsAt w ls L):
  Calls pG 108 #[U ls L.length lc,.func (.func 106) #[] #[]] w λe w'=>e=Rt (Bb (L.any cu))/\Below w.heap.size w w':=by
 have HI:=aa (rF ls L lc w hl hL);generalize L.any cu=res at *;go_enter Tryz.func108,Tryz.ntmps108;go_wp2_with (go_at_call 135;fail);refine HI.out.mono ?_;rintro e w1 ⟨n,rfl,hn,hb1⟩;subst hn;go_wp2;go_ret;exact⟨rfl,hb1⟩
def Bk (B:Nat)(w':World)(e:Ending)(x:Pic):Prop:=∃v gs gc L,x=aG x.none v L/\e=Rt (Ag #[Bb x.none,U v.rs v.l.length v.rc,U gs L.length gc])/\PicG (λb=>B<=b) B w' v gs gc L
theorem mS (xn:Bool)(vx:List Gs)(fx:List (List Gs))(vs1:oA)(vc1:Nat)(fs1:oA)(fc1:Nat)(w:World)(hx:PicAt w ⟨xn,vx,fx⟩ vs1 fs1)(hv8:vx.length<=1000000)(h60:fx.length<=1000000)(hr:∀i (h:i < fx.length),fx[i].length<=1000000)(hR1:∀g∈vx,g.s.length<=1000000)(hR2:∀i (h:i < fx.length),∀g∈fx[i],g.s.length<=1000000):
  Calls pG 20 #[xv ⟨xn,vx,fx⟩ vs1 vc1 fs1 fc1] w λe w'=>Bk w.heap.size w' e ⟨xn,vx,fx⟩/\Below w.heap.size w w':=by
 obtain⟨ti,hi,hz0,hz1,hz2⟩:=info_parts Tryz.info_guess;obtain⟨tk,hk,hx0,hx1,hx2⟩:=info_parts Tryz.info_row;have HO:Hid (∀(g:Gs) (ss:oA) (gc:Nat) (wx:World),IntsAt wx ss g.s->g.s.length<=1000000->Calls pG 57 #[gv g ss gc] wx λe w'=>(∃js jc,e=Rt (gv g js jc)/\IntsAt w' js g.s/\g.s.length<=jc/\jc<=maxLen/\∀a,js=sO a->wx.heap.size<=a.block)/\Below wx.heap.size wx w'):=λg ss gc wx h1 h2=>uw g ss gc wx h1 h2;have HR:=aa hr;have HR1:=aa hR1;have HR2:=aa hR2;have HX:=aa hx;clear hr hR1 hR2 hx;have hb0:Below w.heap.size w (((w.alloc (Cc #[Bb xn,U vs1 vx.length vc1,U fs1 fx.length fc1] 28)).alloc (Cc #[Bb false,U nO 0 0,U nO 0 0] 28)).alloc (Cc #[Bb xn,U nO 0 0,U nO 0 0] 28)):=by go_grown
 have A0:=(XAt.new w ⟨xn,vx,fx⟩ vs1 vc1 fs1 fc1).call (w':=(((w.alloc (Cc #[Bb xn,U vs1 vx.length vc1,U fs1 fx.length fc1] 28)).alloc (Cc #[Bb false,U nO 0 0,U nO 0 0] 28)).alloc (Cc #[Bb xn,U nO 0 0,U nO 0 0] 28))) (by go_grown);have C0:=(X3.new (w.alloc (Cc #[Bb xn,U vs1 vx.length vc1,U fs1 fx.length fc1] 28)) 28 (Bb false) (U nO 0 0) (U nO 0 0)).call (w':=(((w.alloc (Cc #[Bb xn,U vs1 vx.length vc1,U fs1 fx.length fc1] 28)).alloc (Cc #[Bb false,U nO 0 0,U nO 0 0] 28)).alloc (Cc #[Bb xn,U nO 0 0,U nO 0 0] 28))) (by go_grown);have D0:=X3.new ((w.alloc (Cc #[Bb xn,U vs1 vx.length vc1,U fs1 fx.length fc1] 28)).alloc (Cc #[Bb false,U nO 0 0,U nO 0 0] 28)) 28 (Bb xn) (U nO 0 0) (U nO 0 0);have z0:w.heap.size+1+1+1<=(((w.alloc (Cc #[Bb xn,U vs1 vx.length vc1,U fs1 fx.length fc1] 28)).alloc (Cc #[Bb false,U nO 0 0,U nO 0 0] 28)).alloc (Cc #[Bb xn,U nO 0 0,U nO 0 0] 28)).heap.size:=by simp
 rw[zA] at C0;rw[zA,zA] at D0
 (try simp only at A0)
 go_enter Tryz.func20,Tryz.ntmps20
 go_upto_region 3 with fail
 generalize (((w.alloc (Cc #[Bb xn,U vs1 vx.length vc1,U fs1 fx.length fc1] 28)).alloc (Cc #[Bb false,U nO 0 0,U nO 0 0] 28)).alloc (Cc #[Bb xn,U nO 0 0,U nO 0 0] 28))=w1 at *;go_wp2;go_loopw [5] (λi wr=>∃(k:Nat) (vs:oA) (vc:Nat) (l:List Gc),k<=vx.length/\i=I Y k/\XAt wr w.heap.size ⟨xn,vx,fx⟩ vs1 vc1 fs1 fc1/\X3 wr (w.heap.size+1) (Bb false) (U nO 0 0) (U nO 0 0)/\X3 wr (w.heap.size+1+1) (Bb xn) (U vs l.length vc) (U nO 0 0)/\SRow wr (w.heap.size+1+1+1) (U vs l.length vc) l/\Hid (l.map Gc.g=vx.take k)/\Below w.heap.size w wr/\w.heap.size+1+1+1<=wr.heap.size) (λi _=>vx.length - (intOf i).toNat)
 case atStart=>exact⟨0,nO,0,[],j6 _,rfl,A0,C0,D0,SRow.nil _ _,rfl,hb0,z0⟩
 case round=>
  obtain⟨k,vs,vc,l,hk1,rfl,AR,CR,ZR,SR,HL,LR,zr⟩:=hrel;clear A0 C0 D0 hb0 z0;have LL:Hid (l.length=k):=by
   show _=_;have h1:=congrArg q7 HL.out;rw[q4,q9] at h1;omega
  by_cases hlt:k < vx.length
  ·have n0:(0:Int)<=(k:Int):=by omega
   have n1:(k:Int) < (vx.length:Int):=by omega
   obtain⟨b1,o1,e1,ss1,g1,G1,I1,k1,m1⟩:=(HX.out.1.below LR (lR _)) k hlt;subst e1;have hlk:=HR1.out _ (gM hlt)
   (try simp only at G1 I1)
   have zb1:b1 < w.heap.size:=iO (HX.out.1) k hlt;obtain⟨⟨a0,a1,a2⟩,az,-⟩:=id AR;obtain⟨⟨y0,y1,y2⟩,yz,-⟩:=id ZR;have HKZ:Hid (∀wx,Below (w.heap.size+1+1+1) wr wx->wx.cell? ⟨w.heap.size+1+1,1,nO⟩=sO (U vs l.length vc)/\(wx.cell? ⟨w.heap.size,1,nO⟩=sO (U (sO ⟨b1,o1,nO⟩) vx.length vc1)/\(wx.cell? ⟨b1,o1+k * 7,nO⟩=sO (Bb vx[k].n)/\wx.cell? ⟨b1,o1+k * 7+1,nO⟩=sO (Bb vx[k].sp.n)/\wx.cell? ⟨b1,o1+k * 7+2,nO⟩=sO (I Y vx[k].sp.lo)/\wx.cell? ⟨b1,o1+k * 7+3,nO⟩=sO (I Y vx[k].sp.hi)/\wx.cell? ⟨b1,o1+k * 7+4,nO⟩=sO (Bb vx[k].t)/\wx.cell? ⟨b1,o1+k * 7+5,nO⟩=sO (Bb vx[k].f)/\wx.cell? ⟨b1,o1+k * 7+6,nO⟩=sO (U ss1 vx[k].s.length g1)))):=λwx hx=>⟨by rw[hx.cell (by simp only;omega)];exact y1,⟨by rw[hx.cell (by simp only;omega)];exact a1,(G1.low hx (by omega)).1⟩⟩;have HD:Below wr.heap.size wr wr.drew:=(bR _ _).drew;go_wp2;clear a0 a1 a2 az y0 y1 y2 yz;refine am (S:=(λwx=>wx.cell? ⟨w.heap.size+1+1,1,nO⟩=sO (U vs l.length vc)/\(wx.cell? ⟨w.heap.size,1,nO⟩=sO (U (sO ⟨b1,o1,nO⟩) vx.length vc1)/\(wx.cell? ⟨b1,o1+k * 7,nO⟩=sO (Bb vx[k].n)/\wx.cell? ⟨b1,o1+k * 7+1,nO⟩=sO (Bb vx[k].sp.n)/\wx.cell? ⟨b1,o1+k * 7+2,nO⟩=sO (I Y vx[k].sp.lo)/\wx.cell? ⟨b1,o1+k * 7+3,nO⟩=sO (I Y vx[k].sp.hi)/\wx.cell? ⟨b1,o1+k * 7+4,nO⟩=sO (Bb vx[k].t)/\wx.cell? ⟨b1,o1+k * 7+5,nO⟩=sO (Bb vx[k].f)/\wx.cell? ⟨b1,o1+k * 7+6,nO⟩=sO (U ss1 vx[k].s.length g1))))) [12] (by kernel_rfl) (HKZ.out _ (HD.mono zr)) (λhHeld=> ?_);refine vZ 0 ?_ ?_;refine vZ 1 ?_ ?_;refine vZ 2 ?_ ?_;refine vZ 3 ?_ ?_;refine vZ 4 ?_ ?_;refine vZ 5 ?_ ?_;refine vZ 6 ?_ ?_;refine vZ 7 ?_ ?_;refine ai (i:=8) rfl (by kernel_rfl) (λK hK=> ?_);go_simp;go_at_call 57;refine(HO.out vx[k] ss1 g1 _ (I1.call HD) hlk).mono ?_;rintro e w5 ⟨⟨js,jc,rfl,HI5,HJ1,HJ2,HF5⟩,hb5⟩;have HW5:Below wr.heap.size wr w5:=HD.trans (hb5.mono HD.size);have HB5:Below (w.heap.size+1+1+1) wr w5:=HW5.mono zr;go_wp2_with fail;refine hK.out _ _ (HKZ.out _ HB5) (λhHeld=> ?_);clear hK K;refine sm ?_;refine ai (i:=9) rfl (by kernel_rfl) (λK hK=> ?_);go_simp;have HW6:Below wr.heap.size wr (w5.alloc (Cc #[Bb vx[k].n,Bb vx[k].sp.n,I Y vx[k].sp.lo,I Y vx[k].sp.hi,Bb vx[k].t,Bb vx[k].f,U js vx[k].s.length jc] 61)):=HW5.alloc HW5.size _;have HB6:Below (w.heap.size+1+1+1) wr (w5.alloc (Cc #[Bb vx[k].n,Bb vx[k].sp.n,I Y vx[k].sp.lo,I Y vx[k].sp.hi,Bb vx[k].t,Bb vx[k].f,U js vx[k].s.length jc] 61)):=HW6.mono zr;refine hK.out _ _ (HKZ.out _ HB6) (λhHeld=> ?_);clear hK K;refine sm ?_;refine ai (i:=10) rfl (by kernel_rfl) (λK hK=> ?_);have S6:=SR.call HW6;have GX:bA (λb=>w.heap.size+1+1+1<=b/\(Value.slice vs l.length vc).ownBlock≠sO b) (w5.alloc (Cc #[Bb vx[k].n,Bb vx[k].sp.n,I Y vx[k].sp.lo,I Y vx[k].sp.hi,Bb vx[k].t,Bb vx[k].f,U js vx[k].s.length jc] 61)) ⟨vx[k],js,jc⟩:=fC HI5 HJ1 HJ2 HF5 zr (λe=>(aC SR.1 e).1) (by go_grown) (HD.size);refine da _ rfl _ _ 25 rfl (w.heap.size+1+1+1) 61 ti (Ag #[Bb false,Bb false,I Y 0,I Y 0,Bb false,Bb false,U nO 0 0]) 7 64 Tryz.underlying25 hi hz0 hz1 hz2 rfl (by decide) _ _ _ rfl S6.1 (sO ⟨w5.heap.size,0,nO⟩) 1 1 (ba ⟨vx[k],js,jc⟩) rfl rfl (λh=>by cases h) (iw w5 ⟨vx[k],js,jc⟩ #[Bb vx[k].n,Bb vx[k].sp.n,I Y vx[k].sp.lo,I Y vx[k].sp.hi,Bb vx[k].t,Bb vx[k].f,U js vx[k].s.length jc] _ rfl) (cM _) (by unfold maxLen;have:=LL.out;omega) (by have:=LL.out;omega) (by rw[zA];have:=HW5.size;omega) ?_;intro v' w7 hown hgrow hat;have S7:=S6.grown (x:=⟨vx[k],js,jc⟩) GX hown hgrow hat;have HB7:Below (w.heap.size+1+1+1) wr w7:=HB6.grown hgrow (by rw[zA];have:=HW5.size;omega) (λk hk=>(aC S6.1 hk).2)
   obtain⟨vs',vc',rfl,-,-,-⟩:=S7.in;refine hK.out _ _ (HKZ.out _ HB7) (λhHeld=> ?_);clear hK K hown hgrow hat S6 GX HB6 HW6 HB5 HW5 HI5 HF5;refine sm ?_;refine vZ 11 ?_ ?_;refine bo (i:=12) rfl (by kernel_rfl) (by kernel_rfl) (λK hK=> ?_);have Z7:X3 w7 (w.heap.size+1+1) (Bb xn) (U vs l.length vc) (U nO 0 0):=ZR.same (HB7.block _ (by omega)) HB7.size;obtain⟨⟨y0,y1,y2⟩,yz,yf⟩:=id Z7;have yf1:=yf 1;clear yf;go_simp;refine hK.out _ _ ?_;clear hK K;refine sm ?_;refine aj (by kernel_rfl) ?_ _;clear y0 y1 y2 yz yf1;have A7:XAt w7 w.heap.size ⟨xn,vx,fx⟩ _ vc1 fs1 fc1:=AR.same (HB7.block _ (by omega)) HB7.size;have C7:X3 w7 (w.heap.size+1) (Bb false) (U nO 0 0) (U nO 0 0):=CR.same (HB7.block _ (by omega)) HB7.size;have L7:=LR.trans (HB7.mono (by omega));have z7:w.heap.size+1+1+1<=w7.heap.size:=lT zr HB7.size;have e7:∀b,b≠w.heap.size+1+1->(w7.setCell ⟨w.heap.size+1+1,1,nO⟩ (U vs' (l++[(⟨vx[k],js,jc⟩:Gc)]).length vc')).heap[b]? =w7.heap[b]? :=λb hb=>hSe _ _ _ _ hb;have s7:w7.heap.size<=(w7.setCell ⟨w.heap.size+1+1,1,nO⟩ (U vs' (l++[(⟨vx[k],js,jc⟩:Gc)]).length vc')).heap.size:=by simp[q5]
   clear AR CR ZR SR LR zr HKZ;go_wp2;go_roundw
   case rel=>exact⟨k+1,vs',vc',l++[⟨vx[k],js,jc⟩],by omega,by go_num,by first|exact A7.same (e7 _ (by omega)) s7|(simpa using A7.same (e7 _ (by omega)) s7),by first|exact C7.same (e7 _ (by omega)) s7|(simpa using C7.same (e7 _ (by omega)) s7),by first|exact Z7.put1 _|(simpa using Z7.put1 (U vs' (l++[(⟨vx[k],js,jc⟩:Gc)]).length vc')),by first|exact S7.old (λb hb=>e7 b (by omega)) s7|(simpa using S7.old (λb hb=>e7 b (by omega)) s7),by show _=_;rw[q8,HL.out,z3 hlt];rfl,by first|exact L7.setCell (by simp only;omega) _|(simpa using L7.setCell (p:=⟨w.heap.size+1+1,1,nO⟩) (by simp only;omega) (U vs' (l++[(⟨vx[k],js,jc⟩:Gc)]).length vc')),by simpa[q5] using z7⟩
   case measure=>simp[intOf];omega
  ·have n1':¬(k:Int) < (vx.length:Int):=by omega
   have et1:vx.take k=vx:=q3 (by omega);have HLV:Hid (l.map Gc.g=vx):=by show _=_;rw[HL.out,et1]
   have GV:VRow (λb=>w.heap.size+1+1+1<=b/\b < wr.heap.size) wr (w.heap.size+1+1+1) (U vs l.length vc) l:=SR.vrow.mono λb h1 h2=>⟨h1,h2⟩;clear SR LL HL et1;have zn:w.heap.size+1+1+1<=wr.heap.size:=zr;obtain⟨⟨a0,a1,a2⟩,az,-⟩:=id AR;generalize hN:wr.heap.size=N at *;have HNN:=aa hN;clear hN;go_wp2;clear a0 a1 a2 az;go_loopw [6] (λi wr=>∃(k:Nat) (fs:oA) (fc:Nat) (L:List Ro),k<=fx.length/\i=I Y k/\XAt wr w.heap.size ⟨xn,vx,fx⟩ vs1 vc1 fs1 fc1/\X3 wr (w.heap.size+1) (Bb false) (U nO 0 0) (U nO 0 0)/\X3 wr (w.heap.size+1+1) (Bb xn) (U vs l.length vc) (U fs L.length fc)/\FRowS wr N (U fs L.length fc) L/\Hid (L.map roG=fx.take k)/\VRow (λb=>w.heap.size+1+1+1<=b/\b < N) wr (w.heap.size+1+1+1) (U vs l.length vc) l/\Below w.heap.size w wr/\N<=wr.heap.size) (λi _=>fx.length - (intOf i).toNat)
   case atStart=>exact⟨0,nO,0,[],j6 _,rfl,AR,CR,ZR,FRowS.nil _ _,rfl,GV,LR,by rw[HNN.out];exact lR _⟩
   case round=>
    clear AR CR ZR GV LR zr HNN;obtain⟨k2,fs,fc,L,hk2,rfl,AR,CR,ZR,FR,HL,GV,LR,zr⟩:=hrel;generalize wr=w6 at *;clear wr;have LL:Hid (L.length=k2):=by
     show _=_;have h1:=congrArg q7 HL.out;rw[q4,q9] at h1;omega
    obtain⟨⟨a0,a1,a2⟩,az,-⟩:=id AR;by_cases hlt2:k2 < fx.length
    ·have n0:(0:Int)<=(k2:Int):=by omega
     have n2':(k2:Int) < (fx.length:Int):=by omega
     go_wp2;clear a0 a1 a2 az;go_loopw [7,8] (λr i2 wo=>∃(m:Nat) (rs:oA) (rc:Nat) (lr:List Gc),m<=fx[k2].length/\r=U rs lr.length rc/\i2=I Y m/\Below w6.heap.size w6 wo/\SRow wo w6.heap.size (U rs lr.length rc) lr/\Hid (lr.map Gc.g=fx[k2].take m)) (λ_ i2 _=>fx[k2].length - (intOf i2).toNat)
     case atStart=>exact⟨0,nO,0,[],j6 _,rfl,rfl,bR _ _,SRow.nil _ _,rfl⟩
     case round=>
      obtain⟨m,rs,rc,lr,hm,rfl,rfl,hbo,SR,HM⟩:=hrel;have h3:=HR.out k2 hlt2;have LM:Hid (lr.length=m):=by
       show _=_;have h1:=congrArg q7 HM.out;rw[q4,q9] at h1;omega
      obtain⟨⟨a0,a1,a2⟩,az,-⟩:=id (AR.call hbo);obtain⟨p1,q1,e1,zp1,r1,rc1,C1,k1,m1,J1⟩:=HX.out.2 k2 hlt2;have hwo:=LR.trans (hbo.mono LR.size);have D1:wr.cell? ⟨p1,q1+k2,nO⟩=sO (U r1 fx[k2].length rc1):=by rw[hwo.cell (by simp only;exact zp1)];exact C1
      subst e1;clear C1;by_cases hltm:m < fx[k2].length
      ·have m0:(0:Int)<=(m:Int):=by omega
       have m1':(m:Int) < (fx[k2].length:Int):=by omega
       obtain⟨b1,o1,e1,ss1,g1,G1,I1,l1,l2⟩:=(J1.below hwo (lR _)) m hltm;subst e1;have hlk:=HR2.out k2 hlt2 _ (gM hltm);obtain⟨⟨q0',q1',q2',q3',q4',q5',q6'⟩,qz'⟩:=id G1;go_wp2_with (go_at_call 57;fail);refine(HO.out fx[k2][m] ss1 g1 _ I1 hlk).mono ?_;rintro e w7 ⟨⟨js,jc,rfl,HI5,HJ1,HJ2,HF5⟩,hb7⟩;clear q0' q1' q2' q3' q4' q5' q6' qz' G1 a0 a1 a2 az D1;have HW8:Below wr.heap.size wr (w7.alloc (Cc #[Bb fx[k2][m].n,Bb fx[k2][m].sp.n,I Y fx[k2][m].sp.lo,I Y fx[k2][m].sp.hi,Bb fx[k2][m].t,Bb fx[k2][m].f,U js fx[k2][m].s.length jc] 61)):=hb7.alloc hb7.size _;have S8:=SR.call HW8;have z67:w6.heap.size<=wr.heap.size:=hbo.size;have GX:bA (λb=>w6.heap.size<=b/\(Value.slice rs lr.length rc).ownBlock≠sO b) (w7.alloc (Cc #[Bb fx[k2][m].n,Bb fx[k2][m].sp.n,I Y fx[k2][m].sp.lo,I Y fx[k2][m].sp.hi,Bb fx[k2][m].t,Bb fx[k2][m].f,U js fx[k2][m].s.length jc] 61)) ⟨fx[k2][m],js,jc⟩:=fC HI5 HJ1 HJ2 HF5 z67 (λe=>(aC SR.1 e).1) (by go_grown) (lR _);go_wp2_with (at_builtin;refine aY _ rfl _ _ 25 rfl w6.heap.size 61 ti (Ag #[Bb false,Bb false,I Y 0,I Y 0,Bb false,Bb false,U nO 0 0]) 7 64 Tryz.underlying25 hi hz0 hz1 hz2 rfl (by decide) _ _ _ rfl S8.1 (sO ⟨w7.heap.size,0,nO⟩) 1 1 (ba ⟨fx[k2][m],js,jc⟩) rfl rfl (λh=>by cases h) ?qc2 (cM _) ?qc4 ?qc5 ?qc6 ?_)
       (try (case qc2=>exact iw w7 ⟨fx[k2][m],js,jc⟩ #[Bb fx[k2][m].n,Bb fx[k2][m].sp.n,I Y fx[k2][m].sp.lo,I Y fx[k2][m].sp.hi,Bb fx[k2][m].t,Bb fx[k2][m].f,U js fx[k2][m].s.length jc] _ rfl))
       case qc4=>unfold maxLen;have:=LM.out;omega
       case qc5=>have:=LM.out;omega
       (try (case qc6=>have:=hb7.size;first|omega|(rw[zA];omega)|(simp;omega)|simp))
       intro v' w9 hown hgrow hat;have S9:=S8.grown (x:=⟨fx[k2][m],js,jc⟩) GX hown hgrow (by rw[zA];exact hat);have hb9:Below w6.heap.size w6 w9:=(hbo.trans (HW8.mono hbo.size)).grown hgrow (by rw[zA];have:=hb7.size;omega) (λk hk=>(aC S8.1 hk).2)
       obtain⟨rs',rc',rfl,-,-,-⟩:=S9.in;clear SR hbo hown hgrow hat S8 GX HW8 HI5 HF5;go_wp2;go_roundw
       case rel=>exact⟨m+1,rs',rc',lr++[⟨fx[k2][m],js,jc⟩],by omega,by first|rfl|(rw[j7];rfl),by go_num,hb9,S9,by show _=_;rw[q8,HM.out,z3 hltm];rfl⟩
       case measure=>simp[intOf];omega
      ·have m1':¬(m:Int) < (fx[k2].length:Int):=by omega
       have et1:fx[k2].take m=fx[k2]:=q3 (by omega);have HRL:Hid (roG ⟨rs,rc,lr⟩=fx[k2]):=by show lr.map Gc.g=_;rw[HM.out,et1]
       have A9:=AR.call hbo;have C9:=CR.call hbo;have Z9:=ZR.call hbo;have F9:=FR.call hbo;have V9:=GV.call hbo;have L9:=hwo;have z9:N<=wr.heap.size:=lT zr hbo.size;have z69:=zr;clear AR CR ZR GV LR zr LM HM hwo et1;generalize wr=w9 at *;clear wr;obtain⟨⟨y0,y1,y2⟩,yz,yf⟩:=id Z9;have hba:Below w6.heap.size w6 (w9.alloc (Cc #[U rs lr.length rc] 25)):=hbo.alloc hbo.size _;have F10:=FR.call hba;have VX:VRow (λb=>w6.heap.size<=b) (w9.alloc (Cc #[U rs lr.length rc] 25)) w6.heap.size (roV ⟨rs,rc,lr⟩) lr:=SR.vrow.call (by go_grown);go_wp2_with (at_builtin;refine aY _ rfl _ _ 26 rfl N 25 tk (U nO 0 0) 1 24 Tryz.underlying26 hk hx0 hx1 hx2 rfl (by decide) _ _ _ rfl F10.own (sO ⟨w9.heap.size,0,nO⟩) 1 1 [U rs lr.length rc] rfl rfl (λh=>by cases h) ?qc2 (by intro u hu;rw[List.mem_singleton.1 hu];rfl) ?qc4 ?qc5 ?qc6 ?_)
       (try (case qc2=>exact ny w9 _ _))
       case qc4=>unfold maxLen;have:=LL.out;omega
       case qc5=>have:=LL.out;omega
       (try (case qc6=>first|omega|(rw[zA];omega)|(simp;omega)|simp))
       intro v' w10 hown hgrow hat;have F11:=FR.grown hba z69 (x:=⟨rs,rc,lr⟩) VX hown hgrow (by rw[zA];exact hat);have hb10:Below N w9 w10:=((bR _ w9).alloc z9 _).grown hgrow (by simp;omega) (λk hk=>(aC F10.own hk).2);obtain⟨fs',fc',rfl⟩:=F11.form;clear hown hgrow hat F10 F9 FR SR hbo hba VX y0 y1 y2 yz yf a0 a1 a2 az D1;have A4:XAt w10 w.heap.size ⟨xn,vx,fx⟩ _ vc1 _ fc1:=A9.same (hb10.block _ (by omega)) hb10.size;have C4:X3 w10 (w.heap.size+1) (Bb false) (U nO 0 0) (U nO 0 0):=C9.same (hb10.block _ (by omega)) hb10.size;have Z4:X3 w10 (w.heap.size+1+1) (Bb xn) (U vs l.length vc) (U fs L.length fc):=Z9.same (hb10.block _ (by omega)) hb10.size;have V4:VRow (λb=>w.heap.size+1+1+1<=b/\b < N) w10 (w.heap.size+1+1+1) (U vs l.length vc) l:=V9.same (λb hS _=>hb10.block b hS.2) hb10.size;have L4:=L9.trans (hb10.mono (by omega));have z4:N<=w10.heap.size:=lT z9 hb10.size;clear A9 C9 Z9 V9 L9 z9 hb10;obtain⟨⟨y0,y1,y2⟩,yz,yf⟩:=id Z4;have yf2:=yf 2;clear yf;have e7:∀(x:Value) b,b≠w.heap.size+1+1->(w10.setCell ⟨w.heap.size+1+1,2,nO⟩ x).heap[b]? =w10.heap[b]? :=λx b hb=>hSe _ _ _ _ hb;have s7:∀(x:Value),w10.heap.size<=(w10.setCell ⟨w.heap.size+1+1,2,nO⟩ x).heap.size:=λx=>by simp[q5]
       have E7:=aa e7;have S7:=aa s7;clear e7 s7;go_wp2;go_roundw
       case rel=>exact⟨k2+1,fs',fc',L++[⟨rs,rc,lr⟩],by omega,by go_num,A4.same (E7.out _ _ (by omega)) (S7.out _),C4.same (E7.out _ _ (by omega)) (S7.out _),by first|exact Z4.put2 _|(rw[j7];exact Z4.put2 _),F11.olden (λb hb _=>E7.out _ b (by omega)) (S7.out _),by show _=_;rw[q8,HL.out,z3 hlt2,List.map_cons,HRL.out];rfl,V4.same (λb hS _=>E7.out _ b (by omega)) (S7.out _),L4.setCell (by simp only;omega) _,by simpa[q5] using z4⟩
       case measure=>simp[intOf];omega
    ·have n2':¬(k2:Int) < (fx.length:Int):=by omega
     have et1:fx.take k2=fx:=q3 (by omega);have hch:∀b,b≠w.heap.size+1->(((w6.setCell ⟨w.heap.size+1,0,nO⟩ (Bb xn)).setCell ⟨w.heap.size+1,1,nO⟩ (U vs l.length vc)).setCell ⟨w.heap.size+1,2,nO⟩ (U fs L.length fc)).heap[b]? =w6.heap[b]? :=λb hb=>by rw[hSe _ _ _ _ hb,hSe _ _ _ _ hb,hSe _ _ _ _ hb]
     have hcz:w6.heap.size<=(((w6.setCell ⟨w.heap.size+1,0,nO⟩ (Bb xn)).setCell ⟨w.heap.size+1,1,nO⟩ (U vs l.length vc)).setCell ⟨w.heap.size+1,2,nO⟩ (U fs L.length fc)).heap.size:=by simp[q5]
     have FX:=FR.olden (w':=(((w6.setCell ⟨w.heap.size+1,0,nO⟩ (Bb xn)).setCell ⟨w.heap.size+1,1,nO⟩ (U vs l.length vc)).setCell ⟨w.heap.size+1,2,nO⟩ (U fs L.length fc))) (λb hb _=>hch b (by omega)) hcz;have GX:=GV.same (w':=(((w6.setCell ⟨w.heap.size+1,0,nO⟩ (Bb xn)).setCell ⟨w.heap.size+1,1,nO⟩ (U vs l.length vc)).setCell ⟨w.heap.size+1,2,nO⟩ (U fs L.length fc))) (λb hS _=>hch b (by omega)) hcz;have BX:Below w.heap.size w (((w6.setCell ⟨w.heap.size+1,0,nO⟩ (Bb xn)).setCell ⟨w.heap.size+1,1,nO⟩ (U vs l.length vc)).setCell ⟨w.heap.size+1,2,nO⟩ (U fs L.length fc)):=((LR.setCell (by simp only;omega) _).setCell (by simp only;omega) _).setCell (by simp only;omega) _;have PX:=((FX.pic GX (λb h=>h) zn).mono (T':=λb=>w.heap.size<=b) λb hb _=>by omega).down (C:=w.heap.size) (by omega);have HPX:Hid (Bk w.heap.size (((w6.setCell ⟨w.heap.size+1,0,nO⟩ (Bb xn)).setCell ⟨w.heap.size+1,1,nO⟩ (U vs l.length vc)).setCell ⟨w.heap.size+1,2,nO⟩ (U fs L.length fc)) (Rt (Ag #[Bb xn,U vs l.length vc,U fs L.length fc])) ⟨xn,vx,fx⟩):=⟨⟨vs,vc,l⟩,fs,fc,L,by unfold aG;rw[show roG ⟨vs,vc,l⟩=vx from HLV.out,HL.out,et1],rfl,PX⟩;obtain⟨⟨y0,y1,y2⟩,yz,yf⟩:=id ZR;obtain⟨⟨d0,d1,d2⟩,dz,df⟩:=id CR;have f0:=df 0;have f1:=df 1;have f2:=df 2;clear df yf hch hcz FX GX et1 PX;go_wp2;refine bodyPost_ret (v:=Ag #[Bb xn,U vs l.length vc,U fs L.length fc]) (by simp[results,Tryz.results20,go_sem,d0,d1,d2]) rfl ⟨HPX.out,BX⟩
theorem iq {V F:Int}{c:List Ins}{i:Ins}{at_:Int}(x:Pic)(vs:oA)(vc:Nat)(fs:oA)(fc:Nat)(w:World)(hx:PicAt w x vs fs)(K:SCtx V F c x vc fc i at_):
  Calls pG 20 #[xv x vs vc fs fc] w λe w'=>Bk w.heap.size w' e x/\Below w.heap.size w w':=by
 have h:=K.lens;have kx:=K.kx;have hs:∀{g:Gs},ap c g=0->g.s.length<=1000000:=λhg=>by
  have:=bZ (ckGs_iff.1 hg).2.2 (cj h.2.1 hg).1;omega
 obtain⟨xn,vx,fx⟩:=x;exact mS xn vx fx vs vc fs fc w hx (by simp only at h;omega) (by simp only at h;omega) (λk hk=>by have:=kx.row k hk;simp only at this;omega) (λg hg=>hs (kx.gv g hg)) (λk hk g hg=>hs (kx.gf k hk g hg))
structure SPre (T:Nat->Prop) (V F:Int) (s:oA) (c:List Ins) (cap:Nat) (at_:Int) (i:Ins) (x:Pic) (vs:oA) (vc:Nat) (fs:oA) (fc:Nat) (w wp:World) (ib yb ob ab bb tb:Nat) (wY:World) (v:Ro) (gs:oA) (gc:Nat) (L:List Ro) (ga:Gs) (sa:oA) (ca:Nat) (gb:Gs) (sb:oA) (cb:Nat):Prop where
 low:Below w.heap.size w wp
 prg:Cells wp w.heap.size [I Y V,I Y F,U s c.length cap]
 pic:Cells wp (w.heap.size+1) [Bb false,U vs x.vars.length vc,U fs x.flds.length fc]
 ins:Cells wp ib [I Y i.k,I Y i.tgt,I Y i.a,I Y i.b,I Y i.n,I Y i.g]
 y:Cells wp yb [Bb false,U v.rs v.l.length v.rc,U gs L.length gc]
 on:Cells wp ob [I Y (at_+1),Bb false,U v.rs v.l.length v.rc,U gs L.length gc]
 va:Cells wp ab [Bb ga.n,Bb ga.sp.n,I Y ga.sp.lo,I Y ga.sp.hi,Bb ga.t,Bb ga.f,U sa ga.s.length ca]
 vb:Cells wp bb [Bb gb.n,Bb gb.sp.n,I Y gb.sp.lo,I Y gb.sp.hi,Bb gb.t,Bb gb.f,U sb gb.s.length cb]
 tg:Cells wp tb [Bb false,Bb true,I Y 0,I Y 0,Bb false,Bb false,U nO 0 0]
 ga:IntsIn T w sa ga.s/\ga.s.length<=ca/\ca<=maxLen
 gb:IntsIn T w sb gb.s/\gb.s.length<=cb/\cb<=maxLen
 own:PicG (λb=>w.heap.size<=b) (w.heap.size+1+1+1) wY v gs gc L
 yw:Below wY.heap.size wY wp
 yb:yb=wY.heap.size
 pv:x=aG false v L
 ord:ib=w.heap.size+1+1/\w.heap.size+1+1+1<=wY.heap.size/\wY.heap.size < ob/\ob < ab/\ab < bb/\bb < tb
section
variable {S T':Nat->Prop} {w:World} {ob B:Nat} {to_:Int} {v:Ro} {gs:oA} {gc:Nat} {L:List Ro} {x':Pic}
theorem fN (hO:Cells w ob [I Y to_,Bb false,U v.rs v.l.length v.rc,U gs L.length gc])(hS:S ob)(hP:PicG T' B w v gs gc L)(hT:∀b,T' b->S b)(hB:∀b,B<=b->S b)(hx:x'=aG false v L):EdsOn S w (sO ⟨ob,0,nO⟩) [⟨to_,x'⟩]:=by
 intro i hi;have h0:i=0:=by simp at hi;omega
 subst h0;subst hx;have l1:(aG false v L).vars.length=v.l.length:=by simp[aG,roG]
 have l2:(aG false v L).flds.length=L.length:=by simp[aG]
 refine⟨ob,0,rfl,hS,hO.2.1,v.rs,v.rc,gs,gc,?_,(hP.on false).mono λb hb _=>hb.elim (hT b) (hB b),hP.vcap false,hP.fcap' false⟩;simp only[List.getElem_cons_zero,l1,l2,Nat.zero_mul,Nat.add_zero,Nat.zero_add];exact⟨hO.1 0 _ rfl,hO.1 1 _ rfl,hO.1 2 _ rfl,hO.1 3 _ rfl⟩
end
theorem l8 {T:Nat->Prop}{n B:Nat}{wY wx:World}{v:Ro}{gs:oA}{gc:Nat}{L:List Ro}{y:Gc}(G:PicG (λb=>n<=b) B wY v gs gc L)(hB:n<=B)(hN:n<=wY.heap.size)(h:IntsIn (λb=>(T b/\b < n)\/wY.heap.size<=b) wx y.ss y.g.s)(h1:y.g.s.length<=y.cap)(h2:y.cap<=maxLen):bA (λb=>(T b\/n<=b)/\Off v (Value.slice gs L.length gc).ownBlock L b) wx y:=by
 have hz:=G.vars;refine⟨h.mono λb hb _=> ?_,h1,h2⟩;have rowlt:∀q,roB v=sO q->q < wY.heap.size/\B<=q:=λq hq=>G.vars.lt hq;have fldlt:∀q,(Value.slice gs L.length gc).ownBlock=sO q->q < wY.heap.size/\B<=q:=λq hq=>aC G.flds hq;have reslt:∀r∈L,∀q,roB r=sO q->q < wY.heap.size/\B<=q:=λr hr q hq=>(G.rows r hr).lt hq;rcases hb with⟨hb,hlt⟩|hb
 ·exact⟨.inl hb,λe=>by have:=rowlt b e;omega,λe=>by have:=fldlt b e;omega,λr hr e=>by have:=reslt r hr b e;omega⟩
 ·exact⟨.inr (lT hN hb),λe=>by have:=rowlt b e;omega,λe=>by have:=fldlt b e;omega,λr hr e=>by have:=reslt r hr b e;omega⟩
def vP:Nat->Option Code->Option Code
 |0,o=>o
 |n+1,sO (.seq _ b)=>vP n (sO b)
 |_+1,_=>nO
def SwT (R:Ending->World->Prop)(m:Nat)(w w3 w4 w7 w11 wp:World):Prop:=∀(z0 z2 z4:Value) (tl:List Value),tl.length=322->∃c,vP 10 Tryz.f7.body=sO c/\c.wp pG (bodyPost pG Tryz.f7 R) ⟨(z0::I Y (m:Int)::z2::Pp (sO ⟨w.heap.size,0,nO⟩)::z4::Pp (sO ⟨w.heap.size+1,0,nO⟩)::U nO 0 0::Bb false::Bb false::Pp (sO ⟨w.heap.size+1+1,0,nO⟩)::Pp (sO ⟨w3.heap.size,0,nO⟩)::U (sO ⟨w4.heap.size,0,nO⟩) 1 1::Pp (sO ⟨w7.heap.size,0,nO⟩)::Pp (sO ⟨w7.heap.size+1,0,nO⟩)::Pp (sO ⟨w11.heap.size,0,nO⟩)::Bb false::tl).toArray,[]⟩ wp
theorem fF (l:List Value)(n:Nat)(h:l.length=n):∃u:Nat->Value,l=(List.range n).map u:=⟨λk=>l.getD k (Bb false),by
 refine List.ext_getElem (by simp[h]) λk h1 h2=> ?_;simp[j8,h1]⟩
theorem eh {R:Ending->World->Prop}{m:Nat}{w w3 w4 w7 w11 wp:World}{c:Code}(hc:vP 10 Tryz.f7.body=sO c)(h:∀(z0 z2 z4:Value) (u:Nat->Value),c.wp pG (bodyPost pG Tryz.f7 R) ⟨(z0::I Y (m:Int)::z2::Pp (sO ⟨w.heap.size,0,nO⟩)::z4::Pp (sO ⟨w.heap.size+1,0,nO⟩)::U nO 0 0::Bb false::Bb false::Pp (sO ⟨w.heap.size+1+1,0,nO⟩)::Pp (sO ⟨w3.heap.size,0,nO⟩)::U (sO ⟨w4.heap.size,0,nO⟩) 1 1::Pp (sO ⟨w7.heap.size,0,nO⟩)::Pp (sO ⟨w7.heap.size+1,0,nO⟩)::Pp (sO ⟨w11.heap.size,0,nO⟩)::Bb false::(List.range 322).map u).toArray,[]⟩ wp):SwT R m w w3 w4 w7 w11 wp:=λz0 z2 z4 tl hl=>by
 obtain⟨u,rfl⟩:=fF tl _ hl;exact⟨c,hc,h z0 z2 z4 u⟩
section
variable {P:Program} {Q:Exit->Act->World->Prop} {a:Act} {w:World}
theorem pJ {o:Option Code}{c:Code}(h:o=sO c)(hw:∃c,o=sO c/\c.wp P Q a w):c.wp P Q a w:=by
 obtain⟨d,hd,hw⟩:=hw;cases h.symm.trans hd;exact hw
end
theorem kq {p:Prop}(h:p:=by
 have h:=Cells.new (w7.alloc (.cells #[.bool false,.bool true,.int .i64 0,.int .i64 0,.bool false,.bool false,.slice none 0 0] 61)) 61 [.bool false,.bool true,.int .i64 0,.int .i64 0,.bool false,.bool false,.slice none 0 0];rw[World.size_alloc] at h;exact h):p:=h
theorem kD {p:Prop}(h:p:=by
 have h:=iq x vs vc fs fc wx ((hx.at).below hb (Nat.le_refl _)) K;rw[exv] at h;refine h.mono ?_;rintro e w' ⟨⟨v,gs,gc,L,h1,h2,h3⟩,h4⟩;rw[hn] at h1 h2;exact⟨⟨v,gs,gc,L,h1,h2,h3⟩,h4⟩):p:=h
theorem kB {p:Prop}(h:p:=by
 have h:=Cells.new (w.alloc (.cells #[.int .i64 V,.int .i64 F,.slice s c.length cap] 24)) 28 [.bool false,.slice vs x.vars.length vc,.slice fs x.flds.length fc];rw[World.size_alloc] at h;exact h):p:=h
theorem iW {p:Prop}(h:p:=by
 have h1:=hb3.size;have h2:=HZ2.out;have h3:=Z4.out;have h4:=hb6.size;have h5:=hb7.size;have h6:=O5.2.1;exact⟨by omega,by omega,by omega⟩):p:=h
theorem dU {T:Nat->Prop}{V F:Int}{s:oA}{c:List Ins}{cap m:Nat}{i:Ins}{x:Pic}{vs:oA}{vc:Nat}{fs:oA}{fc:Nat}{w:World}(hc:CodeAt w s c)(hx:PicOn T w x vs fs)(K:SCtx V F c x vc fc i (m:Int))(hnA:nA i.k=false)(hnB:nB i.k=false)(H:∀(w3 w4 w7 w11 wp:World) (v:Ro) (gs:oA) (gc:Nat) (L:List Ro),Hid (SPre T V F s c cap (m:Int) i x vs vc fs fc w wp (w.heap.size+1+1) w3.heap.size w4.heap.size w7.heap.size (w7.heap.size+1) w11.heap.size w3 v gs gc L noneG nO 0 noneG nO 0)->SwT (λe w'=>bE (λb=>T b\/w.heap.size<=b) w' e (ah i (m:Int) x)/\Below w.heap.size w w') m w w3 w4 w7 w11 wp):
  Calls pG 7 #[pv V F s c cap,I Y (m:Int),xv x vs vc fs fc] w λe w'=>bE (λb=>T b\/w.heap.size<=b) w' e (ah i (m:Int) x)/\Below w.heap.size w w':=by
 have HH:=aa H;clear H;have hn:=K.kx.none;have ha1:=K.a1;have hm:m < c.length:=by omega
 have hcm:c[m]=i:=by rw[K.hi];unfold bM;simp[j8,hm]
 have h60:=K.lens.2.1;have HIN:=aa hx.in;have exv:xv x vs vc fs fc=Ag #[Bb false,U vs x.vars.length vc,U fs x.flds.length fc]:=by unfold xv;rw[hn]
 rw[exv];have HCP:Hid (∀wx,Below w.heap.size w wx->Calls pG 20 #[Ag #[Bb false,U vs x.vars.length vc,U fs x.flds.length fc]] wx λe w'=>(∃v gs gc L,x=aG false v L/\e=Rt (Ag #[Bb false,U v.rs v.l.length v.rc,U gs L.length gc])/\PicG (λb=>wx.heap.size<=b) wx.heap.size w' v gs gc L)/\Below wx.heap.size wx w'):=λwx hb=>by
  exact kD
 have hb1:Below w.heap.size w ((w.alloc (Cc #[I Y V,I Y F,U s c.length cap] 24)).alloc (Cc #[Bb false,U vs x.vars.length vc,U fs x.flds.length fc] 28)):=by go_grown
 have P1:Cells ((w.alloc (Cc #[I Y V,I Y F,U s c.length cap] 24)).alloc (Cc #[Bb false,U vs x.vars.length vc,U fs x.flds.length fc] 28)) w.heap.size [I Y V,I Y F,U s c.length cap]:=(Cells.new w 24 [I Y V,I Y F,U s c.length cap]).call (by go_grown);have X1:Cells ((w.alloc (Cc #[I Y V,I Y F,U s c.length cap] 24)).alloc (Cc #[Bb false,U vs x.vars.length vc,U fs x.flds.length fc] 28)) (w.heap.size+1) [Bb false,U vs x.vars.length vc,U fs x.flds.length fc]:=by
  exact kB
 have HZ1:Hid (((w.alloc (Cc #[I Y V,I Y F,U s c.length cap] 24)).alloc (Cc #[Bb false,U vs x.vars.length vc,U fs x.flds.length fc] 28)).heap.size=w.heap.size+1+1):=by show _=_;simp
 obtain⟨cb0,co,es,hcb,hci⟩:=(hc.below hb1 (lR _)).get m hm;obtain⟨j0,j1,j2,j3,j4,j5⟩:=hci m hm;rw[hcm] at j0 j1 j2 j3 j4 j5;have HES:Hid (s=sO ⟨cb0,co,nO⟩):=es;clear es;have n0:(0:Int)<=(m:Int):=by omega
 have n1:(m:Int) < (c.length:Int):=by omega
 have HNA:Hid (∀wx,Calls pG 22 #[I Y i.k] wx λe w'=>e=Rt (Bb false)/\w'=wx):=λwx=>by have h:=gr i.k wx;rw[hnA] at h;exact h
 have HNB:Hid (∀wx,Calls pG 23 #[I Y i.k] wx λe w'=>e=Rt (Bb false)/\w'=wx):=λwx=>by have h:=gK i.k wx;rw[hnB] at h;exact h
 skip
 skip
 skip
 skip
 skip
 skip
 have HK:=aa K;have HX:=aa hx;have HCM:=aa hcm;clear hc hx K hn exv hci hcm;clear hnA hnB;have w61:(m:Int)<=60:=by omega
 go_enter Tryz.func7,Tryz.ntmps7
 go_upto_region 3 with fail
 generalize ((w.alloc (Cc #[I Y V,I Y F,U s c.length cap] 24)).alloc (Cc #[Bb false,U vs x.vars.length vc,U fs x.flds.length fc] 28))=w1 at *;have p2:=P1.1 2 _ rfl;rw[HES.out] at p2
 go_upto_region 4 with fail
 clear p2 j0 j1 j2 j3 j4 j5;have hb2:Below w1.heap.size w1 (w1.alloc (Cc #[I Y i.k,I Y i.tgt,I Y i.a,I Y i.b,I Y i.n,I Y i.g] 51)):=by go_grown
 have I2:Cells (w1.alloc (Cc #[I Y i.k,I Y i.tgt,I Y i.a,I Y i.b,I Y i.n,I Y i.g] 51)) w1.heap.size [I Y i.k,I Y i.tgt,I Y i.a,I Y i.b,I Y i.n,I Y i.g]:=Cells.new w1 51 [I Y i.k,I Y i.tgt,I Y i.a,I Y i.b,I Y i.n,I Y i.g];have HZ2:Hid ((w1.alloc (Cc #[I Y i.k,I Y i.tgt,I Y i.a,I Y i.b,I Y i.n,I Y i.g] 51)).heap.size=w.heap.size+1+1+1):=by show _=_;rw[zA,HZ1.out]
 rw[HZ1.out] at I2;rw[HZ1.out];generalize w1.alloc (Cc #[I Y i.k,I Y i.tgt,I Y i.a,I Y i.b,I Y i.n,I Y i.g] 51)=w2 at *;have P2:=P1.call hb2;have X2:=X1.call hb2;have B2:=hb1.trans (hb2.mono hb1.size);have x0:=X2.1 0 _ rfl;have x1:=X2.1 1 _ rfl;have x2:=X2.1 2 _ rfl;clear P1 X1 hb1 hb2 HZ1;go_wp2_with (go_at_call 20;fail);refine(HCP.out w2 B2).mono ?_;rintro e w3 ⟨⟨v,gs,gc,L,EX0,rfl,PG⟩,hb3⟩;have EX:=aa EX0;clear EX0 x0 x1 x2 HCP;have HNO:Hid (∀wx,Calls pG 21 #[] wx λe w'=>e=Rt (Ag #[Bb false,Bb true,I Y 0,I Y 0,Bb false,Bb false,U nO 0 0])/\Below wx.heap.size wx w'):=λwx=>cG wx
 go_upto_region 5 with fail
 have hb4:Below w3.heap.size w3 (w3.alloc (Cc #[Bb false,U v.rs v.l.length v.rc,U gs L.length gc] 28)):=by go_grown
 have Y4:Cells (w3.alloc (Cc #[Bb false,U v.rs v.l.length v.rc,U gs L.length gc] 28)) w3.heap.size [Bb false,U v.rs v.l.length v.rc,U gs L.length gc]:=Cells.new w3 28 [Bb false,U v.rs v.l.length v.rc,U gs L.length gc];have Z4:Hid ((w3.alloc (Cc #[Bb false,U v.rs v.l.length v.rc,U gs L.length gc] 28)).heap.size=w3.heap.size+1):=by show _=_;simp
 generalize w3.alloc (Cc #[Bb false,U v.rs v.l.length v.rc,U gs L.length gc] 28)=w4 at *;have y0:=Y4.1 0 _ rfl;have y1:=Y4.1 1 _ rfl;have y2:=Y4.1 2 _ rfl
 go_upto_region 6 with fail
 clear y0 y1 y2;have hb5:Below w4.heap.size w4 (w4.alloc (Cc #[I Y ((m:Int)+1),Bb false,U v.rs v.l.length v.rc,U gs L.length gc] 56)):=by go_grown
 have O5:Cells (w4.alloc (Cc #[I Y ((m:Int)+1),Bb false,U v.rs v.l.length v.rc,U gs L.length gc] 56)) w4.heap.size [I Y ((m:Int)+1),Bb false,U v.rs v.l.length v.rc,U gs L.length gc]:=Cells.new w4 56 [I Y ((m:Int)+1),Bb false,U v.rs v.l.length v.rc,U gs L.length gc];generalize w4.alloc (Cc #[I Y ((m:Int)+1),Bb false,U v.rs v.l.length v.rc,U gs L.length gc] 56)=w5 at *;go_wp2_with (go_at_call 21;fail);refine(HNO.out w5).mono ?_;rintro e w6 ⟨rfl,hb6⟩;go_wp2_with (go_at_call 21;fail);refine(HNO.out w6).mono ?_;rintro e w7 ⟨rfl,hb7⟩
 go_upto_region 7 with fail
 have hb8:Below w7.heap.size w7 ((w7.alloc (Cc #[Bb false,Bb true,I Y 0,I Y 0,Bb false,Bb false,U nO 0 0] 61)).alloc (Cc #[Bb false,Bb true,I Y 0,I Y 0,Bb false,Bb false,U nO 0 0] 61)):=by go_grown
 have A8:Cells ((w7.alloc (Cc #[Bb false,Bb true,I Y 0,I Y 0,Bb false,Bb false,U nO 0 0] 61)).alloc (Cc #[Bb false,Bb true,I Y 0,I Y 0,Bb false,Bb false,U nO 0 0] 61)) w7.heap.size [Bb false,Bb true,I Y 0,I Y 0,Bb false,Bb false,U nO 0 0]:=(Cells.new w7 61 [Bb false,Bb true,I Y 0,I Y 0,Bb false,Bb false,U nO 0 0]).call (by go_grown);have E8:Cells ((w7.alloc (Cc #[Bb false,Bb true,I Y 0,I Y 0,Bb false,Bb false,U nO 0 0] 61)).alloc (Cc #[Bb false,Bb true,I Y 0,I Y 0,Bb false,Bb false,U nO 0 0] 61)) (w7.heap.size+1) [Bb false,Bb true,I Y 0,I Y 0,Bb false,Bb false,U nO 0 0]:=by
  exact kq
 generalize (w7.alloc (Cc #[Bb false,Bb true,I Y 0,I Y 0,Bb false,Bb false,U nO 0 0] 61)).alloc (Cc #[Bb false,Bb true,I Y 0,I Y 0,Bb false,Bb false,U nO 0 0] 61)=w8 at *;have hb48:Below w4.heap.size w4 w8:=hb5.trans (((hb6.trans (hb7.mono hb6.size)).trans (hb8.mono (hb6.trans (hb7.mono hb6.size)).size)).mono hb5.size);have hb28:Below w2.heap.size w2 w8:=(hb3.trans (hb4.mono hb3.size)).trans (hb48.mono (hb3.trans (hb4.mono hb3.size)).size);have hb38:Below w3.heap.size w3 w8:=hb4.trans (hb48.mono hb4.size);have O8:=O5.call ((hb6.trans (hb7.mono hb6.size)).trans (hb8.mono (hb6.trans (hb7.mono hb6.size)).size));have P8:=P2.call hb28;have X8:=X2.call hb28;have I8:=I2.call hb28;have Y8:=Y4.call hb48;have B8:=B2.trans (hb28.mono B2.size);have HORD:Hid (w.heap.size+1+1+1<=w3.heap.size/\w3.heap.size < w4.heap.size/\w4.heap.size < w7.heap.size):=by
  exact iW
 have HPG:Hid (PicG (λb=>w.heap.size<=b) (w.heap.size+1+1+1) w3 v gs gc L):=by
  show PicG _ _ _ _ _ _ _;rw[<-HZ2.out];exact PG.mono λb hb _=>by have:=HZ2.out;omega
 have HB8:=aa hb38;clear PG hb3 hb4 hb5 hb6 hb7 hb8 hb48 hb28 hb38 P2 X2 I2 Y4 O5 B2 Z4 HZ2;have i0:=I8.1 0 _ rfl;go_wp2_with (go_at_call 22;fail);refine(HNA.out w8).mono ?_;rintro e wz ⟨rfl,ew⟩;rw[ew];clear ew wz;have A9:=A8;have E9:=E8;have P9:=P8;have X9:=X8;have I9:=I8;have Y9:=Y8;have O9:=O8;have B9:=B8;have HB9:=HB8;clear A8 E8 P8 X8 I8 Y8 O8 B8 HB8;generalize w8=w9 at *;go_wp2_with (go_at_call 23;fail);refine(HNB.out w9).mono ?_;rintro e wz ⟨rfl,ew⟩;rw[ew];clear ew wz;have A10:=A9;have E10:=E9;have P10:=P9;have X10:=X9;have I10:=I9;have Y10:=Y9;have O10:=O9;have B10:=B9;have HB10:=HB9;clear A9 E9 P9 X9 I9 Y9 O9 B9 HB9;generalize w9=w10 at *;go_wp2_with (go_at_call 21;fail);refine(HNO.out w10).mono ?_;rintro e w11 ⟨rfl,hb11⟩;clear i0
 go_upto_region 12 with fail
 have hb12:Below w11.heap.size w11 (w11.alloc (Cc #[Bb false,Bb true,I Y 0,I Y 0,Bb false,Bb false,U nO 0 0] 61)):=by go_grown
 have T12:Cells (w11.alloc (Cc #[Bb false,Bb true,I Y 0,I Y 0,Bb false,Bb false,U nO 0 0] 61)) w11.heap.size [Bb false,Bb true,I Y 0,I Y 0,Bb false,Bb false,U nO 0 0]:=Cells.new w11 61 [Bb false,Bb true,I Y 0,I Y 0,Bb false,Bb false,U nO 0 0];have hb1012:Below w10.heap.size w10 (w11.alloc (Cc #[Bb false,Bb true,I Y 0,I Y 0,Bb false,Bb false,U nO 0 0] 61)):=hb11.trans (hb12.mono hb11.size);generalize w11.alloc (Cc #[Bb false,Bb true,I Y 0,I Y 0,Bb false,Bb false,U nO 0 0] 61)=wp at *;have SP:Hid (SPre T V F s c cap (m:Int) i x vs vc fs fc w wp (w.heap.size+1+1) w3.heap.size w4.heap.size w7.heap.size (w7.heap.size+1) w11.heap.size w3 v gs gc L noneG nO 0 noneG nO 0):=by
  have o:=HORD.out;have o2:=E10.2.1;have o3:=hb11.size;exact⟨B10.trans (hb1012.mono B10.size),P10.call hb1012,X10.call hb1012,I10.call hb1012,Y10.call hb1012,O10.call hb1012,A10.call hb1012,E10.call hb1012,T12,⟨.inl rfl,lR _,j6 _⟩,⟨.inl rfl,lR _,j6 _⟩,HPG.out,HB10.out.trans (hb1012.mono HB10.out.size),rfl,EX.out,rfl,by omega,by omega,by omega,by omega,by omega⟩
 clear A10 B10 P10 X10 I10 Y10 O10 E10 T12 HPG HB10 hb11 hb12 hb1012 EX HORD HNO HNA HNB HIN;refine wp_region_lit ?_;refine tL (Bb false) ?_;refine sm ?_;refine wpList_nil ?_;rename_i K9 hK9;refine hK9 _ _ (pJ rfl (HH.out w3 w4 w7 w11 wp v gs gc L SP _ _ _ _ (by rfl)))
theorem fE {T:Nat->Prop}{V F:Int}{s:oA}{c:List Ins}{cap m:Nat}{i:Ins}{x:Pic}{vs:oA}{vc:Nat}{fs:oA}{fc:Nat}{w:World}(hc:CodeAt w s c)(hx:PicOn T w x vs fs)(K:SCtx V F c x vc fc i (m:Int))(hnA:nA i.k=true)(hnB:nB i.k=false)(H:∀(w3 w4 w7 w11 wp:World) (v:Ro) (gs:oA) (gc:Nat) (L:List Ro) (ka:Nat) (sska:oA) (gcka:Nat) (hkax:ka < x.vars.length) (_:i.a=(ka:Int)),Hid (SPre T V F s c cap (m:Int) i x vs vc fs fc w wp (w.heap.size+1+1) w3.heap.size w4.heap.size w7.heap.size (w7.heap.size+1) w11.heap.size w3 v gs gc L x.vars[ka] sska gcka noneG nO 0)->SwT (λe w'=>bE (λb=>T b\/w.heap.size<=b) w' e (ah i (m:Int) x)/\Below w.heap.size w w') m w w3 w4 w7 w11 wp):
  Calls pG 7 #[pv V F s c cap,I Y (m:Int),xv x vs vc fs fc] w λe w'=>bE (λb=>T b\/w.heap.size<=b) w' e (ah i (m:Int) x)/\Below w.heap.size w w':=by
 have HH:=aa H;clear H;have hn:=K.kx.none;have ha1:=K.a1;have hm:m < c.length:=by omega
 have hcm:c[m]=i:=by rw[K.hi];unfold bM;simp[j8,hm]
 have h60:=K.lens.2.1;have HIN:=aa hx.in;have exv:xv x vs vc fs fc=Ag #[Bb false,U vs x.vars.length vc,U fs x.flds.length fc]:=by unfold xv;rw[hn]
 rw[exv];have HCP:Hid (∀wx,Below w.heap.size w wx->Calls pG 20 #[Ag #[Bb false,U vs x.vars.length vc,U fs x.flds.length fc]] wx λe w'=>(∃v gs gc L,x=aG false v L/\e=Rt (Ag #[Bb false,U v.rs v.l.length v.rc,U gs L.length gc])/\PicG (λb=>wx.heap.size<=b) wx.heap.size w' v gs gc L)/\Below wx.heap.size wx w'):=λwx hb=>by
  exact kD
 have hb1:Below w.heap.size w ((w.alloc (Cc #[I Y V,I Y F,U s c.length cap] 24)).alloc (Cc #[Bb false,U vs x.vars.length vc,U fs x.flds.length fc] 28)):=by go_grown
 have P1:Cells ((w.alloc (Cc #[I Y V,I Y F,U s c.length cap] 24)).alloc (Cc #[Bb false,U vs x.vars.length vc,U fs x.flds.length fc] 28)) w.heap.size [I Y V,I Y F,U s c.length cap]:=(Cells.new w 24 [I Y V,I Y F,U s c.length cap]).call (by go_grown);have X1:Cells ((w.alloc (Cc #[I Y V,I Y F,U s c.length cap] 24)).alloc (Cc #[Bb false,U vs x.vars.length vc,U fs x.flds.length fc] 28)) (w.heap.size+1) [Bb false,U vs x.vars.length vc,U fs x.flds.length fc]:=by
  exact kB
 have HZ1:Hid (((w.alloc (Cc #[I Y V,I Y F,U s c.length cap] 24)).alloc (Cc #[Bb false,U vs x.vars.length vc,U fs x.flds.length fc] 28)).heap.size=w.heap.size+1+1):=by show _=_;simp
 obtain⟨cb0,co,es,hcb,hci⟩:=(hc.below hb1 (lR _)).get m hm;obtain⟨j0,j1,j2,j3,j4,j5⟩:=hci m hm;rw[hcm] at j0 j1 j2 j3 j4 j5;have HES:Hid (s=sO ⟨cb0,co,nO⟩):=es;clear es;have n0:(0:Int)<=(m:Int):=by omega
 have n1:(m:Int) < (c.length:Int):=by omega
 have HNA:Hid (∀wx,Calls pG 22 #[I Y i.k] wx λe w'=>e=Rt (Bb true)/\w'=wx):=λwx=>by have h:=gr i.k wx;rw[hnA] at h;exact h
 have HNB:Hid (∀wx,Calls pG 23 #[I Y i.k] wx λe w'=>e=Rt (Bb false)/\w'=wx):=λwx=>by have h:=gK i.k wx;rw[hnB] at h;exact h
 obtain⟨ka,eka,hkax⟩:=K.varA hnA;have HKAV:=aa eka
 skip
 skip
 clear eka
 skip
 have HK:=aa K;have HX:=aa hx;have HCM:=aa hcm;clear hc hx K hn exv hci hcm;clear hnA hnB;have w61:(m:Int)<=60:=by omega
 go_enter Tryz.func7,Tryz.ntmps7
 go_upto_region 3 with fail
 generalize ((w.alloc (Cc #[I Y V,I Y F,U s c.length cap] 24)).alloc (Cc #[Bb false,U vs x.vars.length vc,U fs x.flds.length fc] 28))=w1 at *;have p2:=P1.1 2 _ rfl;rw[HES.out] at p2
 go_upto_region 4 with fail
 clear p2 j0 j1 j2 j3 j4 j5;have hb2:Below w1.heap.size w1 (w1.alloc (Cc #[I Y i.k,I Y i.tgt,I Y i.a,I Y i.b,I Y i.n,I Y i.g] 51)):=by go_grown
 have I2:Cells (w1.alloc (Cc #[I Y i.k,I Y i.tgt,I Y i.a,I Y i.b,I Y i.n,I Y i.g] 51)) w1.heap.size [I Y i.k,I Y i.tgt,I Y i.a,I Y i.b,I Y i.n,I Y i.g]:=Cells.new w1 51 [I Y i.k,I Y i.tgt,I Y i.a,I Y i.b,I Y i.n,I Y i.g];have HZ2:Hid ((w1.alloc (Cc #[I Y i.k,I Y i.tgt,I Y i.a,I Y i.b,I Y i.n,I Y i.g] 51)).heap.size=w.heap.size+1+1+1):=by show _=_;rw[zA,HZ1.out]
 rw[HZ1.out] at I2;rw[HZ1.out];generalize w1.alloc (Cc #[I Y i.k,I Y i.tgt,I Y i.a,I Y i.b,I Y i.n,I Y i.g] 51)=w2 at *;have P2:=P1.call hb2;have X2:=X1.call hb2;have B2:=hb1.trans (hb2.mono hb1.size);have x0:=X2.1 0 _ rfl;have x1:=X2.1 1 _ rfl;have x2:=X2.1 2 _ rfl;clear P1 X1 hb1 hb2 HZ1;go_wp2_with (go_at_call 20;fail);refine(HCP.out w2 B2).mono ?_;rintro e w3 ⟨⟨v,gs,gc,L,EX0,rfl,PG⟩,hb3⟩;have EX:=aa EX0;clear EX0 x0 x1 x2 HCP;have HNO:Hid (∀wx,Calls pG 21 #[] wx λe w'=>e=Rt (Ag #[Bb false,Bb true,I Y 0,I Y 0,Bb false,Bb false,U nO 0 0])/\Below wx.heap.size wx w'):=λwx=>cG wx
 go_upto_region 5 with fail
 have hb4:Below w3.heap.size w3 (w3.alloc (Cc #[Bb false,U v.rs v.l.length v.rc,U gs L.length gc] 28)):=by go_grown
 have Y4:Cells (w3.alloc (Cc #[Bb false,U v.rs v.l.length v.rc,U gs L.length gc] 28)) w3.heap.size [Bb false,U v.rs v.l.length v.rc,U gs L.length gc]:=Cells.new w3 28 [Bb false,U v.rs v.l.length v.rc,U gs L.length gc];have Z4:Hid ((w3.alloc (Cc #[Bb false,U v.rs v.l.length v.rc,U gs L.length gc] 28)).heap.size=w3.heap.size+1):=by show _=_;simp
 generalize w3.alloc (Cc #[Bb false,U v.rs v.l.length v.rc,U gs L.length gc] 28)=w4 at *;have y0:=Y4.1 0 _ rfl;have y1:=Y4.1 1 _ rfl;have y2:=Y4.1 2 _ rfl
 go_upto_region 6 with fail
 clear y0 y1 y2;have hb5:Below w4.heap.size w4 (w4.alloc (Cc #[I Y ((m:Int)+1),Bb false,U v.rs v.l.length v.rc,U gs L.length gc] 56)):=by go_grown
 have O5:Cells (w4.alloc (Cc #[I Y ((m:Int)+1),Bb false,U v.rs v.l.length v.rc,U gs L.length gc] 56)) w4.heap.size [I Y ((m:Int)+1),Bb false,U v.rs v.l.length v.rc,U gs L.length gc]:=Cells.new w4 56 [I Y ((m:Int)+1),Bb false,U v.rs v.l.length v.rc,U gs L.length gc];generalize w4.alloc (Cc #[I Y ((m:Int)+1),Bb false,U v.rs v.l.length v.rc,U gs L.length gc] 56)=w5 at *;go_wp2_with (go_at_call 21;fail);refine(HNO.out w5).mono ?_;rintro e w6 ⟨rfl,hb6⟩;go_wp2_with (go_at_call 21;fail);refine(HNO.out w6).mono ?_;rintro e w7 ⟨rfl,hb7⟩
 go_upto_region 7 with fail
 have hb8:Below w7.heap.size w7 ((w7.alloc (Cc #[Bb false,Bb true,I Y 0,I Y 0,Bb false,Bb false,U nO 0 0] 61)).alloc (Cc #[Bb false,Bb true,I Y 0,I Y 0,Bb false,Bb false,U nO 0 0] 61)):=by go_grown
 have A8:Cells ((w7.alloc (Cc #[Bb false,Bb true,I Y 0,I Y 0,Bb false,Bb false,U nO 0 0] 61)).alloc (Cc #[Bb false,Bb true,I Y 0,I Y 0,Bb false,Bb false,U nO 0 0] 61)) w7.heap.size [Bb false,Bb true,I Y 0,I Y 0,Bb false,Bb false,U nO 0 0]:=(Cells.new w7 61 [Bb false,Bb true,I Y 0,I Y 0,Bb false,Bb false,U nO 0 0]).call (by go_grown);have E8:Cells ((w7.alloc (Cc #[Bb false,Bb true,I Y 0,I Y 0,Bb false,Bb false,U nO 0 0] 61)).alloc (Cc #[Bb false,Bb true,I Y 0,I Y 0,Bb false,Bb false,U nO 0 0] 61)) (w7.heap.size+1) [Bb false,Bb true,I Y 0,I Y 0,Bb false,Bb false,U nO 0 0]:=by
  exact kq
 generalize (w7.alloc (Cc #[Bb false,Bb true,I Y 0,I Y 0,Bb false,Bb false,U nO 0 0] 61)).alloc (Cc #[Bb false,Bb true,I Y 0,I Y 0,Bb false,Bb false,U nO 0 0] 61)=w8 at *;have hb48:Below w4.heap.size w4 w8:=hb5.trans (((hb6.trans (hb7.mono hb6.size)).trans (hb8.mono (hb6.trans (hb7.mono hb6.size)).size)).mono hb5.size);have hb28:Below w2.heap.size w2 w8:=(hb3.trans (hb4.mono hb3.size)).trans (hb48.mono (hb3.trans (hb4.mono hb3.size)).size);have hb38:Below w3.heap.size w3 w8:=hb4.trans (hb48.mono hb4.size);have O8:=O5.call ((hb6.trans (hb7.mono hb6.size)).trans (hb8.mono (hb6.trans (hb7.mono hb6.size)).size));have P8:=P2.call hb28;have X8:=X2.call hb28;have I8:=I2.call hb28;have Y8:=Y4.call hb48;have B8:=B2.trans (hb28.mono B2.size);have HORD:Hid (w.heap.size+1+1+1<=w3.heap.size/\w3.heap.size < w4.heap.size/\w4.heap.size < w7.heap.size):=by
  exact iW
 have HPG:Hid (PicG (λb=>w.heap.size<=b) (w.heap.size+1+1+1) w3 v gs gc L):=by
  show PicG _ _ _ _ _ _ _;rw[<-HZ2.out];exact PG.mono λb hb _=>by have:=HZ2.out;omega
 have HB8:=aa hb38;clear PG hb3 hb4 hb5 hb6 hb7 hb8 hb48 hb28 hb38 P2 X2 I2 Y4 O5 B2 Z4 HZ2;have i0:=I8.1 0 _ rfl;go_wp2_with (go_at_call 22;fail);refine(HNA.out w8).mono ?_;rintro e wz ⟨rfl,ew⟩;rw[ew];clear ew wz i0;have x1:=X8.1 1 _ rfl;have i2:=I8.1 2 _ rfl;rw[HKAV.out] at i2;obtain⟨bka,oka,eka,Ska,sska,gcka,Gka,IkaI,kka1,kka2⟩:=HIN.out.1 ka hkax;rw[eka] at x1;clear eka;obtain⟨⟨u0,u1,u2,u3,u4,u5,u6⟩,uz⟩:=Gka.below B8 (lR _);have r0:=A8.1 0 _ rfl;have fr0:=A8.2.2 0;have r1:=A8.1 1 _ rfl;have fr1:=A8.2.2 1;have r2:=A8.1 2 _ rfl;have fr2:=A8.2.2 2;have r3:=A8.1 3 _ rfl;have fr3:=A8.2.2 3;have r4:=A8.1 4 _ rfl;have fr4:=A8.2.2 4;have r5:=A8.1 5 _ rfl;have fr5:=A8.2.2 5;have r6:=A8.1 6 _ rfl;have fr6:=A8.2.2 6;have q0:(0:Int)<=(ka:Int):=by omega
 have q1:(ka:Int) < (x.vars.length:Int):=by omega
 go_upto_region 9 with fail
 clear r0 fr0 r1 fr1 r2 fr2 r3 fr3 r4 fr4 r5 fr5 r6 fr6;obtain⟨w9,ew9⟩:∃q,q=aO w8 (w7.heap.size) 0 [Bb x.vars[ka].n,Bb x.vars[ka].sp.n,I Y x.vars[ka].sp.lo,I Y x.vars[ka].sp.hi,Bb x.vars[ka].t,Bb x.vars[ka].f,U sska x.vars[ka].s.length gcka]:=⟨_,rfl⟩;have PU:=aZ A8 0 _ ew9;simp only[aO] at ew9;rw[<-ew9];clear ew9;have A9:=PU.cells;have o1:=HORD.out;have P9:=PU.keep P8;have X9:=PU.keep X8;have I9:=PU.keep I8;have Y9:=PU.keep Y8;have O9:=PU.keep O8;have E9:=PU.keep E8;have B9:=PU.low (by omega) B8;have HB9:=aa (PU.low (by omega) HB8.out);clear A8 E8 P8 X8 I8 Y8 O8 B8 HB8 o1 x1 i2 u0 u1 u2 u3 u4 u5 u6 uz q0 q1 PU;have i0:=I9.1 0 _ rfl;go_wp2_with (go_at_call 23;fail);refine(HNB.out w9).mono ?_;rintro e wz ⟨rfl,ew⟩;rw[ew];clear ew wz;have A10:=A9;have E10:=E9;have P10:=P9;have X10:=X9;have I10:=I9;have Y10:=Y9;have O10:=O9;have B10:=B9;have HB10:=HB9;clear A9 E9 P9 X9 I9 Y9 O9 B9 HB9;generalize w9=w10 at *;go_wp2_with (go_at_call 21;fail);refine(HNO.out w10).mono ?_;rintro e w11 ⟨rfl,hb11⟩;clear i0
 go_upto_region 12 with fail
 have hb12:Below w11.heap.size w11 (w11.alloc (Cc #[Bb false,Bb true,I Y 0,I Y 0,Bb false,Bb false,U nO 0 0] 61)):=by go_grown
 have T12:Cells (w11.alloc (Cc #[Bb false,Bb true,I Y 0,I Y 0,Bb false,Bb false,U nO 0 0] 61)) w11.heap.size [Bb false,Bb true,I Y 0,I Y 0,Bb false,Bb false,U nO 0 0]:=Cells.new w11 61 [Bb false,Bb true,I Y 0,I Y 0,Bb false,Bb false,U nO 0 0];have hb1012:Below w10.heap.size w10 (w11.alloc (Cc #[Bb false,Bb true,I Y 0,I Y 0,Bb false,Bb false,U nO 0 0] 61)):=hb11.trans (hb12.mono hb11.size);generalize w11.alloc (Cc #[Bb false,Bb true,I Y 0,I Y 0,Bb false,Bb false,U nO 0 0] 61)=wp at *;have SP:Hid (SPre T V F s c cap (m:Int) i x vs vc fs fc w wp (w.heap.size+1+1) w3.heap.size w4.heap.size w7.heap.size (w7.heap.size+1) w11.heap.size w3 v gs gc L x.vars[ka] sska gcka noneG nO 0):=by
  have o:=HORD.out;have o2:=E10.2.1;have o3:=hb11.size;exact⟨B10.trans (hb1012.mono B10.size),P10.call hb1012,X10.call hb1012,I10.call hb1012,Y10.call hb1012,O10.call hb1012,A10.call hb1012,E10.call hb1012,T12,⟨IkaI,kka1,kka2⟩,⟨.inl rfl,lR _,j6 _⟩,HPG.out,HB10.out.trans (hb1012.mono HB10.out.size),rfl,EX.out,rfl,by omega,by omega,by omega,by omega,by omega⟩
 clear A10 B10 P10 X10 I10 Y10 O10 E10 T12 HPG HB10 hb11 hb12 hb1012 EX HORD HNO HNA HNB HIN;refine wp_region_lit ?_;refine tL (Bb false) ?_;refine sm ?_;refine wpList_nil ?_;rename_i K9 hK9;refine hK9 _ _ (pJ rfl (HH.out w3 w4 w7 w11 wp v gs gc L ka sska gcka hkax HKAV.out SP _ _ _ _ (by rfl)))
theorem oI {T:Nat->Prop}{V F:Int}{s:oA}{c:List Ins}{cap m:Nat}{i:Ins}{x:Pic}{vs:oA}{vc:Nat}{fs:oA}{fc:Nat}{w:World}(hc:CodeAt w s c)(hx:PicOn T w x vs fs)(K:SCtx V F c x vc fc i (m:Int))(hnA:nA i.k=true)(hnB:nB i.k=true)(H:∀(w3 w4 w7 w11 wp:World) (v:Ro) (gs:oA) (gc:Nat) (L:List Ro) (ka:Nat) (sska:oA) (gcka:Nat) (hkax:ka < x.vars.length) (_:i.a=(ka:Int)) (kb:Nat) (sskb:oA) (gckb:Nat) (hkbx:kb < x.vars.length) (_:i.b=(kb:Int)),Hid (SPre T V F s c cap (m:Int) i x vs vc fs fc w wp (w.heap.size+1+1) w3.heap.size w4.heap.size w7.heap.size (w7.heap.size+1) w11.heap.size w3 v gs gc L x.vars[ka] sska gcka x.vars[kb] sskb gckb)->SwT (λe w'=>bE (λb=>T b\/w.heap.size<=b) w' e (ah i (m:Int) x)/\Below w.heap.size w w') m w w3 w4 w7 w11 wp):
  Calls pG 7 #[pv V F s c cap,I Y (m:Int),xv x vs vc fs fc] w λe w'=>bE (λb=>T b\/w.heap.size<=b) w' e (ah i (m:Int) x)/\Below w.heap.size w w':=by
 have HH:=aa H;clear H;have hn:=K.kx.none;have ha1:=K.a1;have hm:m < c.length:=by omega
 have hcm:c[m]=i:=by rw[K.hi];unfold bM;simp[j8,hm]
 have h60:=K.lens.2.1;have HIN:=aa hx.in;have exv:xv x vs vc fs fc=Ag #[Bb false,U vs x.vars.length vc,U fs x.flds.length fc]:=by unfold xv;rw[hn]
 rw[exv];have HCP:Hid (∀wx,Below w.heap.size w wx->Calls pG 20 #[Ag #[Bb false,U vs x.vars.length vc,U fs x.flds.length fc]] wx λe w'=>(∃v gs gc L,x=aG false v L/\e=Rt (Ag #[Bb false,U v.rs v.l.length v.rc,U gs L.length gc])/\PicG (λb=>wx.heap.size<=b) wx.heap.size w' v gs gc L)/\Below wx.heap.size wx w'):=λwx hb=>by
  exact kD
 have hb1:Below w.heap.size w ((w.alloc (Cc #[I Y V,I Y F,U s c.length cap] 24)).alloc (Cc #[Bb false,U vs x.vars.length vc,U fs x.flds.length fc] 28)):=by go_grown
 have P1:Cells ((w.alloc (Cc #[I Y V,I Y F,U s c.length cap] 24)).alloc (Cc #[Bb false,U vs x.vars.length vc,U fs x.flds.length fc] 28)) w.heap.size [I Y V,I Y F,U s c.length cap]:=(Cells.new w 24 [I Y V,I Y F,U s c.length cap]).call (by go_grown);have X1:Cells ((w.alloc (Cc #[I Y V,I Y F,U s c.length cap] 24)).alloc (Cc #[Bb false,U vs x.vars.length vc,U fs x.flds.length fc] 28)) (w.heap.size+1) [Bb false,U vs x.vars.length vc,U fs x.flds.length fc]:=by
  exact kB
 have HZ1:Hid (((w.alloc (Cc #[I Y V,I Y F,U s c.length cap] 24)).alloc (Cc #[Bb false,U vs x.vars.length vc,U fs x.flds.length fc] 28)).heap.size=w.heap.size+1+1):=by show _=_;simp
 obtain⟨cb0,co,es,hcb,hci⟩:=(hc.below hb1 (lR _)).get m hm;obtain⟨j0,j1,j2,j3,j4,j5⟩:=hci m hm;rw[hcm] at j0 j1 j2 j3 j4 j5;have HES:Hid (s=sO ⟨cb0,co,nO⟩):=es;clear es;have n0:(0:Int)<=(m:Int):=by omega
 have n1:(m:Int) < (c.length:Int):=by omega
 have HNA:Hid (∀wx,Calls pG 22 #[I Y i.k] wx λe w'=>e=Rt (Bb true)/\w'=wx):=λwx=>by have h:=gr i.k wx;rw[hnA] at h;exact h
 have HNB:Hid (∀wx,Calls pG 23 #[I Y i.k] wx λe w'=>e=Rt (Bb true)/\w'=wx):=λwx=>by have h:=gK i.k wx;rw[hnB] at h;exact h
 obtain⟨ka,eka,hkax⟩:=K.varA hnA;have HKAV:=aa eka;obtain⟨kb,ekb,hkbx⟩:=K.varB hnB;have HKBV:=aa ekb;clear eka;clear ekb;have HK:=aa K;have HX:=aa hx;have HCM:=aa hcm;clear hc hx K hn exv hci hcm;clear hnA hnB;have w61:(m:Int)<=60:=by omega
 go_enter Tryz.func7,Tryz.ntmps7
 go_upto_region 3 with fail
 generalize ((w.alloc (Cc #[I Y V,I Y F,U s c.length cap] 24)).alloc (Cc #[Bb false,U vs x.vars.length vc,U fs x.flds.length fc] 28))=w1 at *;have p2:=P1.1 2 _ rfl;rw[HES.out] at p2
 go_upto_region 4 with fail
 clear p2 j0 j1 j2 j3 j4 j5;have hb2:Below w1.heap.size w1 (w1.alloc (Cc #[I Y i.k,I Y i.tgt,I Y i.a,I Y i.b,I Y i.n,I Y i.g] 51)):=by go_grown
 have I2:Cells (w1.alloc (Cc #[I Y i.k,I Y i.tgt,I Y i.a,I Y i.b,I Y i.n,I Y i.g] 51)) w1.heap.size [I Y i.k,I Y i.tgt,I Y i.a,I Y i.b,I Y i.n,I Y i.g]:=Cells.new w1 51 [I Y i.k,I Y i.tgt,I Y i.a,I Y i.b,I Y i.n,I Y i.g];have HZ2:Hid ((w1.alloc (Cc #[I Y i.k,I Y i.tgt,I Y i.a,I Y i.b,I Y i.n,I Y i.g] 51)).heap.size=w.heap.size+1+1+1):=by show _=_;rw[zA,HZ1.out]
 rw[HZ1.out] at I2;rw[HZ1.out];generalize w1.alloc (Cc #[I Y i.k,I Y i.tgt,I Y i.a,I Y i.b,I Y i.n,I Y i.g] 51)=w2 at *;have P2:=P1.call hb2;have X2:=X1.call hb2;have B2:=hb1.trans (hb2.mono hb1.size);have x0:=X2.1 0 _ rfl;have x1:=X2.1 1 _ rfl;have x2:=X2.1 2 _ rfl;clear P1 X1 hb1 hb2 HZ1;go_wp2_with (go_at_call 20;fail);refine(HCP.out w2 B2).mono ?_;rintro e w3 ⟨⟨v,gs,gc,L,EX0,rfl,PG⟩,hb3⟩;have EX:=aa EX0;clear EX0 x0 x1 x2 HCP;have HNO:Hid (∀wx,Calls pG 21 #[] wx λe w'=>e=Rt (Ag #[Bb false,Bb true,I Y 0,I Y 0,Bb false,Bb false,U nO 0 0])/\Below wx.heap.size wx w'):=λwx=>cG wx
 go_upto_region 5 with fail
 have hb4:Below w3.heap.size w3 (w3.alloc (Cc #[Bb false,U v.rs v.l.length v.rc,U gs L.length gc] 28)):=by go_grown
 have Y4:Cells (w3.alloc (Cc #[Bb false,U v.rs v.l.length v.rc,U gs L.length gc] 28)) w3.heap.size [Bb false,U v.rs v.l.length v.rc,U gs L.length gc]:=Cells.new w3 28 [Bb false,U v.rs v.l.length v.rc,U gs L.length gc];have Z4:Hid ((w3.alloc (Cc #[Bb false,U v.rs v.l.length v.rc,U gs L.length gc] 28)).heap.size=w3.heap.size+1):=by show _=_;simp
 generalize w3.alloc (Cc #[Bb false,U v.rs v.l.length v.rc,U gs L.length gc] 28)=w4 at *;have y0:=Y4.1 0 _ rfl;have y1:=Y4.1 1 _ rfl;have y2:=Y4.1 2 _ rfl
 go_upto_region 6 with fail
 clear y0 y1 y2;have hb5:Below w4.heap.size w4 (w4.alloc (Cc #[I Y ((m:Int)+1),Bb false,U v.rs v.l.length v.rc,U gs L.length gc] 56)):=by go_grown
 have O5:Cells (w4.alloc (Cc #[I Y ((m:Int)+1),Bb false,U v.rs v.l.length v.rc,U gs L.length gc] 56)) w4.heap.size [I Y ((m:Int)+1),Bb false,U v.rs v.l.length v.rc,U gs L.length gc]:=Cells.new w4 56 [I Y ((m:Int)+1),Bb false,U v.rs v.l.length v.rc,U gs L.length gc];generalize w4.alloc (Cc #[I Y ((m:Int)+1),Bb false,U v.rs v.l.length v.rc,U gs L.length gc] 56)=w5 at *;go_wp2_with (go_at_call 21;fail);refine(HNO.out w5).mono ?_;rintro e w6 ⟨rfl,hb6⟩;go_wp2_with (go_at_call 21;fail);refine(HNO.out w6).mono ?_;rintro e w7 ⟨rfl,hb7⟩
 go_upto_region 7 with fail
 have hb8:Below w7.heap.size w7 ((w7.alloc (Cc #[Bb false,Bb true,I Y 0,I Y 0,Bb false,Bb false,U nO 0 0] 61)).alloc (Cc #[Bb false,Bb true,I Y 0,I Y 0,Bb false,Bb false,U nO 0 0] 61)):=by go_grown
 have A8:Cells ((w7.alloc (Cc #[Bb false,Bb true,I Y 0,I Y 0,Bb false,Bb false,U nO 0 0] 61)).alloc (Cc #[Bb false,Bb true,I Y 0,I Y 0,Bb false,Bb false,U nO 0 0] 61)) w7.heap.size [Bb false,Bb true,I Y 0,I Y 0,Bb false,Bb false,U nO 0 0]:=(Cells.new w7 61 [Bb false,Bb true,I Y 0,I Y 0,Bb false,Bb false,U nO 0 0]).call (by go_grown);have E8:Cells ((w7.alloc (Cc #[Bb false,Bb true,I Y 0,I Y 0,Bb false,Bb false,U nO 0 0] 61)).alloc (Cc #[Bb false,Bb true,I Y 0,I Y 0,Bb false,Bb false,U nO 0 0] 61)) (w7.heap.size+1) [Bb false,Bb true,I Y 0,I Y 0,Bb false,Bb false,U nO 0 0]:=by
  exact kq
 generalize (w7.alloc (Cc #[Bb false,Bb true,I Y 0,I Y 0,Bb false,Bb false,U nO 0 0] 61)).alloc (Cc #[Bb false,Bb true,I Y 0,I Y 0,Bb false,Bb false,U nO 0 0] 61)=w8 at *;have hb48:Below w4.heap.size w4 w8:=hb5.trans (((hb6.trans (hb7.mono hb6.size)).trans (hb8.mono (hb6.trans (hb7.mono hb6.size)).size)).mono hb5.size);have hb28:Below w2.heap.size w2 w8:=(hb3.trans (hb4.mono hb3.size)).trans (hb48.mono (hb3.trans (hb4.mono hb3.size)).size);have hb38:Below w3.heap.size w3 w8:=hb4.trans (hb48.mono hb4.size);have O8:=O5.call ((hb6.trans (hb7.mono hb6.size)).trans (hb8.mono (hb6.trans (hb7.mono hb6.size)).size));have P8:=P2.call hb28;have X8:=X2.call hb28;have I8:=I2.call hb28;have Y8:=Y4.call hb48;have B8:=B2.trans (hb28.mono B2.size);have HORD:Hid (w.heap.size+1+1+1<=w3.heap.size/\w3.heap.size < w4.heap.size/\w4.heap.size < w7.heap.size):=by
  exact iW
 have HPG:Hid (PicG (λb=>w.heap.size<=b) (w.heap.size+1+1+1) w3 v gs gc L):=by
  show PicG _ _ _ _ _ _ _;rw[<-HZ2.out];exact PG.mono λb hb _=>by have:=HZ2.out;omega
 have HB8:=aa hb38;clear PG hb3 hb4 hb5 hb6 hb7 hb8 hb48 hb28 hb38 P2 X2 I2 Y4 O5 B2 Z4 HZ2;have i0:=I8.1 0 _ rfl;go_wp2_with (go_at_call 22;fail);refine(HNA.out w8).mono ?_;rintro e wz ⟨rfl,ew⟩;rw[ew];clear ew wz i0;have x1:=X8.1 1 _ rfl;have i2:=I8.1 2 _ rfl;rw[HKAV.out] at i2;obtain⟨bka,oka,eka,Ska,sska,gcka,Gka,IkaI,kka1,kka2⟩:=HIN.out.1 ka hkax;rw[eka] at x1;clear eka;obtain⟨⟨u0,u1,u2,u3,u4,u5,u6⟩,uz⟩:=Gka.below B8 (lR _);have r0:=A8.1 0 _ rfl;have fr0:=A8.2.2 0;have r1:=A8.1 1 _ rfl;have fr1:=A8.2.2 1;have r2:=A8.1 2 _ rfl;have fr2:=A8.2.2 2;have r3:=A8.1 3 _ rfl;have fr3:=A8.2.2 3;have r4:=A8.1 4 _ rfl;have fr4:=A8.2.2 4;have r5:=A8.1 5 _ rfl;have fr5:=A8.2.2 5;have r6:=A8.1 6 _ rfl;have fr6:=A8.2.2 6;have q0:(0:Int)<=(ka:Int):=by omega
 have q1:(ka:Int) < (x.vars.length:Int):=by omega
 go_upto_region 9 with fail
 clear r0 fr0 r1 fr1 r2 fr2 r3 fr3 r4 fr4 r5 fr5 r6 fr6;obtain⟨w9,ew9⟩:∃q,q=aO w8 (w7.heap.size) 0 [Bb x.vars[ka].n,Bb x.vars[ka].sp.n,I Y x.vars[ka].sp.lo,I Y x.vars[ka].sp.hi,Bb x.vars[ka].t,Bb x.vars[ka].f,U sska x.vars[ka].s.length gcka]:=⟨_,rfl⟩;have PU:=aZ A8 0 _ ew9;simp only[aO] at ew9;rw[<-ew9];clear ew9;have A9:=PU.cells;have o1:=HORD.out;have P9:=PU.keep P8;have X9:=PU.keep X8;have I9:=PU.keep I8;have Y9:=PU.keep Y8;have O9:=PU.keep O8;have E9:=PU.keep E8;have B9:=PU.low (by omega) B8;have HB9:=aa (PU.low (by omega) HB8.out);clear A8 E8 P8 X8 I8 Y8 O8 B8 HB8 o1 x1 i2 u0 u1 u2 u3 u4 u5 u6 uz q0 q1 PU;have i0:=I9.1 0 _ rfl;go_wp2_with (go_at_call 23;fail);refine(HNB.out w9).mono ?_;rintro e wz ⟨rfl,ew⟩;rw[ew];clear ew wz;have x1:=X9.1 1 _ rfl;have i3:=I9.1 3 _ rfl;rw[HKBV.out] at i3;obtain⟨bkb,okb,ekb,Skb,sskb,gckb,Gkb,IkbI,kkb1,kkb2⟩:=HIN.out.1 kb hkbx;rw[ekb] at x1;clear ekb;obtain⟨⟨u0,u1,u2,u3,u4,u5,u6⟩,uz⟩:=Gkb.below B9 (lR _);have r0:=E9.1 0 _ rfl;have fr0:=E9.2.2 0;have r1:=E9.1 1 _ rfl;have fr1:=E9.2.2 1;have r2:=E9.1 2 _ rfl;have fr2:=E9.2.2 2;have r3:=E9.1 3 _ rfl;have fr3:=E9.2.2 3;have r4:=E9.1 4 _ rfl;have fr4:=E9.2.2 4;have r5:=E9.1 5 _ rfl;have fr5:=E9.2.2 5;have r6:=E9.1 6 _ rfl;have fr6:=E9.2.2 6;have q0:(0:Int)<=(kb:Int):=by omega
 have q1:(kb:Int) < (x.vars.length:Int):=by omega
 go_upto_region 11 with fail
 clear r0 fr0 r1 fr1 r2 fr2 r3 fr3 r4 fr4 r5 fr5 r6 fr6;obtain⟨w10,ew10⟩:∃q,q=aO w9 ((w7.heap.size+1)) 0 [Bb x.vars[kb].n,Bb x.vars[kb].sp.n,I Y x.vars[kb].sp.lo,I Y x.vars[kb].sp.hi,Bb x.vars[kb].t,Bb x.vars[kb].f,U sskb x.vars[kb].s.length gckb]:=⟨_,rfl⟩;have PU:=aZ E9 0 _ ew10;simp only[aO] at ew10;rw[<-ew10];clear ew10;have E10:=PU.cells;have o1:=HORD.out;have P10:=PU.keep P9;have X10:=PU.keep X9;have I10:=PU.keep I9;have Y10:=PU.keep Y9;have O10:=PU.keep O9;have A10:=PU.keep A9;have B10:=PU.low (by omega) B9;have HB10:=aa (PU.low (by omega) HB9.out);clear A9 E9 P9 X9 I9 Y9 O9 B9 HB9 o1 x1 i3 u0 u1 u2 u3 u4 u5 u6 uz q0 q1 PU;go_wp2_with (go_at_call 21;fail);refine(HNO.out w10).mono ?_;rintro e w11 ⟨rfl,hb11⟩;clear i0
 go_upto_region 12 with fail
 have hb12:Below w11.heap.size w11 (w11.alloc (Cc #[Bb false,Bb true,I Y 0,I Y 0,Bb false,Bb false,U nO 0 0] 61)):=by go_grown
 have T12:Cells (w11.alloc (Cc #[Bb false,Bb true,I Y 0,I Y 0,Bb false,Bb false,U nO 0 0] 61)) w11.heap.size [Bb false,Bb true,I Y 0,I Y 0,Bb false,Bb false,U nO 0 0]:=Cells.new w11 61 [Bb false,Bb true,I Y 0,I Y 0,Bb false,Bb false,U nO 0 0];have hb1012:Below w10.heap.size w10 (w11.alloc (Cc #[Bb false,Bb true,I Y 0,I Y 0,Bb false,Bb false,U nO 0 0] 61)):=hb11.trans (hb12.mono hb11.size);generalize w11.alloc (Cc #[Bb false,Bb true,I Y 0,I Y 0,Bb false,Bb false,U nO 0 0] 61)=wp at *;have SP:Hid (SPre T V F s c cap (m:Int) i x vs vc fs fc w wp (w.heap.size+1+1) w3.heap.size w4.heap.size w7.heap.size (w7.heap.size+1) w11.heap.size w3 v gs gc L x.vars[ka] sska gcka x.vars[kb] sskb gckb):=by
  have o:=HORD.out;have o2:=E10.2.1;have o3:=hb11.size;exact⟨B10.trans (hb1012.mono B10.size),P10.call hb1012,X10.call hb1012,I10.call hb1012,Y10.call hb1012,O10.call hb1012,A10.call hb1012,E10.call hb1012,T12,⟨IkaI,kka1,kka2⟩,⟨IkbI,kkb1,kkb2⟩,HPG.out,HB10.out.trans (hb1012.mono HB10.out.size),rfl,EX.out,rfl,by omega,by omega,by omega,by omega,by omega⟩
 clear A10 B10 P10 X10 I10 Y10 O10 E10 T12 HPG HB10 hb11 hb12 hb1012 EX HORD HNO HNA HNB HIN;refine wp_region_lit ?_;refine tL (Bb false) ?_;refine sm ?_;refine wpList_nil ?_;rename_i K9 hK9;refine hK9 _ _ (pJ rfl (HH.out w3 w4 w7 w11 wp v gs gc L ka sska gcka hkax HKAV.out kb sskb gckb hkbx HKBV.out SP _ _ _ _ (by rfl)))
end
end Go.Proofs.YtmapdpcfanecdabGreat
