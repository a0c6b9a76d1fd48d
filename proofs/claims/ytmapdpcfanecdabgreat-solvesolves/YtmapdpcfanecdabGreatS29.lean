import Derived.Test.YtmapdpcfanecdabGreatS27
import Derived.Test.YtmapdpcfanecdabGreatS28
open Go.Ending renaming returned→Rt
open Go.IntKind renaming i64→Y
open Go.Obj renaming cells→Cc
open Go.Proofs.Tryz renaming prog→pG
open Go.RowKit.Below renaming heap_setCell→hSe,refl→bR
open Go.Value renaming agg→Ag,bool→Bb,int→I,pointer→Pp,slice→U,tuple→Tu
open Go.World renaming cell?_of_block→q4,frozen?_of_block→q5,size_alloc→zA
open List renaming Pairwise→j5,append_nil→z0,drop_eq_nil_of_le→j7,filter_cons→q8,filter_nil→q9,getElem?_eq_getElem→z6,getElem_mem→gM,length_append→q0,length_map→j2,map_append→j6,map_cons→q6,map_nil→q7,mem_cons→j8,mem_filter→j3,mem_map→z1,mem_range→j4,pairwise_lt_range→z5,pairwise_map→z4,take_length→j9
open Nat renaming le_refl→lR,le_trans→lT,lt_of_lt_of_le→lL,zero_add→j0,zero_le→j1
open Option renaming none→nO,some→sO
set_option linter.unusedSimpArgs false
set_option linter.unusedVariables false
set_option maxHeartbeats 32000000
set_option maxRecDepth 100000
namespace Go.Proofs.YtmapdpcfanecdabGreat
section
open Go.RowKit
attribute [local go_sem ↓] Go.wp_at_zero Go.wp_at_succ
theorem mf (f:Nat)(s:oA)(c:List Ins)(cap:Nat)(vars:List Gs)(flds:List (List Gs))(vs:oA)(vc:Nat)(fs:oA)(fc:Nat)(w:World)(hc:CodeAt w s c)(hP:PicAt w ⟨false,vars,flds⟩ vs fs)(h60:c.length<=60)(hv8:vars.length<=8)(hf3:f<=3)(hfc:flds.length=c.length)(hrow:∀r∈flds,r.length=f):
  Calls pG 19 #[pv (vars.length:Int) (f:Int) s c cap,xv ⟨false,vars,flds⟩ vs vc fs fc] w λe w'=>e=Rt (I Y (if bm c (vars++flds.flatten)≠0 then bm c (vars++flds.flatten) else if bJ c (λg=> !ae g) 0 flds then 4 else 0))/\Below w.heap.size w w':=by
 have hb0:Below w.heap.size w ((w.alloc (Cc #[I Y (vars.length:Int),I Y (f:Int),U s c.length cap] 24)).alloc (Cc #[Bb false,U vs vars.length vc,U fs flds.length fc] 28)):=by go_grown
 have P0:=(PrAt.new w (vars.length:Int) (f:Int) s c cap).call (w':=((w.alloc (Cc #[I Y (vars.length:Int),I Y (f:Int),U s c.length cap] 24)).alloc (Cc #[Bb false,U vs vars.length vc,U fs flds.length fc] 28))) (by go_grown);have X0:=XAt.new (w.alloc (Cc #[I Y (vars.length:Int),I Y (f:Int),U s c.length cap] 24)) ⟨false,vars,flds⟩ vs vc fs fc;rw[zA] at X0;simp only at X0;have hfl:((flds.length:Int)!=(c.length:Int))=false:=by simp;omega
 have hl60:flds.length<=60:=by omega
 obtain⟨ti,hi,hz0,hz1,hz2⟩:=info_parts Tryz.info_guess;have HC0:=aa (hc.below hb0 (lR _));have RW0:=hP.2.below hb0 (lR _);have GV0:=hP.1.below hb0 (lR _);have HRW:=aa hrow;clear hP hfc hrow hc;simp only at RW0 GV0;have HR:Hid ((if bm c (vars++flds.flatten)≠0 then bm c (vars++flds.flatten) else if bJ c (λg=> !ae g) 0 flds then 4 else 0)=(if bm c (vars++flds.flatten)≠0 then bm c (vars++flds.flatten) else if bJ c (λg=> !ae g) 0 flds then 4 else 0)):=rfl;generalize hres:(if bm c (vars++flds.flatten)≠0 then bm c (vars++flds.flatten) else if bJ c (λg=> !ae g) 0 flds then 4 else 0)=res at HR |-;have HR:Hid (res=(if bm c (vars++flds.flatten)≠0 then bm c (vars++flds.flatten) else if bJ c (λg=> !ae g) 0 flds then 4 else 0)):=hres.symm;clear hres;go_enter Tryz.func19,Tryz.ntmps19
 go_upto_region 7 with fail
 generalize ((w.alloc (Cc #[I Y (vars.length:Int),I Y (f:Int),U s c.length cap] 24)).alloc (Cc #[Bb false,U vs vars.length vc,U fs flds.length fc] 28))=w1 at *;have P1:=P0;have X1:=X0;have RW:=RW0;have GV:=GV0;have HC1:=HC0;clear P0 X0 RW0 GV0 HC0 hfl;go_wp2;go_loopw [5] (λi wr=>∃k:Nat,k<=flds.length/\i=I Y k/\Below w1.heap.size w1 wr) (λi _=>flds.length - (intOf i).toNat)
 case atStart=>exact⟨0,j1 _,rfl,bR _ _⟩
 case round=>
  obtain⟨k,hk,rfl,hbr⟩:=hrel;obtain⟨⟨p0,p1',p2⟩,pz⟩:=id (P1.call hbr);obtain⟨⟨x0,x1,x2⟩,xz,-⟩:=id (X1.call hbr);by_cases hlt:k < flds.length
  ·have n0:(0:Int)<=(k:Int):=by omega
   have n1:(k:Int) < (flds.length:Int):=by omega
   obtain⟨p1,q1,rfl,zp1,r1,rc1,C1,k1,m1,-⟩:=RW.below hbr (lR _) k hlt;have HKZ:Hid (∀wx,Below wr.heap.size wr wx->wx.cell? ⟨w.heap.size,1,nO⟩=sO (I Y (f:Int))/\wx.cell? ⟨w.heap.size+1,2,nO⟩=sO (U (sO ⟨p1,q1,nO⟩) flds.length fc)/\wx.cell? ⟨p1,q1+k,nO⟩=sO (U r1 flds[k].length rc1)):=λwx hx=>⟨by rw[hx.cell (by simp only;exact pz)];exact p1',by rw[hx.cell (by simp only;exact xz)];exact x2,by rw[hx.cell (by simp only;exact zp1)];exact C1⟩;have HD:Below wr.heap.size wr wr.drew:=(bR _ _).drew;go_wp2;refine am (S:=(λwx=>wx.cell? ⟨w.heap.size,1,nO⟩=sO (I Y (f:Int))/\wx.cell? ⟨w.heap.size+1,2,nO⟩=sO (U (sO ⟨p1,q1,nO⟩) flds.length fc)/\wx.cell? ⟨p1,q1+k,nO⟩=sO (U r1 flds[k].length rc1))) [] (by kernel_rfl) (HKZ.out _ HD) (λhHeld=> ?_);refine vZ 0 ?_ ?_;refine vZ 1 ?_ ?_;refine vZ 2 ?_ ?_;refine vZ 3 ?_ ?_;refine vZ 4 ?_ ?_;refine vZ 5 ?_ ?_;refine vZ 6 ?_ ?_;refine vZ 7 ?_ ?_;refine vZ 8 ?_ ?_;refine aj (by kernel_rfl) ?_ _;have e1:((flds[k].length:Int)!=(f:Int))=false:=by simp[HRW.out _ (gM hlt)]
   go_wp2;go_roundw
   case rel=>exact⟨k+1,by omega,by go_num,hbr.trans (HD.mono hbr.size)⟩
   case measure=>simp[intOf];omega
  ·have n1:¬(k:Int) < (flds.length:Int):=by omega
   have H2:=hbr;have P2:=P1.call hbr;have X2:=X1.call hbr;have RW2:=RW.below hbr (lR _);obtain⟨lv,elv,hnv,hnn,hgv,hlv⟩:=(GV.below hbr (lR _)).gcsTo (bR _ _);have HNV:=aa hnv;have HLV:=aa elv;have llv:lv.length=vars.length:=by rw[<-elv,j2]
   have C2':=HC1.out.below hbr (lR _);generalize wr=w2 at *;clear wr P1 X1 RW GV hnv elv HC1 n1;go_wp2_with (at_builtin;refine aY _ rfl _ _ 25 rfl w2.heap.size 61 ti (Ag #[Bb false,Bb false,I Y 0,I Y 0,Bb false,Bb false,U nO 0 0]) 7 64 Tryz.underlying25 hi hz0 hz1 hz2 rfl (by decide) _ _ _ rfl (World.ownsRow_made w2 #[] 0 (lR _) (j1 _) rfl) vs vars.length vc (aF lv) rfl hlv hnn ?qa2 (gU _) ?qa4 ?qa5 ?qa6 ?_)
   case qa2=>exact λad e j u hj=>Lib.cell?_alloc_some _ (HNV.out ad e j u hj)
   case qa4=>unfold maxLen;omega
   case qa5=>omega
   (try (case qa6=>simp))
   intro v0 w3 hown hgrow hat;have hb3:Below w2.heap.size w2 w3:=((bR _ w2).alloc (lR _) _).grown hgrow (by simp) (by intro k hk;simp[Value.ownBlock] at hk;omega);have CR:CRow w3 w2.heap.size v0 lv:=⟨by rw[llv];simpa using hown,λy hy=>⟨(hgv y hy).1.call hb3,(hgv y hy).2⟩⟩;clear hown hgrow hat HNV hnn hgv hlv p0 p1' p2 pz x0 x1 x2 xz;go_wp2;go_loopw [6,7] (λv i wy=>∃(k:Nat) (v':Value) (l:List Gc),k<=flds.length/\i=I Y k/\v=v'/\Below w2.heap.size w2 wy/\Hid (l.map Gc.g=vars++(flds.take k).flatten)/\CRow wy w2.heap.size v' l) (λ_ i _=>flds.length - (intOf i).toNat)
   case atStart=>exact⟨0,_,lv,j1 _,rfl,rfl,hb3,by show _=_;rw[HLV.out];simp,CR⟩
   case round=>
    obtain⟨k2,v,l,hk2,rfl,rfl,hby,HE,CL⟩:=hrel;clear CR hb3;generalize wr=wy at *;clear wr;have ll:l.length=vars.length+k2 * f:=by
     have h1:=congrArg List.length HE.out;rw[j2,q0,gY (n:=f) (λr hr=>HRW.out r (List.mem_of_mem_take hr)),List.length_take,Nat.min_eq_left hk2] at h1;exact h1
    have lb:k2 * f<=60 * 3:=Nat.mul_le_mul (by omega) hf3;have LL:=aa ll;clear ll;obtain⟨⟨x0,x1,x2⟩,xz,-⟩:=id (X2.call hby);by_cases hlt2:k2 < flds.length
    ·have n0:(0:Int)<=(k2:Int):=by omega
     have n1:(k2:Int) < (flds.length:Int):=by omega
     obtain⟨p1,q1,rfl,zp1,r1,rc1,C1,k1,m1,J1⟩:=RW2 k2 hlt2;obtain⟨lr,elr,hnr,hnnr,hgr,hlr⟩:=J1.gcsTo hby
     have C1':wy.cell? ⟨p1,q1+k2,nO⟩=sO (U r1 flds[k2].length rc1):=by rw[hby.cell (by simp only;exact zp1)];exact C1
     have hsum:l.length+flds[k2].length<=1000:=by have:=LL.out;have:=HRW.out _ (gM hlt2);omega
     have HLL:Hid (lr.length=flds[k2].length):=by show _=_;rw[<-elr,j2]
     have HNR:=aa hnr;have HLR:=aa elr;clear C1 J1 hnr elr;go_wp2_with (at_builtin;refine aY _ rfl _ _ 25 rfl w2.heap.size 61 ti (Ag #[Bb false,Bb false,I Y 0,I Y 0,Bb false,Bb false,U nO 0 0]) 7 64 Tryz.underlying25 hi hz0 hz1 hz2 rfl (by decide) _ _ _ rfl CL.1 r1 flds[k2].length rc1 (aF lr) rfl hlr hnnr ?qb2 (gU _) ?qb4 ?qb5 ?qb6 ?_)
     case qb2=>exact HNR.out
     case qb4=>unfold maxLen;omega
     case qb5=>omega
     (try (case qb6=>exact hby.size))
     intro v1 w5 hown5 hgrow5 hat5;have hb5:Below w2.heap.size w2 w5:=hby.grown hgrow5 hby.size (λk hk=>(aC CL.1 hk).2);have CR5:CRow w5 w2.heap.size v1 (l++lr):=CL.grown hgr (by rw[HLL.out];exact hown5) hgrow5;clear hown5 hgrow5 hat5 HNR hnnr hgr hlr x0 x1 x2 xz C1' CL;go_wp2;go_roundw
     case rel=>exact⟨k2+1,_,l++lr,by omega,by go_num,rfl,hb5,by show _=_;rw[j6,HE.out,HLR.out,ia _ _ hlt2,List.append_assoc],CR5⟩
     case measure=>simp[intOf];omega
    ·have n1:¬(k2:Int) < (flds.length:Int):=by omega
     have et:flds.take k2=flds:=List.take_of_length_le (by omega);obtain⟨va,vb,rfl,kv1,kv2,GA,-⟩:=CL.at;have HEA:Hid (l.map Gc.g=vars++flds.flatten):=by show _=_;rw[HE.out,et]
     rw[HEA.out] at GA;have la:l.length=(vars++flds.flatten).length:=by rw[<-HEA.out,j2]
     have ll:=LL.out;rw[la] at ll |-;clear LL;have P3':=P2.call hby
     have X3:=X2.call hby
     have C2:=C2'.below hby (lR _);have RW3:=RW2.below hby (lR _);have H3:=H2.trans (hby.mono H2.size);clear CL HE HEA et la kv1 P2 X2 C2' RW2 hby
     generalize vars++flds.flatten=all at *;have lal:all.length<=1000:=by omega
     clear ll;go_wp2;clear x0 x1 x2 xz;go_loopw [8] (λi wz=>∃k:Nat,k<=all.length/\i=I Y k/\Below wy.heap.size wy wz/\Hid (bm c all=bm c (all.drop k))) (λi _=>all.length - (intOf i).toNat)
     case atStart=>exact⟨0,j1 _,rfl,bR _ _,rfl⟩
     case round=>
      obtain⟨k3,hk3,rfl,hbz,HK⟩:=hrel;by_cases hlt3:k3 < all.length
      ·have n0:(0:Int)<=(k3:Int):=by omega
       have n1:(k3:Int) < (all.length:Int):=by omega
       obtain⟨b,off,rfl,ss,gc,GR,IR,hg1,hg2⟩:=GA.below hbz (lR _) k3 hlt3;have hgl:all[k3].s.length<=9223372036854775807:=by unfold maxLen at hg2;omega
       have HKZ:Hid (∀wx,Below wr.heap.size wr wx->(wx.cell? ⟨w.heap.size,0,nO⟩=sO (I Y (vars.length:Int))/\wx.cell? ⟨w.heap.size,1,nO⟩=sO (I Y (f:Int))/\wx.cell? ⟨w.heap.size,2,nO⟩=sO (U s c.length cap))/\(wx.cell? ⟨b,off+k3 * 7,nO⟩=sO (Bb all[k3].n)/\wx.cell? ⟨b,off+k3 * 7+1,nO⟩=sO (Bb all[k3].sp.n)/\wx.cell? ⟨b,off+k3 * 7+2,nO⟩=sO (I Y all[k3].sp.lo)/\wx.cell? ⟨b,off+k3 * 7+3,nO⟩=sO (I Y all[k3].sp.hi)/\wx.cell? ⟨b,off+k3 * 7+4,nO⟩=sO (Bb all[k3].t)/\wx.cell? ⟨b,off+k3 * 7+5,nO⟩=sO (Bb all[k3].f)/\wx.cell? ⟨b,off+k3 * 7+6,nO⟩=sO (U ss all[k3].s.length gc))):=λwx hx=>⟨((P3'.call hbz).call hx).1,(GR.call hx).1⟩;have HD:Below wr.heap.size wr wr.drew:=(bR _ _).drew;have HS:=aa (iZ c all k3 hlt3);go_wp2;refine am (S:=(λwx=>(wx.cell? ⟨w.heap.size,0,nO⟩=sO (I Y (vars.length:Int))/\wx.cell? ⟨w.heap.size,1,nO⟩=sO (I Y (f:Int))/\wx.cell? ⟨w.heap.size,2,nO⟩=sO (U s c.length cap))/\(wx.cell? ⟨b,off+k3 * 7,nO⟩=sO (Bb all[k3].n)/\wx.cell? ⟨b,off+k3 * 7+1,nO⟩=sO (Bb all[k3].sp.n)/\wx.cell? ⟨b,off+k3 * 7+2,nO⟩=sO (I Y all[k3].sp.lo)/\wx.cell? ⟨b,off+k3 * 7+3,nO⟩=sO (I Y all[k3].sp.hi)/\wx.cell? ⟨b,off+k3 * 7+4,nO⟩=sO (Bb all[k3].t)/\wx.cell? ⟨b,off+k3 * 7+5,nO⟩=sO (Bb all[k3].f)/\wx.cell? ⟨b,off+k3 * 7+6,nO⟩=sO (U ss all[k3].s.length gc)))) [] (by kernel_rfl) (HKZ.out _ HD) (λhHeld=> ?_);refine vZ 0 ?_ ?_;refine vZ 1 ?_ ?_;refine vZ 2 ?_ ?_;refine vZ 3 ?_ ?_;refine vZ 4 ?_ ?_;refine ai (i:=5) rfl (by kernel_rfl) (λK hK=> ?_);go_simp;go_at_call 55;refine(pR (vars.length:Int) (f:Int) s c cap all[k3] ss gc _ (C2.call (hbz.trans (HD.mono hbz.size))) h60 (IR.call HD) hgl).mono ?_;rintro e w5 ⟨rfl,hb5⟩;have HB5:Below wr.heap.size wr w5:=HD.trans (hb5.mono HD.size);go_wp2_with fail;refine hK.out _ _ (HKZ.out _ HB5) (λhHeld=> ?_);clear hK K;refine sm ?_;refine vZ 6 ?_ ?_;refine aj (by kernel_rfl) ?_ _;generalize ap c all[k3]=ce at *;by_cases hz:ce=0
       ·have e1:(ce !=0)=false:=by simpa using hz
        go_wp2;go_roundw
        case rel=>exact⟨k3+1,by omega,by go_num,hbz.trans (HB5.mono hbz.size),by show _=_;rw[HK.out,HS.out,if_pos hz]⟩
        case measure=>simp[intOf];omega
       ·have e1:(ce !=0)=true:=by simpa using hz
        go_wp2;go_ret;refine⟨bd ?_,hb0.trans ((H3.trans ((hbz.trans (HB5.mono hbz.size)).mono H3.size)).mono hb0.size)⟩;rw[HR.out,HK.out,HS.out,if_neg hz,if_pos hz]
      ·have n1:¬(k3:Int) < (all.length:Int):=by omega
       have HZ:Hid (bm c all=0):=by show _=_;rw[HK.out,j7 (by omega)];rfl
       have HR2:Hid (res=if bJ c (λg=> !ae g) 0 flds then 4 else 0):=by show _=_;rw[HR.out,HZ.out];rfl
       have P4:=P3'.call hbz;have X4:=X3.call hbz;have C4:=C2.call hbz;have RW4:=RW3.below hbz (lR _);have H4:=H3.trans (hbz.mono H3.size);generalize wr=wz at *;clear wr HK HR HZ P3' X3 C2 RW3 H3 hbz GA;obtain⟨⟨x0,x1,x2⟩,xz,-⟩:=id X4;go_wp2;clear x0 x1 x2 xz;go_loopw [10] (λi wq=>∃k:Nat,k<=flds.length/\i=I Y k/\Below wz.heap.size wz wq/\Hid (bJ c (λg=> !ae g) 0 flds=bJ c (λg=> !ae g) k (flds.drop k))) (λi _=>flds.length - (intOf i).toNat)
       case atStart=>exact⟨0,j1 _,rfl,bR _ _,rfl⟩
       case round=>
        obtain⟨k4,hk4,rfl,hbq,HT⟩:=hrel;generalize wr=wq at *;clear wr;obtain⟨⟨x0,x1,x2⟩,xz,-⟩:=id (X4.call hbq);obtain⟨⟨p0,p1',p2⟩,pz⟩:=id (P4.call hbq);by_cases hlt4:k4 < flds.length
        ·have n0:(0:Int)<=(k4:Int):=by omega
         have n1:(k4:Int) < (flds.length:Int):=by omega
         have HU:=aa (lk c (λg=> !ae g) flds k4 hlt4);go_wp2;clear x0 x1 x2 xz p0 p1' p2 pz;go_loopw [11] (λj wo=>∃m:Nat,m<=f/\j=I Y m/\Below wz.heap.size wz wo/\Hid (bJ c (λg=> !ae g) 0 flds=((!bk c k4&&(flds[k4].drop m).any (λg=> !ae g))||bJ c (λg=> !ae g) (k4+1) (flds.drop (k4+1))))) (λj _=>f - (intOf j).toNat)
         case atStart=>exact⟨0,j1 _,rfl,hbq,by show _=_;rw[HT.out,HU.out];rfl⟩
         case round=>
          obtain⟨m,hm,rfl,hbo,HV⟩:=hrel;obtain⟨⟨x0,x1,x2⟩,xz,-⟩:=id (X4.call hbo);obtain⟨⟨p0,p1',p2⟩,pz⟩:=id (P4.call hbo);by_cases hltm:m < f
          ·have m0:(0:Int)<=(m:Int):=by omega
           have m1:(m:Int) < (f:Int):=by omega
           have hmk:m < flds[k4].length:=by have:=HRW.out _ (gM hlt4);omega
           have m2:(m:Int) < (flds[k4].length:Int):=by omega
           have HY:Hid ((flds[k4].drop m).any (λg=> !ae g)=(!ae flds[k4][m]||(flds[k4].drop (m+1)).any (λg=> !ae g))):=fQ flds[k4] (λg=> !ae g) m hmk;go_wp2_with (go_at_call 56;fail);refine(ow (vars.length:Int) (f:Int) s c cap (k4:Int) _ (C4.call hbo) h60).mono ?_;rintro e wp ⟨rfl,hbp⟩;have hbs:=hbo.trans (hbp.mono hbo.size);clear x0 x1 x2 xz p0 p1' p2 pz;rcases (show bk c (k4:Int)=false\/bk c (k4:Int)=true by cases bk c (k4:Int)<;>simp) with hs|hs<;>have HSG:=aa hs<;>rw[hs]<;>clear hs
           ·obtain⟨⟨x0,x1,x2⟩,xz,-⟩:=id (X4.call hbs)
            obtain⟨p1,q1,rfl,zp1,r1,rc1,C1,k1,mm1,J1⟩:=RW4.below hbs (lR _) k4 hlt4;obtain⟨b,off,rfl,ss,gc,GR,IR,hg1,hg2⟩:=J1 m hmk;obtain⟨⟨g0,g1,g2,g3,g4,g5,g6⟩,gz⟩:=id GR;go_wp2_with (go_at_call 28;fail);refine(aW flds[k4][m] ss gc _).mono ?_;rintro e wn ⟨rfl,hbn⟩;have hbt:=hbs.trans (hbn.mono hbs.size);clear x0 x1 x2 xz g0 g1 g2 g3 g4 g5 g6 gz GR IR C1 J1;rcases (show ae flds[k4][m]=false\/ae flds[k4][m]=true by cases ae flds[k4][m]<;>simp) with hn|hn<;>have HNG:=aa hn<;>rw[hn]<;>clear hn
            ·go_wp2
             go_ret;refine⟨bd ?_,hb0.trans ((H4.trans (hbt.mono H4.size)).mono hb0.size)⟩;rw[HR2.out,HV.out,HY.out,HSG.out,HNG.out];rfl
            ·go_wp2
             go_roundw
             case rel=>exact⟨m+1,by omega,by go_num,hbt,by show _=_;rw[HV.out,HY.out,HNG.out];rfl⟩
             case measure=>simp[intOf];omega
           ·go_wp2
            go_roundw
            case rel=>exact⟨m+1,by omega,by go_num,hbs,by show _=_;rw[HV.out,HSG.out];rfl⟩
            case measure=>simp[intOf];omega
          ·have m1:¬(m:Int) < (f:Int):=by omega
           go_wp2;go_roundw
           case rel=>exact⟨k4+1,by omega,by go_num,hbo,by show _=_;rw[HV.out,j7 (by have:=HRW.out _ (gM hlt4);omega)];simp⟩
           case measure=>simp[intOf];omega
        ·have n1:¬(k4:Int) < (flds.length:Int):=by omega
         go_wp2;go_ret;refine⟨bd ?_,hb0.trans ((H4.trans (hbq.mono H4.size)).mono hb0.size)⟩;rw[HR2.out,HT.out,j7 (by omega)];rfl
end
section
open Go.RowKit
theorem GuAt.grown {w w':World}{vb:Option Nat}{b o:Nat}{g:Gs}{ss:oA}{cap:Nat}(hg:w.grownBy w' vb)(h:GuAt w b o g ss cap)(hne:sO b≠vb):GuAt w' b o g ss cap:=by
 obtain⟨⟨h0,h1,h2,h3,h4,h5,h6⟩,hz⟩:=h;have hk:=hg.block b hz hne;have c:∀j,w'.cell? ⟨b,j,nO⟩=w.cell? ⟨b,j,nO⟩:=λj=>q4 (a:=⟨b,j,nO⟩) hk;exact⟨⟨by rw[c];exact h0,by rw[c];exact h1,by rw[c];exact h2,by rw[c];exact h3,by rw[c];exact h4,by rw[c];exact h5,by rw[c];exact h6⟩,lL hz hg.size⟩
theorem Fr7.grown {w w':World}{vb:Option Nat}{b:Nat}(hg:w.grownBy w' vb)(h:Fr7 w b)(hne:sO b≠vb):Fr7 w' b:=by
 have hk:=hg.block b h.2 hne;exact⟨λj=>by rw[q5 (a:=⟨b,j,nO⟩) hk];exact h.1 j,lL h.2 hg.size⟩
theorem GuAt.setFar {w:World}{b b' o j:Nat}{g:Gs}{ss:oA}{cap:Nat}{v:Value}(h:GuAt w b o g ss cap)(hne:b≠b'):GuAt (w.setCell ⟨b',j,nO⟩ v) b o g ss cap:=by
 obtain⟨⟨h0,h1,h2,h3,h4,h5,h6⟩,hz⟩:=h;have c:∀i,(w.setCell ⟨b',j,nO⟩ v).cell? ⟨b,i,nO⟩=w.cell? ⟨b,i,nO⟩:=λi=>World.cell?_setCell_far _ ⟨b',j,nO⟩ ⟨b,i,nO⟩ _ (λe=>hne e.symm);exact⟨⟨by rw[c];exact h0,by rw[c];exact h1,by rw[c];exact h2,by rw[c];exact h3,by rw[c];exact h4,by rw[c];exact h5,by rw[c];exact h6⟩,by simpa using hz⟩
theorem GuAt.setS {w:World}{b:Nat}{g:Gs}{ss ss':oA}{cap cap':Nat}{s':List Int}(h:GuAt w b 0 g ss cap):GuAt (w.setCell ⟨b,6,nO⟩ (U ss' s'.length cap')) b 0 ⟨g.n,g.sp,g.t,g.f,s'⟩ ss' cap':=by
 obtain⟨⟨h0,h1,h2,h3,h4,h5,h6⟩,hz⟩:=h;simp only[j0] at h0 h1 h2 h3 h4 h5 h6;refine⟨?_,by simpa using hz⟩;simp[go_sem,h0,h1,h2,h3,h4,h5,h6]
theorem Fr7.set {w:World}{b b' j:Nat}{v:Value}(h:Fr7 w b):Fr7 (w.setCell ⟨b',j,nO⟩ v) b:=⟨λi=>by simp[go_sem,h.1 i],by simpa using h.2⟩
theorem iN {w:World}{B n b j z:Nat}{e:TypeId}{v u:Value}{xs:List Value}(h:w.ownsRow B e z v n xs)(hb:b < B):(w.setCell ⟨b,j,nO⟩ u).ownsRow B e z v n xs:=
 ⟨h.1,h.2.imp id λ⟨g,cap,cur,r1,r2,r3,r4⟩=>⟨g,cap,cur,r1,r2,by rw[hSe _ _ _ _ (by show g≠b;omega)];exact r3,r4⟩⟩

def br (a b:List Int)(k:Nat):List Int:=((List.range k).map λn:Nat=>(n:Int)).filter λx=>a.contains x||b.contains x
theorem uC (a b:List Int)(k:Nat):br a b (k+1)=br a b k++(if (a.contains (k:Int)||b.contains (k:Int))=true then [(k:Int)] else []):=by
 unfold br;rw[List.range_succ,j6,List.filter_append];congr 1;by_cases h:(a.contains (k:Int)||b.contains (k:Int))=true
 ·simp only[q6,q7,q8,h,if_true,q9]
 ·simp only[q6,q7,q8,h,if_false,q9,Bool.false_eq_true]
theorem vi (a b:List Int)(k:Nat):(br a b k).length<=k:=by
 unfold br;exact lT (List.length_filter_le _ _) (by simp)
def vQ (w:World)(g:Gs)(ss:oA)(gc:Nat)(h:Gs)(st:oA)(hc:Nat)(w':World):Prop:=
 (w'.cell? ⟨w.heap.size,0,nO⟩=sO (Bb g.n)/\w'.cell? ⟨w.heap.size,1,nO⟩=sO (Bb g.sp.n)/\w'.cell? ⟨w.heap.size,2,nO⟩=sO (I Y g.sp.lo)/\w'.cell? ⟨w.heap.size,3,nO⟩=sO (I Y g.sp.hi)/\w'.cell? ⟨w.heap.size,4,nO⟩=sO (Bb g.t)/\w'.cell? ⟨w.heap.size,5,nO⟩=sO (Bb g.f)/\w'.cell? ⟨w.heap.size,6,nO⟩=sO (U ss g.s.length gc))/\
 (w'.cell? ⟨w.heap.size+1,0,nO⟩=sO (Bb h.n)/\w'.cell? ⟨w.heap.size+1,1,nO⟩=sO (Bb h.sp.n)/\w'.cell? ⟨w.heap.size+1,2,nO⟩=sO (I Y h.sp.lo)/\w'.cell? ⟨w.heap.size+1,3,nO⟩=sO (I Y h.sp.hi)/\w'.cell? ⟨w.heap.size+1,4,nO⟩=sO (Bb h.t)/\w'.cell? ⟨w.heap.size+1,5,nO⟩=sO (Bb h.f)/\w'.cell? ⟨w.heap.size+1,6,nO⟩=sO (U st h.s.length hc))
theorem nP {p:Prop}(h:p:=by
 have hln:=HL.out k;go_wp2_with (at_builtin;refine wpList_append_own _ rfl _ _ 59 rfl W.heap.size 3 ti (.int .i64 0) 1 8 Tryz.underlying59 hi hz0 hz1 hz2 rfl (by decide) _ _ _ rfl (OR.alloc _) ⟨wr.heap.size,0,none⟩ 1 1 [.int .i64 (k:Int)] rfl rfl (cell_one_new _ _ _) (λx hx=>by simp at hx;subst hx;rfl) (by unfold maxLen;omega) (by omega) (by simp;omega) ?_;intro v' w3 hown' hgrow3 hnil3;have hlow:∀b,b < W.heap.size->some b≠(Value.slice vs (br sl h.s k).length vc).ownBlock:=(λb hb e=>by have:=gX OR e.symm;omega);have O3:w3.ownsRow W.heap.size 3 1 v' (br sl h.s (k+1)).length ((br sl h.s (k+1)).map (.int .i64)):=(by rw[HT.out,List.map_append,List.length_append];exact hown');obtain⟨vs',vc',hv',-⟩:=IntsAt.own O3;subst hv';have G3:=((GR.alloc _).grown hgrow3 (hlow _ (by omega)));have H3:=((HR.alloc _).grown hgrow3 (hlow _ (by omega)));have R3:=((RR.alloc _).grown hgrow3 (hlow _ (by omega)));have F3:=((FR.alloc _).grown hgrow3 (hlow _ (by omega)));have U3:=((UR.alloc _).grown hgrow3 (hlow _ (by omega)));have X3:=((XR.alloc _).grown hgrow3 (hlow _ (by omega)));have B3:=((BR.alloc BR.size _).grown hgrow3 (by simp;have:=BR.size;omega) (λj hj=>by have:=gX OR hj;omega));have z3:=hgrow3.size;simp only[World.size_alloc] at z3;obtain⟨⟨u0,u1,u2,u3,u4,u5,u6⟩,uz⟩:=id U3;simp only[Nat.zero_add] at u0 u1 u2 u3 u4 u5 u6;have fz3:=X3.1);go_roundw
 case rel=>exact⟨k+1,vs',vc',by omega,by go_num,G3.setFar (by omega),H3.setFar (by omega),R3.setFar (by omega),F3.set,U3.setS,X3.set,iN O3 (by omega),by simp;omega,B3.setCell (by show w.heap.size<=ob;omega) _⟩
 case measure=>simp[intOf];omega):p:=h
theorem ox {p:Prop}(h:p:=by
 go_wp2_with (go_at_call 59;fail);refine(kJ (k:Int) ss gc sl _ hgl IR).mono ?_;rintro e w5 ⟨rfl,hw5⟩;have hw6:=hw5.symm;subst hw6;have HD:Hid (sl.contains (k:Int)=sl.contains (k:Int)):=rfl;generalize hd:sl.contains (k:Int)=d at *;have HE:=aa hd;clear hd HD hw5;cases d with
 |true=>
  have HT:Hid (br sl h.s (k+1)=br sl h.s k++[(k:Int)]):=by show _=_;rw[HS.out k,if_pos];simp only[HE.out,Bool.true_or]
  exact nP
 |false=>
  go_wp2_with (go_at_call 59;fail);refine(kJ (k:Int) st hc h.s _ hlt' JR).mono ?_;rintro e w5 ⟨rfl,hw5⟩;have hw6:=hw5.symm;subst hw6;generalize hd2:h.s.contains (k:Int)=d2 at *;have HE2:=aa hd2;clear hd2 hw5;cases d2 with
  |true=>
   have HT:Hid (br sl h.s (k+1)=br sl h.s k++[(k:Int)]):=by show _=_;rw[HS.out k,if_pos];simp only[HE.out,HE2.out,Bool.false_or]
   exact nP
  |false=>
   have HT:Hid (br sl h.s (k+1)=br sl h.s k):=by show _=_;rw[HS.out k,if_neg (by simp only[HE.out,HE2.out];simp),List.append_nil]
   go_wp2;go_roundw
   case rel=>exact⟨k+1,vs,vc,by omega,by go_num,GR,HR,RR,FR,by rw[HT.out];exact UR,XR,by rw[HT.out];exact OR,zR,BR⟩
   case measure=>simp[intOf];omega):p:=h
theorem nC {p:Prop}(h:p:=by
 have HS:=aa (uC g.s h.s);have HL:=aa (vi g.s h.s);clear G0 H0 B0;go_enter Tryz.func26,Tryz.ntmps26;go_wp2;generalize ((w.alloc (.cells #[.bool g.n,.bool g.sp.n,.int .i64 g.sp.lo,.int .i64 g.sp.hi,.bool g.t,.bool g.f,.slice ss g.s.length gc] 61)).alloc (.cells #[.bool h.n,.bool h.sp.n,.int .i64 h.sp.lo,.int .i64 h.sp.hi,.bool h.t,.bool h.f,.slice st h.s.length hc] 61)).alloc (.cells #[.bool false,.bool false,.int .i64 0,.int .i64 0,.bool false,.bool false,.slice none 0 0] 61)=w1 at *;have KS:∀wx,GuAt wx w.heap.size 0 g ss gc->GuAt wx (w.heap.size+1) 0 h st hc->vQ w g ss gc h st hc wx:=λwx a b=>⟨by simpa using a.1,by simpa using b.1⟩;unfold vQ at KS;obtain⟨n,sp,t,f,sl⟩:=g;refine wp_region_held_drew (S:=vQ w ⟨n,sp,t,f,sl⟩ ss gc h st hc) (by kernel_rfl) (KS _ G1.drew H1.drew) (λhHeld=> ?_);unfold vQ at hHeld |-;refine vH 0 ?_ ?_;refine vH 1 ?_ ?_;refine vH 2 ?_ ?_;refine wpAnyH_take (i:=3) (v:=if n=true then undef else .pointer (some ⟨w.heap.size+1,0,none⟩)) rfl (by kernel_rfl) (by kernel_rfl) (by kernel_rfl) (λ_ _ _ h=>h) ?_ (by assumption) ?_
 ·cases n
  ·refine Or.inl ⟨?_,?_⟩
   ·rfl
   ·(intro w hSw;(try dsimp only at hSw);first|(go_simp;done)|(go_simp;with_reducible rfl))
  ·exact Or.inr ⟨rfl,rfl⟩
 refine sm ?_;refine wpAnyH_take (i:=4) (v:=if n=true then undef else .bool h.n) rfl (by kernel_rfl) (by kernel_rfl) (by kernel_rfl) (λ_ _ _ h=>h) ?_ (by assumption) ?_
 ·cases n
  ·refine Or.inl ⟨?_,?_⟩
   ·rfl
   ·(intro w hSw;(try dsimp only at hSw);first|(go_simp;done)|(go_simp;with_reducible rfl))
  ·exact Or.inr ⟨rfl,rfl⟩
 refine sm ?_;refine wpAnyH_take (i:=5) (v:=.bool (n||h.n)) rfl (by kernel_rfl) (by kernel_rfl) (by kernel_rfl) (λ_ _ _ h=>h) ?_ (by assumption) ?_
 ·cases n
  ·refine Or.inl ⟨?_,?_⟩
   ·rfl
   ·(intro w hSw;(try dsimp only at hSw);first|(go_simp;done)|(go_simp;with_reducible rfl))
  ·refine Or.inl ⟨?_,?_⟩
   ·rfl
   ·(intro w hSw;(try dsimp only at hSw);first|(go_simp;done)|(go_simp;with_reducible rfl))
 refine sm ?_;refine vH 6 ?_ ?_;refine vH 7 ?_ ?_;refine vH 8 ?_ ?_;refine vH 9 ?_ ?_;refine vH 10 ?_ ?_;refine vH 12 ?_ ?_;refine vH 13 ?_ ?_;refine vH 18 ?_ ?_;refine vH 19 ?_ ?_;refine wpAnyH_ready (rs:=[11,25]) (by kernel_rfl) (by simp) ?_;refine AllReadyH.cons rfl (λK hK=> ?_) (AllReadyH.cons rfl (λK hK=> ?_) AllReadyH.nil)
 ·go_simp
  refine(HJ.out _).mono ?_;rintro e w2 ⟨rfl,hb2⟩;have G2:=G1.drew.call hb2;have H2:=H1.drew.call hb2;have R2:=R1.drew.call hb2;have F2:=F1.drew.call hb2;have B2:Below w.heap.size w w2:=B1.drew.trans (hb2.mono B1.size);clear hb2 G1 H1 R1 F1 B1;refine hK.out _ _ (KS _ G2 H2) (λhHeld=> ?_);clear hK K;refine sm ?_;refine vH 14 ?_ ?_;refine wpAnyH_take (i:=15) (v:=if t=true then undef else .pointer (some ⟨w.heap.size+1,4,none⟩)) rfl (by kernel_rfl) (by kernel_rfl) (by kernel_rfl) (λ_ _ _ h=>h) ?_ (by assumption) ?_
  ·cases t
   ·refine Or.inl ⟨?_,?_⟩
    ·rfl
    ·(intro w hSw;(try dsimp only at hSw);first|(go_simp;done)|(go_simp;with_reducible rfl))
   ·exact Or.inr ⟨rfl,rfl⟩
  refine sm ?_;refine wpAnyH_take (i:=16) (v:=if t=true then undef else .bool h.t) rfl (by kernel_rfl) (by kernel_rfl) (by kernel_rfl) (λ_ _ _ h=>h) ?_ (by assumption) ?_
  ·cases t
   ·refine Or.inl ⟨?_,?_⟩
    ·rfl
    ·(intro w hSw;(try dsimp only at hSw);first|(go_simp;done)|(go_simp;with_reducible rfl))
   ·exact Or.inr ⟨rfl,rfl⟩
  refine sm ?_;refine wpAnyH_take (i:=17) (v:=.bool (t||h.t)) rfl (by kernel_rfl) (by kernel_rfl) (by kernel_rfl) (λ_ _ _ h=>h) ?_ (by assumption) ?_
  ·cases t
   ·refine Or.inl ⟨?_,?_⟩
    ·rfl
    ·(intro w hSw;(try dsimp only at hSw);first|(go_simp;done)|(go_simp;with_reducible rfl))
   ·refine Or.inl ⟨?_,?_⟩
    ·rfl
    ·(intro w hSw;(try dsimp only at hSw);first|(go_simp;done)|(go_simp;with_reducible rfl))
  refine sm ?_;refine vH 20 ?_ ?_;refine wpAnyH_take (i:=21) (v:=if f=true then undef else .pointer (some ⟨w.heap.size+1,5,none⟩)) rfl (by kernel_rfl) (by kernel_rfl) (by kernel_rfl) (λ_ _ _ h=>h) ?_ (by assumption) ?_
  ·cases f
   ·refine Or.inl ⟨?_,?_⟩
    ·rfl
    ·(intro w hSw;(try dsimp only at hSw);first|(go_simp;done)|(go_simp;with_reducible rfl))
   ·exact Or.inr ⟨rfl,rfl⟩
  refine sm ?_;refine wpAnyH_take (i:=22) (v:=if f=true then undef else .bool h.f) rfl (by kernel_rfl) (by kernel_rfl) (by kernel_rfl) (λ_ _ _ h=>h) ?_ (by assumption) ?_
  ·cases f
   ·refine Or.inl ⟨?_,?_⟩
    ·rfl
    ·(intro w hSw;(try dsimp only at hSw);first|(go_simp;done)|(go_simp;with_reducible rfl))
   ·exact Or.inr ⟨rfl,rfl⟩
  refine sm ?_;refine wpAnyH_take (i:=23) (v:=.bool (f||h.f)) rfl (by kernel_rfl) (by kernel_rfl) (by kernel_rfl) (λ_ _ _ h=>h) ?_ (by assumption) ?_
  ·cases f
   ·refine Or.inl ⟨?_,?_⟩
    ·rfl
    ·(intro w hSw;(try dsimp only at hSw);first|(go_simp;done)|(go_simp;with_reducible rfl))
   ·refine Or.inl ⟨?_,?_⟩
    ·rfl
    ·(intro w hSw;(try dsimp only at hSw);first|(go_simp;done)|(go_simp;with_reducible rfl))
  refine sm ?_;refine vH 24 ?_ ?_;refine wpAnyH_ready (rs:=[25]) (by kernel_rfl) (by simp) ?_;refine AllReadyH.cons rfl (λK hK=> ?_) AllReadyH.nil;go_simp;refine hK.out _ _ (KS _ (G2.alloc _) (H2.alloc _)) (λhHeld=> ?_);clear hK K;refine sm ?_;refine wpAnyH_ready (rs:=[26]) (by kernel_rfl) (by simp) ?_;refine AllReadyH.cons rfl (λK hK=> ?_) AllReadyH.nil;go_simp;refine hK.out _ _ (KS _ (G2.alloc _) (H2.alloc _)) (λhHeld=> ?_);clear hK K;refine sm ?_;have GW:=G2.alloc (.cells #[.bool (n||h.n),.bool J.n,.int .i64 J.lo,.int .i64 J.hi,.bool (t||h.t),.bool (f||h.f),.slice none 0 0] 61);have HW:=H2.alloc (.cells #[.bool (n||h.n),.bool J.n,.int .i64 J.lo,.int .i64 J.hi,.bool (t||h.t),.bool (f||h.f),.slice none 0 0] 61);have RW:=R2.alloc (.cells #[.bool (n||h.n),.bool J.n,.int .i64 J.lo,.int .i64 J.hi,.bool (t||h.t),.bool (f||h.f),.slice none 0 0] 61);have FW:=F2.alloc (.cells #[.bool (n||h.n),.bool J.n,.int .i64 J.lo,.int .i64 J.hi,.bool (t||h.t),.bool (f||h.f),.slice none 0 0] 61);have BW:=B2.alloc B2.size (.cells #[.bool (n||h.n),.bool J.n,.int .i64 J.lo,.int .i64 J.hi,.bool (t||h.t),.bool (f||h.f),.slice none 0 0] 61);have UW:GuAt (w2.alloc (.cells #[.bool (n||h.n),.bool J.n,.int .i64 J.lo,.int .i64 J.hi,.bool (t||h.t),.bool (f||h.f),.slice none 0 0] 61)) w2.heap.size 0 ⟨n||h.n,J,t||h.t,f||h.f,br sl h.s 0⟩ none 0:=GuAt.new w2 ⟨n||h.n,J,t||h.t,f||h.f,[]⟩ none 0;have XW:Fr7 (w2.alloc (.cells #[.bool (n||h.n),.bool J.n,.int .i64 J.lo,.int .i64 J.hi,.bool (t||h.t),.bool (f||h.f),.slice none 0 0] 61)) w2.heap.size:=⟨λj=>by simp[go_sem],by simp⟩;have zo:w.heap.size+1+1 < w2.heap.size:=F2.2;have zw:=XW.2;clear G2 H2 R2 F2 B2;generalize w2.alloc (.cells #[.bool (n||h.n),.bool J.n,.int .i64 J.lo,.int .i64 J.hi,.bool (t||h.t),.bool (f||h.f),.slice none 0 0] 61)=W at *;generalize w2.heap.size=ob at *;refine wpAnyH_done (by kernel_rfl) ?_ _;generalize (if n=true then undef else(.pointer (some ⟨w.heap.size+1,0,none⟩):Value))=y0;generalize (if n=true then undef else(.bool h.n:Value))=y1;generalize (if t=true then undef else(.pointer (some ⟨w.heap.size+1,4,none⟩):Value))=y2;generalize (if t=true then undef else(.bool h.t:Value))=y3;generalize (if f=true then undef else(.pointer (some ⟨w.heap.size+1,5,none⟩):Value))=y4;generalize (if f=true then undef else(.bool h.f:Value))=y5;clear hHeld KS HJ;go_wp2;go_loopw [8] (λi wr=>∃(k:Nat) (vs:oA) (vc:Nat),k<=60/\i=.int .i64 k/\GuAt wr w.heap.size 0 ⟨n,sp,t,f,sl⟩ ss gc/\GuAt wr (w.heap.size+1) 0 h st hc/\GuAt wr (w.heap.size+1+1) 0 bl none 0/\Fr7 wr (w.heap.size+1+1)/\GuAt wr ob 0 ⟨n||h.n,J,t||h.t,f||h.f,br sl h.s k⟩ vs vc/\Fr7 wr ob/\wr.ownsRow W.heap.size 3 1 (.slice vs (br sl h.s k).length vc) (br sl h.s k).length ((br sl h.s k).map (.int .i64))/\W.heap.size<=wr.heap.size/\Below w.heap.size w wr) (λi _=>60 - (intOf i).toNat)
  case atStart=>exact⟨0,none,0,by omega,rfl,GW,HW,RW,FW,UW,XW,⟨by simp[br],.inl ⟨rfl,by simp[br]⟩⟩,Nat.le_refl _,BW⟩
  case round=>
   obtain⟨k,vs,vc,hk,rfl,GR,HR,RR,FR,UR,XR,OR,zR,BR⟩:=hrel;clear GW HW RW FW UW XW BW;have IR:=hs.below BR (Nat.le_refl _);have JR:=ht.below BR (Nat.le_refl _);obtain⟨⟨g0,g1,g2,g3,g4,g5,g6⟩,gz⟩:=id GR;obtain⟨⟨k0,k1,k2,k3,k4,k5,k6⟩,kz⟩:=id HR;obtain⟨⟨u0,u1,u2,u3,u4,u5,u6⟩,uz⟩:=id UR;simp only[Nat.zero_add] at g0 g1 g2 g3 g4 g5 g6 k0 k1 k2 k3 k4 k5 k6 u0 u1 u2 u3 u4 u5 u6;by_cases hlt:k < 60
   ·have n1:(k:Int) < 60:=by omega
    exact ox
   ·have hk':k=60:=by omega
    subst hk';obtain⟨⟨r0,r1,r2,r3,r4,r5,r6⟩,rz⟩:=id RR;simp only[Nat.zero_add,bl] at r0 r1 r2 r3 r4 r5 r6;have fz:=FR.1;go_wp2;refine bodyPost_ret (v:=.agg #[.bool (n||h.n),.bool J.n,.int .i64 J.lo,.int .i64 J.hi,.bool (t||h.t),.bool (f||h.f),.slice vs (br sl h.s 60).length vc]) (by simp[results,Tryz.results26,go_sem,r0,r1,r2,r3,r4,r5,r6]) rfl ⟨_,rfl,?_,?_⟩
    ·exact dQ (dR OR (by omega)) (by omega)
    ·exact aX BR (by omega)
 ·go_simp
  have GA:=(G1.alloc (.cells #[.bool false,.bool false,.int .i64 0,.int .i64 0,.bool false,.bool false,.slice none 0 0] 61)).drew;have HA:=(H1.alloc (.cells #[.bool false,.bool false,.int .i64 0,.int .i64 0,.bool false,.bool false,.slice none 0 0] 61)).drew;have RA:=(R1.alloc (.cells #[.bool false,.bool false,.int .i64 0,.int .i64 0,.bool false,.bool false,.slice none 0 0] 61)).drew;have FA:=(F1.alloc (.cells #[.bool false,.bool false,.int .i64 0,.int .i64 0,.bool false,.bool false,.slice none 0 0] 61)).drew;have BA:=(B1.alloc B1.size (.cells #[.bool false,.bool false,.int .i64 0,.int .i64 0,.bool false,.bool false,.slice none 0 0] 61)).drew;have UA:GuAt (w1.alloc (.cells #[.bool false,.bool false,.int .i64 0,.int .i64 0,.bool false,.bool false,.slice none 0 0] 61)).drew w1.heap.size 0 bl none 0:=(GuAt.new w1 bl none 0).drew;have XA:Fr7 (w1.alloc (.cells #[.bool false,.bool false,.int .i64 0,.int .i64 0,.bool false,.bool false,.slice none 0 0] 61)).drew w1.heap.size:=Fr7.drew ⟨λj=>by simp[go_sem],by simp⟩;have zo:w.heap.size+1+1 < w1.heap.size:=F1.2;refine hK.out _ _ (KS _ GA HA) (λhHeld=> ?_);clear hK K G1 H1 R1 F1 B1;refine sm ?_;refine wpAnyH_ready (rs:=[11]) (by kernel_rfl) (by simp) ?_;refine AllReadyH.cons rfl (λK hK=> ?_) AllReadyH.nil;go_simp;refine(HJ.out _).mono ?_;rintro e w2 ⟨rfl,hb2⟩;have G2:=GA.call hb2;have H2:=HA.call hb2;have R2:=RA.call hb2;have F2:=FA.call hb2;have U2:=UA.call hb2;have X2:=XA.call hb2;have B2:Below w.heap.size w w2:=BA.trans (hb2.mono BA.size);clear hb2 GA HA RA FA BA UA XA;generalize w1.heap.size=ob at *;refine hK.out _ _ (KS _ G2 H2) (λhHeld=> ?_);clear hK K;refine sm ?_;refine vH 14 ?_ ?_;refine wpAnyH_take (i:=15) (v:=if t=true then undef else .pointer (some ⟨w.heap.size+1,4,none⟩)) rfl (by kernel_rfl) (by kernel_rfl) (by kernel_rfl) (λ_ _ _ h=>h) ?_ (by assumption) ?_
  ·cases t
   ·refine Or.inl ⟨?_,?_⟩
    ·rfl
    ·(intro w hSw;(try dsimp only at hSw);first|(go_simp;done)|(go_simp;with_reducible rfl))
   ·exact Or.inr ⟨rfl,rfl⟩
  refine sm ?_;refine wpAnyH_take (i:=16) (v:=if t=true then undef else .bool h.t) rfl (by kernel_rfl) (by kernel_rfl) (by kernel_rfl) (λ_ _ _ h=>h) ?_ (by assumption) ?_
  ·cases t
   ·refine Or.inl ⟨?_,?_⟩
    ·rfl
    ·(intro w hSw;(try dsimp only at hSw);first|(go_simp;done)|(go_simp;with_reducible rfl))
   ·exact Or.inr ⟨rfl,rfl⟩
  refine sm ?_;refine wpAnyH_take (i:=17) (v:=.bool (t||h.t)) rfl (by kernel_rfl) (by kernel_rfl) (by kernel_rfl) (λ_ _ _ h=>h) ?_ (by assumption) ?_
  ·cases t
   ·refine Or.inl ⟨?_,?_⟩
    ·rfl
    ·(intro w hSw;(try dsimp only at hSw);first|(go_simp;done)|(go_simp;with_reducible rfl))
   ·refine Or.inl ⟨?_,?_⟩
    ·rfl
    ·(intro w hSw;(try dsimp only at hSw);first|(go_simp;done)|(go_simp;with_reducible rfl))
  refine sm ?_;refine vH 20 ?_ ?_;refine wpAnyH_take (i:=21) (v:=if f=true then undef else .pointer (some ⟨w.heap.size+1,5,none⟩)) rfl (by kernel_rfl) (by kernel_rfl) (by kernel_rfl) (λ_ _ _ h=>h) ?_ (by assumption) ?_
  ·cases f
   ·refine Or.inl ⟨?_,?_⟩
    ·rfl
    ·(intro w hSw;(try dsimp only at hSw);first|(go_simp;done)|(go_simp;with_reducible rfl))
   ·exact Or.inr ⟨rfl,rfl⟩
  refine sm ?_;refine wpAnyH_take (i:=22) (v:=if f=true then undef else .bool h.f) rfl (by kernel_rfl) (by kernel_rfl) (by kernel_rfl) (λ_ _ _ h=>h) ?_ (by assumption) ?_
  ·cases f
   ·refine Or.inl ⟨?_,?_⟩
    ·rfl
    ·(intro w hSw;(try dsimp only at hSw);first|(go_simp;done)|(go_simp;with_reducible rfl))
   ·exact Or.inr ⟨rfl,rfl⟩
  refine sm ?_;refine wpAnyH_take (i:=23) (v:=.bool (f||h.f)) rfl (by kernel_rfl) (by kernel_rfl) (by kernel_rfl) (λ_ _ _ h=>h) ?_ (by assumption) ?_
  ·cases f
   ·refine Or.inl ⟨?_,?_⟩
    ·rfl
    ·(intro w hSw;(try dsimp only at hSw);first|(go_simp;done)|(go_simp;with_reducible rfl))
   ·refine Or.inl ⟨?_,?_⟩
    ·rfl
    ·(intro w hSw;(try dsimp only at hSw);first|(go_simp;done)|(go_simp;with_reducible rfl))
  refine sm ?_;refine vH 24 ?_ ?_;obtain⟨⟨o0,o1,o2,o3,o4,o5,o6⟩,oz⟩:=id U2;simp only[Nat.zero_add,bl] at o0 o1 o2 o3 o4 o5 o6;have fzo:=X2.1;refine wpAnyH_ready (rs:=[26]) (by kernel_rfl) (by simp) ?_;refine AllReadyH.cons rfl (λK hK=> ?_) AllReadyH.nil;go_simp;have GW:=GuAt.put7 (b:=ob) (v0:=.bool (n||h.n)) (v1:=.bool J.n) (v2:=.int .i64 J.lo) (v3:=.int .i64 J.hi) (v4:=.bool (t||h.t)) (v5:=.bool (f||h.f)) (v6:=.slice none 0 0) G2 (by omega);have HW:=GuAt.put7 (b:=ob) (v0:=.bool (n||h.n)) (v1:=.bool J.n) (v2:=.int .i64 J.lo) (v3:=.int .i64 J.hi) (v4:=.bool (t||h.t)) (v5:=.bool (f||h.f)) (v6:=.slice none 0 0) H2 (by omega);have RW:=GuAt.put7 (b:=ob) (v0:=.bool (n||h.n)) (v1:=.bool J.n) (v2:=.int .i64 J.lo) (v3:=.int .i64 J.hi) (v4:=.bool (t||h.t)) (v5:=.bool (f||h.f)) (v6:=.slice none 0 0) R2 (by omega);have FW:Fr7 (fA w2 ob (.bool (n||h.n)) (.bool J.n) (.int .i64 J.lo) (.int .i64 J.hi) (.bool (t||h.t)) (.bool (f||h.f)) (.slice none 0 0)) (w.heap.size+1+1):=((((((F2.set).set).set).set).set).set).set;have XW:Fr7 (fA w2 ob (.bool (n||h.n)) (.bool J.n) (.int .i64 J.lo) (.int .i64 J.hi) (.bool (t||h.t)) (.bool (f||h.f)) (.slice none 0 0)) ob:=((((((X2.set).set).set).set).set).set).set;have UW:GuAt (fA w2 ob (.bool (n||h.n)) (.bool J.n) (.int .i64 J.lo) (.int .i64 J.hi) (.bool (t||h.t)) (.bool (f||h.f)) (.slice none 0 0)) ob 0 ⟨n||h.n,J,t||h.t,f||h.f,br sl h.s 0⟩ none 0:=⟨by simp[go_sem,fA,o0,o1,o2,o3,o4,o5,o6,br],by rw[lu];exact oz⟩;have BW:Below w.heap.size w (fA w2 ob (.bool (n||h.n)) (.bool J.n) (.int .i64 J.lo) (.int .i64 J.hi) (.bool (t||h.t)) (.bool (f||h.f)) (.slice none 0 0)):=aX B2 (by omega);refine hK.out _ _ (KS _ GW HW) (λhHeld=> ?_);have zw:=XW.2;clear hK K G2 H2 R2 F2 U2 X2 B2 o0 o1 o2 o3 o4 o5 o6 fzo oz;refine sm ?_;unfold fA at GW HW RW FW XW UW BW zw;generalize ((((((w2.setCell ⟨ob,0,none⟩ (.bool (n||h.n))).setCell ⟨ob,1,none⟩ (.bool J.n)).setCell ⟨ob,2,none⟩ (.int .i64 J.lo)).setCell ⟨ob,3,none⟩ (.int .i64 J.hi)).setCell ⟨ob,4,none⟩ (.bool (t||h.t))).setCell ⟨ob,5,none⟩ (.bool (f||h.f))).setCell ⟨ob,6,none⟩ (.slice none 0 0)=W at *;refine wpAnyH_done (by kernel_rfl) ?_ _;generalize (if n=true then undef else(.pointer (some ⟨w.heap.size+1,0,none⟩):Value))=y0;generalize (if n=true then undef else(.bool h.n:Value))=y1;generalize (if t=true then undef else(.pointer (some ⟨w.heap.size+1,4,none⟩):Value))=y2;generalize (if t=true then undef else(.bool h.t:Value))=y3;generalize (if f=true then undef else(.pointer (some ⟨w.heap.size+1,5,none⟩):Value))=y4;generalize (if f=true then undef else(.bool h.f:Value))=y5;clear hHeld KS HJ;go_wp2;go_loopw [8] (λi wr=>∃(k:Nat) (vs:oA) (vc:Nat),k<=60/\i=.int .i64 k/\GuAt wr w.heap.size 0 ⟨n,sp,t,f,sl⟩ ss gc/\GuAt wr (w.heap.size+1) 0 h st hc/\GuAt wr (w.heap.size+1+1) 0 bl none 0/\Fr7 wr (w.heap.size+1+1)/\GuAt wr ob 0 ⟨n||h.n,J,t||h.t,f||h.f,br sl h.s k⟩ vs vc/\Fr7 wr ob/\wr.ownsRow W.heap.size 3 1 (.slice vs (br sl h.s k).length vc) (br sl h.s k).length ((br sl h.s k).map (.int .i64))/\W.heap.size<=wr.heap.size/\Below w.heap.size w wr) (λi _=>60 - (intOf i).toNat)
  case atStart=>exact⟨0,none,0,by omega,rfl,GW,HW,RW,FW,UW,XW,⟨by simp[br],.inl ⟨rfl,by simp[br]⟩⟩,Nat.le_refl _,BW⟩
  case round=>
   obtain⟨k,vs,vc,hk,rfl,GR,HR,RR,FR,UR,XR,OR,zR,BR⟩:=hrel;clear GW HW RW FW UW XW BW;have IR:=hs.below BR (Nat.le_refl _);have JR:=ht.below BR (Nat.le_refl _);obtain⟨⟨g0,g1,g2,g3,g4,g5,g6⟩,gz⟩:=id GR;obtain⟨⟨k0,k1,k2,k3,k4,k5,k6⟩,kz⟩:=id HR;obtain⟨⟨u0,u1,u2,u3,u4,u5,u6⟩,uz⟩:=id UR;simp only[Nat.zero_add] at g0 g1 g2 g3 g4 g5 g6 k0 k1 k2 k3 k4 k5 k6 u0 u1 u2 u3 u4 u5 u6;by_cases hlt:k < 60
   ·have n1:(k:Int) < 60:=by omega
    exact ox
   ·have hk':k=60:=by omega
    subst hk';obtain⟨⟨r0,r1,r2,r3,r4,r5,r6⟩,rz⟩:=id RR;simp only[Nat.zero_add,bl] at r0 r1 r2 r3 r4 r5 r6;have fz:=FR.1;go_wp2;refine bodyPost_ret (v:=.agg #[.bool (n||h.n),.bool J.n,.int .i64 J.lo,.int .i64 J.hi,.bool (t||h.t),.bool (f||h.f),.slice vs (br sl h.s 60).length vc]) (by simp[results,Tryz.results26,go_sem,r0,r1,r2,r3,r4,r5,r6]) rfl ⟨_,rfl,?_,?_⟩
    ·exact dQ (dR OR (by omega)) (by omega)
    ·exact aX BR (by omega)):p:=h
end
section
theorem kC:∀(a b:List Int),a.Pairwise (· < ·)->b.Pairwise (· < ·)->(∀x,x∈a↔x∈b)->a=b
 |[],[],_,_,_=>rfl
 |[],y::b,_,_,h=>absurd ((h y).2 (by simp)) (by simp)
 |x::a,[],_,_,h=>absurd ((h x).1 (by simp)) (by simp)
 |x::a,y::b,ha,hb,h=>by
  rw[List.pairwise_cons] at ha hb;have exy:x=y:=by
   have h1:=(h x).1 (by simp);have h2:=(h y).2 (by simp);rw[j8] at h1 h2;rcases h1 with e|h1
   ·exact e
   ·rcases h2 with e|h2
    ·exact e.symm
    ·have:=ha.1 y h2
     have:=hb.1 x h1;omega
  subst exy;rw[kC a b ha.2 hb.2 λz=> ?_];constructor
  ·intro hz
   have:=(h z).1 (by simp[hz]);rw[j8] at this;rcases this with e|h1
   ·have:=ha.1 z hz;omega
   ·exact h1
  ·intro hz
   have:=(h z).2 (by simp[hz]);rw[j8] at this;rcases this with e|h1
   ·have:=hb.1 z hz;omega
   ·exact h1

theorem pk (a b:List Int)(k:Nat)(x:Int):x∈br a b k↔(0<=x/\x < k)/\(x∈a\/x∈b):=by
 unfold br;rw[j3,z1];simp only[j4,Bool.or_eq_true,List.contains_iff_mem];constructor
 ·rintro ⟨⟨n,hn,rfl⟩,h⟩
  exact⟨⟨by omega,by omega⟩,h⟩
 ·rintro ⟨⟨h0,h1⟩,h⟩
  exact⟨⟨x.toNat,by omega,by omega⟩,h⟩

theorem kY (a b:List Int)(k:Nat):(br a b k).Pairwise (· < ·):=by
 unfold br;refine j5.filter _ ?_;rw[z4];exact j5.imp (λh=>by omega) z5

open Go.Lib in
theorem pQ (l:List Int)(h:l.Pairwise (· <=·)):(compact l).Pairwise (· < ·)/\∀x,x∈compact l↔x∈l:=by
 have get:∀j (hj:j < l.length),l.toArray[j]! =l[j]:=λj hj=>by simp[hj]
 have mono:∀i j (hi:i < l.length) (hj:j < l.length),i<=j->l[i]<=l[j]:=by
  intro i j hi hj hij;by_cases e:i=j
  ·subst e;exact Int.le_refl _
  ·exact List.pairwise_iff_getElem.1 h i j hi hj (by omega)
 constructor
 ·unfold compact compactUpTo
  rw[z4];refine j5.imp_of_mem ?_ (j5.filter _ z5);intro i j hi hj hij;rw[j3,j4] at hi hj;rw[get i hi.1,get j hj.1];have hk:=hj.2;unfold keeps at hk;rw[decide_eq_true_eq] at hk;rcases hk with e|hne
  ·omega
  ·rw[get j hj.1,get (j - 1) (by omega)] at hne
   have h1:=mono i (j - 1) hi.1 (by omega) (by omega);have h2:=mono (j - 1) j (by omega) hj.1 (by omega);omega
 ·intro x
  unfold compact compactUpTo;rw[z1];constructor
  ·rintro ⟨j,hj,rfl⟩
   rw[j3,j4] at hj;rw[get j hj.1];exact gM _
  ·intro hx
   obtain⟨j,hj,rfl⟩:=List.getElem_of_mem hx;have ex:∃i,i<=j/\∃(hi:i < l.length),l[i]=l[j]/\keeps l.toArray i=true:=by
    clear hx
    induction j with
    |zero=>exact⟨0,lR _,hj,rfl,by simp[keeps]⟩
    |succ j ih=>
     by_cases e:l[j+1]=l[j]
     ·obtain⟨i,hi,hil,h1,h2⟩:=ih (by omega)
      exact⟨i,by omega,hil,by rw[h1,e],h2⟩
     ·refine⟨j+1,lR _,hj,rfl,?_⟩
      unfold keeps;rw[decide_eq_true_eq];right;rw[get (j+1) hj,get (j+1 - 1) (by omega)];exact e
   obtain⟨i,-,hil,h1,h2⟩:=ex;refine⟨i,?_,by rw[get i hil,h1]⟩;rw[j3,j4];exact⟨hil,h2⟩

theorem gH (g h:Gs)(hg:∀x∈g.s,0<=x/\x < 60)(hh:∀x∈h.s,0<=x/\x < 60):bW [g,h]=br g.s h.s 60:=by
 have hs:(([g,h].flatMap Gs.s).mergeSort λx y=>decide (x<=y)).Pairwise (· <=·):=by
  have:=List.pairwise_mergeSort (le:=λx y:Int=>decide (x<=y)) (by intro a b c;simp;omega) (by intro a b;simp;omega) ([g,h].flatMap Gs.s);exact this.imp λh=>by simpa using h
 obtain⟨h1,h2⟩:=pQ _ hs;refine kC _ _ h1 (kY _ _ _) λx=> ?_;rw[show bW [g,h]=Go.Lib.compact (([g,h].flatMap Gs.s).mergeSort λx y=>decide (x<=y)) from rfl,h2,List.mem_mergeSort,pk];simp only[List.flatMap_cons,List.flatMap_nil,z0,List.mem_append];constructor
 ·rintro (h|h)
  ·exact⟨hg x h,.inl h⟩
  ·exact⟨hh x h,.inr h⟩
 ·exact λh=>h.2

theorem Ad {c:List Ins}(hl:c.length<=60){x:Int}(h:bk c x=true):0<=x/\x < 60:=by
 unfold bk at h;simp only[Bool.and_eq_true,decide_eq_true_eq] at h;omega

theorem cj {c:List Ins}{g:Gs}(hl:c.length<=60)(h:ap c g=0):(∀x∈g.s,0<=x/\x < 60)/\bS g.s=true:=by
 unfold ap at h;split at h
 ·contradiction
 ·split at h
  ·cases h
  ·split at h
   ·cases h
   ·rename_i h1 h2
    refine⟨λx hx=> ?_,by simpa using h2⟩;have:g.s.all (bk c)=true:=by simpa using h1
    exact Ad hl (List.all_eq_true.1 this x hx)
theorem bZ {l:List Int}(hr:bS l=true)(hb:∀x∈l,0<=x/\x < 60):l.length<=60:=by
 have key:∀k (h:k < l.length),(k:Int)<=l[k]:=by
  intro k
  induction k with
  |zero=>intro h;exact(hb _ (gM h)).1
  |succ k ih=>
   intro h;have h1:=ih (by omega);have h2:=(i7 l).1 hr k h;omega
 by_cases h0:l.length=0
 ·omega
 ·have h1:=key (l.length - 1) (by omega)
  have h2:=(hb _ (gM (show l.length - 1 < l.length by omega))).2;omega
end
section
open Go.RowKit
theorem wP (ss:oA)(cap:Nat)(l:List Int)(w:World)(hl:l.length<=1000000)(hs:IntsAt w ss l):
  Calls pG 125 #[U ss l.length cap] w λe w'=>∃v,e=Rt v/\w'.ownsRow w.heap.size 3 1 v l.length (l.map (.int .i64))/\Below w.heap.size w w':=by
 cases ss with
 |none=>
  have h0:l=[]:=by
   rcases hs with h|⟨_,_,h,_⟩
   ·exact h
   ·cases h
  subst h0;refine(Tryz.slices_Clone_int_nil _ _ _).mono ?_;rintro e w' ⟨rfl,rfl⟩;exact⟨_,rfl,⟨rfl,.inl ⟨rfl,rfl⟩⟩,bR _ _⟩
 |some a=>
  by_cases h0:l=[]
  ·subst h0
   refine(Tryz.slices_Clone_int_zero a cap w).mono ?_;rintro e w' ⟨v,rfl,ho,-,hb⟩;exact⟨_,rfl,ho,hb⟩
  ·obtain⟨b,off,e,hb,hc⟩:=hs.get 0 (List.length_pos_iff.2 h0)
   cases e;refine(Tryz.slices_Clone_int b off l.length cap l w (lR _) (by omega) (λj hj=> ?_)).mono ?_
   ·rw[hc j hj]
    simp[List.getD,z6 hj]
   ·rintro e w' ⟨v,rfl,ho,-,hb'⟩
    rw[j9] at ho;exact⟨_,rfl,ho,hb'⟩

theorem Ef (V F:Int)(s:oA)(c:List Ins)(cap:Nat)(g:Gs)(ss:oA)(gc:Nat)(h:Gs)(st:oA)(hc:Nat)(w:World)
  (hcd:CodeAt w s c)(hs:IntsAt w ss g.s)(h1:g.s.length<=gc)(h2:gc<=maxLen)(ht:IntsAt w st h.s)(h3:h.s.length<=hc)(h4:hc<=maxLen)(hck:aP V F c [g,h]=0)(hlen:g.s.length<=1000000):
  Calls pG 92 #[pv V F s c cap,I Y 4,gv g ss gc,gv h st hc] w λe w'=>∃v,e=Rt (Tu #[Ag #[Bb g.n,Bb g.sp.n,I Y g.sp.lo,I Y g.sp.hi,Bb g.t,Bb g.f,v],Bb false,I Y 0])/\w'.ownsRow w.heap.size 3 1 v g.s.length (g.s.map (.int .i64))/\Below w.heap.size w w':=by
 obtain⟨P0,G0,H0,R0,F0⟩:=dn w V F s c cap g ss gc h st hc;have B0:=cA w V F s c cap g ss gc h st hc;have C0:CodeAt (bw w V F s c cap g ss gc h st hc) s c:=hcd.below B0 (lR _);have I0:IntsAt (bw w V F s c cap g ss gc h st hc) ss g.s:=hs.below B0 (lR _);have J0:IntsAt (bw w V F s c cap g ss gc h st hc) st h.s:=ht.below B0 (lR _);have L0:=GsAt.new2 (bw w V F s c cap g ss gc h st hc) g ss gc h st hc I0 h1 h2 J0 h3 h4;simp only[zA] at L0;have HC:=aa (bL V F s c cap (sO ⟨w.heap.size+1+1+1+1,0,nO⟩) [g,h] 2 _ (C0.alloc _) L0 (by simp));have FG:Fr7 (bw w V F s c cap g ss gc h st hc) (w.heap.size+1):=⟨λj=>by simp[go_sem],by simp⟩;rw[hck] at HC;go_enter Tryz.func92,Tryz.ntmps92;go_wp2_with (go_at_call 114;fail);refine HC.out.mono ?_;rintro e w1 ⟨rfl,hb1⟩;have G1:=(G0.alloc _).call hb1;have H1:=(H0.alloc _).call hb1;have R1:=(R0.alloc _).call hb1;have I1:=(I0.alloc _).call hb1;have J1:=(J0.alloc _).call hb1;have F1:Fr7 w1 (w.heap.size+1+1+1):=(F0.alloc _).call hb1;have B1:Below w.heap.size w w1:=(B0.alloc B0.size _).trans (hb1.mono (by simp;omega));have X1:Fr7 w1 (w.heap.size+1):=(FG.alloc _).call hb1;clear hb1 FG G0 H0 R0 I0 J0 F0 B0 C0 P0 L0 hcd hs ht HC;obtain⟨⟨g0,g1,g2,g3,g4,g5,g6⟩,gz⟩:=id G1;obtain⟨⟨k0,k1,k2,k3,k4,k5,k6⟩,kz⟩:=id H1;simp only[j0] at g0 g1 g2 g3 g4 g5 g6 k0 k1 k2 k3 k4 k5 k6;go_wp2_with (go_at_call 125;fail);refine(wP ss gc g.s _ hlen I1).mono ?_;rintro e w2 ⟨v,rfl,hown,hb2⟩;have G2:=G1.call hb2;have R2:=R1.call hb2;have F2:=F1.call hb2;have X2:=X1.call hb2;have B2:=B1.trans (hb2.mono B1.size);have z2:=F1.2;clear hb2 g0 g1 g2 g3 g4 g5 g6 gz k0 k1 k2 k3 k4 k5 k6 kz;have O2:=hown;obtain⟨vs,vc,hv,-,-,-,-⟩:=IntsAt.own hown;subst hv;obtain⟨⟨g0,g1,g2,g3,g4,g5,g6⟩,gz⟩:=id G2;simp only[j0] at g0 g1 g2 g3 g4 g5 g6;have fx:=X2.1;obtain⟨⟨r0,r1,r2,r3,r4,r5,r6⟩,rz⟩:=id R2;simp only[j0,bl] at r0 r1 r2 r3 r4 r5 r6;have fz:=F2.1;clear hown;go_wp2;refine bodyPost_ret (v:=Tu #[Ag #[Bb g.n,Bb g.sp.n,I Y g.sp.lo,I Y g.sp.hi,Bb g.t,Bb g.f,U vs g.s.length vc],Bb false,I Y 0]) (by simp[results,Tryz.results92,go_sem,r0,r1,r2,r3,r4,r5,r6,g0,g1,g2,g3,g4,g5,g6]) rfl ⟨_,rfl,?_,?_⟩
 ·exact dQ (dR (iN O2 (by omega)) (by omega)) (by omega)
 ·exact aX (B2.setCell (by show w.heap.size<=w.heap.size+1;omega) _) (by omega)
def Bs (w:World)(g:Gs)(ss:oA)(gc:Nat)(h:Gs)(st:oA)(hc:Nat)(w':World):Prop:=
 (w'.cell? ⟨w.heap.size+1,0,nO⟩=sO (Bb g.n)/\w'.cell? ⟨w.heap.size+1,1,nO⟩=sO (Bb g.sp.n)/\w'.cell? ⟨w.heap.size+1,2,nO⟩=sO (I Y g.sp.lo)/\w'.cell? ⟨w.heap.size+1,3,nO⟩=sO (I Y g.sp.hi)/\w'.cell? ⟨w.heap.size+1,4,nO⟩=sO (Bb g.t)/\w'.cell? ⟨w.heap.size+1,5,nO⟩=sO (Bb g.f)/\w'.cell? ⟨w.heap.size+1,6,nO⟩=sO (U ss g.s.length gc))/\
 (w'.cell? ⟨w.heap.size+1+1,0,nO⟩=sO (Bb h.n)/\w'.cell? ⟨w.heap.size+1+1,1,nO⟩=sO (Bb h.sp.n)/\w'.cell? ⟨w.heap.size+1+1,2,nO⟩=sO (I Y h.sp.lo)/\w'.cell? ⟨w.heap.size+1+1,3,nO⟩=sO (I Y h.sp.hi)/\w'.cell? ⟨w.heap.size+1+1,4,nO⟩=sO (Bb h.t)/\w'.cell? ⟨w.heap.size+1+1,5,nO⟩=sO (Bb h.f)/\w'.cell? ⟨w.heap.size+1+1,6,nO⟩=sO (U st h.s.length hc))

theorem oq {p:Prop}(h:p:=by
 refine wpAnyH_ready (rs:=[11]) (by kernel_rfl) (by simp) ?_;refine AllReadyH.cons rfl (λK hK=> ?_) AllReadyH.nil;go_simp;refine(HW.out _ 2 _ L5).mono ?_;rintro e w6 ⟨rfl,hb6⟩;have G6:=G5.call hb6;have H6:=H5.call hb6;have R6:=R5.call hb6;have F6:=F5.call hb6;have L6:=L5.call hb6;have B6:=B5.trans (hb6.mono B5.size);refine hK.out _ _ (KS _ G6 H6) (λhHeld6=> ?_);clear hK K hb6;refine sm ?_;obtain⟨⟨r0,r1,r2,r3,r4,r5,r6⟩,rz⟩:=id R6;simp only[Nat.zero_add,bl] at r0 r1 r2 r3 r4 r5 r6;have fz:=F6.1;refine wpAnyH_ready (rs:=[12]) (by kernel_rfl) (by simp) ?_;refine AllReadyH.cons rfl (λK hK=> ?_) AllReadyH.nil;go_simp;refine hK.out _ _ (KS _ (G6.put7 (by omega)) (H6.put7 (by omega))) (λhHeldz=> ?_);clear hK K;refine sm ?_;refine vH 13 ?_ ?_;refine vH 14 ?_ ?_;refine wpAnyH_done (by kernel_rfl) ?_ _;go_wp2;refine bodyPost_ret (v:=.tuple #[gv ⟨false,⟨true,0,0⟩,y,n,[]⟩ none 0,.bool wr,.int .i64 0]) (by simp[results,Tryz.results92,go_sem,r0,r1,r2,r3,r4,r5,r6]) rfl ⟨rfl,?_⟩;exact aX B6 (by omega)):p:=h
theorem oc {p:Prop}(h:p:=by
 refine wpAnyH_ready (rs:=[7]) (by kernel_rfl) (by simp) ?_;refine AllReadyH.cons rfl (λK hK=> ?_) AllReadyH.nil;go_simp;refine(gE _ _ _).mono ?_;rintro e w5 ⟨rfl,hb5⟩;have G5:=G4.call hb5;have H5:=H4.call hb5;have R5:=R4.call hb5;have F5:=F4.call hb5;have L5:=L4.call hb5;have B5:=B4.trans (hb5.mono B4.size);refine hK.out _ _ (KS _ G5 H5) (λhHeld5=> ?_);clear hK K hb5;refine sm ?_;exact oq):p:=h
theorem Eo (V F:Int)(s:oA)(c:List Ins)(cap:Nat)(g:Gs)(ss:oA)(gc:Nat)(h:Gs)(st:oA)(hc:Nat)(w:World)
  (hcd:CodeAt w s c)(hs:IntsAt w ss g.s)(h1:g.s.length<=gc)(h2:gc<=maxLen)(ht:IntsAt w st h.s)(h3:h.s.length<=hc)(h4:hc<=maxLen)(hck:aP V F c [g,h]=0):
  Calls pG 92 #[pv V F s c cap,I Y 8,gv g ss gc,gv h st hc] w λe w'=>e=Rt (Tu #[gv ⟨false,⟨true,0,0⟩,!(g.sp.n||h.sp.n)&&decide (g.sp.lo < h.sp.hi),!(g.sp.n||h.sp.n)&&decide (h.sp.lo<=g.sp.hi),[]⟩ nO 0,Bb ([g,h].any aD&& ![g,h].any ae),I Y 0])/\Below w.heap.size w w':=by
 obtain⟨P0,G0,H0,R0,F0⟩:=dn w V F s c cap g ss gc h st hc;have B0:=cA w V F s c cap g ss gc h st hc;have C0:CodeAt (bw w V F s c cap g ss gc h st hc) s c:=hcd.below B0 (lR _);have I0:IntsAt (bw w V F s c cap g ss gc h st hc) ss g.s:=hs.below B0 (lR _);have J0:IntsAt (bw w V F s c cap g ss gc h st hc) st h.s:=ht.below B0 (lR _);have L0:=GsAt.new2 (bw w V F s c cap g ss gc h st hc) g ss gc h st hc I0 h1 h2 J0 h3 h4;simp only[zA] at L0;have HC:=aa (bL V F s c cap (sO ⟨w.heap.size+1+1+1+1,0,nO⟩) [g,h] 2 _ (C0.alloc _) L0 (by simp));rw[hck] at HC;have HL:=aa (λw=>Cg g.sp h.sp w);generalize (!(g.sp.n||h.sp.n)&&decide (g.sp.lo < h.sp.hi))=y at HL |-;generalize (!(g.sp.n||h.sp.n)&&decide (h.sp.lo<=g.sp.hi))=n at HL |-;have HW:=aa (λls lc w hL=>mw ls [g,h] lc w (by simp) hL);generalize ([g,h].any aD&& ![g,h].any ae)=wr at HW |-;go_enter Tryz.func92,Tryz.ntmps92;go_wp2_with (go_at_call 114;fail);refine HC.out.mono ?_;rintro e w1 ⟨rfl,hb1⟩;have G1:=(G0.alloc _).call hb1;have H1:=(H0.alloc _).call hb1;have R1:=(R0.alloc _).call hb1;have I1:=(I0.alloc _).call hb1;have J1:=(J0.alloc _).call hb1;have F1:Fr7 w1 (w.heap.size+1+1+1):=(F0.alloc _).call hb1;have B1:Below w.heap.size w w1:=(B0.alloc B0.size _).trans (hb1.mono (by simp;omega));clear hb1 G0 H0 R0 I0 J0 F0 B0 C0 P0 L0 hcd hs ht HC;clear I1 J1;obtain⟨⟨g0,g1,g2,g3,g4,g5,g6⟩,gz⟩:=id G1;obtain⟨⟨k0,k1,k2,k3,k4,k5,k6⟩,kz⟩:=id H1;simp only[j0] at g0 g1 g2 g3 g4 g5 g6 k0 k1 k2 k3 k4 k5 k6;go_wp2;have KS:∀wx,GuAt wx (w.heap.size+1) 0 g ss gc->GuAt wx (w.heap.size+1+1) 0 h st hc->Bs w g ss gc h st hc wx:=λwx a b=>⟨by simpa using a.1,by simpa using b.1⟩;have G2:=G1.drew;have H2:=H1.drew;have R2:=R1.drew;have F2:=F1.drew;have B2:=B1.drew;refine wp_region_held_drew (S:=Bs w g ss gc h st hc) (by kernel_rfl) (KS _ G2 H2) (λhHeld=> ?_);unfold Bs at hHeld KS |-;clear G1 H1 R1 F1 B1 g0 g1 g2 g3 g4 g5 g6 gz k0 k1 k2 k3 k4 k5 k6 kz;generalize w1.drew=w2 at *;refine vH 0 ?_ ?_;refine vH 1 ?_ ?_;refine vH 2 ?_ ?_;refine vH 3 ?_ ?_;refine vH 8 ?_ ?_;refine vH 9 ?_ ?_;refine wpAnyH_ready (rs:=[4,10]) (by kernel_rfl) (by simp) ?_;refine AllReadyH.cons rfl (λK hK=> ?_) (AllReadyH.cons rfl (λK hK=> ?_) AllReadyH.nil)
 ·go_simp
  refine(HL.out _).mono ?_;rintro e w3 ⟨rfl,hb3⟩;have G3:=G2.call hb3;have H3:=H2.call hb3;have R3:=R2.call hb3;have F3:=F2.call hb3;have B3:=B2.trans (hb3.mono B2.size);refine hK.out _ _ (KS _ G3 H3) (λhHeld3=> ?_);clear hK K hb3;refine sm ?_;refine vH 5 ?_ ?_;refine vH 6 ?_ ?_;refine wpAnyH_ready (rs:=[7,10]) (by kernel_rfl) (by simp) ?_;refine AllReadyH.cons rfl (λK hK=> ?_) (AllReadyH.cons rfl (λK hK=> ?_) AllReadyH.nil)
  ·go_simp
   refine(gE _ _ _).mono ?_;rintro e w4 ⟨rfl,hb4⟩;have G4:=G3.call hb4;have H4:=H3.call hb4;have R4:=R3.call hb4;have F4:=F3.call hb4;have B4:=B3.trans (hb4.mono B3.size);refine hK.out _ _ (KS _ G4 H4) (λhHeld4=> ?_);clear hK K hb4;refine sm ?_;refine wpAnyH_ready (rs:=[10]) (by kernel_rfl) (by simp) ?_;refine AllReadyH.cons rfl (λK hK=> ?_) AllReadyH.nil;go_simp;have G5:=G4.alloc (Cc #[Bb g.n,Bb g.sp.n,I Y g.sp.lo,I Y g.sp.hi,Bb g.t,Bb g.f,U ss g.s.length gc,Bb h.n,Bb h.sp.n,I Y h.sp.lo,I Y h.sp.hi,Bb h.t,Bb h.f,U st h.s.length hc] 61);have H5:=H4.alloc (Cc #[Bb g.n,Bb g.sp.n,I Y g.sp.lo,I Y g.sp.hi,Bb g.t,Bb g.f,U ss g.s.length gc,Bb h.n,Bb h.sp.n,I Y h.sp.lo,I Y h.sp.hi,Bb h.t,Bb h.f,U st h.s.length hc] 61);have R5:=R4.alloc (Cc #[Bb g.n,Bb g.sp.n,I Y g.sp.lo,I Y g.sp.hi,Bb g.t,Bb g.f,U ss g.s.length gc,Bb h.n,Bb h.sp.n,I Y h.sp.lo,I Y h.sp.hi,Bb h.t,Bb h.f,U st h.s.length hc] 61);have F5:=F4.alloc (Cc #[Bb g.n,Bb g.sp.n,I Y g.sp.lo,I Y g.sp.hi,Bb g.t,Bb g.f,U ss g.s.length gc,Bb h.n,Bb h.sp.n,I Y h.sp.lo,I Y h.sp.hi,Bb h.t,Bb h.f,U st h.s.length hc] 61);have B5:=B4.alloc B4.size (Cc #[Bb g.n,Bb g.sp.n,I Y g.sp.lo,I Y g.sp.hi,Bb g.t,Bb g.f,U ss g.s.length gc,Bb h.n,Bb h.sp.n,I Y h.sp.lo,I Y h.sp.hi,Bb h.t,Bb h.f,U st h.s.length hc] 61);have L5:=GhAt.new2 w4 g ss gc h st hc;refine hK.out _ _ (KS _ G5 H5) (λhHeld5=> ?_);clear hK K;refine sm ?_;unfold lh at L5;generalize w4.alloc (Cc #[Bb g.n,Bb g.sp.n,I Y g.sp.lo,I Y g.sp.hi,Bb g.t,Bb g.f,U ss g.s.length gc,Bb h.n,Bb h.sp.n,I Y h.sp.lo,I Y h.sp.hi,Bb h.t,Bb h.f,U st h.s.length hc] 61)=w5 at *;generalize w4.heap.size=sb at *;exact oq
  ·go_simp
   have G4:=G3.alloc (Cc #[Bb g.n,Bb g.sp.n,I Y g.sp.lo,I Y g.sp.hi,Bb g.t,Bb g.f,U ss g.s.length gc,Bb h.n,Bb h.sp.n,I Y h.sp.lo,I Y h.sp.hi,Bb h.t,Bb h.f,U st h.s.length hc] 61);have H4:=H3.alloc (Cc #[Bb g.n,Bb g.sp.n,I Y g.sp.lo,I Y g.sp.hi,Bb g.t,Bb g.f,U ss g.s.length gc,Bb h.n,Bb h.sp.n,I Y h.sp.lo,I Y h.sp.hi,Bb h.t,Bb h.f,U st h.s.length hc] 61);have R4:=R3.alloc (Cc #[Bb g.n,Bb g.sp.n,I Y g.sp.lo,I Y g.sp.hi,Bb g.t,Bb g.f,U ss g.s.length gc,Bb h.n,Bb h.sp.n,I Y h.sp.lo,I Y h.sp.hi,Bb h.t,Bb h.f,U st h.s.length hc] 61);have F4:=F3.alloc (Cc #[Bb g.n,Bb g.sp.n,I Y g.sp.lo,I Y g.sp.hi,Bb g.t,Bb g.f,U ss g.s.length gc,Bb h.n,Bb h.sp.n,I Y h.sp.lo,I Y h.sp.hi,Bb h.t,Bb h.f,U st h.s.length hc] 61);have B4:=B3.alloc B3.size (Cc #[Bb g.n,Bb g.sp.n,I Y g.sp.lo,I Y g.sp.hi,Bb g.t,Bb g.f,U ss g.s.length gc,Bb h.n,Bb h.sp.n,I Y h.sp.lo,I Y h.sp.hi,Bb h.t,Bb h.f,U st h.s.length hc] 61);have L4:=GhAt.new2 w3 g ss gc h st hc;refine hK.out _ _ (KS _ G4 H4) (λhHeld4=> ?_);clear hK K;refine sm ?_;unfold lh at L4;generalize w3.alloc (Cc #[Bb g.n,Bb g.sp.n,I Y g.sp.lo,I Y g.sp.hi,Bb g.t,Bb g.f,U ss g.s.length gc,Bb h.n,Bb h.sp.n,I Y h.sp.lo,I Y h.sp.hi,Bb h.t,Bb h.f,U st h.s.length hc] 61)=w4 at *;generalize w3.heap.size=sb at *;exact oc
 ·go_simp
  have G3:=G2.alloc (Cc #[Bb g.n,Bb g.sp.n,I Y g.sp.lo,I Y g.sp.hi,Bb g.t,Bb g.f,U ss g.s.length gc,Bb h.n,Bb h.sp.n,I Y h.sp.lo,I Y h.sp.hi,Bb h.t,Bb h.f,U st h.s.length hc] 61);have H3:=H2.alloc (Cc #[Bb g.n,Bb g.sp.n,I Y g.sp.lo,I Y g.sp.hi,Bb g.t,Bb g.f,U ss g.s.length gc,Bb h.n,Bb h.sp.n,I Y h.sp.lo,I Y h.sp.hi,Bb h.t,Bb h.f,U st h.s.length hc] 61);have R3:=R2.alloc (Cc #[Bb g.n,Bb g.sp.n,I Y g.sp.lo,I Y g.sp.hi,Bb g.t,Bb g.f,U ss g.s.length gc,Bb h.n,Bb h.sp.n,I Y h.sp.lo,I Y h.sp.hi,Bb h.t,Bb h.f,U st h.s.length hc] 61);have F3:=F2.alloc (Cc #[Bb g.n,Bb g.sp.n,I Y g.sp.lo,I Y g.sp.hi,Bb g.t,Bb g.f,U ss g.s.length gc,Bb h.n,Bb h.sp.n,I Y h.sp.lo,I Y h.sp.hi,Bb h.t,Bb h.f,U st h.s.length hc] 61);have B3:=B2.alloc B2.size (Cc #[Bb g.n,Bb g.sp.n,I Y g.sp.lo,I Y g.sp.hi,Bb g.t,Bb g.f,U ss g.s.length gc,Bb h.n,Bb h.sp.n,I Y h.sp.lo,I Y h.sp.hi,Bb h.t,Bb h.f,U st h.s.length hc] 61);have L3:=GhAt.new2 w2 g ss gc h st hc;refine hK.out _ _ (KS _ G3 H3) (λhHeld3=> ?_);clear hK K;refine sm ?_;unfold lh at L3;generalize w2.alloc (Cc #[Bb g.n,Bb g.sp.n,I Y g.sp.lo,I Y g.sp.hi,Bb g.t,Bb g.f,U ss g.s.length gc,Bb h.n,Bb h.sp.n,I Y h.sp.lo,I Y h.sp.hi,Bb h.t,Bb h.f,U st h.s.length hc] 61)=w3 at *;generalize w2.heap.size=sb at *;refine wpAnyH_ready (rs:=[4]) (by kernel_rfl) (by simp) ?_;refine AllReadyH.cons rfl (λK hK=> ?_) AllReadyH.nil;go_simp;refine(HL.out _).mono ?_;rintro e w4 ⟨rfl,hb4⟩;have G4:=G3.call hb4;have H4:=H3.call hb4;have R4:=R3.call hb4;have F4:=F3.call hb4;have L4:=L3.call hb4;have B4:=B3.trans (hb4.mono B3.size);refine hK.out _ _ (KS _ G4 H4) (λhHeld4=> ?_);clear hK K hb4;refine sm ?_;refine vH 5 ?_ ?_;refine vH 6 ?_ ?_;exact oc
def DG (w:World)(g:Gs)(ss:oA)(gc:Nat)(h:Gs)(st:oA)(hc:Nat)(ob:Nat)(o:Gs)(wx:World):Prop:=
 GuAt wx w.heap.size 0 g ss gc/\GuAt wx (w.heap.size+1) 0 h st hc/\GuAt wx (w.heap.size+1+1) 0 bl nO 0/\Fr7 wx (w.heap.size+1+1)/\GuAt wx ob 0 o nO 0/\Fr7 wx ob/\Below w.heap.size w wx/\w.heap.size+1+1 < ob
theorem DG.call {w:World}{g:Gs}{ss:oA}{gc:Nat}{h:Gs}{st:oA}{hc:Nat}{ob:Nat}{o:Gs}{wx wy:World}(d:DG w g ss gc h st hc ob o wx)(hb:Below wx.heap.size wx wy):DG w g ss gc h st hc ob o wy:=
 ⟨d.1.call hb,d.2.1.call hb,d.2.2.1.call hb,d.2.2.2.1.call hb,d.2.2.2.2.1.call hb,d.2.2.2.2.2.1.call hb,d.2.2.2.2.2.2.1.trans (hb.mono d.2.2.2.2.2.2.1.size),d.2.2.2.2.2.2.2⟩
theorem DG.drew {w:World}{g:Gs}{ss:oA}{gc:Nat}{h:Gs}{st:oA}{hc:Nat}{ob:Nat}{o:Gs}{wx:World}(d:DG w g ss gc h st hc ob o wx):DG w g ss gc h st hc ob o wx.drew:=d.call (bR _ _).drew

theorem DJ (w:World)(g:Gs)(ss:oA)(gc:Nat)(h:Gs)(st:oA)(hc:Nat):GuAt (((w.alloc (Cc #[Bb g.n,Bb g.sp.n,I Y g.sp.lo,I Y g.sp.hi,Bb g.t,Bb g.f,U ss g.s.length gc] 61)).alloc (Cc #[Bb h.n,Bb h.sp.n,I Y h.sp.lo,I Y h.sp.hi,Bb h.t,Bb h.f,U st h.s.length hc] 61)).alloc (Cc #[Bb false,Bb false,I Y 0,I Y 0,Bb false,Bb false,U nO 0 0] 61)) w.heap.size 0 g ss gc/\GuAt (((w.alloc (Cc #[Bb g.n,Bb g.sp.n,I Y g.sp.lo,I Y g.sp.hi,Bb g.t,Bb g.f,U ss g.s.length gc] 61)).alloc (Cc #[Bb h.n,Bb h.sp.n,I Y h.sp.lo,I Y h.sp.hi,Bb h.t,Bb h.f,U st h.s.length hc] 61)).alloc (Cc #[Bb false,Bb false,I Y 0,I Y 0,Bb false,Bb false,U nO 0 0] 61)) (w.heap.size+1) 0 h st hc/\GuAt (((w.alloc (Cc #[Bb g.n,Bb g.sp.n,I Y g.sp.lo,I Y g.sp.hi,Bb g.t,Bb g.f,U ss g.s.length gc] 61)).alloc (Cc #[Bb h.n,Bb h.sp.n,I Y h.sp.lo,I Y h.sp.hi,Bb h.t,Bb h.f,U st h.s.length hc] 61)).alloc (Cc #[Bb false,Bb false,I Y 0,I Y 0,Bb false,Bb false,U nO 0 0] 61)) (w.heap.size+1+1) 0 bl nO 0/\Fr7 (((w.alloc (Cc #[Bb g.n,Bb g.sp.n,I Y g.sp.lo,I Y g.sp.hi,Bb g.t,Bb g.f,U ss g.s.length gc] 61)).alloc (Cc #[Bb h.n,Bb h.sp.n,I Y h.sp.lo,I Y h.sp.hi,Bb h.t,Bb h.f,U st h.s.length hc] 61)).alloc (Cc #[Bb false,Bb false,I Y 0,I Y 0,Bb false,Bb false,U nO 0 0] 61)) (w.heap.size+1+1)/\Below w.heap.size w (((w.alloc (Cc #[Bb g.n,Bb g.sp.n,I Y g.sp.lo,I Y g.sp.hi,Bb g.t,Bb g.f,U ss g.s.length gc] 61)).alloc (Cc #[Bb h.n,Bb h.sp.n,I Y h.sp.lo,I Y h.sp.hi,Bb h.t,Bb h.f,U st h.s.length hc] 61)).alloc (Cc #[Bb false,Bb false,I Y 0,I Y 0,Bb false,Bb false,U nO 0 0] 61)):=by
 obtain⟨G0,H0,B0⟩:=n9 w g ss gc h st hc;have R0:=GuAt.new ((w.alloc (Cc #[Bb g.n,Bb g.sp.n,I Y g.sp.lo,I Y g.sp.hi,Bb g.t,Bb g.f,U ss g.s.length gc] 61)).alloc (Cc #[Bb h.n,Bb h.sp.n,I Y h.sp.lo,I Y h.sp.hi,Bb h.t,Bb h.f,U st h.s.length hc] 61)) bl nO 0;rw[zA,zA] at R0;exact⟨G0.alloc _,H0.alloc _,R0,⟨λj=>by simp[go_sem],by simp⟩,by go_grown⟩
theorem gS {w:World}{g:Gs}{ss:oA}{gc:Nat}{h:Gs}{st:oA}{hc:Nat}{w1:World}(hb:Below (((w.alloc (Cc #[Bb g.n,Bb g.sp.n,I Y g.sp.lo,I Y g.sp.hi,Bb g.t,Bb g.f,U ss g.s.length gc] 61)).alloc (Cc #[Bb h.n,Bb h.sp.n,I Y h.sp.lo,I Y h.sp.hi,Bb h.t,Bb h.f,U st h.s.length hc] 61)).alloc (Cc #[Bb false,Bb false,I Y 0,I Y 0,Bb false,Bb false,U nO 0 0] 61)).heap.size (((w.alloc (Cc #[Bb g.n,Bb g.sp.n,I Y g.sp.lo,I Y g.sp.hi,Bb g.t,Bb g.f,U ss g.s.length gc] 61)).alloc (Cc #[Bb h.n,Bb h.sp.n,I Y h.sp.lo,I Y h.sp.hi,Bb h.t,Bb h.f,U st h.s.length hc] 61)).alloc (Cc #[Bb false,Bb false,I Y 0,I Y 0,Bb false,Bb false,U nO 0 0] 61)) w1):DG w g ss gc h st hc w1.heap.size noneG (w1.alloc (Cc #[Bb noneG.n,Bb noneG.sp.n,I Y noneG.sp.lo,I Y noneG.sp.hi,Bb noneG.t,Bb noneG.f,U nO noneG.s.length 0] 61)):=by
 obtain⟨G0,H0,R0,F0,B0⟩:=DJ w g ss gc h st hc;have G1:=(G0.call hb).alloc (Cc #[Bb noneG.n,Bb noneG.sp.n,I Y noneG.sp.lo,I Y noneG.sp.hi,Bb noneG.t,Bb noneG.f,U nO noneG.s.length 0] 61);have H1:=(H0.call hb).alloc (Cc #[Bb noneG.n,Bb noneG.sp.n,I Y noneG.sp.lo,I Y noneG.sp.hi,Bb noneG.t,Bb noneG.f,U nO noneG.s.length 0] 61);have z:=(R0.call hb).2;have R1:=(R0.call hb).alloc (Cc #[Bb noneG.n,Bb noneG.sp.n,I Y noneG.sp.lo,I Y noneG.sp.hi,Bb noneG.t,Bb noneG.f,U nO noneG.s.length 0] 61);have F1:=(F0.call hb).alloc (Cc #[Bb noneG.n,Bb noneG.sp.n,I Y noneG.sp.lo,I Y noneG.sp.hi,Bb noneG.t,Bb noneG.f,U nO noneG.s.length 0] 61);have B1:=B0.trans (hb.mono B0.size);exact⟨G1,H1,R1,F1,GuAt.new w1 noneG nO 0,⟨λj=>by simp[go_sem],by simp⟩,B1.alloc B1.size _,z⟩
theorem DG.out {w:World}{g:Gs}{ss:oA}{gc:Nat}{h:Gs}{st:oA}{hc:Nat}{ob:Nat}{o o':Gs}{wx wy:World}(d:DG w g ss gc h st hc ob o wx)(hb:∀k,k≠ob->wy.heap[k]? =wx.heap[k]?)(hz:wy.heap.size=wx.heap.size)(hf:Fr7 wy ob)(ho:GuAt wy ob 0 o' nO 0)(hB:Below w.heap.size w wy):DG w g ss gc h st hc ob o' wy:=by
 have hg:∀{k:Nat} {x:Gs} {xs:oA} {xc:Nat},k≠ob->GuAt wx k 0 x xs xc->GuAt wy k 0 x xs xc:=by
  intro k x xs xc hk hg;obtain⟨⟨h0,h1,h2,h3,h4,h5,h6⟩,hz'⟩:=hg;have hc:∀j,wy.cell? ⟨k,j,nO⟩=wx.cell? ⟨k,j,nO⟩:=λj=>q4 (a:=⟨k,j,nO⟩) (hb k hk);exact⟨⟨(hc _).trans h0,(hc _).trans h1,(hc _).trans h2,(hc _).trans h3,(hc _).trans h4,(hc _).trans h5,(hc _).trans h6⟩,by rw[hz];exact hz'⟩
 have z:=d.2.2.2.2.2.2.2;refine⟨hg (by omega) d.1,hg (by omega) d.2.1,hg (by omega) d.2.2.1,⟨λj=> ?_,by rw[hz];exact d.2.2.2.1.2⟩,ho,hf,hB,z⟩;rw[q5 (a:=⟨w.heap.size+1+1,j,nO⟩) (hb _ (by show w.heap.size+1+1≠ob;omega))];exact d.2.2.2.1.1 j
theorem po {p:Prop}(h:p:=by
 obtain⟨⟨h0,h1,h2,h3,h4,h5,h6⟩,hz⟩:=d.2.2.2.2.1;simp only[Nat.zero_add] at h0 h1 h2 h3 h4 h5 h6;exact⟨⟨by simp[go_sem,h0],by simp[go_sem,h1],by simp[go_sem,h2],by simp[go_sem,h3],by simp[go_sem,h4],by simp[go_sem,h5],by simp[go_sem,h6]⟩,by simpa using hz⟩):p:=h
theorem pm {p:Prop}(h:p:=by
 have z:=d.2.2.2.2.2.2.2;refine d.out (λk hk=>Below.heap_setCell _ _ _ _ hk) (by simp) d.2.2.2.2.2.1.set ?_ (d.2.2.2.2.2.2.1.setCell (by simp;omega) _);exact po):p:=h
theorem DG.t {w:World}{g:Gs}{ss:oA}{gc:Nat}{h:Gs}{st:oA}{hc:Nat}{ob:Nat}{o:Gs}{wx:World}{y:Bool}(d:DG w g ss gc h st hc ob o wx):DG w g ss gc h st hc ob ⟨o.n,o.sp,y,o.f,o.s⟩ (wx.setCell ⟨ob,4,nO⟩ (Bb y)):=by
 exact pm
theorem DG.f {w:World}{g:Gs}{ss:oA}{gc:Nat}{h:Gs}{st:oA}{hc:Nat}{ob:Nat}{o:Gs}{wx:World}{y:Bool}(d:DG w g ss gc h st hc ob o wx):DG w g ss gc h st hc ob ⟨o.n,o.sp,o.t,y,o.s⟩ (wx.setCell ⟨ob,5,nO⟩ (Bb y)):=by
 exact pm
theorem DG.sp {w:World}{g:Gs}{ss:oA}{gc:Nat}{h:Gs}{st:oA}{hc:Nat}{ob:Nat}{o:Gs}{wx:World}{s:Sp}(d:DG w g ss gc h st hc ob o wx):DG w g ss gc h st hc ob ⟨o.n,s,o.t,o.f,o.s⟩ (((wx.setCell ⟨ob,1,nO⟩ (Bb s.n)).setCell ⟨ob,2,nO⟩ (I Y s.lo)).setCell ⟨ob,3,nO⟩ (I Y s.hi)):=by
 have z:=d.2.2.2.2.2.2.2;refine d.out (λk hk=>by rw[hSe _ _ _ _ hk,hSe _ _ _ _ hk,hSe _ _ _ _ hk]) (by simp) d.2.2.2.2.2.1.set.set.set ?_ (((d.2.2.2.2.2.2.1.setCell (by simp;omega) _).setCell (by simp;omega) _).setCell (by simp;omega) _);exact po
theorem Ep (w:World)(g:Gs)(ss:oA)(gc:Nat)(h:Gs)(st:oA)(hc:Nat):
  Calls pG 27 #[I Y 4,gv g ss gc,gv h st hc] w λe w'=>e=Rt (if ae g=true then Tu #[gv noneG nO 0,Bb false] else Tu #[gv g ss gc,Bb false])/\Below w.heap.size w w':=by
 generalize hnn:ae g=nn;have Hnn:=aa hnn;clear hnn;have HNg:=aa (λw=>aW g ss gc w);have HNh:=aa (λw=>aW h st hc w);generalize ae g=ng at *;generalize ae h=nh at *;go_enter Tryz.func27,Tryz.ntmps27
 go_upto_region 1 with fail
 go_cut [8] (λt wy=>∃ob,t=Pp (sO ⟨ob,0,nO⟩)/\DG w g ss gc h st hc ob noneG wy)
 case first=>
  go_wp2_with (go_at_call 21;fail);refine(cG _).mono ?_;rintro e w1 ⟨rfl,hb1⟩;have D1:=gS hb1;go_wp2_with fail;go_meet;refine⟨w1.heap.size,rfl,?_⟩;exact D1
 obtain⟨ob,rfl,D1⟩:=hcut;obtain⟨⟨g0,g1,g2,g3,g4,g5,g6⟩,gz⟩:=id D1.1;simp only[j0] at g0 g1 g2 g3 g4 g5 g6;obtain⟨⟨k0,k1,k2,k3,k4,k5,k6⟩,kz⟩:=id D1.2.1;simp only[j0] at k0 k1 k2 k3 k4 k5 k6;have fz:=D1.2.2.2.1.1;have fo:=D1.2.2.2.2.2.1.1;have zo:=D1.2.2.2.2.2.2.2
 go_upto_region 2 with fail
 go_cut [27] (λt wy=>t=Bb nn/\DG w g ss gc h st hc ob noneG wy)
 case first=>
  go_wp2_with (go_at_call 28;fail);refine(HNg.out _).mono ?_;rintro e w2 ⟨rfl,hb2⟩;have D2:=D1.call hb2;clear g0 g1 g2 g3 g4 g5 g6 gz k0 k1 k2 k3 k4 k5 k6 kz fz fo;cases ng with
  |true=>
   go_wp2_with fail;go_meet;exact⟨by rw[<-Hnn.out];first|done|rfl|simp,D2⟩
  |false=>
   go_wp2_with fail;go_meet;exact⟨by rw[<-Hnn.out];first|done|rfl|simp,D2⟩
 obtain⟨rfl,D2⟩:=hcut;clear g0 g1 g2 g3 g4 g5 g6 gz k0 k1 k2 k3 k4 k5 k6 kz fz fo zo D1 HNg HNh Hnn;cases nn with
 |true=>
  obtain⟨⟨g0,g1,g2,g3,g4,g5,g6⟩,gz⟩:=id D2.1;simp only[j0] at g0 g1 g2 g3 g4 g5 g6;obtain⟨⟨r0,r1,r2,r3,r4,r5,r6⟩,rz⟩:=id D2.2.2.1;simp only[j0] at r0 r1 r2 r3 r4 r5 r6;obtain⟨⟨o0,o1,o2,o3,o4,o5,o6⟩,oz⟩:=id D2.2.2.2.2.1;simp only[j0] at o0 o1 o2 o3 o4 o5 o6;simp only[bl] at r0 r1 r2 r3 r4 r5 r6;have fz:=D2.2.2.2.1.1;have fo:=D2.2.2.2.2.2.1.1;have zo:=D2.2.2.2.2.2.2.2;simp only[noneG] at o0 o1 o2 o3 o4 o5 o6;go_wp2;refine bodyPost_ret (v:=Tu #[gv noneG nO 0,Bb false]) (by simp[results,Tryz.results27,go_sem,r0,r1,r2,r3,r4,r5,r6,noneG]) rfl ⟨?_,?_⟩
  ·rfl
  ·exact aX D2.2.2.2.2.2.2.1 (by omega)
 |false=>
  obtain⟨⟨g0,g1,g2,g3,g4,g5,g6⟩,gz⟩:=id D2.1;simp only[j0] at g0 g1 g2 g3 g4 g5 g6;obtain⟨⟨r0,r1,r2,r3,r4,r5,r6⟩,rz⟩:=id D2.2.2.1;simp only[j0] at r0 r1 r2 r3 r4 r5 r6;simp only[bl] at r0 r1 r2 r3 r4 r5 r6;have fz:=D2.2.2.2.1.1;have fo:=D2.2.2.2.2.2.1.1;have zo:=D2.2.2.2.2.2.2.2;go_wp2;refine bodyPost_ret (v:=Tu #[gv g ss gc,Bb false]) (by simp[results,Tryz.results27,go_sem,r0,r1,r2,r3,r4,r5,r6]) rfl ⟨?_,?_⟩
  ·rfl
  ·exact aX D2.2.2.2.2.2.2.1 (by omega)
def lI (b ob:Nat)(g:Gs)(ss:oA)(gc:Nat)(h:Gs)(st:oA)(hc:Nat)(o:Gs)(w':World):Prop:=
 (w'.cell? ⟨b,0,nO⟩=sO (Bb g.n)/\w'.cell? ⟨b,1,nO⟩=sO (Bb g.sp.n)/\w'.cell? ⟨b,2,nO⟩=sO (I Y g.sp.lo)/\w'.cell? ⟨b,3,nO⟩=sO (I Y g.sp.hi)/\w'.cell? ⟨b,4,nO⟩=sO (Bb g.t)/\w'.cell? ⟨b,5,nO⟩=sO (Bb g.f)/\w'.cell? ⟨b,6,nO⟩=sO (U ss g.s.length gc))/\(w'.cell? ⟨b+1,0,nO⟩=sO (Bb h.n)/\w'.cell? ⟨b+1,1,nO⟩=sO (Bb h.sp.n)/\w'.cell? ⟨b+1,2,nO⟩=sO (I Y h.sp.lo)/\w'.cell? ⟨b+1,3,nO⟩=sO (I Y h.sp.hi)/\w'.cell? ⟨b+1,4,nO⟩=sO (Bb h.t)/\w'.cell? ⟨b+1,5,nO⟩=sO (Bb h.f)/\w'.cell? ⟨b+1,6,nO⟩=sO (U st h.s.length hc))/\(w'.cell? ⟨ob,0,nO⟩=sO (Bb o.n)/\w'.cell? ⟨ob,1,nO⟩=sO (Bb o.sp.n)/\w'.cell? ⟨ob,2,nO⟩=sO (I Y o.sp.lo)/\w'.cell? ⟨ob,3,nO⟩=sO (I Y o.sp.hi)/\w'.cell? ⟨ob,4,nO⟩=sO (Bb o.t)/\w'.cell? ⟨ob,5,nO⟩=sO (Bb o.f)/\w'.cell? ⟨ob,6,nO⟩=sO (U nO o.s.length 0))

theorem uY {a b:Sp}(h1:(a.n==b.n)=true)(h2:(a.lo==b.lo)=true)(h3:(a.hi==b.hi)=true):a=b:=by
 obtain⟨a1,a2,a3⟩:=a;obtain⟨b1,b2,b3⟩:=b;simp only[beq_iff_eq] at h1 h2 h3;rw[h1,h2,h3]
def go (b:Nat)(g:Gs)(ss:oA)(gc:Nat)(h:Gs)(st:oA)(hc:Nat)(w':World):Prop:=
 (w'.cell? ⟨b,0,nO⟩=sO (Bb g.n)/\w'.cell? ⟨b,1,nO⟩=sO (Bb g.sp.n)/\w'.cell? ⟨b,2,nO⟩=sO (I Y g.sp.lo)/\w'.cell? ⟨b,3,nO⟩=sO (I Y g.sp.hi)/\w'.cell? ⟨b,4,nO⟩=sO (Bb g.t)/\w'.cell? ⟨b,5,nO⟩=sO (Bb g.f)/\w'.cell? ⟨b,6,nO⟩=sO (U ss g.s.length gc))/\(w'.cell? ⟨b+1,0,nO⟩=sO (Bb h.n)/\w'.cell? ⟨b+1,1,nO⟩=sO (Bb h.sp.n)/\w'.cell? ⟨b+1,2,nO⟩=sO (I Y h.sp.lo)/\w'.cell? ⟨b+1,3,nO⟩=sO (I Y h.sp.hi)/\w'.cell? ⟨b+1,4,nO⟩=sO (Bb h.t)/\w'.cell? ⟨b+1,5,nO⟩=sO (Bb h.f)/\w'.cell? ⟨b+1,6,nO⟩=sO (U st h.s.length hc))
theorem i9 {p:Prop}(h:p:=by
 go_wp2_with (go_at_call 60;fail);refine(HM.out _).mono ?_;rintro e w5 ⟨rfl,hb5⟩;have D5:=DR.call hb5;clear g0 g1 g2 g3 g4 g5 g6 gz k0 k1 k2 k3 k4 k5 k6 kz fz fo zo o0 o1 o2 o3 o4 o5 o6 oz;have fz:=D5.2.2.2.1.1;have fo:=D5.2.2.2.2.2.1.1;have zo:=D5.2.2.2.2.2.2.2;have o0:=D5.2.2.2.2.1.1;simp only[noneG,Nat.zero_add] at o0;obtain⟨o0,o1,o2,o3,o4,o5,o6⟩:=o0;go_wp2_with fail;go_meet;rw[Ey.out];exact D5.t):p:=h
theorem oS {p:Prop}(h:p:=by
 have en1:=Hn1.out;have en2:=Hn2.out;cases cb with
 |true=>
  have Ey:Hid (y=true):=by show _=_;rw[<-Hy.out,<-HA.out];simp
  go_wp2_with fail;go_meet;rw[Ey.out];exact DR.t
 |false=>
  have h3:(g.t=true/\h.t=true)\/g.t=false\/(g.t=true/\h.t=false):=by cases g.t<;>cases h.t<;>simp
  rcases h3 with⟨et1,et2⟩|et1|⟨et1,et2⟩
  ·have Ey:Hid (y=true):=by show _=_;rw[<-Hy.out,et1,et2];simp
   go_wp2_with fail;go_meet;rw[Ey.out];exact DR.t
  ·have h3:(g.f=true/\h.f=true)\/g.f=false\/(g.f=true/\h.f=false):=by cases g.f<;>cases h.f<;>simp
   rcases h3 with⟨ef1,ef2⟩|ef1|⟨ef1,ef2⟩
   ·have Ey:Hid (y=true):=by show _=_;rw[<-Hy.out,ef1,ef2];simp
    go_wp2_with fail;go_meet;rw[Ey.out];exact DR.t
   ·have Ey:Hid (y= !ms.n):=by show _=_;first|(rw[<-Hy.out,<-HA.out,en1,en2,et1,ef1];simp;done)|(rw[<-Hy.out,<-HA.out,en1,et1,ef1];simp)
    exact i9
   ·have Ey:Hid (y= !ms.n):=by show _=_;first|(rw[<-Hy.out,<-HA.out,en1,en2,et1,ef1,ef2];simp;done)|(rw[<-Hy.out,<-HA.out,en1,et1,ef1,ef2];simp)
    exact i9
  ·have h3:(g.f=true/\h.f=true)\/g.f=false\/(g.f=true/\h.f=false):=by cases g.f<;>cases h.f<;>simp
   rcases h3 with⟨ef1,ef2⟩|ef1|⟨ef1,ef2⟩
   ·have Ey:Hid (y=true):=by show _=_;rw[<-Hy.out,ef1,ef2];simp
    go_wp2_with fail;go_meet;rw[Ey.out];exact DR.t
   ·have Ey:Hid (y= !ms.n):=by show _=_;first|(rw[<-Hy.out,<-HA.out,en1,en2,et1,et2,ef1];simp;done)|(rw[<-Hy.out,<-HA.out,en1,et1,et2,ef1];simp)
    exact i9
   ·have Ey:Hid (y= !ms.n):=by show _=_;first|(rw[<-Hy.out,<-HA.out,en1,en2,et1,et2,ef1,ef2];simp;done)|(rw[<-Hy.out,<-HA.out,en1,et1,et2,ef1,ef2];simp)
    go_wp2_with (go_at_call 60;fail);refine(HM.out _).mono ?_;rintro e w5 ⟨rfl,hb5⟩;have D5:=DR.call hb5;clear g0 g1 g2 g3 g4 g5 g6 gz k0 k1 k2 k3 k4 k5 k6 kz fz fo zo o0 o1 o2 o3 o4 o5 o6 oz;have fz:=D5.2.2.2.1.1;have fo:=D5.2.2.2.2.2.1.1;have zo:=D5.2.2.2.2.2.2.2;have o0:=D5.2.2.2.2.1.1;simp only[noneG,Nat.zero_add] at o0;obtain⟨o0,o1,o2,o3,o4,o5,o6⟩:=o0;go_wp2_with fail;go_meet;rw[Ey.out];exact D5.t):p:=h
theorem gJ {p:Prop}(h:p:=by
 have JR:=ht.below DR.2.2.2.2.2.2.1 (Nat.le_refl _);obtain⟨b,off,rfl,hb,hcell⟩:=IR.get k hlt;have c0:=hcell k hlt;have n0:(0:Int)<=(k:Int):=by omega
 have n1:(k:Int) < (g.s.length:Int):=by omega
 clear hcell;cases cb with
 |true=>
  have HN:Hid (true=(g.s.take (k+1)).any λx=>h.s.contains x):=by
   show _=_;rw[List.take_add_one,List.any_append,<-HC.out];rfl
  go_wp2;refine wp_region_held_drew (S:=λ_=>True) (by kernel_rfl) trivial (λhHeld=> ?_);refine vH 0 ?_ ?_;refine vH 1 ?_ ?_;refine uH 2 ?_;refine sm ?_;refine uH 3 ?_;refine sm ?_;refine uH 4 ?_;refine sm ?_;refine uH 5 ?_;refine sm ?_;refine uH 6 ?_;refine sm ?_;refine uH 7 ?_;refine sm ?_;refine uH 8 ?_;refine sm ?_;refine uH 9 ?_;refine sm ?_;refine vH 10 ?_ ?_;refine vH 11 ?_ ?_;refine wpAnyH_done (by kernel_rfl) ?_ _;go_wp2;go_roundw
  case rel=>exact⟨k+1,true,by omega,by go_num,rfl,HN,DR.drew⟩
  case measure=>simp[intOf];omega
 |false=>
  have HN:Hid (decide (g.s[k]∈h.s)=(g.s.take (k+1)).any λx=>h.s.contains x):=by
   show _=_;rw[List.take_add_one,List.any_append,<-HC.out,List.getElem?_eq_getElem hlt];simp
  go_wp2
  go_region_held3 (λwx=>wx.cell? ⟨w.heap.size,6,none⟩=some (.slice (some ⟨b,off,none⟩) g.s.length gc)/\wx.cell? ⟨w.heap.size+1,6,none⟩=some (.slice st h.s.length hc)/\wx.cell? ⟨b,off+k,none⟩=some (.int .i64 g.s[k]))
   (exact⟨g6,k6,c0⟩)
   ((go_at_call 59;refine(kJ g.s[k] st hc h.s _ hhl JR.drew).mono ?_;rintro e w2 ⟨rfl,hw2⟩;have hw3:=hw2.symm;subst hw3))
  go_wp2;go_roundw
  case rel=>exact⟨k+1,decide (g.s[k]∈h.s),by omega,by go_num,rfl,HN,DR.drew⟩
  case measure=>simp[intOf];omega):p:=h
theorem gF {p:Prop}(h:p:=by
 go_wp2_with (go_at_call 28;fail);refine(HNg.out _).mono ?_;rintro e w2 ⟨rfl,hb2⟩;have D2:=D1.call hb2;clear g0 g1 g2 g3 g4 g5 g6 gz k0 k1 k2 k3 k4 k5 k6 kz fz fo;cases ng with
 |true=>
  go_wp2_with fail;go_meet;exact⟨by rw[<-Hnn.out];first|done|rfl|simp,D2⟩
 |false=>
  obtain⟨⟨k0,k1,k2,k3,k4,k5,k6⟩,kz⟩:=id D2.2.1;simp only[Nat.zero_add] at k0 k1 k2 k3 k4 k5 k6;have fz:=D2.2.2.2.1.1;have fo:=D2.2.2.2.2.2.1.1;have zo2:=D2.2.2.2.2.2.2.2;go_wp2_with (go_at_call 28;fail);refine(HNh.out _).mono ?_;rintro e w3 ⟨rfl,hb3⟩;have D3:=D2.call hb3;go_wp2_with fail;go_meet;exact⟨by rw[<-Hnn.out];first|done|rfl|simp,D3⟩):p:=h
theorem gx {p:Prop}(h:p:=by
 obtain⟨⟨g0,g1,g2,g3,g4,g5,g6⟩,gz⟩:=id D2.1;simp only[Nat.zero_add] at g0 g1 g2 g3 g4 g5 g6;obtain⟨⟨r0,r1,r2,r3,r4,r5,r6⟩,rz⟩:=id D2.2.2.1;simp only[Nat.zero_add] at r0 r1 r2 r3 r4 r5 r6;obtain⟨⟨o0,o1,o2,o3,o4,o5,o6⟩,oz⟩:=id D2.2.2.2.2.1;simp only[Nat.zero_add] at o0 o1 o2 o3 o4 o5 o6;simp only[bl] at r0 r1 r2 r3 r4 r5 r6;have fz:=D2.2.2.2.1.1;have fo:=D2.2.2.2.2.2.1.1;have zo:=D2.2.2.2.2.2.2.2;simp only[noneG] at o0 o1 o2 o3 o4 o5 o6;go_wp2;refine bodyPost_ret (v:=.tuple #[gv noneG none 0,.bool false]) (by simp[results,Tryz.results27,go_sem,r0,r1,r2,r3,r4,r5,r6,noneG]) rfl ⟨?_,?_⟩
 ·rfl
 ·exact aX D2.2.2.2.2.2.2.1 (by omega)):p:=h
theorem i6 {p:Prop}(h:p:=by
 go_wp2_with (go_at_call 21;fail);refine(cG _).mono ?_;rintro e w1 ⟨rfl,hb1⟩;have D1:=gS hb1;go_wp2_with fail;go_meet;refine⟨w1.heap.size,rfl,?_⟩;exact D1):p:=h
theorem tB {p:Prop}(h:p:=by
 have HM:Hid (∀w,Calls Tryz.prog 60 #[sv g.sp,sv h.sp] w λe w'=>e=.returned (.agg #[.bool (au g.sp h.sp).n,.int .i64 (au g.sp h.sp).lo,.int .i64 (au g.sp h.sp).hi])/\Below w.heap.size w w'):=λw=>fH g.sp h.sp w;have HSg:=aa (λw=>dL g ss gc w);have HSh:=aa (λw=>dL h st hc w);generalize hy:((g.n&&h.n)||(!(au g.sp h.sp).n||((g.t&&h.t)||((g.f&&h.f)||g.s.any λx=>h.s.contains x))))=y;have Hy:=aa hy;generalize hal:(!cq g h)=al;have Hal:Hid (al=(decide (bp g < 0)||(decide (bp g≠bp h)||@decide _ (@instDecidableNot _ (g.sp.dq h.sp))))):=by show _=_;rw[<-hal,ic]
 clear hy hal;generalize bp g=x1 at *;generalize bp h=x2 at *;generalize au g.sp h.sp=ms at *;have hfld:∀wx:World,(Instr.field 58 (.agg #[.bool ms.n,.int .i64 ms.lo,.int .i64 ms.hi]) 0).run Tryz.prog wx=.ok (.bool ms.n) wx:=λ_=>by kernel_rfl
 generalize hnn:(ae g||ae h)=nn;have Hnn:=aa hnn;clear hnn;have HNg:=aa (λw=>aW g ss gc w);have HNh:=aa (λw=>aW h st hc w);generalize ae g=ng at *;generalize ae h=nh at *;go_enter Tryz.func27,Tryz.ntmps27
 go_upto_region 1 with fail
 go_cut [8] (λt wy=>∃ob,t=.pointer (some ⟨ob,0,none⟩)/\DG w g ss gc h st hc ob noneG wy)
 case first=>
  exact i6
 obtain⟨ob,rfl,D1⟩:=hcut;obtain⟨⟨g0,g1,g2,g3,g4,g5,g6⟩,gz⟩:=id D1.1;simp only[Nat.zero_add] at g0 g1 g2 g3 g4 g5 g6;obtain⟨⟨k0,k1,k2,k3,k4,k5,k6⟩,kz⟩:=id D1.2.1;simp only[Nat.zero_add] at k0 k1 k2 k3 k4 k5 k6;have fz:=D1.2.2.2.1.1;have fo:=D1.2.2.2.2.2.1.1;have zo:=D1.2.2.2.2.2.2.2
 go_upto_region 2 with fail
 go_cut [27] (λt wy=>t=.bool nn/\DG w g ss gc h st hc ob noneG wy)
 case first=>
  exact gF
 obtain⟨rfl,D2⟩:=hcut;clear g0 g1 g2 g3 g4 g5 g6 gz k0 k1 k2 k3 k4 k5 k6 kz fz fo zo D1 HNg HNh Hnn;cases nn with
 |true=>
  exact gx
 |false=>
  go_wp2_with fail;go_loopw [11,12] (λcm i wr=>∃(k:Nat) (cb:Bool),k<=g.s.length/\i=.int .i64 k/\cm=.bool cb/\Hid (cb=(g.s.take k).any λx=>h.s.contains x)/\DG w g ss gc h st hc ob noneG wr) (λ_ i _=>g.s.length - (intOf i).toNat)
  case atStart=>exact⟨0,false,Nat.zero_le _,rfl,rfl,(by show _=_;simp),D2⟩
  case round=>
   obtain⟨k,cb,hk,rfl,rfl,HC,DR⟩:=hrel;clear D2;obtain⟨⟨g0,g1,g2,g3,g4,g5,g6⟩,gz⟩:=id DR.1;simp only[Nat.zero_add] at g0 g1 g2 g3 g4 g5 g6;obtain⟨⟨k0,k1,k2,k3,k4,k5,k6⟩,kz⟩:=id DR.2.1;simp only[Nat.zero_add] at k0 k1 k2 k3 k4 k5 k6;have fz:=DR.2.2.2.1.1;have fo:=DR.2.2.2.2.2.1.1;have zo:=DR.2.2.2.2.2.2.2;by_cases hlt:k < g.s.length
   ·have IR:=hs.below DR.2.2.2.2.2.2.1 (Nat.le_refl _)
    exact gJ
   ·have ek:k=g.s.length:=by omega
    have HA:Hid (cb=g.s.any λx=>h.s.contains x):=by show _=_;rw[HC.out,ek,List.take_length]
    subst ek;clear hlt;clear HC;obtain⟨⟨o0,o1,o2,o3,o4,o5,o6⟩,oz⟩:=id DR.2.2.2.2.1;simp only[Nat.zero_add] at o0 o1 o2 o3 o4 o5 o6;simp only[noneG] at o0 o1 o2 o3 o4 o5 o6
    go_upto_region 17 with fail
    go_cut [11,98] (λt t' wy=>DG w g ss gc h st hc ob ⟨false,⟨true,0,0⟩,y,false,[]⟩ wy)
    case first=>
     exact oS
    have D6:=hcut;clear DR g0 g1 g2 g3 g4 g5 g6 gz k0 k1 k2 k3 k4 k5 k6 kz fz fo zo o0 o1 o2 o3 o4 o5 o6 oz hcut Hy HA HM;go_wp2_with fail;have KS:∀{o:Gs} wx,DG w g ss gc h st hc ob o wx->go w.heap.size g ss gc h st hc wx:=λwx a=>⟨by simpa using a.1.1,by simpa using a.2.1.1⟩;generalize wc=w6 at *;have D7:=D6.drew;refine wp_region_held_drew (S:=go w.heap.size g ss gc h st hc) (by kernel_rfl) (KS _ D7) (λhHeld=> ?_);unfold go at hHeld KS |-;clear D6;generalize w6.drew=w7 at *;refine vH 0 ?_ ?_;refine wpAnyH_ready (rs:=[1]) (by kernel_rfl) (by simp) ?_;refine AllReadyH.cons rfl (λK hK=> ?_) AllReadyH.nil;go_simp;refine(HSg.out _).mono ?_;rintro e w8 ⟨rfl,hb8⟩;have D8:=D7.call hb8;refine hK.out _ _ (KS _ D8) (λhHeld8=> ?_);clear hK K hb8 D7;refine sm ?_;refine vH 2 ?_ ?_;have Hlt:∃lt:Bool,Hid (decide (x1 < 0)=lt):=⟨_,rfl⟩;obtain⟨lt,Hlt⟩:=Hlt;rw[Hlt.out];cases lt with
    |true=>
     have Eal:Hid (al=true):=by show _=_;rw[Hal.out,Hlt.out];rfl
     refine vH 3 ?_ ?_;refine uH 4 ?_;refine sm ?_;refine uH 5 ?_;refine sm ?_;refine uH 6 ?_;refine sm ?_;refine uH 7 ?_;refine sm ?_;refine uH 8 ?_;refine sm ?_;refine vH 9 ?_ ?_;refine vH 10 ?_ ?_;refine uH 11 ?_;refine sm ?_;refine uH 12 ?_;refine sm ?_;refine uH 13 ?_;refine sm ?_;refine uH 14 ?_;refine sm ?_;refine uH 15 ?_;refine sm ?_;refine vH 16 ?_ ?_;refine vH 17 ?_ ?_;obtain⟨⟨o0,o1,o2,o3,o4,o5,o6⟩,oz⟩:=id D8.2.2.2.2.1;simp only[Nat.zero_add] at o0 o1 o2 o3 o4 o5 o6;have fo:=D8.2.2.2.2.2.1.1;have D9:=D8.f (y:=true);refine wpAnyH_ready (rs:=[18]) (by kernel_rfl) (by simp) ?_;refine AllReadyH.cons rfl (λK hK=> ?_) AllReadyH.nil;go_simp;refine hK.out _ (w8.setCell ⟨ob,5,none⟩ (.bool true)) (KS _ D9) (λhHeldz=> ?_);clear hK K o0 o1 o2 o3 o4 o5 o6 oz fo D8;refine sm ?_;generalize w8.setCell ⟨ob,5,none⟩ (.bool true)=w9 at *;refine wpAnyH_done (by kernel_rfl) ?_ _;obtain⟨⟨r0,r1,r2,r3,r4,r5,r6⟩,rz⟩:=id D9.2.2.1;simp only[Nat.zero_add] at r0 r1 r2 r3 r4 r5 r6;obtain⟨⟨o0,o1,o2,o3,o4,o5,o6⟩,oz⟩:=id D9.2.2.2.2.1;simp only[Nat.zero_add] at o0 o1 o2 o3 o4 o5 o6;simp only[bl] at r0 r1 r2 r3 r4 r5 r6;have fz:=D9.2.2.2.1.1;have fo:=D9.2.2.2.2.2.1.1;have zo:=D9.2.2.2.2.2.2.2;go_wp2;refine bodyPost_ret (v:=.tuple #[gv ⟨false,⟨true,0,0⟩,y,true,[]⟩ none 0,.bool false]) (by simp[results,Tryz.results27,go_sem,r0,r1,r2,r3,r4,r5,r6]) rfl ⟨?_,?_⟩
     ·rw[show al=true from Eal.out]
     ·exact aX D9.2.2.2.2.2.2.1 (by omega)
    |false=>
     have hne:x1≠x2:=by
      rcases hS.out with h|h
      ·exact absurd h (of_decide_eq_false Hlt.out)
      ·exact h
     refine vH 3 ?_ ?_;refine vH 4 ?_ ?_;refine vH 6 ?_ ?_;refine wpAnyH_ready (rs:=[5]) (by kernel_rfl) (by simp) ?_;refine AllReadyH.cons rfl (λK hK=> ?_) AllReadyH.nil;go_simp;refine(HSg.out _).mono ?_;rintro e w9 ⟨rfl,hb9⟩;have D9:=D8.call hb9;refine hK.out _ _ (KS _ D9) (λhHeld9=> ?_);clear hK K hb9 D8;refine sm ?_;refine wpAnyH_ready (rs:=[7]) (by kernel_rfl) (by simp) ?_;refine AllReadyH.cons rfl (λK hK=> ?_) AllReadyH.nil;go_simp;refine(HSh.out _).mono ?_;rintro e w10 ⟨rfl,hb10⟩;have D10:=D9.call hb10;refine hK.out _ _ (KS _ D10) (λhHeld10=> ?_);clear hK K hb10 D9;refine sm ?_;have hneb:(x1 !=x2)=true:=by simpa using hne
     have Eal:Hid (al=true):=by show _=_;rw[Hal.out,Hlt.out,decide_eq_true (p:=x1≠x2) hne];simp
     refine vH 8 ?_ ?_;refine vH 9 ?_ ?_;refine vH 10 ?_ ?_;refine uH 11 ?_;refine sm ?_;refine uH 12 ?_;refine sm ?_;refine uH 13 ?_;refine sm ?_;refine uH 14 ?_;refine sm ?_;refine uH 15 ?_;refine sm ?_;refine vH 16 ?_ ?_;refine vH 17 ?_ ?_;obtain⟨⟨o0,o1,o2,o3,o4,o5,o6⟩,oz⟩:=id D10.2.2.2.2.1;simp only[Nat.zero_add] at o0 o1 o2 o3 o4 o5 o6;have fo:=D10.2.2.2.2.2.1.1;have D9:=D10.f (y:=true);refine wpAnyH_ready (rs:=[18]) (by kernel_rfl) (by simp) ?_;refine AllReadyH.cons rfl (λK hK=> ?_) AllReadyH.nil;go_simp;refine hK.out _ (w10.setCell ⟨ob,5,none⟩ (.bool true)) (KS _ D9) (λhHeldz=> ?_);clear hK K o0 o1 o2 o3 o4 o5 o6 oz fo D10;refine sm ?_;generalize w10.setCell ⟨ob,5,none⟩ (.bool true)=w9 at *;refine wpAnyH_done (by kernel_rfl) ?_ _;obtain⟨⟨r0,r1,r2,r3,r4,r5,r6⟩,rz⟩:=id D9.2.2.1;simp only[Nat.zero_add] at r0 r1 r2 r3 r4 r5 r6;obtain⟨⟨o0,o1,o2,o3,o4,o5,o6⟩,oz⟩:=id D9.2.2.2.2.1;simp only[Nat.zero_add] at o0 o1 o2 o3 o4 o5 o6;simp only[bl] at r0 r1 r2 r3 r4 r5 r6;have fz:=D9.2.2.2.1.1;have fo:=D9.2.2.2.2.2.1.1;have zo:=D9.2.2.2.2.2.2.2;go_wp2;refine bodyPost_ret (v:=.tuple #[gv ⟨false,⟨true,0,0⟩,y,true,[]⟩ none 0,.bool false]) (by simp[results,Tryz.results27,go_sem,r0,r1,r2,r3,r4,r5,r6]) rfl ⟨?_,?_⟩
     ·rw[show al=true from Eal.out]
     ·exact aX D9.2.2.2.2.2.2.1 (by omega)):p:=h
theorem eZ {p:Prop}(h:p:=by
 refine vH 15 ?_ ?_;refine vH 16 ?_ ?_;refine vH 17 ?_ ?_;obtain⟨⟨o0,o1,o2,o3,o4,o5,o6⟩,oz⟩:=id D10.2.2.2.2.1;simp only[Nat.zero_add] at o0 o1 o2 o3 o4 o5 o6;have fo:=D10.2.2.2.2.2.1.1;have D9:=D10.f (y:=true);refine wpAnyH_ready (rs:=[18]) (by kernel_rfl) (by simp) ?_;refine AllReadyH.cons rfl (λK hK=> ?_) AllReadyH.nil;go_simp;refine hK.out _ (w10.setCell ⟨ob,5,none⟩ (.bool true)) (KS _ D9) (λhHeldz=> ?_);clear hK K o0 o1 o2 o3 o4 o5 o6 oz fo D10;refine sm ?_;generalize w10.setCell ⟨ob,5,none⟩ (.bool true)=w9 at *;refine wpAnyH_done (by kernel_rfl) ?_ _;obtain⟨⟨r0,r1,r2,r3,r4,r5,r6⟩,rz⟩:=id D9.2.2.1;simp only[Nat.zero_add] at r0 r1 r2 r3 r4 r5 r6;obtain⟨⟨o0,o1,o2,o3,o4,o5,o6⟩,oz⟩:=id D9.2.2.2.2.1;simp only[Nat.zero_add] at o0 o1 o2 o3 o4 o5 o6;simp only[bl] at r0 r1 r2 r3 r4 r5 r6;have fz:=D9.2.2.2.1.1;have fo:=D9.2.2.2.2.2.1.1;have zo:=D9.2.2.2.2.2.2.2;go_wp2;refine bodyPost_ret (v:=.tuple #[gv ⟨false,⟨true,0,0⟩,y,true,[]⟩ none 0,.bool false]) (by simp[results,Tryz.results27,go_sem,r0,r1,r2,r3,r4,r5,r6]) rfl ⟨?_,?_⟩
 ·rw[show al=true from Eal.out]
 ·exact aX D9.2.2.2.2.2.2.1 (by omega)):p:=h
theorem sG {p:Prop}(h:p:=by
 have HM:Hid (∀w,Calls Tryz.prog 60 #[sv g.sp,sv h.sp] w λe w'=>e=.returned (.agg #[.bool (au g.sp h.sp).n,.int .i64 (au g.sp h.sp).lo,.int .i64 (au g.sp h.sp).hi])/\Below w.heap.size w w'):=λw=>fH g.sp h.sp w;have HSg:=aa (λw=>dL g ss gc w);have HSh:=aa (λw=>dL h st hc w);generalize hy:((g.n&&h.n)||(!(au g.sp h.sp).n||((g.t&&h.t)||((g.f&&h.f)||g.s.any λx=>h.s.contains x))))=y;have Hy:=aa hy;generalize hal:(!cq g h)=al;have Hal:Hid (al=(decide (bp g < 0)||(decide (bp g≠bp h)||@decide _ (@instDecidableNot _ (g.sp.dq h.sp))))):=by show _=_;rw[<-hal,ic]
 clear hy hal;generalize bp g=x1 at *;generalize bp h=x2 at *;generalize au g.sp h.sp=ms at *;have hfld:∀wx:World,(Instr.field 58 (.agg #[.bool ms.n,.int .i64 ms.lo,.int .i64 ms.hi]) 0).run Tryz.prog wx=.ok (.bool ms.n) wx:=λ_=>by kernel_rfl
 generalize hnn:(ae g||ae h)=nn;have Hnn:=aa hnn;clear hnn;have HNg:=aa (λw=>aW g ss gc w);have HNh:=aa (λw=>aW h st hc w);generalize ae g=ng at *;generalize ae h=nh at *;go_enter Tryz.func27,Tryz.ntmps27
 go_upto_region 1 with fail
 go_cut [8] (λt wy=>∃ob,t=.pointer (some ⟨ob,0,none⟩)/\DG w g ss gc h st hc ob noneG wy)
 case first=>
  exact i6
 obtain⟨ob,rfl,D1⟩:=hcut;obtain⟨⟨g0,g1,g2,g3,g4,g5,g6⟩,gz⟩:=id D1.1;simp only[Nat.zero_add] at g0 g1 g2 g3 g4 g5 g6;obtain⟨⟨k0,k1,k2,k3,k4,k5,k6⟩,kz⟩:=id D1.2.1;simp only[Nat.zero_add] at k0 k1 k2 k3 k4 k5 k6;have fz:=D1.2.2.2.1.1;have fo:=D1.2.2.2.2.2.1.1;have zo:=D1.2.2.2.2.2.2.2
 go_upto_region 2 with fail
 go_cut [27] (λt wy=>t=.bool nn/\DG w g ss gc h st hc ob noneG wy)
 case first=>
  exact gF
 obtain⟨rfl,D2⟩:=hcut;clear g0 g1 g2 g3 g4 g5 g6 gz k0 k1 k2 k3 k4 k5 k6 kz fz fo zo D1 HNg HNh Hnn;cases nn with
 |true=>
  exact gx
 |false=>
  go_wp2_with fail;go_loopw [11,12] (λcm i wr=>∃(k:Nat) (cb:Bool),k<=g.s.length/\i=.int .i64 k/\cm=.bool cb/\Hid (cb=(g.s.take k).any λx=>h.s.contains x)/\DG w g ss gc h st hc ob noneG wr) (λ_ i _=>g.s.length - (intOf i).toNat)
  case atStart=>exact⟨0,false,Nat.zero_le _,rfl,rfl,(by show _=_;simp),D2⟩
  case round=>
   obtain⟨k,cb,hk,rfl,rfl,HC,DR⟩:=hrel;clear D2;obtain⟨⟨g0,g1,g2,g3,g4,g5,g6⟩,gz⟩:=id DR.1;simp only[Nat.zero_add] at g0 g1 g2 g3 g4 g5 g6;obtain⟨⟨k0,k1,k2,k3,k4,k5,k6⟩,kz⟩:=id DR.2.1;simp only[Nat.zero_add] at k0 k1 k2 k3 k4 k5 k6;have fz:=DR.2.2.2.1.1;have fo:=DR.2.2.2.2.2.1.1;have zo:=DR.2.2.2.2.2.2.2;by_cases hlt:k < g.s.length
   ·have IR:=hs.below DR.2.2.2.2.2.2.1 (Nat.le_refl _)
    exact gJ
   ·have ek:k=g.s.length:=by omega
    have HA:Hid (cb=g.s.any λx=>h.s.contains x):=by show _=_;rw[HC.out,ek,List.take_length]
    subst ek;clear hlt;clear HC;obtain⟨⟨o0,o1,o2,o3,o4,o5,o6⟩,oz⟩:=id DR.2.2.2.2.1;simp only[Nat.zero_add] at o0 o1 o2 o3 o4 o5 o6;simp only[noneG] at o0 o1 o2 o3 o4 o5 o6
    go_upto_region 17 with fail
    go_cut [11,98] (λt t' wy=>DG w g ss gc h st hc ob ⟨false,⟨true,0,0⟩,y,false,[]⟩ wy)
    case first=>
     exact oS
    have D6:=hcut;clear DR g0 g1 g2 g3 g4 g5 g6 gz k0 k1 k2 k3 k4 k5 k6 kz fz fo zo o0 o1 o2 o3 o4 o5 o6 oz hcut Hy HA HM;go_wp2_with fail;have KS:∀{o:Gs} wx,DG w g ss gc h st hc ob o wx->go w.heap.size g ss gc h st hc wx:=λwx a=>⟨by simpa using a.1.1,by simpa using a.2.1.1⟩;generalize wc=w6 at *;have D7:=D6.drew;refine wp_region_held_drew (S:=go w.heap.size g ss gc h st hc) (by kernel_rfl) (KS _ D7) (λhHeld=> ?_);unfold go at hHeld KS |-;clear D6;generalize w6.drew=w7 at *;refine vH 0 ?_ ?_;refine wpAnyH_ready (rs:=[1]) (by kernel_rfl) (by simp) ?_;refine AllReadyH.cons rfl (λK hK=> ?_) AllReadyH.nil;go_simp;refine(HSg.out _).mono ?_;rintro e w8 ⟨rfl,hb8⟩;have D8:=D7.call hb8;refine hK.out _ _ (KS _ D8) (λhHeld8=> ?_);clear hK K hb8 D7;refine sm ?_;refine vH 2 ?_ ?_;have Hlt:Hid (decide (x1 < 0)=false):=decide_eq_false (by have:=hS0.out;omega)
    rw[Hlt.out];have hne:=hS1.out;clear hS0 hS1
    ·
     refine vH 3 ?_ ?_;refine vH 4 ?_ ?_;refine vH 6 ?_ ?_;refine wpAnyH_ready (rs:=[5]) (by kernel_rfl) (by simp) ?_;refine AllReadyH.cons rfl (λK hK=> ?_) AllReadyH.nil;go_simp;refine(HSg.out _).mono ?_;rintro e w9 ⟨rfl,hb9⟩;have D9:=D8.call hb9;refine hK.out _ _ (KS _ D9) (λhHeld9=> ?_);clear hK K hb9 D8;refine sm ?_;refine wpAnyH_ready (rs:=[7]) (by kernel_rfl) (by simp) ?_;refine AllReadyH.cons rfl (λK hK=> ?_) AllReadyH.nil;go_simp;refine(HSh.out _).mono ?_;rintro e w10 ⟨rfl,hb10⟩;have D10:=D9.call hb10;refine hK.out _ _ (KS _ D10) (λhHeld10=> ?_);clear hK K hb10 D9;refine sm ?_;subst hne;refine vH 8 ?_ ?_;refine vH 9 ?_ ?_;refine vH 10 ?_ ?_;refine vH 11 ?_ ?_;refine vH 12 ?_ ?_;refine vH 13 ?_ ?_;refine vH 14 ?_ ?_;have h4:(g.sp.n==h.sp.n)=false\/((g.sp.n==h.sp.n)=true/\(g.sp.lo==h.sp.lo)=false)\/((g.sp.n==h.sp.n)=true/\(g.sp.lo==h.sp.lo)=true/\(g.sp.hi==h.sp.hi)=false)\/((g.sp.n==h.sp.n)=true/\(g.sp.lo==h.sp.lo)=true/\(g.sp.hi==h.sp.hi)=true):=by
      cases (g.sp.n==h.sp.n)<;>cases (g.sp.lo==h.sp.lo)<;>cases (g.sp.hi==h.sp.hi)<;>simp
     rcases h4 with q1|⟨q1,q2⟩|⟨q1,q2,q3⟩|⟨q1,q2,q3⟩
     ·have Eal:Hid (al=true):=by show _=_;rw[Hal.out,Hlt.out,@decide_eq_true (g.sp≠h.sp) (@instDecidableNot _ (g.sp.dq h.sp)) (λe=>by rw[e] at q1;simp at q1)];simp
      exact eZ
     ·have Eal:Hid (al=true):=by show _=_;rw[Hal.out,Hlt.out,@decide_eq_true (g.sp≠h.sp) (@instDecidableNot _ (g.sp.dq h.sp)) (λe=>by rw[e] at q2;simp at q2)];simp
      exact eZ
     ·have Eal:Hid (al=true):=by show _=_;rw[Hal.out,Hlt.out,@decide_eq_true (g.sp≠h.sp) (@instDecidableNot _ (g.sp.dq h.sp)) (λe=>by rw[e] at q3;simp at q3)];simp
      exact eZ
     ·have Eal:Hid (al=false):=by show _=_;rw[Hal.out,Hlt.out,uY q1 q2 q3];simp
      refine vH 15 ?_ ?_;refine vH 16 ?_ ?_;refine vH 17 ?_ ?_;obtain⟨⟨o0,o1,o2,o3,o4,o5,o6⟩,oz⟩:=id D10.2.2.2.2.1;simp only[Nat.zero_add] at o0 o1 o2 o3 o4 o5 o6;have fo:=D10.2.2.2.2.2.1.1;have D9:=D10.f (y:=false);refine wpAnyH_ready (rs:=[18]) (by kernel_rfl) (by simp) ?_;refine AllReadyH.cons rfl (λK hK=> ?_) AllReadyH.nil;go_simp;refine hK.out _ (w10.setCell ⟨ob,5,none⟩ (.bool false)) (KS _ D9) (λhHeldz=> ?_);clear hK K o0 o1 o2 o3 o4 o5 o6 oz fo D10;refine sm ?_;generalize w10.setCell ⟨ob,5,none⟩ (.bool false)=w9 at *;refine wpAnyH_done (by kernel_rfl) ?_ _;obtain⟨⟨r0,r1,r2,r3,r4,r5,r6⟩,rz⟩:=id D9.2.2.1;simp only[Nat.zero_add] at r0 r1 r2 r3 r4 r5 r6;obtain⟨⟨o0,o1,o2,o3,o4,o5,o6⟩,oz⟩:=id D9.2.2.2.2.1;simp only[Nat.zero_add] at o0 o1 o2 o3 o4 o5 o6;simp only[bl] at r0 r1 r2 r3 r4 r5 r6;have fz:=D9.2.2.2.1.1;have fo:=D9.2.2.2.2.2.1.1;have zo:=D9.2.2.2.2.2.2.2;go_wp2;refine bodyPost_ret (v:=.tuple #[gv ⟨false,⟨true,0,0⟩,y,false,[]⟩ none 0,.bool false]) (by simp[results,Tryz.results27,go_sem,r0,r1,r2,r3,r4,r5,r6]) rfl ⟨?_,?_⟩
      ·rw[show al=false from Eal.out]
      ·exact aX D9.2.2.2.2.2.2.1 (by omega)):p:=h
theorem iV {p:Prop}(h:p:=by
 generalize hnn:(ae g||ae h)=nn;have Hnn:=aa hnn;clear hnn;have HNg:=aa (λw=>aW g ss gc w);have HNh:=aa (λw=>aW h st hc w);generalize ae g=ng at *;generalize ae h=nh at *;go_enter Tryz.func27,Tryz.ntmps27
 go_upto_region 1 with fail
 go_cut [8] (λt wy=>∃ob,t=.pointer (some ⟨ob,0,none⟩)/\DG w g ss gc h st hc ob noneG wy)
 case first=>
  exact i6
 obtain⟨ob,rfl,D1⟩:=hcut;obtain⟨⟨g0,g1,g2,g3,g4,g5,g6⟩,gz⟩:=id D1.1;simp only[Nat.zero_add] at g0 g1 g2 g3 g4 g5 g6;obtain⟨⟨k0,k1,k2,k3,k4,k5,k6⟩,kz⟩:=id D1.2.1;simp only[Nat.zero_add] at k0 k1 k2 k3 k4 k5 k6;have fz:=D1.2.2.2.1.1;have fo:=D1.2.2.2.2.2.1.1;have zo:=D1.2.2.2.2.2.2.2
 go_upto_region 2 with fail
 go_cut [27] (λt wy=>t=.bool nn/\DG w g ss gc h st hc ob noneG wy)
 case first=>
  go_wp2_with (go_at_call 28;fail);refine(HNg.out _).mono ?_;rintro e w2 ⟨rfl,hb2⟩;have D2:=D1.call hb2;clear g0 g1 g2 g3 g4 g5 g6 gz k0 k1 k2 k3 k4 k5 k6 kz fz fo;cases ng with
  |true=>
   go_wp2_with fail;go_meet;exact⟨by rw[<-Hnn.out];first|done|rfl|simp,D2⟩
  |false=>
   obtain⟨⟨k0,k1,k2,k3,k4,k5,k6⟩,kz⟩:=id D2.2.1;simp only[Nat.zero_add] at k0 k1 k2 k3 k4 k5 k6;have fz:=D2.2.2.2.1.1;have fo:=D2.2.2.2.2.2.1.1;have zo2:=D2.2.2.2.2.2.2.2;go_wp2_with (go_at_call 28;fail);refine(HNh.out _).mono ?_;rintro e w3 ⟨rfl,hb3⟩;have D3:=D2.call hb3;go_wp2_with fail;go_meet;exact⟨by rw[<-Hnn.out];first|done|rfl|simp,D3⟩
 obtain⟨rfl,D2⟩:=hcut;clear g0 g1 g2 g3 g4 g5 g6 gz k0 k1 k2 k3 k4 k5 k6 kz fz fo zo D1 HNg HNh Hnn;cases nn with
 |true=>
  obtain⟨⟨g0,g1,g2,g3,g4,g5,g6⟩,gz⟩:=id D2.1;simp only[Nat.zero_add] at g0 g1 g2 g3 g4 g5 g6;obtain⟨⟨r0,r1,r2,r3,r4,r5,r6⟩,rz⟩:=id D2.2.2.1;simp only[Nat.zero_add] at r0 r1 r2 r3 r4 r5 r6;obtain⟨⟨o0,o1,o2,o3,o4,o5,o6⟩,oz⟩:=id D2.2.2.2.2.1;simp only[Nat.zero_add] at o0 o1 o2 o3 o4 o5 o6;simp only[bl] at r0 r1 r2 r3 r4 r5 r6;have fz:=D2.2.2.2.1.1;have fo:=D2.2.2.2.2.2.1.1;have zo:=D2.2.2.2.2.2.2.2;simp only[noneG] at o0 o1 o2 o3 o4 o5 o6;go_wp2;refine bodyPost_ret (v:=.tuple #[gv noneG none 0,.bool false]) (by simp[results,Tryz.results27,go_sem,r0,r1,r2,r3,r4,r5,r6,noneG]) rfl ⟨?_,?_⟩
  ·rfl
  ·exact aX D2.2.2.2.2.2.2.1 (by omega)
 |false=>
  obtain⟨⟨g0,g1,g2,g3,g4,g5,g6⟩,gz⟩:=id D2.1;simp only[Nat.zero_add] at g0 g1 g2 g3 g4 g5 g6;obtain⟨⟨k0,k1,k2,k3,k4,k5,k6⟩,kz⟩:=id D2.2.1;simp only[Nat.zero_add] at k0 k1 k2 k3 k4 k5 k6;have fz:=D2.2.2.2.1.1;have fo:=D2.2.2.2.2.2.1.1;have zo:=D2.2.2.2.2.2.2.2
  go_upto_region 25 with fail
  go_cut [159] (λt wy=>DG w g ss gc h st hc ob ⟨false,sp,false,false,[]⟩ wy)
  case first=>
   go_wp2_with (go_at_call 63;fail);refine(HD.out _).mono ?_;rintro e w3 ⟨rfl,hb3⟩;have D3:=D2.call hb3;clear hb3 D2 g0 g1 g2 g3 g4 g5 g6 gz k0 k1 k2 k3 k4 k5 k6 kz fz fo zo;obtain⟨⟨o0,o1,o2,o3,o4,o5,o6⟩,oz⟩:=id D3.2.2.2.2.1;simp only[Nat.zero_add] at o0 o1 o2 o3 o4 o5 o6;have fz:=D3.2.2.2.1.1;have fo:=D3.2.2.2.2.2.1.1;have zo:=D3.2.2.2.2.2.2.2;simp only[noneG] at o0 o1 o2 o3 o4 o5 o6;go_wp2_with fail;go_meet;exact D3.sp
  have D3:=hcut;clear D2 g0 g1 g2 g3 g4 g5 g6 gz k0 k1 k2 k3 k4 k5 k6 kz fz fo zo hcut;generalize ho:(⟨false,sp,false,false,[]⟩:Gs)=o at D3;have HO:Hid (Ending.returned (.tuple #[gv o none 0,.bool wr])=Ending.returned (.tuple #[gv ⟨false,sp,false,false,[]⟩ none 0,.bool wr])):=by show _=_;rw[<-ho]
  clear ho;go_wp2_with fail;generalize wc=w3 at *;have KS:∀wx,DG w g ss gc h st hc ob o wx->lI w.heap.size ob g ss gc h st hc o wx:=λwx a=>⟨by simpa using a.1.1,by simpa using a.2.1.1,by simpa using a.2.2.2.2.1.1⟩;have KSp:∀wx,DG w g ss gc h st hc ob o wx->lI w.heap.size ob g ss gc h st hc o (Go.Proofs.YtmapdpcfanecdabGreat.fA wx (w.heap.size+1+1) (.bool o.n) (.bool o.sp.n) (.int .i64 o.sp.lo) (.int .i64 o.sp.hi) (.bool o.t) (.bool o.f) (.slice none o.s.length 0)):=λwx a=>⟨by simpa using(GuAt.put7 a.1 (by omega)).1,by simpa using(GuAt.put7 a.2.1 (by omega)).1,by simpa using(GuAt.put7 a.2.2.2.2.1 (by have:=a.2.2.2.2.2.2.2;omega)).1⟩
  have D4:=D3.drew;refine wp_region_held_drew (S:=lI w.heap.size ob g ss gc h st hc o) (by kernel_rfl) (KS _ D4) (λhHeld=> ?_);unfold lI at hHeld KS KSp |-;clear D3;generalize w3.drew=w4 at *;refine vH 0 ?_ ?_;refine vH 1 ?_ ?_;refine wpAnyH_ready (rs:=[2]) (by kernel_rfl) (by simp) ?_;refine AllReadyH.cons rfl (λK hK=> ?_) AllReadyH.nil;go_simp;refine(HOg.out _).mono ?_;rintro e w5 ⟨rfl,hb5⟩;have D5:=D4.call hb5;refine hK.out _ _ (KS _ D5) (λhHeld5=> ?_);clear hK K hb5 D4;refine sm ?_;cases og with
  |true=>
   have ewr:wr=true:=by rw[HWr.out];rfl
   subst ewr;refine vH 3 ?_ ?_;refine uH 4 ?_;refine sm ?_;refine uH 5 ?_;refine sm ?_;refine vH 6 ?_ ?_;obtain⟨⟨r0,r1,r2,r3,r4,r5,r6⟩,rz⟩:=id D5.2.2.1;simp only[Nat.zero_add] at r0 r1 r2 r3 r4 r5 r6;simp only[bl] at r0 r1 r2 r3 r4 r5 r6;have fz:=D5.2.2.2.1.1;have zo:=D5.2.2.2.2.2.2.2;refine wpAnyH_ready (rs:=[7]) (by kernel_rfl) (by simp) ?_;refine AllReadyH.cons rfl (λK hK=> ?_) AllReadyH.nil;go_simp;refine hK.out _ (Go.Proofs.YtmapdpcfanecdabGreat.fA w5 (w.heap.size+1+1) (.bool o.n) (.bool o.sp.n) (.int .i64 o.sp.lo) (.int .i64 o.sp.hi) (.bool o.t) (.bool o.f) (.slice none o.s.length 0)) (KSp _ D5) (λhHeldz=> ?_);clear hK K;refine sm ?_;refine vH 8 ?_ ?_;refine wpAnyH_done (by kernel_rfl) ?_ _;go_wp2;refine bodyPost_ret (v:=.tuple #[gv o none 0,.bool true]) (by simp[results,Tryz.results27,go_sem,Go.Proofs.YtmapdpcfanecdabGreat.fA,r0,r1,r2,r3,r4,r5,r6]) rfl ⟨HO.out,?_⟩;exact aX D5.2.2.2.2.2.2.1 (by omega)
  |false=>
   have ewr:wr=oh:=by rw[HWr.out];rfl
   subst ewr;refine vH 3 ?_ ?_;refine vH 4 ?_ ?_;refine wpAnyH_ready (rs:=[5]) (by kernel_rfl) (by simp) ?_;refine AllReadyH.cons rfl (λK hK=> ?_) AllReadyH.nil;go_simp;refine(HOh.out _).mono ?_;rintro e w6 ⟨rfl,hb6⟩;have D6:=D5.call hb6;refine hK.out _ _ (KS _ D6) (λhHeld6=> ?_);clear hK K hb6 D5;refine sm ?_;refine vH 6 ?_ ?_;obtain⟨⟨r0,r1,r2,r3,r4,r5,r6⟩,rz⟩:=id D6.2.2.1;simp only[Nat.zero_add] at r0 r1 r2 r3 r4 r5 r6;simp only[bl] at r0 r1 r2 r3 r4 r5 r6;have fz:=D6.2.2.2.1.1;have zo:=D6.2.2.2.2.2.2.2;refine wpAnyH_ready (rs:=[7]) (by kernel_rfl) (by simp) ?_;refine AllReadyH.cons rfl (λK hK=> ?_) AllReadyH.nil;go_simp;refine hK.out _ (Go.Proofs.YtmapdpcfanecdabGreat.fA w6 (w.heap.size+1+1) (.bool o.n) (.bool o.sp.n) (.int .i64 o.sp.lo) (.int .i64 o.sp.hi) (.bool o.t) (.bool o.f) (.slice none o.s.length 0)) (KSp _ D6) (λhHeldz=> ?_);clear hK K;refine sm ?_;refine vH 8 ?_ ?_;refine wpAnyH_done (by kernel_rfl) ?_ _;go_wp2;refine bodyPost_ret (v:=.tuple #[gv o none 0,.bool wr]) (by simp[results,Tryz.results27,go_sem,Go.Proofs.YtmapdpcfanecdabGreat.fA,r0,r1,r2,r3,r4,r5,r6]) rfl ⟨HO.out,?_⟩;exact aX D6.2.2.2.2.2.2.1 (by omega)):p:=h
theorem DL (w:World)(g:Gs)(ss:oA)(gc:Nat)(h:Gs)(st:oA)(hc:Nat):
  Calls pG 27 #[I Y 10,gv g ss gc,gv h st hc] w λe w'=>e=Rt (if ae g=true then Tu #[gv noneG nO 0,Bb false] else Tu #[gv ⟨false,⟨true,0,0⟩,b9 g,bI g,[]⟩ nO 0,Bb false])/\Below w.heap.size w w':=by
 have HT:=aa (λw=>iD g ss gc w);generalize bI g=yy at *;generalize b9 g=no at *;generalize hnn:ae g=nn;have Hnn:=aa hnn;clear hnn;have HNg:=aa (λw=>aW g ss gc w);have HNh:=aa (λw=>aW h st hc w);generalize ae g=ng at *;generalize ae h=nh at *;go_enter Tryz.func27,Tryz.ntmps27
 go_upto_region 1 with fail
 go_cut [8] (λt wy=>∃ob,t=Pp (sO ⟨ob,0,nO⟩)/\DG w g ss gc h st hc ob noneG wy)
 case first=>
  go_wp2_with (go_at_call 21;fail);refine(cG _).mono ?_;rintro e w1 ⟨rfl,hb1⟩;have D1:=gS hb1;go_wp2_with fail;go_meet;refine⟨w1.heap.size,rfl,?_⟩;exact D1
 obtain⟨ob,rfl,D1⟩:=hcut;obtain⟨⟨g0,g1,g2,g3,g4,g5,g6⟩,gz⟩:=id D1.1;simp only[j0] at g0 g1 g2 g3 g4 g5 g6;obtain⟨⟨k0,k1,k2,k3,k4,k5,k6⟩,kz⟩:=id D1.2.1;simp only[j0] at k0 k1 k2 k3 k4 k5 k6;have fz:=D1.2.2.2.1.1;have fo:=D1.2.2.2.2.2.1.1;have zo:=D1.2.2.2.2.2.2.2
 go_upto_region 2 with fail
 go_cut [27] (λt wy=>t=Bb nn/\DG w g ss gc h st hc ob noneG wy)
 case first=>
  go_wp2_with (go_at_call 28;fail);refine(HNg.out _).mono ?_;rintro e w2 ⟨rfl,hb2⟩;have D2:=D1.call hb2;clear g0 g1 g2 g3 g4 g5 g6 gz k0 k1 k2 k3 k4 k5 k6 kz fz fo;cases ng with
  |true=>
   go_wp2_with fail;go_meet;exact⟨by rw[<-Hnn.out];first|done|rfl|simp,D2⟩
  |false=>
   go_wp2_with fail;go_meet;exact⟨by rw[<-Hnn.out];first|done|rfl|simp,D2⟩
 obtain⟨rfl,D2⟩:=hcut;clear g0 g1 g2 g3 g4 g5 g6 gz k0 k1 k2 k3 k4 k5 k6 kz fz fo zo D1 HNg HNh Hnn;cases nn with
 |true=>
  obtain⟨⟨g0,g1,g2,g3,g4,g5,g6⟩,gz⟩:=id D2.1;simp only[j0] at g0 g1 g2 g3 g4 g5 g6;obtain⟨⟨r0,r1,r2,r3,r4,r5,r6⟩,rz⟩:=id D2.2.2.1;simp only[j0] at r0 r1 r2 r3 r4 r5 r6;obtain⟨⟨o0,o1,o2,o3,o4,o5,o6⟩,oz⟩:=id D2.2.2.2.2.1;simp only[j0] at o0 o1 o2 o3 o4 o5 o6;simp only[bl] at r0 r1 r2 r3 r4 r5 r6;have fz:=D2.2.2.2.1.1;have fo:=D2.2.2.2.2.2.1.1;have zo:=D2.2.2.2.2.2.2.2;simp only[noneG] at o0 o1 o2 o3 o4 o5 o6;go_wp2;refine bodyPost_ret (v:=Tu #[gv noneG nO 0,Bb false]) (by simp[results,Tryz.results27,go_sem,r0,r1,r2,r3,r4,r5,r6,noneG]) rfl ⟨?_,?_⟩
  ·rfl
  ·exact aX D2.2.2.2.2.2.2.1 (by omega)
 |false=>
  obtain⟨⟨g0,g1,g2,g3,g4,g5,g6⟩,gz⟩:=id D2.1;simp only[j0] at g0 g1 g2 g3 g4 g5 g6;have fz:=D2.2.2.2.1.1;have fo:=D2.2.2.2.2.2.1.1;have zo:=D2.2.2.2.2.2.2.2;go_wp2_with (go_at_call 24;fail);refine(HT.out _).mono ?_;rintro e w3 ⟨rfl,hb3⟩;have D3:=D2.call hb3;clear hb3 D2 g0 g1 g2 g3 g4 g5 g6 gz fz fo zo;obtain⟨⟨r0,r1,r2,r3,r4,r5,r6⟩,rz⟩:=id D3.2.2.1;simp only[j0] at r0 r1 r2 r3 r4 r5 r6;obtain⟨⟨o0,o1,o2,o3,o4,o5,o6⟩,oz⟩:=id D3.2.2.2.2.1;simp only[j0] at o0 o1 o2 o3 o4 o5 o6;simp only[bl] at r0 r1 r2 r3 r4 r5 r6;have fz:=D3.2.2.2.1.1;have fo:=D3.2.2.2.2.2.1.1;have zo:=D3.2.2.2.2.2.2.2;simp only[noneG] at o0 o1 o2 o3 o4 o5 o6;have hne:ob≠w.heap.size+1+1:=by omega
  go_wp2;refine bodyPost_ret (v:=Tu #[gv ⟨false,⟨true,0,0⟩,no,yy,[]⟩ nO 0,Bb false]) (by simp[results,Tryz.results27,go_sem,r0,r1,r2,r3,r4,r5,r6]) rfl ⟨?_,?_⟩
  ·rfl
  ·exact aX ((D3.2.2.2.2.2.2.1.setCell (by simp;omega) _).setCell (by simp;omega) _) (by omega)
end
end Go.Proofs.YtmapdpcfanecdabGreat
