import Derived.Test.YtmapdpcfanecdabGreatS30
import Derived.Test.YtmapdpcfanecdabGreatS31
import Derived.Laws.EntriesVeiled
open Go.Ending renaming returned→Rt
open Go.Obj renaming cells→Cc
open Go.Proofs.Tryz renaming prog→pG
open Go.RowKit.Below renaming heap_setCell→hSe,refl→bR
open Go.Value renaming agg→Ag,bool→Bb,int→I,ownBlock→j2,pointer→Pp,slice→U,tuple→Tu
open Go.World renaming grownBy_alloc→j3,ownsRow_lit→z6,setCell→j4,size_alloc→zA
open Int renaming eq_ofNat_of_zero_le→q5
open List renaming foldl_append→x1,getElem?_append_right→x0,getElem?_set→j6,getElem_mem→gM,getElem_set_ne→z5,length→q6,length_append→q7,length_replicate→j8,length_set→q9,map_append→q8,replicate→j0,replicate_succ'→j5,take_of_length_le→z8,take_succ_eq_append_getElem→z7
open Nat renaming le_refl→lR,le_trans→lT,lt_of_lt_of_le→lL,zero_add→j7,zero_le→j1
open Option renaming none→nO,some→j9,some→sO
set_option linter.unusedSimpArgs false
set_option linter.unusedVariables false
set_option maxHeartbeats 32000000
set_option maxRecDepth 100000
namespace Go.Proofs.YtmapdpcfanecdabGreat
section
open Go.RowKit
attribute [local go_sem ↓] Go.wp_at_zero Go.wp_at_succ
theorem bq {V F:Int}{c:List Ins}(h:ag V F c=0):(1<=V/\V<=8)/\(0<=F/\F<=3)/\c.length<=60:=by
 unfold ag at h;split at h
 ·cases h
 ·rename_i h3
  split at h
  ·cases h
  ·rename_i h60
   simp[btw] at h3;exact⟨⟨by omega,by omega⟩,⟨by omega,by omega⟩,by omega⟩
theorem mQ (V F:Int)(s:oA)(c:List Ins)(cap:Nat)(x:Pic)(vs:oA)(vc:Nat)(fs:oA)(fc:Nat)(w:World)(hc:CodeAt w s c)(hP:PicAt w x vs fs)(h0:ag V F c=0):
  Calls pG 19 #[pv V F s c cap,xv x vs vc fs fc] w λe w'=>e=Rt (I .i64 (an V F c x))/\Below w.heap.size w w':=by
 obtain⟨⟨hV1,hV8⟩,⟨hF0,hF3⟩,h60⟩:=bq h0;obtain⟨n,vars,flds⟩:=x;cases n with
 |true=>exact mr V F s c cap vars flds vs vc fs fc w
 |false=>
  by_cases h1:(vars.length:Int)=V
  ·by_cases h2:flds.length=c.length
   ·by_cases h3:∃r∈flds,¬(r.length:Int)=F
    ·have e1:an V F c ⟨false,vars,flds⟩=1:=by
      unfold an bh;have:(flds.any λr=> !decide ((r.length:Int)=F))=true:=by
       obtain⟨r,hr,hne⟩:=h3;exact List.any_eq_true.2 ⟨r,hr,by simpa using hne⟩
      simp[this]
     rw[e1];subst h1;exact na F s c cap vars flds vs vc fs fc w hP h60 h2 h3
    ·have hr:∀r∈flds,(r.length:Int)=F:=λr hr=>Decidable.not_not.1 λhne=>h3 ⟨r,hr,hne⟩
     obtain⟨f,rfl⟩:=q5 hF0;have hr':∀r∈flds,r.length=f:=λr h=>by have:=hr r h;omega
     have e1:an V f c ⟨false,vars,flds⟩=(if bm c (vars++flds.flatten)≠0 then bm c (vars++flds.flatten) else if bJ c (λg=> !ae g) 0 flds then 4 else 0):=by
      have:(flds.any λr=> !decide ((r.length:Int)=(f:Int)))=false:=by
       rw[List.any_eq_false];intro r h;simp[hr r h]
      unfold an bh bu;simp only[this,h1,h2,decide_true,Bool.not_false,Bool.and_true];rfl
     rw[e1];subst h1;exact mf f s c cap vars flds vs vc fs fc w hc hP h60 (by omega) (by omega) h2 hr'
   ·have e1:an V F c ⟨false,vars,flds⟩=1:=by
     unfold an bh;simp[h2]
    rw[e1];exact mc V F s c cap vars flds vs vc fs fc w h1 h2
  ·have e1:an V F c ⟨false,vars,flds⟩=1:=by
    unfold an bh;simp[h1]
   rw[e1];exact mq V F s c cap vars flds vs vc fs fc w h1

def XsAt (w:World)(ls:oA)(L:List Pic):Prop:=
 ∀i (h:i < L.length),∃b off,ls=sO ⟨b,off,nO⟩/\b < w.heap.size/\∃vs vc fs fc,(w.cell? ⟨b,off+i * 3,nO⟩=sO (Bb L[i].none)/\w.cell? ⟨b,off+i * 3+1,nO⟩=sO (U vs L[i].vars.length vc)/\w.cell? ⟨b,off+i * 3+2,nO⟩=sO (U fs L[i].flds.length fc))/\PicAt w L[i] vs fs/\(L[i].vars.length<=vc/\vc<=maxLen)/\(L[i].flds.length<=fc/\fc<=maxLen)
theorem XsAt.below {B:Nat}{w w':World}{ls:oA}{L:List Pic}(h:XsAt w ls L)(hb:Below B w w')(hB:w.heap.size<=B):XsAt w' ls L:=by
 intro i hi;obtain⟨b,off,e,hz,vs,vc,fs,fc,⟨h0,h1,h2⟩,hP,hQ⟩:=h i hi;exact⟨b,off,e,lL hz hb.size,vs,vc,fs,fc,⟨by rw[hb.cell (by simp only;omega)];exact h0,by rw[hb.cell (by simp only;omega)];exact h1,by rw[hb.cell (by simp only;omega)];exact h2⟩,hP.below hb hB,hQ⟩
theorem mz (V F:Int)(c:List Ins)(L:List Pic)(k:Nat)(h:k < L.length):bx V F c (L.drop k)=if an V F c L[k]=0 then bx V F c (L.drop (k+1)) else an V F c L[k]:=by
 rw[List.drop_eq_getElem_cons h];rfl

theorem mg (V F:Int)(s:oA)(c:List Ins)(cap:Nat)(ls:oA)(L:List Pic)(lc:Nat)(w:World)(hc:CodeAt w s c)(hL:XsAt w ls L)(hl:L.length<=9223372036854775807):
  Calls pG 6 #[pv V F s c cap,U ls L.length lc] w λe w'=>e=Rt (I .i64 (aq V F c L))/\Below w.heap.size w w':=by
 have P0:=PrAt.new w V F s c cap;have B0:Below w.heap.size w (w.alloc (Cc #[I .i64 V,I .i64 F,U s c.length cap] 24)):=by go_grown
 have C0:=hc.below B0 (lR _);have L0:=hL.below B0 (lR _);have HR:Hid (aq V F c L=if ag V F c=0 then bx V F c L else ag V F c):=rfl;clear hc hL;generalize aq V F c L=res at HR |-;go_enter Tryz.func6,Tryz.ntmps6;go_wp2_with (go_at_call 12;fail);refine(gV V F s cap c _ C0).mono ?_;rintro e w1 ⟨rfl,hb1⟩;have P1:=P0.call hb1;have C1:=C0.call hb1;have L1:=L0.below hb1 (lR _);have B1:Below w.heap.size w w1:=B0.trans (hb1.mono (by simp));clear hb1 P0 C0 L0 B0;have H60:Hid (ag V F c=0->ag V F c=0):=λh=>h;have HR:Hid (∀ce,ce=ag V F c->res=if ce=0 then bx V F c L else ce):=λce h=>by rw[h];exact HR.out
 have H0:Hid (∀ce,ce=ag V F c->ce=0->ag V F c=0):=λce h e=>by rw[<-h];exact e
 generalize hcp:ag V F c=cp at *;have HR1:=aa (HR.out cp rfl);have H01:Hid (cp=0->ag V F c=0):=λe=>by rw[hcp];exact e
 clear HR H0 H60 hcp;go_wp2;go_loopw [5,6] (λe i wr=>∃(k:Nat) (ce:Int),k<=L.length/\i=I .i64 k/\e=I .i64 ce/\PrAt wr w.heap.size V F s c cap/\CodeAt wr s c/\XsAt wr ls L/\Below w.heap.size w wr/\Hid (res=if ce=0 then bx V F c (L.drop k) else ce)/\Hid (ce=0->ag V F c=0)) (λ_ i _=>L.length - (intOf i).toNat)
 case atStart=>exact⟨0,cp,j1 _,rfl,rfl,P1,C1,L1,B1,HR1,H01⟩
 case round=>
  obtain⟨k,ce,hk,rfl,rfl,PR,CR,LR,BR,HK,HL⟩:=hrel;clear P1 C1 L1 B1 HR1 H01;by_cases hlt:k < L.length
  ·have n1:(k:Int) < (L.length:Int):=by omega
   by_cases hz:ce=0
   ·subst hz
    have HH0:=aa (HL.out rfl);have HS:=aa (mz V F c L k hlt);have HK0:Hid (res=bx V F c (L.drop k)):=by show _=_;rw[HK.out,if_pos rfl]
    clear HK HL;obtain⟨b,off,rfl,zb,vs,vc,fs,fc,⟨g0,g1,g2⟩,hP,-⟩:=LR k hlt;have n0:(0:Int)<=(k:Int):=by omega
    have HKZ:Hid (∀wx,Below wr.heap.size wr wx->(wx.cell? ⟨w.heap.size,0,nO⟩=sO (I .i64 V)/\wx.cell? ⟨w.heap.size,1,nO⟩=sO (I .i64 F)/\wx.cell? ⟨w.heap.size,2,nO⟩=sO (U s c.length cap))/\(wx.cell? ⟨b,off+k * 3,nO⟩=sO (Bb L[k].none)/\wx.cell? ⟨b,off+k * 3+1,nO⟩=sO (U vs L[k].vars.length vc)/\wx.cell? ⟨b,off+k * 3+2,nO⟩=sO (U fs L[k].flds.length fc))):=λwx hx=>⟨(PR.call hx).1,by rw[hx.cell (by simp only;exact zb)];exact g0,by rw[hx.cell (by simp only;exact zb)];exact g1,by rw[hx.cell (by simp only;exact zb)];exact g2⟩;have HD:Below wr.heap.size wr wr.drew:=(bR _ _).drew;clear g0 g1 g2;go_wp2;refine am (S:=(λwx=>(wx.cell? ⟨w.heap.size,0,nO⟩=sO (I .i64 V)/\wx.cell? ⟨w.heap.size,1,nO⟩=sO (I .i64 F)/\wx.cell? ⟨w.heap.size,2,nO⟩=sO (U s c.length cap))/\(wx.cell? ⟨b,off+k * 3,nO⟩=sO (Bb L[k].none)/\wx.cell? ⟨b,off+k * 3+1,nO⟩=sO (U vs L[k].vars.length vc)/\wx.cell? ⟨b,off+k * 3+2,nO⟩=sO (U fs L[k].flds.length fc)))) [] (by kernel_rfl) (HKZ.out _ HD) (λhHeld=> ?_);refine vZ 0 ?_ ?_;refine vZ 1 ?_ ?_;refine vZ 2 ?_ ?_;refine vZ 3 ?_ ?_;refine vZ 4 ?_ ?_;refine ai (i:=5) rfl (by kernel_rfl) (λK hK=> ?_);go_simp;go_at_call 19;refine(mQ V F s c cap L[k] vs vc fs fc _ (CR.call HD) (hP.call HD) HH0.out).mono ?_;rintro e w5 ⟨rfl,hb5⟩;have HB:Below wr.heap.size wr w5:=HD.trans (hb5.mono HD.size);go_wp2_with fail;refine hK.out _ _ (HKZ.out _ HB) (λhHeld=> ?_);clear hK K;refine sm ?_;refine vZ 6 ?_ ?_;refine aj (by kernel_rfl) ?_ _;have P2:=PR.call HB;have C2:=CR.call HB;have L2:=LR.below HB (lR _);have B2:=BR.trans (HB.mono BR.size);clear hb5 PR CR LR BR HB HKZ hP;go_wp2;go_roundw
    case rel=>exact⟨k+1,an V F c L[k],by omega,by go_num,rfl,P2,C2,L2,B2,by show _=_;rw[HK0.out,HS.out],λ_=>HH0.out⟩
    case measure=>simp[intOf];omega
   ·have hz':(ce==0)=false:=by simpa using hz
    go_wp2;go_ret;exact⟨bd (by rw[HK.out,if_neg hz]),BR⟩
  ·go_wp2
   go_ret;refine⟨bd ?_,BR⟩;rw[HK.out,List.drop_eq_nil_of_le (by omega)];by_cases hz:ce=0
   ·rw[if_pos hz,hz];rfl
   ·rw[if_neg hz]
theorem uA (v f:Nat)(s:oA)(c:List Ins)(cap:Nat)(w:World)(hv8:v<=8)(hf3:f<=3)(h60:c.length<=60):
  Calls pG 40 #[pv (v:Int) (f:Int) s c cap] w λe w'=>Ck w.heap.size w' e (aQ (v:Int) (f:Int) c)/\Below w.heap.size w w':=by
 have efp:aQ (v:Int) (f:Int) c=⟨false,j0 v cc,j0 c.length (j0 f noneG)⟩:=by simp[aQ]
 rw[efp];clear efp;obtain⟨ti,hi,hz0,hz1,hz2⟩:=info_parts Tryz.info_guess;obtain⟨tk,hk,hx0,hx1,hx2⟩:=info_parts Tryz.info_row;have HN:Hid (∀wx,Calls pG 21 #[] wx λe w'=>e=Rt (Ag #[Bb false,Bb true,I .i64 0,I .i64 0,Bb false,Bb false,U nO 0 0])/\Below wx.heap.size wx w'):=λwx=>cG wx;have hb0:Below w.heap.size w (((w.alloc (Cc #[I .i64 (v:Int),I .i64 (f:Int),U s c.length cap] 24)).alloc (Cc #[Bb false,U nO 0 0,U nO 0 0] 28)).alloc (Cc #[Bb false,U nO 0 0,U nO 0 0] 28)):=by go_grown
 have P0:=(PrAt.new w (v:Int) (f:Int) s c cap).call (w':=(((w.alloc (Cc #[I .i64 (v:Int),I .i64 (f:Int),U s c.length cap] 24)).alloc (Cc #[Bb false,U nO 0 0,U nO 0 0] 28)).alloc (Cc #[Bb false,U nO 0 0,U nO 0 0] 28))) (by go_grown);have A0:=(X3.new (w.alloc (Cc #[I .i64 (v:Int),I .i64 (f:Int),U s c.length cap] 24)) 28 (Bb false) (U nO 0 0) (U nO 0 0)).call (w':=(((w.alloc (Cc #[I .i64 (v:Int),I .i64 (f:Int),U s c.length cap] 24)).alloc (Cc #[Bb false,U nO 0 0,U nO 0 0] 28)).alloc (Cc #[Bb false,U nO 0 0,U nO 0 0] 28))) (by go_grown);have Z0:=X3.new ((w.alloc (Cc #[I .i64 (v:Int),I .i64 (f:Int),U s c.length cap] 24)).alloc (Cc #[Bb false,U nO 0 0,U nO 0 0] 28)) 28 (Bb false) (U nO 0 0) (U nO 0 0);have z0:w.heap.size+1+1+1<=(((w.alloc (Cc #[I .i64 (v:Int),I .i64 (f:Int),U s c.length cap] 24)).alloc (Cc #[Bb false,U nO 0 0,U nO 0 0] 28)).alloc (Cc #[Bb false,U nO 0 0,U nO 0 0] 28)).heap.size:=by simp
 rw[zA] at A0;rw[zA,zA] at Z0;go_enter Tryz.func40,Tryz.ntmps40
 go_upto_region 2 with fail
 generalize (((w.alloc (Cc #[I .i64 (v:Int),I .i64 (f:Int),U s c.length cap] 24)).alloc (Cc #[Bb false,U nO 0 0,U nO 0 0] 28)).alloc (Cc #[Bb false,U nO 0 0,U nO 0 0] 28))=w1 at *;go_wp2;go_loopw [4] (λi wr=>∃(k:Nat) (vs:oA) (vc:Nat) (l:List Gc),k<=v/\i=I .i64 k/\PrAt wr w.heap.size (v:Int) (f:Int) s c cap/\X3 wr (w.heap.size+1) (Bb false) (U nO 0 0) (U nO 0 0)/\X3 wr (w.heap.size+1+1) (Bb false) (U vs l.length vc) (U nO 0 0)/\SRow wr (w.heap.size+1+1+1) (U vs l.length vc) l/\Hid (l.map Gc.g=j0 k cc)/\Below w.heap.size w wr/\w.heap.size+1+1+1<=wr.heap.size) (λi _=>v - (intOf i).toNat)
 case atStart=>exact⟨0,nO,0,[],j1 _,rfl,P0,A0,Z0,SRow.nil _ _,rfl,hb0,z0⟩
 case round=>
  obtain⟨k,vs,vc,l,hk1,rfl,PR,AR,ZR,SR,HL,BR,zr⟩:=hrel;clear P0 A0 Z0 hb0 z0;obtain⟨⟨p0,p1,p2⟩,pz⟩:=id PR;have LL:Hid (l.length=k):=by show _=_;have:=congrArg q6 HL.out;simpa using this
  by_cases hlt:k < v
  ·have n0:(0:Int)<=(k:Int):=by omega
   have n1:(k:Int) < (v:Int):=by omega
   go_wp2_with (go_at_call 21;fail);refine(HN.out _).mono ?_;rintro e w2 ⟨rfl,hb2⟩;clear p0 p1 p2 pz;have hb3:Below w2.heap.size w2 (w2.alloc (Cc #[Bb true,Bb true,I .i64 0,I .i64 0,Bb false,Bb false,U nO 0 0] 61)):=by go_grown
   have G3:GuAt (w2.alloc (Cc #[Bb true,Bb true,I .i64 0,I .i64 0,Bb false,Bb false,U nO 0 0] 61)) w2.heap.size 0 cc nO 0:=GuAt.new w2 cc nO 0;have hbz:=hb2.trans (hb3.mono hb2.size)
   go_upto_region 7 with fail
   generalize w2.alloc (Cc #[Bb true,Bb true,I .i64 0,I .i64 0,Bb false,Bb false,U nO 0 0] 61)=w3 at *;generalize w2.heap.size=gb at *;have P3:=PR.call hbz;have A3:=AR.call hbz;have Z3:=ZR.call hbz;have S3:=SR.call hbz;have B3:=BR.trans (hbz.mono BR.size);have z3:w.heap.size+1+1+1<=w3.heap.size:=lT zr hbz.size;clear PR AR ZR SR BR zr hbz hb2 hb3;obtain⟨⟨y0,y1,y2⟩,yz,yf⟩:=id Z3;obtain⟨⟨g0,g1,g2,g3,g4,g5,g6⟩,gz⟩:=id G3;simp only[cc,List.length_nil,j7] at g0 g1 g2 g3 g4 g5 g6;have S4:=S3.call (w':=w3.alloc (Cc #[Bb true,Bb true,I .i64 0,I .i64 0,Bb false,Bb false,U nO 0 0] 61)) (by go_grown);go_wp2_with (at_builtin;refine aY _ rfl _ _ 25 rfl (w.heap.size+1+1+1) 61 ti (Ag #[Bb false,Bb false,I .i64 0,I .i64 0,Bb false,Bb false,U nO 0 0]) 7 64 Tryz.underlying25 hi hz0 hz1 hz2 rfl (by decide) _ _ _ rfl S4.1 (sO ⟨w3.heap.size,0,nO⟩) 1 1 (ba ⟨cc,nO,0⟩) rfl rfl (λh=>by cases h) ?qa2 (cM _) ?qa4 ?qa5 ?qa6 ?_)
   (try (case qa2=>exact iw w3 ⟨cc,nO,0⟩ #[Bb true,Bb true,I .i64 0,I .i64 0,Bb false,Bb false,U nO 0 0] _ rfl))
   case qa4=>unfold maxLen;have:=LL.out;omega
   case qa5=>have:=LL.out;omega
   (try (case qa6=>first|omega|(rw[zA];omega)|(simp;omega)|simp))
   intro v' w4 hown hgrow hat;have S5:=S4.grown (x:=⟨cc,nO,0⟩) ⟨.inl rfl,lR _,by unfold maxLen;simp⟩ hown hgrow (by rw[zA];exact hat);have hb4:Below (w.heap.size+1+1+1) w3 w4:=((bR _ w3).alloc z3 _).grown hgrow (by simp;omega) (λk hk=>(aC S4.1 hk).2);obtain⟨vs',vc',rfl,-,-,-⟩:=S5.in;clear hown hgrow hat S4 S3 y0 y1 y2 yz yf g0 g1 g2 g3 g4 g5 g6 gz G3;have P4:PrAt w4 w.heap.size (v:Int) (f:Int) s c cap:=P3.low hb4 (by omega);have A4:X3 w4 (w.heap.size+1) (Bb false) (U nO 0 0) (U nO 0 0):=A3.same (hb4.block _ (by omega)) hb4.size;have Z4:X3 w4 (w.heap.size+1+1) (Bb false) (U vs l.length vc) (U nO 0 0):=Z3.same (hb4.block _ (by omega)) hb4.size;have B4:=B3.trans (hb4.mono (by omega));have z4:w.heap.size+1+1+1<=w4.heap.size:=lT z3 hb4.size;clear P3 A3 Z3 B3 z3 hb4;obtain⟨⟨y0,y1,y2⟩,yz,yf⟩:=id Z4;have yf1:=yf 1;clear yf;go_wp2;go_roundw
   case rel=>exact⟨k+1,vs',vc',l++[⟨cc,nO,0⟩],by omega,by go_num,P4.far (by simp only;omega) _,A4.far (by simp only;omega) _,by rw[q7];exact Z4.put1 _,S5.old (l9 (by simp only;omega) _).1 (l9 (by simp only;omega) _).2 (B:=w.heap.size+1+1+1),by show _=_;rw[q8,HL.out,j5];rfl,B4.setCell (by simp only;omega) _,by simpa[j4] using z4⟩
   case measure=>simp[intOf];omega
  ·have n1:¬(k:Int) < (v:Int):=by omega
   have ek:k=v:=by omega
   obtain⟨vs0,vc0,e0,hk0,hk00,GV0⟩:=SR.in;cases e0;have LV:Hid (l.length=v):=by show _=_;rw[LL.out,ek]
   rw[HL.out,ek] at GV0;have GV:GsIn (λb=>w.heap.size+1+1+1<=b/\b < wr.heap.size) wr vs (j0 v cc):=GV0.mono λb h1 h2=>⟨h1,h2⟩;have HVC:Hid (l.length<=vc/\vc<=maxLen):=⟨hk0,hk00⟩;clear GV0 SR LL HL hk0 hk00;have zn:w.heap.size+1+1+1<=wr.heap.size:=zr;generalize hN:wr.heap.size=N at *;have HNN:=aa hN;clear hN;go_wp2;clear p0 p1 p2 pz;go_loopw [6] (λi wx=>∃(k:Nat) (fs:oA) (fc:Nat) (L:List Rw),k<=c.length/\i=I .i64 k/\PrAt wx w.heap.size (v:Int) (f:Int) s c cap/\X3 wx (w.heap.size+1) (Bb false) (U nO 0 0) (U nO 0 0)/\X3 wx (w.heap.size+1+1) (Bb false) (U vs l.length vc) (U fs L.length fc)/\FRow wx N (U fs L.length fc) L/\Hid (L.map Rw.l=j0 k (j0 f noneG))/\GsIn (λb=>w.heap.size+1+1+1<=b/\b < N) wx vs (j0 v cc)/\Below w.heap.size w wx/\N<=wx.heap.size) (λi _=>c.length - (intOf i).toNat)
   case atStart=>exact⟨0,nO,0,[],j1 _,rfl,PR,AR,ZR,FRow.nil _ _,rfl,GV,BR,by rw[HNN.out];exact lR _⟩
   case round=>
    clear PR AR ZR GV BR zr HNN;obtain⟨k2,fs,fc,L,hk2,rfl,PR,AR,ZR,FR,HL,GV,BR,zr⟩:=hrel;generalize wr=w6 at *;clear wr;have LL:Hid (L.length=k2):=by show _=_;have:=congrArg q6 HL.out;simpa using this
    obtain⟨⟨p0,p1,p2⟩,pz⟩:=id PR;by_cases hlt2:k2 < c.length
    ·have n2:(k2:Int) < (c.length:Int):=by omega
     go_wp2;clear p0 p1 p2 pz;go_loopw [7,8] (λr j wo=>∃(m:Nat) (rs:oA) (rc:Nat) (lr:List Gc),m<=f/\r=U rs lr.length rc/\j=I .i64 m/\Below w6.heap.size w6 wo/\SRow wo w6.heap.size (U rs lr.length rc) lr/\Hid (lr.map Gc.g=j0 m noneG)) (λ_ j _=>f - (intOf j).toNat)
     case atStart=>exact⟨0,nO,0,[],j1 _,rfl,rfl,bR _ _,SRow.nil _ _,rfl⟩
     case round=>
      obtain⟨m,rs,rc,lr,hm,rfl,rfl,hbo,SR,HM⟩:=hrel;have LM:Hid (lr.length=m):=by show _=_;have:=congrArg q6 HM.out;simpa using this
      obtain⟨⟨p0,p1,p2⟩,pz⟩:=id (PR.call hbo);by_cases hltm:m < f
      ·have m1:(m:Int) < (f:Int):=by omega
       go_wp2_with (go_at_call 21;fail);refine(HN.out _).mono ?_;rintro e w7 ⟨rfl,hb7⟩;clear p0 p1 p2 pz;have S7:=(SR.call hb7).call (w':=w7.alloc (Cc #[Bb false,Bb true,I .i64 0,I .i64 0,Bb false,Bb false,U nO 0 0] 61)) (by go_grown);have hb67:=hbo.trans (hb7.mono hbo.size);have z67:w6.heap.size<=w7.heap.size:=hb67.size;go_wp2_with (at_builtin;refine aY _ rfl _ _ 25 rfl w6.heap.size 61 ti (Ag #[Bb false,Bb false,I .i64 0,I .i64 0,Bb false,Bb false,U nO 0 0]) 7 64 Tryz.underlying25 hi hz0 hz1 hz2 rfl (by decide) _ _ _ rfl S7.1 (sO ⟨w7.heap.size,0,nO⟩) 1 1 (ba ⟨noneG,nO,0⟩) rfl rfl (λh=>by cases h) ?qb2 (cM _) ?qb4 ?qb5 ?qb6 ?_)
       (try (case qb2=>exact iw w7 ⟨noneG,nO,0⟩ #[Bb false,Bb true,I .i64 0,I .i64 0,Bb false,Bb false,U nO 0 0] _ rfl))
       case qb4=>unfold maxLen;have:=LM.out;omega
       case qb5=>have:=LM.out;omega
       (try (case qb6=>first|omega|(rw[zA];omega)|(simp;omega)|simp))
       intro v' w8 hown hgrow hat;have S8:=S7.grown (x:=⟨noneG,nO,0⟩) ⟨.inl rfl,lR _,by unfold maxLen;simp⟩ hown hgrow (by rw[zA];exact hat);have hb8:Below w6.heap.size w6 w8:=(hb67.alloc z67 _).grown hgrow (by simp;omega) (λk hk=>(aC S7.1 hk).2);obtain⟨rs',rc',rfl,-,-,-⟩:=S8.in;clear hown hgrow hat S7 SR hb7 hbo hb67;go_wp2;go_roundw
       case rel=>exact⟨m+1,rs',rc',lr++[⟨noneG,nO,0⟩],by omega,by first|rfl|(rw[q7];rfl),by go_num,hb8,S8,by show _=_;rw[q8,HM.out,j5];rfl⟩
       case measure=>simp[intOf];omega
      ·have m1:¬(m:Int) < (f:Int):=by omega
       have em:m=f:=by omega
       obtain⟨rs0,rc0,e0,hk0,hk00,GR⟩:=SR.in;cases e0;rw[HM.out,em] at GR;have HLF:Hid (lr.length=(j0 f noneG).length):=by show _=_;rw[LM.out,em,j8]
       have A9:=AR.call hbo;have Z9:=ZR.call hbo;have F9:=FR.call hbo;have P9:=PR.call hbo;have V9:=GV.call hbo;have B9:=BR.trans (hbo.mono BR.size);have z9:N<=wr.heap.size:=lT zr hbo.size;have RX:lO (λb=>N<=b/\(Value.slice fs L.length fc).ownBlock≠sO b) wr ⟨rs,rc,j0 f noneG⟩:=⟨GR.mono λb h1 _=>⟨lT zr h1,λe=>by have:=(aC FR.1 e).1;omega⟩,by rw[HLF.out] at hk0;exact hk0,hk00⟩
       clear AR ZR FR PR GV BR SR GR hbo zr hk0 hk00 em LM HM p0 p1 p2 pz;generalize wr=w9 at *;clear wr;obtain⟨⟨y0,y1,y2⟩,yz,yf⟩:=id Z9;obtain⟨⟨p0,p1,p2⟩,pz⟩:=id P9;have F10:=F9.call (w':=w9.alloc (Cc #[U rs lr.length rc] 25)) (by go_grown);have R10:lO (λb=>N<=b/\(Value.slice fs L.length fc).ownBlock≠sO b) (w9.alloc (Cc #[U rs lr.length rc] 25)) ⟨rs,rc,j0 f noneG⟩:=⟨RX.1.call (by go_grown),RX.2⟩;go_wp2_with (at_builtin;refine aY _ rfl _ _ 26 rfl N 25 tk (U nO 0 0) 1 24 Tryz.underlying26 hk hx0 hx1 hx2 rfl (by decide) _ _ _ rfl F10.1 (sO ⟨w9.heap.size,0,nO⟩) 1 1 [U rs lr.length rc] rfl rfl (λh=>by cases h) ?qc2 (by intro u hu;rw[List.mem_singleton.1 hu];rfl) ?qc4 ?qc5 ?qc6 ?_)
       (try (case qc2=>exact ny w9 _ _))
       case qc4=>unfold maxLen;have:=LL.out;omega
       case qc5=>have:=LL.out;omega
       (try (case qc6=>first|omega|(rw[zA];omega)|(simp;omega)|simp))
       intro v' w10 hown hgrow hat;rw[HLF.out] at hown;have F11:=F10.grown (x:=⟨rs,rc,j0 f noneG⟩) R10 hown hgrow (by rw[zA];exact hat);have hb10:Below N w9 w10:=((bR _ w9).alloc z9 _).grown hgrow (by simp;omega) (λk hk=>(aC F10.1 hk).2);obtain⟨fs',fc',rfl,-,-,-⟩:=F11.rows;clear hown hgrow hat F10 F9 R10 RX y0 y1 y2 yz yf p0 p1 p2 pz;have P4:PrAt w10 w.heap.size (v:Int) (f:Int) s c cap:=P9.low hb10 (by omega);have A4:X3 w10 (w.heap.size+1) (Bb false) (U nO 0 0) (U nO 0 0):=A9.same (hb10.block _ (by omega)) hb10.size;have Z4:X3 w10 (w.heap.size+1+1) (Bb false) (U vs l.length vc) (U fs L.length fc):=Z9.same (hb10.block _ (by omega)) hb10.size;have V4:GsIn (λb=>w.heap.size+1+1+1<=b/\b < N) w10 vs (j0 v cc):=V9.same (λb hS _=>hb10.block b hS.2) hb10.size;have B4:=B9.trans (hb10.mono (by omega));have z4:N<=w10.heap.size:=lT z9 hb10.size;clear P9 A9 Z9 V9 B9 z9 hb10;obtain⟨⟨y0,y1,y2⟩,yz,yf⟩:=id Z4;have yf2:=yf 2;clear yf;go_wp2;go_roundw
       case rel=>exact⟨k2+1,fs',fc',L++[⟨rs,rc,j0 f noneG⟩],by omega,by go_num,P4.far (by simp only;omega) _,A4.far (by simp only;omega) _,by rw[q7];exact Z4.put2 _,F11.old (l9 (by simp only;omega) _).1 (l9 (by simp only;omega) _).2 (B:=N),by show _=_;rw[q8,HL.out,j5];rfl,V4.same (λb hS _=>hSe _ _ _ _ (by simp only;omega)) (by simp[j4]),B4.setCell (by simp only;omega) _,by simpa[j4] using z4⟩
       case measure=>simp[intOf];omega
    ·have n2:¬(k2:Int) < (c.length:Int):=by omega
     have ek2:k2=c.length:=by omega
     have ELL:Hid (L.length=c.length):=by show _=_;rw[LL.out,ek2]
     have HFC:Hid (L.length<=fc/\fc<=maxLen):=by
      obtain⟨fs0,fc0,e0,hk0,hk00,-⟩:=FR.rows;cases e0;exact⟨hk0,hk00⟩
     have hch:∀b,b≠w.heap.size+1->(((w6.setCell ⟨w.heap.size+1,0,nO⟩ (Bb false)).setCell ⟨w.heap.size+1,1,nO⟩ (U vs l.length vc)).setCell ⟨w.heap.size+1,2,nO⟩ (U fs L.length fc)).heap[b]? =w6.heap[b]? :=λb hb=>by rw[hSe _ _ _ _ hb,hSe _ _ _ _ hb,hSe _ _ _ _ hb]
     have hcz:w6.heap.size<=(((w6.setCell ⟨w.heap.size+1,0,nO⟩ (Bb false)).setCell ⟨w.heap.size+1,1,nO⟩ (U vs l.length vc)).setCell ⟨w.heap.size+1,2,nO⟩ (U fs L.length fc)).heap.size:=by simp[j4]
     have FX:=FR.old (w':=(((w6.setCell ⟨w.heap.size+1,0,nO⟩ (Bb false)).setCell ⟨w.heap.size+1,1,nO⟩ (U vs l.length vc)).setCell ⟨w.heap.size+1,2,nO⟩ (U fs L.length fc))) (λb hb=>hch b (by omega)) hcz;have GX:=GV.same (w':=(((w6.setCell ⟨w.heap.size+1,0,nO⟩ (Bb false)).setCell ⟨w.heap.size+1,1,nO⟩ (U vs l.length vc)).setCell ⟨w.heap.size+1,2,nO⟩ (U fs L.length fc))) (λb hS _=>hch b (by omega)) hcz;have BX:Below w.heap.size w (((w6.setCell ⟨w.heap.size+1,0,nO⟩ (Bb false)).setCell ⟨w.heap.size+1,1,nO⟩ (U vs l.length vc)).setCell ⟨w.heap.size+1,2,nO⟩ (U fs L.length fc)):=((BR.setCell (by simp) _).setCell (by simp) _).setCell (by simp) _;have HFX:Hid (∀wz:World,(∀b,w.heap.size<=b->b < (((w6.setCell ⟨w.heap.size+1,0,nO⟩ (Bb false)).setCell ⟨w.heap.size+1,1,nO⟩ (U vs l.length vc)).setCell ⟨w.heap.size+1,2,nO⟩ (U fs L.length fc)).heap.size->wz.heap[b]? =(((w6.setCell ⟨w.heap.size+1,0,nO⟩ (Bb false)).setCell ⟨w.heap.size+1,1,nO⟩ (U vs l.length vc)).setCell ⟨w.heap.size+1,2,nO⟩ (U fs L.length fc)).heap[b]?)->(((w6.setCell ⟨w.heap.size+1,0,nO⟩ (Bb false)).setCell ⟨w.heap.size+1,1,nO⟩ (U vs l.length vc)).setCell ⟨w.heap.size+1,2,nO⟩ (U fs L.length fc)).heap.size<=wz.heap.size->GsAt wz vs (j0 v cc)/\RowsAt wz fs (j0 c.length (j0 f noneG))):=λwz hs hz=>by
      obtain⟨fs0,fc0,e0,hk0,hk00,RW0⟩:=(FX.olden (w':=wz) (λb hb hlt=>hs b (by omega) hlt) hz).rows;cases e0;rw[HL.out,ek2] at RW0;exact⟨(GX.same (λb hS hlt=>hs b (by have:=hS.1;omega) hlt) hz).at,RW0⟩
     obtain⟨⟨y0,y1,y2⟩,yz,yf⟩:=id ZR;obtain⟨⟨a0,a1,a2⟩,az,af⟩:=id AR;have f0:=af 0;have f1:=af 1;have f2:=af 2;clear af yf hch hcz FX GX;go_wp2;refine bodyPost_ret (v:=Ag #[Bb false,U vs l.length vc,U fs L.length fc]) (by simp[results,Tryz.results40,go_sem,a0,a1,a2]) rfl ⟨⟨vs,vc,fs,fc,?_,(λwz hs hz=>HFX.out wz hs hz),?_,?_⟩,BX⟩
     ·rw[LV.out,ELL.out]
      simp only[j8]
     ·simp only[j8]
      rw[<-LV.out];exact HVC.out
     ·simp only[j8]
      rw[<-ELL.out];exact HFC.out
end
section
open Go.RowKit
def cy (op:Sp->Sp->Sp)(g h:Gs):Gs:=⟨g.n||h.n,op g.sp h.sp,g.t||h.t,g.f||h.f,bW [g,h]⟩

theorem kH {V F:Int}{c:List Ins}{g h:Gs}(hk:aP V F c [g,h]=0):ag V F c=0/\ap c g=0/\ap c h=0:=by
 unfold aP at hk;split at hk
 ·rename_i hp
  simp only[bm] at hk;split at hk
  ·rename_i hg
   split at hk
   ·rename_i hh
    exact⟨hp,hg,hh⟩
   ·contradiction
  ·contradiction
 ·contradiction

theorem eE {V F:Int}{c:List Ins}{g h:Gs}(hk:aP V F c [g,h]=0):((∀x∈g.s,0<=x/\x < 60)/\bS g.s=true)/\((∀x∈h.s,0<=x/\x < 60)/\bS h.s=true):=by
 obtain⟨a,b,d⟩:=kH hk;have hl:c.length<=60:=by
  unfold ag at a;split at a
  ·contradiction
  ·split at a
   ·contradiction
   ·omega
 exact⟨cj hl b,cj hl d⟩

theorem Dx (V F:Int)(s:oA)(c:List Ins)(cap:Nat)(g:Gs)(ss:oA)(gc:Nat)(h:Gs)(st:oA)(hc:Nat)(w:World)(hcd:CodeAt w s c)(hs:IntsAt w ss g.s)(h1:g.s.length<=gc)(h2:gc<=maxLen)(ht:IntsAt w st h.s)(h3:h.s.length<=hc)(h4:hc<=maxLen):
  Calls pG 89 #[pv V F s c cap,gv g ss gc,gv h st hc] w λe w'=>e=Rt (Tu #[Bb (if aP V F c [g,h]=0 then bT g h else false),I .i64 (aP V F c [g,h])])/\Below w.heap.size w w':=by
 by_cases hck:aP V F c [g,h]=0
 ·refine(nH V F s c cap g ss gc h st hc w hcd hs h1 h2 ht h3 h4 hck).mono ?_
  rintro e w' ⟨rfl,hb⟩;exact⟨by rw[if_pos hck,hck],hb⟩
 ·refine(tU V F s c cap g ss gc h st hc w hcd hs h1 h2 ht h3 h4 hck).mono ?_
  rintro e w' ⟨rfl,hb⟩;exact⟨by rw[if_neg hck],hb⟩
end
section
open Go.RowKit
attribute [local go_sem ↓] Go.wp_at_zero Go.wp_at_succ
structure SCtx (V F:Int) (c:List Ins) (x:Pic) (vc fc:Nat) (i:Ins) (at_:Int):Prop where
 h0:ag V F c=0
 kx:PicOk V F c x
 hi:i=bM c at_
 a0:0<=at_
 a1:at_ < c.length
 cv:x.vars.length<=vc/\vc<=maxLen
 cf:x.flds.length<=fc/\fc<=maxLen
section
variable {V F:Int} {c:List Ins} {x:Pic} {vc fc:Nat} {i:Ins} {at_:Int}
theorem SCtx.one (K:SCtx V F c x vc fc i at_):aU V F c.length i=0:=by rw[K.hi];exact(cK K.h0).each _ (kV K.a0 K.a1)
theorem SCtx.lens (K:SCtx V F c x vc fc i at_):x.vars.length<=8/\c.length<=60/\x.flds.length=c.length/\0<=F/\F<=3/\0<=V:=by
 have hp:=cK K.h0;have:=hp.v1;have:=hp.v8;have:=hp.f0;have:=hp.f3;have:=hp.len;have:=K.kx.vars;have:=K.kx.flds;omega
theorem de {x:Pic}{k:Nat}(h:k < x.vars.length):gAt x (k:Int)=x.vars[k]:=by unfold gAt;simp[List.getD,List.getElem?_eq_getElem h]
theorem i8 {p:Prop}(h:p:=by
 have hv:=K.kx.vars;obtain⟨k,hk⟩:=Int.eq_ofNat_of_zero_le this.1;exact⟨k,hk,by omega⟩):p:=h
theorem SCtx.varA (K:SCtx V F c x vc fc i at_)(hA:nA i.k=true):∃k:Nat,i.a=k/\k < x.vars.length:=by
 have:=(bN K.one).2.2.1 hA;exact i8
theorem SCtx.varB (K:SCtx V F c x vc fc i at_)(hB:nB i.k=true):∃k:Nat,i.b=k/\k < x.vars.length:=by
 have:=(bN K.one).2.2.2.1 hB;exact i8
theorem SCtx.varTo (K:SCtx V F c x vc fc i at_)(hT:nTo i.k=true):∃k:Nat,i.tgt=k/\k < x.vars.length:=by
 have:=(bN K.one).2.1 hT;exact i8
theorem SCtx.uno (K:SCtx V F c x vc fc i at_){g:Gs}(hg:ap c g=0):aP V F c [g]=0:=by unfold aP;rw[if_pos K.h0];unfold bm;rw[if_pos hg];rfl
theorem SCtx.duo (K:SCtx V F c x vc fc i at_){g h:Gs}(hg:ap c g=0)(hh:ap c h=0):aP V F c [g,h]=0:=by unfold aP;rw[if_pos K.h0];unfold bm;rw[if_pos hg];unfold bm;rw[if_pos hh];rfl
end
theorem kk (sb:Nat)(i:Ins)(V F:Int)(s:oA)(c:List Ins)(cap:Nat)(at_:Int)(x:Pic)(vs:oA)(vc:Nat)(fs:oA)(fc:Nat)(ev:Value)(wr fl:Bool)(w:World)(hS:Cells w sb (aL i V F s c cap at_ x vs vc fs fc ev wr fl))(hc:CodeAt w s c)(hx:PicAt w x vs fs)(K:SCtx V F c x vc fc i at_)(hA:nA i.k=true):
  Calls pG 51 #[Pp (sO ⟨sb,0,nO⟩)] w λe w'=>e=Rt (Tu #[Bb (bI (gAt x i.a)),Bb (b9 (gAt x i.a))])/\Below w.heap.size w w':=by
 obtain⟨k,ek,hk⟩:=K.varA hA;have eg:gAt x i.a=x.vars[k]:=by rw[ek,de hk]
 rw[eg];have hgk:=K.kx.gv _ (gM hk);obtain⟨b1,o1,e1,ss1,g1,G1,I1,k1,m1⟩:=hx.1 k hk;subst e1;have n0:(0:Int)<=(k:Int):=by omega
 have n1:(k:Int) < (x.vars.length:Int):=by omega
 have HT:Hid (∀wx,Below w.heap.size w wx->Calls pG 88 #[pv V F s c cap,gv x.vars[k] ss1 g1] wx λe w'=>e=Rt (Tu #[Bb (bI x.vars[k]),Bb (b9 x.vars[k]),I .i64 0])/\Below wx.heap.size wx w'):=λwx hb=>yG V F s c cap x.vars[k] ss1 g1 wx (hc.call hb) (I1.call hb) k1 m1 (K.uno hgk);have HKZ:Hid (∀wx,Below w.heap.size w wx->(wx.cell? ⟨sb,6,nO⟩=sO (I .i64 V)/\wx.cell? ⟨sb,7,nO⟩=sO (I .i64 F)/\wx.cell? ⟨sb,8,nO⟩=sO (U s c.length cap))/\(wx.cell? ⟨sb,2,nO⟩=sO (I .i64 (k:Int))/\wx.cell? ⟨sb,11,nO⟩=sO (U (sO ⟨b1,o1,nO⟩) x.vars.length vc))/\(wx.cell? ⟨b1,o1+k * 7,nO⟩=sO (Bb x.vars[k].n)/\wx.cell? ⟨b1,o1+k * 7+1,nO⟩=sO (Bb x.vars[k].sp.n)/\wx.cell? ⟨b1,o1+k * 7+2,nO⟩=sO (I .i64 x.vars[k].sp.lo)/\wx.cell? ⟨b1,o1+k * 7+3,nO⟩=sO (I .i64 x.vars[k].sp.hi)/\wx.cell? ⟨b1,o1+k * 7+4,nO⟩=sO (Bb x.vars[k].t)/\wx.cell? ⟨b1,o1+k * 7+5,nO⟩=sO (Bb x.vars[k].f)/\wx.cell? ⟨b1,o1+k * 7+6,nO⟩=sO (U ss1 x.vars[k].s.length g1))):=λwx hb=>⟨⟨(hS.call hb).1 6 _ rfl,(hS.call hb).1 7 _ rfl,(hS.call hb).1 8 _ rfl⟩,⟨by rw[<-ek];exact(hS.call hb).1 2 _ rfl,(hS.call hb).1 11 _ rfl⟩,(G1.call hb).1⟩;clear hS hc hx eg ek hA;go_enter Tryz.func51,Tryz.ntmps51
 go_upto_region 1 with fail
 have B1:Below w.heap.size w w.drew:=(bR _ _).drew;refine wp_region_held_drew (S:=(λwx=>(wx.cell? ⟨sb,6,nO⟩=sO (I .i64 V)/\wx.cell? ⟨sb,7,nO⟩=sO (I .i64 F)/\wx.cell? ⟨sb,8,nO⟩=sO (U s c.length cap))/\(wx.cell? ⟨sb,2,nO⟩=sO (I .i64 (k:Int))/\wx.cell? ⟨sb,11,nO⟩=sO (U (sO ⟨b1,o1,nO⟩) x.vars.length vc))/\(wx.cell? ⟨b1,o1+k * 7,nO⟩=sO (Bb x.vars[k].n)/\wx.cell? ⟨b1,o1+k * 7+1,nO⟩=sO (Bb x.vars[k].sp.n)/\wx.cell? ⟨b1,o1+k * 7+2,nO⟩=sO (I .i64 x.vars[k].sp.lo)/\wx.cell? ⟨b1,o1+k * 7+3,nO⟩=sO (I .i64 x.vars[k].sp.hi)/\wx.cell? ⟨b1,o1+k * 7+4,nO⟩=sO (Bb x.vars[k].t)/\wx.cell? ⟨b1,o1+k * 7+5,nO⟩=sO (Bb x.vars[k].f)/\wx.cell? ⟨b1,o1+k * 7+6,nO⟩=sO (U ss1 x.vars[k].s.length g1)))) (by kernel_rfl) (HKZ.out _ B1) (λhHeld=> ?_);generalize w.drew=w1 at *;refine vH 0 ?_ ?_;refine vH 1 ?_ ?_;refine vH 2 ?_ ?_;refine vH 3 ?_ ?_;refine vH 4 ?_ ?_;refine vH 5 ?_ ?_;refine vH 6 ?_ ?_;refine vH 7 ?_ ?_;refine vH 8 ?_ ?_;refine vH 9 ?_ ?_;refine vH 10 ?_ ?_;refine vH 11 ?_ ?_;refine vH 12 ?_ ?_;refine vH 13 ?_ ?_;refine vH 14 ?_ ?_;refine vH 15 ?_ ?_;refine wpAnyH_ready (rs:=[16]) (by kernel_rfl) (by simp) ?_;refine AllReadyH.cons rfl (λK hK=> ?_) AllReadyH.nil;go_simp;refine(HT.out w1 B1).mono ?_;rintro e w2 ⟨rfl,hb2⟩;have B2:=B1.trans (hb2.mono (B1.size));refine hK.out _ _ (HKZ.out _ B2) (λhHeld2=> ?_);clear hK K hb2 B1;refine sm ?_;refine vH 17 ?_ ?_;refine vH 18 ?_ ?_;refine vH 19 ?_ ?_;refine vH 20 ?_ ?_;refine vH 21 ?_ ?_;refine vH 22 ?_ ?_;refine vH 23 ?_ ?_;refine wpAnyH_done (by kernel_rfl) ?_ _;go_wp2;refine bodyPost_ret (v:=Tu #[Bb (bI x.vars[k]),Bb (b9 x.vars[k])]) (by simp[results,Tryz.results51,go_sem]) rfl ⟨rfl,B2⟩
def ModS (sb:Nat)(w w':World):Prop:=Below sb w w'/\∀b,b < w.heap.size->b≠sb->w'.heap[b]? =w.heap[b]?
theorem ModS.of {sb:Nat}{w w':World}(h:Below w.heap.size w w')(hs:sb < w.heap.size):ModS sb w w':=⟨h.mono (Nat.le_of_lt hs),λb hb _=>h.block b hb⟩
theorem ModS.trans {sb:Nat}{w w1 w2:World}(h:ModS sb w w1)(h':ModS sb w1 w2):ModS sb w w2:=⟨h.1.trans h'.1,λb hb hne=>by rw[h'.2 b (lL hb h.1.size) hne,h.2 b hb hne]⟩
theorem ModS.put {sb:Nat}{w w1:World}(h:ModS sb w w1)(j:Nat)(u:Value):ModS sb w (w1.setCell ⟨sb,j,nO⟩ u):=⟨h.1.setCell (lR _) _,λb hb hne=>by rw[hSe _ _ _ _ hne];exact h.2 b hb hne⟩
theorem oy (sb:Nat)(i:Ins)(V F:Int)(s:oA)(c:List Ins)(cap:Nat)(at_:Int)(x:Pic)(vs:oA)(vc:Nat)(fs:oA)(fc:Nat)(ev:Value)(wr fl:Bool)(w0 w:World)(hS:Cells w sb (aL i V F s c cap at_ x vs vc fs fc ev wr fl))(hc0:CodeAt w0 s c)(hx0:PicAt w0 x vs fs)(hz0:w0.heap.size<=sb)(hB0:Below w0.heap.size w0 w)(K:SCtx V F c x vc fc i at_)(hA:nA i.k=true):
  Calls pG 80 #[Pp (sO ⟨sb,0,nO⟩)] w λe w'=>(∃ss gc,e=Rt (U ss (gAt x i.a).s.length gc)/\IntsAt w0 ss (gAt x i.a).s/\(gAt x i.a).s.length<=gc/\gc<=maxLen)/\Cells w' sb (aL i V F s c cap at_ x vs vc fs fc ev (bt (gAt x i.a)) fl)/\ModS sb w w':=by
 have hx:=hx0;obtain⟨k,ek,hk⟩:=K.varA hA;have eg:gAt x i.a=x.vars[k]:=by rw[ek,de hk]
 rw[eg];have hgk:=K.kx.gv _ (gM hk);obtain⟨b1,o1,e1,ss1,g1,G1,I1,k1,m1⟩:=hx.1 k hk;subst e1;have n0:(0:Int)<=(k:Int):=by omega
 have n1:(k:Int) < (x.vars.length:Int):=by omega
 have I0:=I1;have HKZ:Hid (∀wx,Below w.heap.size w wx->(wx.cell? ⟨sb,2,nO⟩=sO (I .i64 (k:Int))/\wx.cell? ⟨sb,11,nO⟩=sO (U (sO ⟨b1,o1,nO⟩) x.vars.length vc))/\(wx.cell? ⟨b1,o1+k * 7,nO⟩=sO (Bb x.vars[k].n)/\wx.cell? ⟨b1,o1+k * 7+1,nO⟩=sO (Bb x.vars[k].sp.n)/\wx.cell? ⟨b1,o1+k * 7+2,nO⟩=sO (I .i64 x.vars[k].sp.lo)/\wx.cell? ⟨b1,o1+k * 7+3,nO⟩=sO (I .i64 x.vars[k].sp.hi)/\wx.cell? ⟨b1,o1+k * 7+4,nO⟩=sO (Bb x.vars[k].t)/\wx.cell? ⟨b1,o1+k * 7+5,nO⟩=sO (Bb x.vars[k].f)/\wx.cell? ⟨b1,o1+k * 7+6,nO⟩=sO (U ss1 x.vars[k].s.length g1))):=λwx hb=>⟨⟨by rw[<-ek];exact(hS.call hb).1 2 _ rfl,(hS.call hb).1 11 _ rfl⟩,((G1.call hB0).call hb).1⟩;have HSS:=aa hS;clear hS hc0 hx hx0 eg ek hA hgk G1;go_enter Tryz.func80,Tryz.ntmps80
 go_upto_region 1 with fail
 go_cut [3] (λt3 wc=>∃ab,t3=Pp (sO ⟨ab,0,nO⟩)/\w.heap.size<=ab/\Cells wc ab [Bb x.vars[k].n,Bb x.vars[k].sp.n,I .i64 x.vars[k].sp.lo,I .i64 x.vars[k].sp.hi,Bb x.vars[k].t,Bb x.vars[k].f,U ss1 x.vars[k].s.length g1]/\Below w.heap.size w wc)
 case first=>
  rename_i J1 K1 hJ1 hK1;have B1:Below w.heap.size w w.drew:=(bR _ _).drew;refine wp_region_held_drew (S:=(λwx=>(wx.cell? ⟨sb,2,nO⟩=sO (I .i64 (k:Int))/\wx.cell? ⟨sb,11,nO⟩=sO (U (sO ⟨b1,o1,nO⟩) x.vars.length vc))/\(wx.cell? ⟨b1,o1+k * 7,nO⟩=sO (Bb x.vars[k].n)/\wx.cell? ⟨b1,o1+k * 7+1,nO⟩=sO (Bb x.vars[k].sp.n)/\wx.cell? ⟨b1,o1+k * 7+2,nO⟩=sO (I .i64 x.vars[k].sp.lo)/\wx.cell? ⟨b1,o1+k * 7+3,nO⟩=sO (I .i64 x.vars[k].sp.hi)/\wx.cell? ⟨b1,o1+k * 7+4,nO⟩=sO (Bb x.vars[k].t)/\wx.cell? ⟨b1,o1+k * 7+5,nO⟩=sO (Bb x.vars[k].f)/\wx.cell? ⟨b1,o1+k * 7+6,nO⟩=sO (U ss1 x.vars[k].s.length g1)))) (by kernel_rfl) (HKZ.out _ B1) (λhHeld=> ?_);generalize w.drew=w1 at *;refine vH 0 ?_ ?_;refine vH 1 ?_ ?_;refine vH 2 ?_ ?_;refine vH 3 ?_ ?_;refine vH 4 ?_ ?_;refine vH 5 ?_ ?_;refine vH 6 ?_ ?_;refine vH 7 ?_ ?_;refine vH 8 ?_ ?_;refine vH 9 ?_ ?_;refine vH 10 ?_ ?_;refine vH 11 ?_ ?_;refine wpAnyH_ready (rs:=[12]) (by kernel_rfl) (by simp) ?_;refine AllReadyH.cons rfl (λK hK=> ?_) AllReadyH.nil;go_simp;have hb2:Below w1.heap.size w1 (w1.alloc (Cc #[Bb false,Bb false,I .i64 0,I .i64 0,Bb false,Bb false,U nO 0 0] 61)):=by go_grown
  have B2:=B1.trans (hb2.mono (B1.size));have A2:Cells (w1.alloc (Cc #[Bb false,Bb false,I .i64 0,I .i64 0,Bb false,Bb false,U nO 0 0] 61)) w1.heap.size [Bb false,Bb false,I .i64 0,I .i64 0,Bb false,Bb false,U nO 0 0]:=Cells.new w1 61 [Bb false,Bb false,I .i64 0,I .i64 0,Bb false,Bb false,U nO 0 0];have zab:=B1.size;clear B1;refine hK.out _ _ (HKZ.out _ B2) (λhHeld2=> ?_);clear hK K hb2;refine sm ?_;generalize w1.alloc (Cc #[Bb false,Bb false,I .i64 0,I .i64 0,Bb false,Bb false,U nO 0 0] 61)=w2 at *;generalize w1.heap.size=ab at *;refine wpAnyH_ready (rs:=[13]) (by kernel_rfl) (by simp) ?_;refine AllReadyH.cons rfl (λK hK=> ?_) AllReadyH.nil;have r0:=A2.1 0 _ rfl;have r1:=A2.1 1 _ rfl;have r2:=A2.1 2 _ rfl;have r3:=A2.1 3 _ rfl;have r4:=A2.1 4 _ rfl;have r5:=A2.1 5 _ rfl;have r6:=A2.1 6 _ rfl;have f0:=A2.2.2 0;have f1:=A2.2.2 1;have f2:=A2.2.2 2;have f3:=A2.2.2 3;have f4:=A2.2.2 4;have f5:=A2.2.2 5;have f6:=A2.2.2 6;go_simp;have A3:Cells (((((((w2.setCell ⟨ab,0,nO⟩ (Bb x.vars[k].n)).setCell ⟨ab,1,nO⟩ (Bb x.vars[k].sp.n)).setCell ⟨ab,2,nO⟩ (I .i64 x.vars[k].sp.lo)).setCell ⟨ab,3,nO⟩ (I .i64 x.vars[k].sp.hi)).setCell ⟨ab,4,nO⟩ (Bb x.vars[k].t)).setCell ⟨ab,5,nO⟩ (Bb x.vars[k].f)).setCell ⟨ab,6,nO⟩ (U ss1 x.vars[k].s.length g1)) ab [Bb x.vars[k].n,Bb x.vars[k].sp.n,I .i64 x.vars[k].sp.lo,I .i64 x.vars[k].sp.hi,Bb x.vars[k].t,Bb x.vars[k].f,U ss1 x.vars[k].s.length g1]:=(((((((A2.put 0 (by simp) _).put 1 (by simp) _).put 2 (by simp) _).put 3 (by simp) _).put 4 (by simp) _).put 5 (by simp) _).put 6 (by simp) _);have B3:Below w.heap.size w (((((((w2.setCell ⟨ab,0,nO⟩ (Bb x.vars[k].n)).setCell ⟨ab,1,nO⟩ (Bb x.vars[k].sp.n)).setCell ⟨ab,2,nO⟩ (I .i64 x.vars[k].sp.lo)).setCell ⟨ab,3,nO⟩ (I .i64 x.vars[k].sp.hi)).setCell ⟨ab,4,nO⟩ (Bb x.vars[k].t)).setCell ⟨ab,5,nO⟩ (Bb x.vars[k].f)).setCell ⟨ab,6,nO⟩ (U ss1 x.vars[k].s.length g1)):=(((((((B2.setCell (by simp only;omega) _).setCell (by simp only;omega) _).setCell (by simp only;omega) _).setCell (by simp only;omega) _).setCell (by simp only;omega) _).setCell (by simp only;omega) _).setCell (by simp only;omega) _);refine hK.out _ _ (HKZ.out _ B3) (λhHeld3=> ?_);clear hK K r0 f0 r1 f1 r2 f2 r3 f3 r4 f4 r5 f5 r6 f6 A2 B2;refine sm ?_;generalize (((((((w2.setCell ⟨ab,0,nO⟩ (Bb x.vars[k].n)).setCell ⟨ab,1,nO⟩ (Bb x.vars[k].sp.n)).setCell ⟨ab,2,nO⟩ (I .i64 x.vars[k].sp.lo)).setCell ⟨ab,3,nO⟩ (I .i64 x.vars[k].sp.hi)).setCell ⟨ab,4,nO⟩ (Bb x.vars[k].t)).setCell ⟨ab,5,nO⟩ (Bb x.vars[k].f)).setCell ⟨ab,6,nO⟩ (U ss1 x.vars[k].s.length g1))=w3 at *;refine wpAnyH_done (by kernel_rfl) ?_ _
  first|refine hK1 _ _ (Met.intro (hJ1 _ _ ?_))|refine Met.intro (hJ1 _ _ ?_)|refine hJ1 _ _ ?_
  (repeat apply Exists.intro)
  refine⟨?_,rfl⟩;exact⟨ab,rfl,zab,A3,B3⟩
 obtain⟨ab,rfl,zab,A1,B1⟩:=hcut;have S1:=HSS.out.call B1;have M1:=ModS.of B1 HSS.out.2.1;have zsb:=HSS.out.2.1;have a0:=A1.1 0 _ rfl;have a1:=A1.1 1 _ rfl;have a4:=A1.1 4 _ rfl;have a5:=A1.1 5 _ rfl;have a6:=A1.1 6 _ rfl;have s14:=S1.1 14 _ rfl;have f14:=S1.2.2 14;cases hn:x.vars[k].n with
 |true=>
  rw[hn] at a0;go_wp2;go_ret;exact⟨⟨ss1,g1,rfl,I0,k1,m1⟩,by rw[show bt x.vars[k]=true by simp[bt,hn]];exact S1.put 14 (by simp[aL]) _,M1.put 14 _⟩
 |false=>
  rw[hn] at a0;cases hp:x.vars[k].sp.n with
  |false=>
   rw[hp] at a1;go_wp2;go_ret;exact⟨⟨ss1,g1,rfl,I0,k1,m1⟩,by rw[show bt x.vars[k]=true by simp[bt,hn,hp]];exact S1.put 14 (by simp[aL]) _,M1.put 14 _⟩
  |true=>
   rw[hp] at a1;cases ht:x.vars[k].t with
   |true=>
    rw[ht] at a4;go_wp2;go_ret;exact⟨⟨ss1,g1,rfl,I0,k1,m1⟩,by rw[show bt x.vars[k]=true by simp[bt,hn,hp,ht]];exact S1.put 14 (by simp[aL]) _,M1.put 14 _⟩
   |false=>
    rw[ht] at a4;cases hf:x.vars[k].f with
    |true=>
     rw[hf] at a5;go_wp2;go_ret;exact⟨⟨ss1,g1,rfl,I0,k1,m1⟩,by rw[show bt x.vars[k]=true by simp[bt,hn,hp,ht,hf]];exact S1.put 14 (by simp[aL]) _,M1.put 14 _⟩
    |false=>
     rw[hf] at a5;go_wp2;go_ret;exact⟨⟨ss1,g1,rfl,I0,k1,m1⟩,by rw[show bt x.vars[k]=false by simp[bt,hn,hp,ht,hf]];exact S1.put 14 (by simp[aL]) _,M1.put 14 _⟩
end
section
open Go.RowKit
def doE (u k:Int):Int:=if u=0 then(if k < 4\/10 < k then 6 else 0) else u

theorem kd {c:List Ins}{g:Gs}(hn:ae g=true)(hk:ap c g=0):g=noneG:=by
 have ho:=ckSp_ok.mp (fR hk);clear hk;obtain⟨n,⟨sn,lo,hi⟩,t,f,s⟩:=g;cases s with
 |cons x r=>simp[ae,aD] at hn
 |nil=>
  simp[ae,aD] at hn;obtain⟨rfl,rfl,rfl,rfl⟩:=hn;obtain⟨l1,l2⟩:=ho.2.2.1 rfl;simp only at l1 l2;subst l1 l2;rfl
theorem sB (g h:Gs):bY 4 g h=(g,false):=by simp[bY]
theorem nZ (g h:Gs):bY 10 g h=(⟨false,⟨true,0,0⟩,b9 g,bI g,[]⟩,false):=by simp[bY]
theorem eT {k:Int}{g h:Gs}(hk:k=5\/k=6\/k=7\/k=8\/k=9)(hn:(ae g||ae h)=true):bY k g h=(noneG,false):=by
 unfold bY;rw[if_neg (by omega),if_neg (by omega),if_pos hn]
theorem sF {k:Int}{g h:Gs}(hk:k=5\/k=6\/k=7)(hn:(ae g||ae h)=false):bY k g h=(⟨false,bO k g.sp h.sp,false,false,[]⟩,aD g||aD h):=by
 unfold bY;rw[if_neg (by omega),if_neg (by omega),if_neg (by rw[hn];simp),if_neg (by omega),if_neg (by omega)]
theorem AH {g h:Gs}(hn:(ae g||ae h)=false):bY 8 g h=(⟨false,⟨true,0,0⟩,!(g.sp.n||h.sp.n)&&decide (g.sp.lo < h.sp.hi),!(g.sp.n||h.sp.n)&&decide (h.sp.lo<=g.sp.hi),[]⟩,aD g||aD h):=by
 unfold bY;rw[if_neg (by omega),if_neg (by omega),if_neg (by rw[hn];simp),if_neg (by omega),if_pos rfl]
theorem Be {g h:Gs}(hn:(ae g||ae h)=false):bY 9 g h=(⟨false,⟨true,0,0⟩,(g.n&&h.n)||(!(au g.sp h.sp).n||((g.t&&h.t)||((g.f&&h.f)||g.s.any λx=>h.s.contains x))),!cq g h,[]⟩,false):=by
 unfold bY;rw[if_neg (by omega),if_neg (by omega),if_neg (by rw[hn];simp),if_pos rfl]
theorem rq {g:Gs}(h:ae g=true):g.sp.n=true:=by
 unfold ae at h;cases e:g.sp.n
 ·rw[e] at h;simp at h
 ·rfl
theorem ot {g h:Gs}(hn:(ae g||ae h)=true):(g.sp.n||h.sp.n)=true:=by
 cases e:ae g
 ·rw[e] at hn
  rw[rq (g:=h) (by simpa using hn)];simp
 ·rw[rq e];rfl
theorem gT (f:Gs->Bool)(g h:Gs):[g,h].any f=(f g||f h):=by simp
theorem C8 {k:Int}{g h:Gs}(hk:k=5\/k=6\/k=7):bY k g h=(⟨false,bO k g.sp h.sp,false,false,[]⟩,[g,h].any aD&& ![g,h].any ae):=by
 rw[gT,gT];cases hn:(ae g||ae h)
 ·rw[sF hk hn];simp
 ·rw[eT (by omega) hn]
  have e:bO k g.sp h.sp=⟨true,0,0⟩:=by unfold bO;rw[if_pos (ot hn)]
  rw[e];simp[noneG]
theorem Ei {g h:Gs}:bY 8 g h=(⟨false,⟨true,0,0⟩,!(g.sp.n||h.sp.n)&&decide (g.sp.lo < h.sp.hi),!(g.sp.n||h.sp.n)&&decide (h.sp.lo<=g.sp.hi),[]⟩,[g,h].any aD&& ![g,h].any ae):=by
 rw[gT,gT];cases hn:(ae g||ae h)
 ·rw[AH hn];simp
 ·rw[eT (by omega) hn,ot hn];simp[noneG]
theorem no_none:b9 noneG=false/\bI noneG=false:=by decide

theorem km {p:Prop}(h:p:=by
 rintro e w' ⟨rfl,hb⟩;exact⟨_,none,0,_,rfl,by rw[if_pos rfl,C8 (by omega)],.inl rfl,Nat.zero_le _,Nat.zero_le _,(λa ha=>by cases ha),λhn=>absurd rfl hn,hb⟩):p:=h
theorem doU (V F:Int)(s:oA)(c:List Ins)(cap:Nat)(g:Gs)(ss:oA)(gc:Nat)(h:Gs)(st:oA)(hc:Nat)(k:Int)(w:World)(hcd:CodeAt w s c)(hs:IntsAt w ss g.s)(h1:g.s.length<=gc)(h2:gc<=maxLen)(ht:IntsAt w st h.s)(h3:h.s.length<=hc)(h4:hc<=maxLen):
  Calls pG 92 #[pv V F s c cap,I .i64 k,gv g ss gc,gv h st hc] w λe w'=>∃J js jc wr,e=Rt (Tu #[gv J js jc,Bb wr,I .i64 (doE (aP V F c [g,h]) k)])/\(J,wr)=(if doE (aP V F c [g,h]) k=0 then bY k g h else(bl,false))/\IntsAt w' js J.s/\J.s.length<=jc/\jc<=maxLen/\(∀a,js=sO a->w.heap.size<=a.block)/\(doE (aP V F c [g,h]) k≠0->js=nO/\jc=0)/\Below w.heap.size w w':=by
 by_cases hck:aP V F c [g,h]=0
 ·obtain⟨-,hg,hh⟩:=kH hck
  have ok1:=ckSp_ok.mp (fR hg);have ok2:=ckSp_ok.mp (fR hh);by_cases hk:k < 4\/10 < k
  ·have he:doE (aP V F c [g,h]) k=6:=by unfold doE;rw[if_pos hck,if_pos hk]
   rw[he];have hb0:∀j:Int,4<=j->j<=10->(k==j)=false:=λj a b=>by simp;omega
   refine(BH V F s c cap g ss gc h st hc k w hcd hs h1 h2 ht h3 h4 hck (hb0 4 (by omega) (by omega)) (hb0 5 (by omega) (by omega)) (hb0 6 (by omega) (by omega)) (hb0 7 (by omega) (by omega)) (hb0 8 (by omega) (by omega)) (hb0 9 (by omega) (by omega)) (hb0 10 (by omega) (by omega))).mono ?_;rintro e w' ⟨rfl,hb⟩;exact⟨bl,nO,0,false,rfl,by rw[if_neg (by omega)],.inl rfl,j1 _,j1 _,(λa ha=>by cases ha),λ_=>⟨rfl,rfl⟩,hb⟩
  ·have he:doE (aP V F c [g,h]) k=0:=by unfold doE;rw[if_pos hck,if_neg hk]
   rw[he];have h7:k=4\/k=5\/k=6\/k=7\/k=8\/k=9\/k=10:=by omega
   rcases h7 with rfl|rfl|rfl|rfl|rfl|rfl|rfl
   ·have hl:=(eE hck).1
    have l1:=bZ hl.2 hl.1;refine(Ef V F s c cap g ss gc h st hc w hcd hs h1 h2 ht h3 h4 hck (by omega)).mono ?_;rintro e w' ⟨v,rfl,hown,hb⟩;obtain⟨js,jc,rfl,hi,hjl,hm,hfa⟩:=IntsAt.own hown;exact⟨g,js,jc,false,rfl,by rw[if_pos rfl,sB],hi,hjl,hm,hfa,λhn=>absurd rfl hn,hb⟩
   ·refine(Er V F s c cap g ss gc h st hc w hcd hs h1 h2 ht h3 h4 hck).mono ?_
    exact km
   ·refine(Ek V F s c cap g ss gc h st hc w hcd hs h1 h2 ht h3 h4 hck).mono ?_
    exact km
   ·refine(Eg V F s c cap g ss gc h st hc w hcd hs h1 h2 ht h3 h4 hck).mono ?_
    exact km
   ·refine(Eo V F s c cap g ss gc h st hc w hcd hs h1 h2 ht h3 h4 hck).mono ?_
    rintro e w' ⟨rfl,hb⟩;exact⟨_,nO,0,_,rfl,by rw[if_pos rfl,Ei],.inl rfl,j1 _,j1 _,(λa ha=>by cases ha),λhn=>absurd rfl hn,hb⟩
   ·have mx:maxLen<=9223372036854775807:=by decide
    cases hn:(ae g||ae h)
    ·refine(Co V F s c cap g ss gc h st hc w hcd hs h1 h2 ht h3 h4 hck _ _ (λwx hbx=>yQ g ss gc h st hc wx (hs.below hbx (lR _)) (by omega) (ht.below hbx (lR _)) (by omega) (ckSps_ok.mpr ⟨ok1,ok2⟩) (by rw[gT];exact hn))).mono ?_
     rintro e w' ⟨rfl,hb⟩;exact⟨_,nO,0,_,rfl,by rw[if_pos rfl,Be hn],.inl rfl,j1 _,j1 _,(λa ha=>by cases ha),λhn=>absurd rfl hn,hb⟩
    ·refine(Co V F s c cap g ss gc h st hc w hcd hs h1 h2 ht h3 h4 hck _ _ (λwx hbx=>yt g ss gc h st hc wx (by rw[gT];exact hn))).mono ?_
     rintro e w' ⟨rfl,hb⟩;exact⟨_,nO,0,_,rfl,by rw[if_pos rfl,eT (by omega) hn];rfl,.inl rfl,j1 _,j1 _,(λa ha=>by cases ha),λhn=>absurd rfl hn,hb⟩
   ·refine(DH V F s c cap g ss gc h st hc w hcd hs h1 h2 ht h3 h4 hck (fR hg)).mono ?_
    rintro e w' ⟨rfl,hb⟩;exact⟨_,nO,0,_,rfl,by rw[if_pos rfl,nZ],.inl rfl,j1 _,j1 _,(λa ha=>by cases ha),λhn=>absurd rfl hn,hb⟩
 ·have he:doE (aP V F c [g,h]) k=aP V F c [g,h]:=by unfold doE;rw[if_neg hck]
  rw[he];refine(CY V F s c cap g ss gc h st hc k w hcd hs h1 h2 ht h3 h4 hck).mono ?_;rintro e w' ⟨rfl,hb⟩;exact⟨bl,nO,0,false,rfl,by rw[if_neg hck],.inl rfl,j1 _,j1 _,(λa ha=>by cases ha),λ_=>⟨rfl,rfl⟩,hb⟩
end
section
open Go.RowKit Go
def PRow (S:Nat->Prop)(W:World)(pb:Nat)(L:List Pic):Prop:=∃cs,Cells W pb cs/\L.length * 3<=cs.length/\∀i (h:i < L.length),∃vs vc fs fc,(cs[i * 3]? =sO (Bb L[i].none)/\cs[i * 3+1]? =sO (U vs L[i].vars.length vc)/\cs[i * 3+2]? =sO (U fs L[i].flds.length fc))/\PicOn S W L[i] vs fs/\(L[i].vars.length<=vc/\vc<=maxLen)/\(L[i].flds.length<=fc/\fc<=maxLen)
def DRow (W:World)(db:Nat)(D:List Int):Prop:=∃cs,Cells W db cs/\D.length<=cs.length/\∀i (h:i < D.length),cs[i]? =sO (I .i64 D[i])
section
variable {S:Nat->Prop} {W W':World} {pb db:Nat} {L:List Pic} {D:List Int}
theorem PRow.xs (h:PRow S W pb L):XsAt W (sO ⟨pb,0,nO⟩) L:=λi hi=>by
 obtain⟨cs,hc,hz,h⟩:=h;obtain⟨vs,vc,fs,fc,⟨h0,h1,h2⟩,hp,hq⟩:=h i hi;refine⟨pb,0,rfl,hc.2.1,vs,vc,fs,fc,⟨?_,?_,?_⟩,hp.at,hq⟩
 ·rw[j7];exact hc.1 _ _ h0
 ·rw[j7];exact hc.1 _ _ h1
 ·rw[j7];exact hc.1 _ _ h2
theorem PRow.mono {S':Nat->Prop}(h:PRow S W pb L)(hs:∀b,S b->b < W.heap.size->S' b):PRow S' W pb L:=by
 obtain⟨cs,hc,hl,h⟩:=h;refine⟨cs,hc,hl,λi hi=> ?_⟩;obtain⟨vs,vc,fs,fc,h0,hp,hq⟩:=h i hi;exact⟨vs,vc,fs,fc,h0,hp.mono hs,hq⟩
theorem PRow.far (h:PRow S W pb L)(hp:W'.heap[pb]? =W.heap[pb]?)(hs:∀b,S b->b < W.heap.size->W'.heap[b]? =W.heap[b]?)(hz:W.heap.size<=W'.heap.size):PRow S W' pb L:=by
 obtain⟨cs,hc,hl,h⟩:=h;refine⟨cs,hc.same hp hz,hl,λi hi=> ?_⟩;obtain⟨vs,vc,fs,fc,h0,hp,hq⟩:=h i hi;exact⟨vs,vc,fs,fc,h0,(hp.same hs hz).mono λb hb _=>hb.1,hq⟩
theorem PRow.call (h:PRow S W pb L)(hb:Below W.heap.size W W'):PRow S W' pb L:=h.far (hb.block pb h.choose_spec.1.2.1) (λb _ hlt=>hb.block b hlt) hb.size
theorem DRow.far (h:DRow W db D)(hp:W'.heap[db]? =W.heap[db]?)(hz:W.heap.size<=W'.heap.size):DRow W' db D:=by
 obtain⟨cs,hc,h⟩:=h;exact⟨cs,hc.same hp hz,h⟩
theorem DRow.call (h:DRow W db D)(hb:Below W.heap.size W W'):DRow W' db D:=h.far (hb.block db h.choose_spec.1.2.1) hb.size
theorem DRow.get (h:DRow W db D){k:Nat}(hk:k < D.length):W.cell? ⟨db,k,nO⟩=sO (I .i64 D[k]):=by
 obtain⟨cs,hc,hz,h⟩:=h;exact hc.1 _ _ (h k hk)
theorem PRow.cell (h:PRow S W pb L){k:Nat}(hk:k < L.length):∃vs vc fs fc,(W.cell? ⟨pb,k * 3,nO⟩=sO (Bb L[k].none)/\W.cell? ⟨pb,k * 3+1,nO⟩=sO (U vs L[k].vars.length vc)/\W.cell? ⟨pb,k * 3+2,nO⟩=sO (U fs L[k].flds.length fc))/\PicOn S W L[k] vs fs/\(L[k].vars.length<=vc/\vc<=maxLen)/\(L[k].flds.length<=fc/\fc<=maxLen)/\pb < W.heap.size/\∀j,W.frozen? ⟨pb,j,nO⟩=false:=by
 obtain⟨cs,hc,hz,h⟩:=h;obtain⟨vs,vc,fs,fc,⟨h0,h1,h2⟩,hp,hv,hf⟩:=h k hk;exact⟨vs,vc,fs,fc,⟨hc.1 _ _ h0,hc.1 _ _ h1,hc.1 _ _ h2⟩,hp,hv,hf,hc.2⟩
theorem PRow.put (h:PRow S W pb L)(hS:∀b,S b->b≠pb){k:Nat}(hk:k < L.length){y:Pic}{vs fs:oA}{vc fc:Nat}(hy:PicOn S W y vs fs)(hv:y.vars.length<=vc/\vc<=maxLen)(hf:y.flds.length<=fc/\fc<=maxLen)(e:W'=aO W pb (k * 3) [Bb y.none,U vs y.vars.length vc,U fs y.flds.length fc]):
  PRow S W' pb (L.set k y)/\(∀q,q≠pb->W'.heap[q]? =W.heap[q]?)/\W.heap.size<=W'.heap.size/\∀{B:Nat} {a:World},B<=pb->Below B a W->Below B a W':=by
 obtain⟨cs,hc,hz,h⟩:=h;have P:=aZ hc (k * 3) _ e (by simp;omega);refine⟨⟨_,P.cells,?_,λi hi=> ?_⟩,P.far,P.size,P.low⟩
 ·simp[fW];omega
 ·rw[q9] at hi
  by_cases ek:k=i
  ·subst ek
   refine⟨vs,vc,fs,fc,?_,?_,?_,?_⟩
   ·rw[List.getElem_set_self]
    simp only[fW,j6,q9];refine⟨?_,?_,?_⟩
    ·rw[if_neg (by omega),if_neg (by omega),if_pos trivial,if_pos (by omega)]
    ·rw[if_neg (by omega),if_pos trivial,if_pos (by omega)]
    ·rw[if_pos trivial,if_pos (by omega)]
   ·simpa using(hy.same (λb hb _=>P.far b (hS b hb)) P.size).mono λb hb _=>hb.1
   ·simpa using hv
   ·simpa using hf
  ·obtain⟨vs',vc',fs',fc',⟨h0,h1,h2⟩,hp,hq⟩:=h i hi
   refine⟨vs',vc',fs',fc',?_,?_,?_⟩
   ·rw[z5 ek]
    refine⟨?_,?_,?_⟩
    ·rw[<-h0];simp only[fW,j6];repeat rw[if_neg (by omega)]
    ·rw[<-h1];simp only[fW,j6];repeat rw[if_neg (by omega)]
    ·rw[<-h2];simp only[fW,j6];repeat rw[if_neg (by omega)]
   ·rw[z5 ek]
    exact(hp.same (λb hb _=>P.far b (hS b hb)) P.size).mono λb hb _=>hb.1
   ·rw[z5 ek];exact hq
theorem DRow.put (h:DRow W db D){k:Nat}{v:Int}(e:W'=aO W db k [I .i64 v])(hk:k < D.length):
  DRow W' db (D.set k v)/\(∀q,q≠db->W'.heap[q]? =W.heap[q]?)/\W.heap.size<=W'.heap.size/\∀{B:Nat} {a:World},B<=db->Below B a W->Below B a W':=by
 obtain⟨cs,hc,hz,h⟩:=h;have P:=aZ hc k _ e (by simp;omega);refine⟨⟨_,P.cells,?_,λi hi=> ?_⟩,P.far,P.size,P.low⟩
 ·simpa[fW] using hz
 ·rw[q9] at hi
  simp only[fW,j6,List.getElem_set];by_cases ek:k=i
  ·subst ek
   rw[if_pos rfl,if_pos (by omega),if_pos rfl]
  ·rw[if_neg ek,if_neg ek]
   exact h i hi
end
end
section
open Go.RowKit
attribute [local go_sem ↓] Go.wp_at_zero Go.wp_at_succ
theorem Tryz.info_pic:(Tryz.prog.info? 28).map (λi=>(i.zero,i.size,i.bytes))=sO (sO (Ag #[Bb false,U nO 0 0,U nO 0 0]),3,56):=by kernel_rfl
theorem Tryz.info_intV:(Tryz.prog.info? 3).map (λi=>(i.zero,i.size,i.bytes))=sO (sO (I .i64 0),1,8):=by kernel_rfl
def npC:List Value:=[Bb true,U nO 0 0,U nO 0 0]
def fq (x:Pic)(vs:oA)(vc:Nat)(fs:oA)(fc k:Nat):List Value:=[Bb x.none,U vs x.vars.length vc,U fs x.flds.length fc]++(j0 k npC).flatten
def g8 (k:Nat):List Value:=I .i64 1::j0 k (I .i64 0)
theorem mL {x:Pic}{vs:oA}{vc:Nat}{fs:oA}{fc k:Nat}:fq x vs vc fs fc k++npC=fq x vs vc fs fc (k+1):=by
 unfold fq;rw[List.append_assoc,j5,List.flatten_append];rfl
theorem ud {k:Nat}:g8 k++[I .i64 0]=g8 (k+1):=by
 unfold g8;rw[j5];rfl
theorem Es {k i j:Nat}(hi:i < k)(hj:j < 3):(j0 k npC).flatten[i * 3+j]? =npC[j]? :=by
 induction k generalizing i with
 |zero=>omega
 |succ k ih=>
  rw[List.replicate_succ,List.flatten_cons];cases i with
  |zero=>rw[List.getElem?_append_left (by simp[npC];omega)];simp
  |succ i=>
   rw[x0 (by simp[npC];omega)];have e:(i+1) * 3+j - npC.length=i * 3+j:=by simp[npC];omega
   rw[e];exact ih (by omega)
theorem rt {W:World}{B z g k cap:Nat}{e:TypeId}{xs:List Value}(h:W.ownsRow B e z (U (sO ⟨g,0,nO⟩) k cap) k xs):Cells W g xs:=by
 have hl:=h.1;refine⟨λj v hj=> ?_,(h.lt g rfl).2,λj=>h.frozenAt j⟩;have:j < xs.length:=by
  apply Decidable.byContradiction;intro hn;rw[List.getElem?_eq_none (by omega)] at hj;cases hj
 rw[h.cellAt j (by omega)];exact hj
theorem wC (W:World):PicAt W nonePic nO none:=⟨λi hi=>absurd hi (by simp[nonePic]),λi hi=>absurd hi (by simp[nonePic])⟩
theorem sW {w W:World}{B g k cap:Nat}{e:TypeId}{x:Pic}{vs:oA}{vc:Nat}{fs:oA}{fc:Nat}(h:W.ownsRow B e 3 (U (sO ⟨g,0,nO⟩) (k+1) cap) (k+1) (fq x vs vc fs fc k))(hb:Below w.heap.size w W)(hx:PicAt w x vs fs)(h1:x.vars.length<=vc/\vc<=maxLen)(h2:x.flds.length<=fc/\fc<=maxLen):PRow (λb=>b < w.heap.size) W g (x::j0 k nonePic):=by
 refine⟨_,rt h,by rw[h.1];simp,λi hi=> ?_⟩;cases i with
 |zero=>exact⟨vs,vc,fs,fc,⟨rfl,rfl,rfl⟩,λw2 h2 hz=>hx.same (λb hlt=>(h2 b hlt (lL hlt hb.size)).trans (hb.block b hlt)) (lT hb.size hz),h1,h2⟩
 |succ i=>
  have hi':i < k:=by simpa using hi
  have ex:(x::j0 k nonePic)[i+1]=nonePic:=by simp
  rw[ex];have q:∀j,j < 3->(fq x vs vc fs fc k)[(i+1) * 3+j]? =npC[j]? :=λj hj=>by
   unfold fq;rw[x0 (by simp;omega)];have e:(i+1) * 3+j - [Value.bool x.none,U vs x.vars.length vc,U fs x.flds.length fc].length=i * 3+j:=by simp;omega
   rw[e];exact Es hi' hj
  exact⟨nO,0,nO,0,⟨q 0 (by omega),q 1 (by omega),q 2 (by omega)⟩,λw2 _ _=>wC w2,⟨lR _,j1 _⟩,⟨lR _,j1 _⟩⟩
theorem AA {W:World}{B g k cap:Nat}{e:TypeId}(h:W.ownsRow B e 1 (U (sO ⟨g,0,nO⟩) (k+1) cap) (k+1) (g8 k)):DRow W g (1::j0 k 0):=by
 refine⟨_,rt h,by rw[h.1];simp,λi hi=> ?_⟩;cases i with
 |zero=>rfl
 |succ i=>
  have hi':i < k:=by simpa using hi
  simp[g8,hi']
structure NewAt (w:World) (V F:Int) (s:oA) (c:List Ins) (cap:Nat) (x:Pic) (vs:oA) (vc:Nat) (fs:oA) (fc:Nat) (i j pb pc db dc:Nat) (W:World):Prop where
 st:Cells W (w.heap.size+1+1+1+1) [I .i64 V,I .i64 F,U s c.length cap,U (sO ⟨pb,0,nO⟩) (i+1) pc,U (sO ⟨db,0,nO⟩) (j+1) dc]
 pr:W.ownsRow (w.heap.size+1+1) 28 3 (U (sO ⟨pb,0,nO⟩) (i+1) pc) (i+1) (fq x vs vc fs fc i)
 dr:W.ownsRow (w.heap.size+1+1) 3 1 (U (sO ⟨db,0,nO⟩) (j+1) dc) (j+1) (g8 j)
 ne:pb≠db/\pb≠w.heap.size+1+1+1+1/\db≠w.heap.size+1+1+1+1
 lo:Below w.heap.size w W
 sz:w.heap.size+1+1+1+1 < W.heap.size
theorem nd (w:World)(t:TypeId)(cs:List Value):∀ad,sO (⟨w.heap.size,0,nO⟩:Addr)=sO ad->∀j u,cs[j]? =sO u->(w.alloc (Cc cs.toArray t)).cell? (ad.add j)=sO u:=by
 intro ad e j u hj;cases e;have pl:(⟨w.heap.size,0,nO⟩:Addr).add j=⟨w.heap.size,j,nO⟩:=by unfold Addr.add;split<;>simp_all
 rw[pl];exact(Cells.new w t cs).1 j u hj
theorem NewAt.growP {w W W4:World}{V F:Int}{s:oA}{c:List Ins}{cap:Nat}{x:Pic}{vs:oA}{vc:Nat}{fs:oA}{fc i j pb pc db dc:Nat}{O:Obj}{v':Value}(N:NewAt w V F s c cap x vs vc fs fc i j pb pc db dc W)(hown:W4.ownsRow (w.heap.size+1+1) 28 3 v' (i+1+1) (fq x vs vc fs fc i++npC))(hgrow:(W.alloc O).grownBy W4 (sO pb))(hat:v'.ownBlock=sO pb\/v'.ownBlock=sO (W.alloc O).heap.size):
  ∃g cp,v'=U (sO ⟨g,0,nO⟩) (i+1+1) cp/\Cells W4 (w.heap.size+1+1+1+1) [I .i64 V,I .i64 F,U s c.length cap,U (sO ⟨pb,0,nO⟩) (i+1) pc,U (sO ⟨db,0,nO⟩) (j+1) dc]/\∀wq,wq=aO W4 (w.heap.size+1+1+1+1) 3 [v']->NewAt w V F s c cap x vs vc fs fc (i+1) j g cp db dc wq:=by
 have N':=N;obtain⟨n1,n2,n3,n4,n5,n6⟩:=N;have hdb:=n3.lt db rfl;have hpb:=n2.lt pb rfl;have hz:(W.alloc O).heap.size=W.heap.size+1:=zA _ _;have hz4:=hgrow.size;have far:∀b,b < W.heap.size->b≠pb->W4.heap[b]? =W.heap[b]? :=λb hb hne=>(hgrow.block b (by omega) (λe=>hne (by cases e;rfl))).trans (Below.heap_alloc _ _ _ hb);have st4:=n1.same (far _ n6 (Ne.symm n4.2.1)) (by omega);have dr4:=(n3.kept (j3 W O nO) (.inr (by simp[j2]))).kept hgrow (.inr (λe=>n4.1 (by cases e;rfl)));have lo4:Below w.heap.size w W4:=(n5.alloc (by omega) O).grown hgrow (by omega) (λk hk=>by cases hk;omega);rcases hown.2 with⟨_,h⟩|⟨g,cp,cur,rfl,-⟩
 ·omega
 have hg:=hown.lt g rfl;have hgn:g≠db/\g≠w.heap.size+1+1+1+1:=by
  rcases hat with h|h
  ·simp only[j2,j9.injEq] at h
   rw[h];exact⟨n4.1,n4.2.1⟩
  ·simp only[j2,j9.injEq] at h
   rw[h,hz];exact⟨by omega,by omega⟩
 refine⟨g,cp,rfl,st4,λwq e=> ?_⟩;have PQ:=aZ st4 3 _ e;refine⟨PQ.cells,?_,?_,⟨hgn.1,hgn.2,n4.2.2⟩,PQ.low (by omega) lo4,by have:=PQ.size;omega⟩
 ·rw[mL] at hown
  exact dV hown (λk hk=>by cases hk;exact PQ.far _ hgn.2)
 ·exact dV dr4 (λk hk=>by cases hk;exact PQ.far _ n4.2.2)
theorem NewAt.growD {w W W4:World}{V F:Int}{s:oA}{c:List Ins}{cap:Nat}{x:Pic}{vs:oA}{vc:Nat}{fs:oA}{fc i j pb pc db dc:Nat}{O:Obj}{v':Value}(N:NewAt w V F s c cap x vs vc fs fc i j pb pc db dc W)(hown:W4.ownsRow (w.heap.size+1+1) 3 1 v' (j+1+1) (g8 j++[I .i64 0]))(hgrow:(W.alloc O).grownBy W4 (sO db))(hat:v'.ownBlock=sO db\/v'.ownBlock=sO (W.alloc O).heap.size):
  ∃g cp,v'=U (sO ⟨g,0,nO⟩) (j+1+1) cp/\Cells W4 (w.heap.size+1+1+1+1) [I .i64 V,I .i64 F,U s c.length cap,U (sO ⟨pb,0,nO⟩) (i+1) pc,U (sO ⟨db,0,nO⟩) (j+1) dc]/\∀wq,wq=aO W4 (w.heap.size+1+1+1+1) 4 [v']->NewAt w V F s c cap x vs vc fs fc i (j+1) pb pc g cp wq:=by
 obtain⟨n1,n2,n3,n4,n5,n6⟩:=N;have hdb:=n3.lt db rfl;have hpb:=n2.lt pb rfl;have hz:(W.alloc O).heap.size=W.heap.size+1:=zA _ _;have hz4:=hgrow.size;have far:∀b,b < W.heap.size->b≠db->W4.heap[b]? =W.heap[b]? :=λb hb hne=>(hgrow.block b (by omega) (λe=>hne (by cases e;rfl))).trans (Below.heap_alloc _ _ _ hb);have st4:=n1.same (far _ n6 (Ne.symm n4.2.2)) (by omega);have pr4:=(n2.kept (j3 W O nO) (.inr (by simp[j2]))).kept hgrow (.inr (λe=>n4.1 (by cases e;rfl)));have lo4:Below w.heap.size w W4:=(n5.alloc (by omega) O).grown hgrow (by omega) (λk hk=>by cases hk;omega);rcases hown.2 with⟨_,h⟩|⟨g,cp,cur,rfl,-⟩
 ·omega
 have hg:=hown.lt g rfl;have hgn:pb≠g/\g≠w.heap.size+1+1+1+1:=by
  rcases hat with h|h
  ·simp only[j2,j9.injEq] at h
   rw[h];exact⟨n4.1,n4.2.2⟩
  ·simp only[j2,j9.injEq] at h
   rw[h,hz];exact⟨by omega,by omega⟩
 refine⟨g,cp,rfl,st4,λwq e=> ?_⟩;have PQ:=aZ st4 4 _ e;refine⟨PQ.cells,?_,?_,⟨hgn.1,n4.2.1,hgn.2⟩,PQ.low (by omega) lo4,by have:=PQ.size;omega⟩
 ·exact dV pr4 (λk hk=>by cases hk;exact PQ.far _ n4.2.1)
 ·rw[ud] at hown
  exact dV hown (λk hk=>by cases hk;exact PQ.far _ hgn.2)
def DO (w:World)(V F:Int)(s:oA)(c:List Ins)(cap:Nat)(x:Pic)(e:Ending)(w':World):Prop:=∃pb pc db dc,e=Rt (Pp (sO ⟨w.heap.size+1+1+1+1,0,nO⟩))/\Cells w' (w.heap.size+1+1+1+1) [I .i64 V,I .i64 F,U s c.length cap,U (sO ⟨pb,0,nO⟩) (c.length+1) pc,U (sO ⟨db,0,nO⟩) (c.length+1) dc]/\PRow (λb=>b < w.heap.size) w' pb (x::j0 c.length nonePic)/\DRow w' db (1::j0 c.length 0)/\(w.heap.size<=pb/\w.heap.size<=db)/\(pb≠db/\pb≠w.heap.size+1+1+1+1/\db≠w.heap.size+1+1+1+1)/\Below w.heap.size w w'
theorem Bo (V F:Int)(s:oA)(c:List Ins)(cap:Nat)(x:Pic)(vs:oA)(vc:Nat)(fs:oA)(fc:Nat)(w:World)(hx:PicAt w x vs fs)(h1:x.vars.length<=vc/\vc<=maxLen)(h2:x.flds.length<=fc/\fc<=maxLen)(h60:c.length<=60):
  Calls pG 32 #[pv V F s c cap,xv x vs vc fs fc] w λe w'=>DO w V F s c cap x e w':=by
 obtain⟨ti,hi,hz0,hz1,hz2⟩:=info_parts Tryz.info_pic;obtain⟨tk,hk,hx0,hx1,hx2⟩:=info_parts Tryz.info_intV;have HX:=aa hx;clear hx;have N0:NewAt w V F s c cap x vs vc fs fc 0 0 (w.heap.size+1+1) 1 (w.heap.size+1+1+1) 1 (((((w.alloc (Cc #[I .i64 V,I .i64 F,U s c.length cap] 24)).alloc (Cc #[Bb x.none,U vs x.vars.length vc,U fs x.flds.length fc] 28)).alloc (Cc #[Bb x.none,U vs x.vars.length vc,U fs x.flds.length fc] 28)).alloc (Cc #[I .i64 1] 3)).alloc (Cc #[I .i64 V,I .i64 F,U s c.length cap,U (sO ⟨w.heap.size+1+1,0,nO⟩) 1 1,U (sO ⟨w.heap.size+1+1+1,0,nO⟩) 1 1] 78)):=by
  have B:Below w.heap.size w (((((w.alloc (Cc #[I .i64 V,I .i64 F,U s c.length cap] 24)).alloc (Cc #[Bb x.none,U vs x.vars.length vc,U fs x.flds.length fc] 28)).alloc (Cc #[Bb x.none,U vs x.vars.length vc,U fs x.flds.length fc] 28)).alloc (Cc #[I .i64 1] 3)).alloc (Cc #[I .i64 V,I .i64 F,U s c.length cap,U (sO ⟨w.heap.size+1+1,0,nO⟩) 1 1,U (sO ⟨w.heap.size+1+1+1,0,nO⟩) 1 1] 78)):=by go_grown
  refine⟨?_,?_,?_,⟨by omega,by omega,by omega⟩,B,by simp⟩
  ·have h:=Cells.new (((((w.alloc (Cc #[I .i64 V,I .i64 F,U s c.length cap] 24)).alloc (Cc #[Bb x.none,U vs x.vars.length vc,U fs x.flds.length fc] 28)).alloc (Cc #[Bb x.none,U vs x.vars.length vc,U fs x.flds.length fc] 28)).alloc (Cc #[I .i64 1] 3))) 78 [I .i64 V,I .i64 F,U s c.length cap,U (sO ⟨w.heap.size+1+1,0,nO⟩) 1 1,U (sO ⟨w.heap.size+1+1+1,0,nO⟩) 1 1]
   rw[zA,zA,zA,zA] at h;exact h
  ·have h:=z6 (base:=w.heap.size+1+1) (e:=28) (size:=3) ((w.alloc (Cc #[I .i64 V,I .i64 F,U s c.length cap] 24)).alloc (Cc #[Bb x.none,U vs x.vars.length vc,U fs x.flds.length fc] 28)) #[Bb x.none,U vs x.vars.length vc,U fs x.flds.length fc] 1 (by simp) (by decide) rfl
   rw[zA,zA] at h;exact(h.kept (j3 _ _ nO) (.inr (by simp[j2]))).kept (j3 _ _ nO) (.inr (by simp[j2]))
  ·have h:=z6 (base:=w.heap.size+1+1) (e:=3) (size:=1) (((w.alloc (Cc #[I .i64 V,I .i64 F,U s c.length cap] 24)).alloc (Cc #[Bb x.none,U vs x.vars.length vc,U fs x.flds.length fc] 28)).alloc (Cc #[Bb x.none,U vs x.vars.length vc,U fs x.flds.length fc] 28)) #[I .i64 1] 1 (by simp) (by decide) rfl
   rw[zA,zA,zA] at h;exact h.kept (j3 _ _ nO) (.inr (by simp[j2]))
 have P0:Cells (((((w.alloc (Cc #[I .i64 V,I .i64 F,U s c.length cap] 24)).alloc (Cc #[Bb x.none,U vs x.vars.length vc,U fs x.flds.length fc] 28)).alloc (Cc #[Bb x.none,U vs x.vars.length vc,U fs x.flds.length fc] 28)).alloc (Cc #[I .i64 1] 3)).alloc (Cc #[I .i64 V,I .i64 F,U s c.length cap,U (sO ⟨w.heap.size+1+1,0,nO⟩) 1 1,U (sO ⟨w.heap.size+1+1+1,0,nO⟩) 1 1] 78)) w.heap.size [I .i64 V,I .i64 F,U s c.length cap]:=(Cells.new w _ [_,_,_]).call (by go_grown);go_enter Tryz.func32,Tryz.ntmps32
 go_upto_region 2 with fail
 generalize ((((w.alloc (Cc #[I .i64 V,I .i64 F,U s c.length cap] 24)).alloc (Cc #[Bb x.none,U vs x.vars.length vc,U fs x.flds.length fc] 28)).alloc (Cc #[Bb x.none,U vs x.vars.length vc,U fs x.flds.length fc] 28)).alloc (Cc #[I .i64 1] 3)).alloc (Cc #[I .i64 V,I .i64 F,U s c.length cap,U (sO ⟨w.heap.size+1+1,0,nO⟩) 1 1,U (sO ⟨w.heap.size+1+1+1,0,nO⟩) 1 1] 78)=w5 at *;have p2:=P0.1 2 _ rfl;go_wp2;clear p2 P0;go_loopw [15] (λi wr=>∃k pb pc db dc:Nat,k<=c.length/\i=I .i64 k/\Hid (NewAt w V F s c cap x vs vc fs fc k k pb pc db dc wr)) (λi _=>c.length - (intOf i).toNat)
 case atStart=>exact⟨0,_,_,_,_,j1 _,rfl,N0⟩
 case round=>
  clear N0;obtain⟨k,pb,pc,db,dc,hk1,rfl,HN⟩:=hrel;by_cases hlt:k < c.length;rotate_left
  ·have n1:¬(k:Int) < (c.length:Int):=by omega
   have ek:k=c.length:=by omega
   subst ek;go_wp2;go_ret;have N:=HN.out;have h1':=N.pr.lt pb rfl;have h2':=N.dr.lt db rfl;exact⟨pb,pc,db,dc,rfl,N.st,sW N.pr N.lo HX.out h1 h2,AA N.dr,⟨by omega,by omega⟩,N.ne,N.lo⟩
  have n0:(0:Int)<=(k:Int):=by omega
  have n1:(k:Int) < (c.length:Int):=by omega
  have q3:=HN.out.st.1 3 _ rfl;have S4:=HN.out.pr.kept (j3 wr (Cc #[Bb true,U nO 0 0,U nO 0 0] 28) nO) (.inr (by simp[j2]));have zw:=HN.out.sz;go_wp2_with (at_builtin;refine aY _ rfl _ _ 34 rfl (w.heap.size+1+1) 28 ti (Ag #[Bb false,U nO 0 0,U nO 0 0]) 3 56 Tryz.underlying34 hi hz0 hz1 hz2 rfl (by decide) _ _ _ rfl S4 (sO ⟨wr.heap.size,0,nO⟩) 1 1 npC rfl rfl (λh=>by cases h) ?qa2 ?qa3 ?qa4 ?qa5 ?qa6 ?_)
  case qa2=>exact nd wr 28 npC
  case qa3=>intro u hu;simp[npC] at hu;rcases hu with rfl|rfl<;>rfl
  case qa4=>unfold maxLen;omega
  case qa5=>omega
  case qa6=>rw[zA];omega
  intro v' w4 hown hgrow hat;obtain⟨g,cp,rfl,ST4,HNX⟩:=HN.out.growP hown hgrow (by rw[zA];exact hat);have HNX:=aa HNX;clear hown hgrow hat S4 q3 HN zw;have q3:=ST4.1 3 _ rfl;have q3f:=ST4.2.2 3
  go_upto_region 5 with fail
  obtain⟨wq,ewq⟩:∃q,q=aO w4 (w.heap.size+1+1+1+1) 3 [U (sO ⟨g,0,nO⟩) (k+1+1) cp]:=⟨_,rfl⟩;have N5:=aa (HNX.out wq ewq);simp only[aO] at ewq;rw[<-ewq];clear ewq HNX q3 q3f ST4;have q4:=N5.out.st.1 4 _ rfl;have S4:=N5.out.dr.kept (j3 wq (Cc #[I .i64 0] 3) nO) (.inr (by simp[j2]));have zw:=N5.out.sz;go_wp2_with (at_builtin;refine aY _ rfl _ _ 59 rfl (w.heap.size+1+1) 3 tk (I .i64 0) 1 8 Tryz.underlying59 hk hx0 hx1 hx2 rfl (by decide) _ _ _ rfl S4 (sO ⟨wq.heap.size,0,nO⟩) 1 1 [I .i64 0] rfl rfl (λh=>by cases h) ?qb2 ?qb3 ?qb4 ?qb5 ?qb6 ?_)
  case qb2=>exact nd wq 3 [I .i64 0]
  case qb3=>intro u hu;simp at hu;rw[hu];rfl
  case qb4=>unfold maxLen;omega
  case qb5=>omega
  case qb6=>rw[zA];omega
  intro v' w6 hown hgrow hat;obtain⟨g2,cp2,rfl,ST4,HNX⟩:=N5.out.growD hown hgrow (by rw[zA];exact hat);have HNX:=aa HNX;clear hown hgrow hat S4 q4 N5 zw;have q4:=ST4.1 4 _ rfl;have q4f:=ST4.2.2 4
  go_upto_region 6 with fail
  obtain⟨wz,ewz⟩:∃q,q=aO w6 (w.heap.size+1+1+1+1) 4 [U (sO ⟨g2,0,nO⟩) (k+1+1) cp2]:=⟨_,rfl⟩;have N6:=aa (HNX.out wz ewz);simp only[aO] at ewz;rw[<-ewz];clear ewz HNX q4 q4f ST4;go_wp2;go_roundw
  case rel=>exact⟨k+1,g,cp,g2,cp2,by omega,by go_num,N6.out⟩
  case measure=>simp[intOf];omega
theorem nc (a b:List Pic)(s1:oA)(c1:Nat)(s2:oA)(c2:Nat)(w:World)(ha:a.length<=maxLen)(h1:XsAt w s1 a)(h2:XsAt w s2 b):
  Calls pG 16 #[U s1 a.length c1,U s2 b.length c2] w λe w'=>SameAns e (a=b)/\Below w.heap.size w w':=by
 have hm:maxLen<=9223372036854775807:=by decide
 by_cases hl:a.length=b.length
 ·rw[<-hl]
  have HL:=aa hl;clear hl;go_enter Tryz.func16,Tryz.ntmps16;go_wp2;go_loopw [5] (λi wr=>∃k:Nat,k<=a.length/\i=I .i64 k/\Hid (a.take k=b.take k)/\Below w.heap.size w wr) (λi _=>a.length - (intOf i).toNat)
  case atStart=>exact⟨0,j1 _,rfl,rfl,bR _ _⟩
  case round=>
   obtain⟨k,hk,rfl,HE,hbr⟩:=hrel;by_cases hlt:k < a.length
   ·have n0:(0:Int)<=(k:Int):=by omega
    have n1:(k:Int) < (a.length:Int):=by omega
    have hlb:k < b.length:=by have:=HL.out;omega
    obtain⟨b1,o1,rfl,z1,vs1,vc1,fs1,fc1,⟨p0,p1,p2⟩,J1,k1,m1⟩:=h1.below hbr (lR _) k hlt;obtain⟨b2,o2,rfl,z2,vs2,vc2,fs2,fc2,⟨q0,q1,q2⟩,J2,-⟩:=h2.below hbr (lR _) k hlb;have hlen:y8 a[k]:=⟨lT k1.1 k1.2,lT m1.1 m1.2⟩;have HKZ:Hid (∀wx,Below wr.heap.size wr wx->(wx.cell? ⟨b1,o1+k * 3,nO⟩=sO (Bb a[k].none)/\wx.cell? ⟨b1,o1+k * 3+1,nO⟩=sO (U vs1 a[k].vars.length vc1)/\wx.cell? ⟨b1,o1+k * 3+2,nO⟩=sO (U fs1 a[k].flds.length fc1))/\(wx.cell? ⟨b2,o2+k * 3,nO⟩=sO (Bb b[k].none)/\wx.cell? ⟨b2,o2+k * 3+1,nO⟩=sO (U vs2 b[k].vars.length vc2)/\wx.cell? ⟨b2,o2+k * 3+2,nO⟩=sO (U fs2 b[k].flds.length fc2))):=λwx hx=>⟨⟨by rw[hx.cell (by simp only;exact z1)];exact p0,by rw[hx.cell (by simp only;exact z1)];exact p1,by rw[hx.cell (by simp only;exact z1)];exact p2⟩,by rw[hx.cell (by simp only;exact z2)];exact q0,by rw[hx.cell (by simp only;exact z2)];exact q1,by rw[hx.cell (by simp only;exact z2)];exact q2⟩;have HD:Below wr.heap.size wr wr.drew:=(bR _ _).drew;clear p0 p1 p2 q0 q1 q2;go_wp2;refine am (S:=(λwx=>(wx.cell? ⟨b1,o1+k * 3,nO⟩=sO (Bb a[k].none)/\wx.cell? ⟨b1,o1+k * 3+1,nO⟩=sO (U vs1 a[k].vars.length vc1)/\wx.cell? ⟨b1,o1+k * 3+2,nO⟩=sO (U fs1 a[k].flds.length fc1))/\(wx.cell? ⟨b2,o2+k * 3,nO⟩=sO (Bb b[k].none)/\wx.cell? ⟨b2,o2+k * 3+1,nO⟩=sO (U vs2 b[k].vars.length vc2)/\wx.cell? ⟨b2,o2+k * 3+2,nO⟩=sO (U fs2 b[k].flds.length fc2)))) [] (by kernel_rfl) (HKZ.out _ HD) (λhHeld=> ?_);refine vZ 0 ?_ ?_;refine vZ 1 ?_ ?_;refine vZ 2 ?_ ?_;refine vZ 3 ?_ ?_;refine vZ 4 ?_ ?_;refine vZ 5 ?_ ?_;refine vZ 6 ?_ ?_;refine vZ 7 ?_ ?_;refine ai (i:=8) rfl (by kernel_rfl) (λK hK=> ?_);go_simp;go_at_call 31;refine(iv a[k] b[k] vs1 vc1 fs1 fc1 vs2 vc2 fs2 fc2 _ hlen (J1.call HD) (J2.call HD)).mono ?_;rintro e w5 ⟨⟨bb,rfl,HBB0⟩,hb5⟩;have HBB:=aa HBB0;clear HBB0;have HB5:Below wr.heap.size wr w5:=HD.trans (hb5.mono HD.size);go_wp2_with fail;refine hK.out _ _ (HKZ.out _ HB5) (λhHeld=> ?_);clear hK K;refine sm ?_;refine vZ 9 ?_ ?_;refine aj (by kernel_rfl) ?_ _;rcases Bool.eq_false_or_eq_true bb with e1|e1
    ·have HQ:=aa (HBB.out.1 e1)
     subst e1;go_wp2;go_roundw
     case rel=>exact⟨k+1,by omega,by go_num,by show _=_;rw[z7 hlt,z7 hlb,HE.out,HQ.out],hbr.trans (HB5.mono hbr.size)⟩
     case measure=>simp[intOf];omega
    ·have HQ:Hid (¬a[k]=b[k]):=λh=>by rw[HBB.out.2 h] at e1;cases e1
     subst e1;go_wp2;go_ret;exact⟨SameAns.no λe=>HQ.out (by subst e;rfl),hbr.trans (HB5.mono hbr.size)⟩
   ·have n1:¬(k:Int) < (a.length:Int):=by omega
    go_wp2;go_ret;exact⟨SameAns.yes (by have h:=HE.out;rwa [z8 (by omega),z8 (by have:=HL.out;omega)] at h),hbr⟩
 ·have e1:((a.length:Int)!=(b.length:Int))=true:=by simpa using λh=>hl (by omega)
  have HL:=aa hl;clear hl;go_enter Tryz.func16,Tryz.ntmps16;go_wp2;go_ret;exact⟨SameAns.no λe=>HL.out (by rw[e]),bR _ _⟩
def s8:Prop:=∀(V F:Int) (s:oA) (c:List Ins) (cap:Nat) (w:World),ag V F c=0->Calls pG 40 #[pv V F s c cap] w λe w'=>(∃vs vc fs fc,e=Rt (Ag #[Bb (aQ V F c).none,U vs (aQ V F c).vars.length vc,U fs (aQ V F c).flds.length fc])/\PicAt w' (aQ V F c) vs fs/\((aQ V F c).vars.length<=vc/\vc<=maxLen)/\((aQ V F c).flds.length<=fc/\fc<=maxLen))/\Below w.heap.size w w'
structure BegAt (w1:World) (x:Pic) (vs:oA) (vc:Nat) (fs:oA) (fc k g cp:Nat) (W:World):Prop where
 pr:W.ownsRow w1.heap.size 28 3 (U (sO ⟨g,0,nO⟩) (k+1) cp) (k+1) (fq x vs vc fs fc k)
 lo:Below w1.heap.size w1 W
theorem BegAt.new {w1:World}{x:Pic}{vs:oA}{vc:Nat}{fs:oA}{fc:Nat}:BegAt w1 x vs vc fs fc 0 w1.heap.size 1 (w1.alloc (Cc #[Bb x.none,U vs x.vars.length vc,U fs x.flds.length fc] 28)):=by
 refine⟨?_,by go_grown⟩;exact z6 (base:=w1.heap.size) (e:=28) (size:=3) w1 #[Bb x.none,U vs x.vars.length vc,U fs x.flds.length fc] 1 (by simp) (by decide) rfl
theorem BegAt.grow {w1 W W4:World}{x:Pic}{vs:oA}{vc:Nat}{fs:oA}{fc k g cp:Nat}{O:Obj}{v':Value}(N:BegAt w1 x vs vc fs fc k g cp W)(hown:W4.ownsRow w1.heap.size 28 3 v' (k+1+1) (fq x vs vc fs fc k++npC))(hgrow:(W.alloc O).grownBy W4 (sO g)):
  ∃g' cp',v'=U (sO ⟨g',0,nO⟩) (k+1+1) cp'/\BegAt w1 x vs vc fs fc (k+1) g' cp' W4:=by
 obtain⟨n1,n2⟩:=N;have hg:=n1.lt g rfl;have hz:(W.alloc O).heap.size=W.heap.size+1:=zA _ _;have lo4:Below w1.heap.size w1 W4:=(n2.alloc (by have:=n2.size;omega) O).grown hgrow (by have:=n2.size;omega) (λk hk=>by cases hk;omega)
 rcases hown.2 with⟨_,h⟩|⟨g',cp',cur,rfl,-⟩
 ·omega
 rw[mL] at hown;exact⟨g',cp',rfl,hown,lo4⟩
structure DocAt (w:World) (V F:Int) (s:oA) (c:List Ins) (cap pb:Nat) (L:List Pic) (W:World):Prop where
 pr:PRow (λb=>b≠pb) W pb L
 pg:PrAt W w.heap.size V F s c cap
 lo:Below w.heap.size w W
theorem BegAt.doc {w w1 W:World}{V F:Int}{s:oA}{c:List Ins}{cap:Nat}{vs:oA}{vc:Nat}{fs:oA}{fc g cp:Nat}(h:BegAt w1 (aQ V F c) vs vc fs fc c.length g cp W)(hx:PicAt w1 (aQ V F c) vs fs)(h1:(aQ V F c).vars.length<=vc/\vc<=maxLen)(h2:(aQ V F c).flds.length<=fc/\fc<=maxLen)(hp:PrAt w1 w.heap.size V F s c cap)(hb:Below w.heap.size w w1)(hz:w.heap.size < w1.heap.size):DocAt w V F s c cap g (aK V F c 0) W/\w.heap.size < g:=by
 have hg:=h.pr.lt g rfl;exact⟨⟨(sW h.pr h.lo hx h1 h2).mono λb hb _=>by omega,hp.low h.lo hz,hb.trans (h.lo.mono hb.size)⟩,by omega⟩
def uP:Prop:=∀(T:Nat->Prop) (V F:Int) (s:oA) (c:List Ins) (cap:Nat) (at_:Int) (x:Pic) (vs:oA) (vc:Nat) (fs:oA) (fc:Nat) (w:World),CodeAt w s c->PicOn T w x vs fs->ag V F c=0->an V F c x=0->0<=at_->at_ < c.length->x.vars.length<=vc/\vc<=maxLen->x.flds.length<=fc/\fc<=maxLen->Calls pG 7 #[pv V F s c cap,I .i64 at_,xv x vs vc fs fc] w λe w'=>bE (λb=>T b\/w.heap.size<=b) w' e (ah (bM c at_) at_ x)/\Below w.heap.size w w'
def uX:Prop:=∀(S:Nat->Prop) (V F:Int) (c:List Ins) (wide:Bool) (x y:Pic) (vs1:oA) (vc1:Nat) (fs1:oA) (fc1:Nat) (vs2:oA) (vc2:Nat) (fs2:oA) (fc2:Nat) (w:World),PicOn S w x vs1 fs1->PicOn S w y vs2 fs2->x.vars.length<=vc1/\vc1<=maxLen->x.flds.length<=fc1/\fc1<=maxLen->y.vars.length<=vc2/\vc2<=maxLen->y.flds.length<=fc2/\fc2<=maxLen->ag V F c=0->an V F c x=0->an V F c y=0->Calls pG 41 #[xv x vs1 vc1 fs1 fc1,xv y vs2 vc2 fs2 fc2,Bb wide] w λe w'=>(∃us uc gs gc,e=Rt (Ag #[Bb (aw (ac wide) x y).none,U us (aw (ac wide) x y).vars.length uc,U gs (aw (ac wide) x y).flds.length gc])/\PicOn (λb=>S b\/w.heap.size<=b) w' (aw (ac wide) x y) us gs/\((aw (ac wide) x y).vars.length<=uc/\uc<=maxLen)/\((aw (ac wide) x y).flds.length<=gc/\gc<=maxLen))/\Below w.heap.size w w'
theorem DocAt.call {w W W':World}{V F:Int}{s:oA}{c:List Ins}{cap g:Nat}{L:List Pic}(h:DocAt w V F s c cap g L W)(hb:Below W.heap.size W W'):DocAt w V F s c cap g L W':=⟨h.pr.call hb,h.pg.call hb,h.lo.trans (hb.mono h.lo.size)⟩
structure JnAt (w:World) (g yb:Nat) (y:Pic) (us:oA) (uc:Nat) (gs:oA) (gc:Nat) (W:World):Prop where
 cell:Cells W yb [Bb y.none,U us y.vars.length uc,U gs y.flds.length gc]
 pic:PicOn (λb=>b≠g) W y us gs
 c1:y.vars.length<=uc/\uc<=maxLen
 c2:y.flds.length<=gc/\gc<=maxLen
 lo:Below w.heap.size w W
theorem ub {V F:Int}{c:List Ins}(h0:ag V F c=0){n i:Int}{E:List Edg}(hE:∀e∈E,en V F c e){L L':List Pic}{b b':Bool}(hL:XsOk V F c L)(q:Nat)(h:(E.take q).foldl (bD n i) (L,b)=(L',b')):XsOk V F c L':=by
 have:=(lE (n:=n) (i:=i) h0 (E:=E.take q) (s:=(L,b)) hL λe he=>hE e (List.mem_of_mem_take he)).1;rw[h] at this;exact this
theorem ue {n i:Int}{E:List Edg}{s t:List Pic×Bool}{q:Nat}(hq:q < E.length)(h:(E.take q).foldl (bD n i) s=t):(E.take (q+1)).foldl (bD n i) s=bD n i t E[q]:=by
 rw[z7 hq,x1,h];rfl
theorem vA {V F:Int}{c:List Ins}(h0:ag V F c=0){n i:Int}{L:List Pic}{b:Bool}{t:Nat}{y z:Pic}(hz:aI L (t:Int)=z)(h1:an V F c z=0)(h2:an V F c y=0)(h:aw (ac (cF n i t)) z y=z):bD n i (L,b) ⟨(t:Int),y⟩=(L,b):=by
 unfold bD;rw[if_pos (by simp only[hz];exact(ix h0 h1 h2).1 h)]
theorem Aj {V F:Int}{c:List Ins}(h0:ag V F c=0){n i:Int}{L:List Pic}{b:Bool}{t:Nat}{y z:Pic}(hz:aI L (t:Int)=z)(h1:an V F c z=0)(h2:an V F c y=0)(h:¬aw (ac (cF n i t)) z y=z):bD n i (L,b) ⟨(t:Int),y⟩=(L.set t (aw (ac (cF n i t)) z y),true):=by
 unfold bD;rw[if_neg (by simp only[hz];exact λk=>h ((ix h0 h1 h2).2 k))];simp only[hz,Int.toNat_natCast]
def tj (V F:Int)(c:List Ins)(e:Ending)(w':World):Prop:=∃(m pb pc:Nat),SolvedAt V F c m/\m<=200000000000000/\e=Rt (Tu #[U (sO ⟨pb,0,nO⟩) (c.length+1) pc,I .i64 ((m+1:Nat):Int)])/\XsAt w' (sO ⟨pb,0,nO⟩) (aK V F c m)
def RndIs (V F:Int)(c:List Ins)(m:Nat)(b:Bool):Prop:=(b=true/\∀k,k < m->(cL c ((k+1:Nat):Int) (aK V F c k)).2=true)\/(b=false/\∃m',m=m'+1/\SolvedAt V F c m')
theorem RndIs.next {V F:Int}{c:List Ins}{m:Nat}{L:List Pic}{b:Bool}(h:∀k,k < m->(cL c ((k+1:Nat):Int) (aK V F c k)).2=true)(hr:cL c ((m+1:Nat):Int) (aK V F c m)=(L,b)):RndIs V F c (m+1) b:=by
 cases b with
 |true=>exact .inl ⟨rfl,λk hk=>by
   by_cases e:k=m
   ·rw[e,hr]
   ·exact h k (by omega)⟩
 |false=>exact .inr ⟨rfl,m,rfl,h,by rw[hr]⟩
theorem ul {V F:Int}{c:List Ins}{m:Nat}(h0:ag V F c=0)(h:SolvedAt V F c m):m<=200000000000000:=by
 have:=gq h0 h.1;omega
theorem o8 {p:Prop}(h:p:=by
 refine vH 15 ?_ ?_;refine wpAnyH_ready (rs:=[16,17]) (by kernel_rfl) (by simp) ?_;refine AllReadyH.cons rfl (λK hK=> ?_) (AllReadyH.cons rfl (λK hK=> ?_) AllReadyH.nil)
 ·go_simp
  refine(HJN.out _ w6 B6).mono ?_;rintro e w7 ⟨⟨Y,js,jc,ks,kc,HYE,rfl,JP,JC1,JC2⟩,hb7⟩;have B7:=B6.trans (hb7.mono (B6.size));have J7:PicOn (λb=>b≠g) w7 Y js ks:=JP.mono λb hb _=>by
   rcases hb with h|h
   ·exact h.1
   ·have:=B6.size;omega
  clear JP;refine hK.out _ _ (HKZ.out _ B7) (λhHeld7=> ?_);clear hK K hb7 B6;refine sm ?_;refine wpAnyH_ready (rs:=[17]) (by kernel_rfl) (by simp) ?_;refine AllReadyH.cons rfl (λK hK=> ?_) AllReadyH.nil;go_simp;have hb8:Below w7.heap.size w7 (w7.alloc (.cells #[.bool false,.slice none 0 0,.slice none 0 0] 28)):=by go_grown
  have B8:=B7.trans (hb8.mono (B7.size));have A8:Cells (w7.alloc (.cells #[.bool false,.slice none 0 0,.slice none 0 0] 28)) w7.heap.size [.bool false,.slice none 0 0,.slice none 0 0]:=Cells.new w7 28 [.bool false,.slice none 0 0,.slice none 0 0];have zyb:wr.heap.size<=w7.heap.size:=B7.size;have J8:PicOn (λb=>b≠g/\b≠w7.heap.size) (w7.alloc (.cells #[.bool false,.slice none 0 0,.slice none 0 0] 28)) Y js ks:=(J7.mono λb hb hlt=>⟨hb,Nat.ne_of_lt hlt⟩).call hb8;clear J7;clear B7;refine hK.out _ _ (HKZ.out _ B8) (λhHeld8=> ?_);clear hK K hb8;refine sm ?_;generalize w7.alloc (.cells #[.bool false,.slice none 0 0,.slice none 0 0] 28)=w8 at *;generalize w7.heap.size=yb at *;refine wpAnyH_ready (rs:=[18]) (by kernel_rfl) (by simp) ?_;refine AllReadyH.cons rfl (λK hK=> ?_) AllReadyH.nil;have r0:=A8.1 0 _ rfl;have r1:=A8.1 1 _ rfl;have r2:=A8.1 2 _ rfl;have f0:=A8.2.2 0;have f1:=A8.2.2 1;have f2:=A8.2.2 2;go_simp;have A9:Cells (((w8.setCell ⟨yb,0,none⟩ (.bool Y.none)).setCell ⟨yb,1,none⟩ (.slice js Y.vars.length jc)).setCell ⟨yb,2,none⟩ (.slice ks Y.flds.length kc)) yb [.bool Y.none,.slice js Y.vars.length jc,.slice ks Y.flds.length kc]:=((A8.put 0 (by simp) _).put 1 (by simp) _).put 2 (by simp) _;have B9:Below wr.heap.size wr (((w8.setCell ⟨yb,0,none⟩ (.bool Y.none)).setCell ⟨yb,1,none⟩ (.slice js Y.vars.length jc)).setCell ⟨yb,2,none⟩ (.slice ks Y.flds.length kc)):=((B8.setCell zyb _).setCell zyb _).setCell zyb _;have hch:∀q,q≠yb->(((w8.setCell ⟨yb,0,none⟩ (.bool Y.none)).setCell ⟨yb,1,none⟩ (.slice js Y.vars.length jc)).setCell ⟨yb,2,none⟩ (.slice ks Y.flds.length kc)).heap[q]? =w8.heap[q]? :=λq hq=>by rw[Below.heap_setCell _ _ _ _ hq,Below.heap_setCell _ _ _ _ hq,Below.heap_setCell _ _ _ _ hq]
  have hcz:w8.heap.size<=(((w8.setCell ⟨yb,0,none⟩ (.bool Y.none)).setCell ⟨yb,1,none⟩ (.slice js Y.vars.length jc)).setCell ⟨yb,2,none⟩ (.slice ks Y.flds.length kc)).heap.size:=by simp[World.setCell]
  have J9:PicOn (λb=>b≠g) (((w8.setCell ⟨yb,0,none⟩ (.bool Y.none)).setCell ⟨yb,1,none⟩ (.slice js Y.vars.length jc)).setCell ⟨yb,2,none⟩ (.slice ks Y.flds.length kc)) Y js ks:=(J8.same (λb hb _=>hch b hb.2) hcz).mono λb hb _=>hb.1.1;refine hK.out _ _ (HKZ.out _ B9) (λhHeld9=> ?_);clear hK K r0 r1 r2 f0 f1 f2 A8 B8 J8 hch hcz;refine sm ?_;generalize (((w8.setCell ⟨yb,0,none⟩ (.bool Y.none)).setCell ⟨yb,1,none⟩ (.slice js Y.vars.length jc)).setCell ⟨yb,2,none⟩ (.slice ks Y.flds.length kc))=w9 at *;refine wpAnyH_done (by kernel_rfl) ?_ _
  first|refine hK1 _ _ (Met.intro (hJ1 _ _ ?_))|refine Met.intro (hJ1 _ _ ?_)|refine hJ1 _ _ ?_
  (repeat apply Exists.intro)
  refine⟨?_,rfl⟩;exact⟨yb,js,jc,ks,kc,rfl,by show JnAt _ _ _ _ _ _ _ _ _;rw[HWD.out];have h:=HYE.out;(try simp only[Int.ofNat_le] at h |-);rw[<-h];exact⟨A9,J9,JC1,JC2,B9⟩⟩
 ·go_simp
  have hb7:Below w6.heap.size w6 (w6.alloc (.cells #[.bool false,.slice none 0 0,.slice none 0 0] 28)):=by go_grown
  have B7:=B6.trans (hb7.mono (B6.size));have A7:Cells (w6.alloc (.cells #[.bool false,.slice none 0 0,.slice none 0 0] 28)) w6.heap.size [.bool false,.slice none 0 0,.slice none 0 0]:=Cells.new w6 28 [.bool false,.slice none 0 0,.slice none 0 0];have zyb:wr.heap.size<=w6.heap.size:=B6.size;clear B6;refine hK.out _ _ (HKZ.out _ B7) (λhHeld7=> ?_);clear hK K hb7;refine sm ?_;generalize w6.alloc (.cells #[.bool false,.slice none 0 0,.slice none 0 0] 28)=w7 at *;generalize w6.heap.size=yb at *;refine wpAnyH_ready (rs:=[16]) (by kernel_rfl) (by simp) ?_;refine AllReadyH.cons rfl (λK hK=> ?_) AllReadyH.nil;go_simp;refine(HJN.out _ w7 B7).mono ?_;rintro e w8 ⟨⟨Y,js,jc,ks,kc,HYE,rfl,JP,JC1,JC2⟩,hb8⟩;have A8:=A7.call hb8;have B8:=B7.trans (hb8.mono (B7.size));have J8:PicOn (λb=>b≠g/\b≠yb) w8 Y js ks:=JP.mono λb hb _=>by
   rcases hb with h|h
   ·exact⟨h.1,by omega⟩
   ·exact⟨by have:=B7.size;omega,by have:=A7.2.1;omega⟩
  clear JP;refine hK.out _ _ (HKZ.out _ B8) (λhHeld8=> ?_);clear hK K hb8 A7 B7;refine sm ?_;refine wpAnyH_ready (rs:=[18]) (by kernel_rfl) (by simp) ?_;refine AllReadyH.cons rfl (λK hK=> ?_) AllReadyH.nil;have r0:=A8.1 0 _ rfl;have r1:=A8.1 1 _ rfl;have r2:=A8.1 2 _ rfl;have f0:=A8.2.2 0;have f1:=A8.2.2 1;have f2:=A8.2.2 2;go_simp;have A9:Cells (((w8.setCell ⟨yb,0,none⟩ (.bool Y.none)).setCell ⟨yb,1,none⟩ (.slice js Y.vars.length jc)).setCell ⟨yb,2,none⟩ (.slice ks Y.flds.length kc)) yb [.bool Y.none,.slice js Y.vars.length jc,.slice ks Y.flds.length kc]:=((A8.put 0 (by simp) _).put 1 (by simp) _).put 2 (by simp) _;have B9:Below wr.heap.size wr (((w8.setCell ⟨yb,0,none⟩ (.bool Y.none)).setCell ⟨yb,1,none⟩ (.slice js Y.vars.length jc)).setCell ⟨yb,2,none⟩ (.slice ks Y.flds.length kc)):=((B8.setCell zyb _).setCell zyb _).setCell zyb _;have hch:∀q,q≠yb->(((w8.setCell ⟨yb,0,none⟩ (.bool Y.none)).setCell ⟨yb,1,none⟩ (.slice js Y.vars.length jc)).setCell ⟨yb,2,none⟩ (.slice ks Y.flds.length kc)).heap[q]? =w8.heap[q]? :=λq hq=>by rw[Below.heap_setCell _ _ _ _ hq,Below.heap_setCell _ _ _ _ hq,Below.heap_setCell _ _ _ _ hq]
  have hcz:w8.heap.size<=(((w8.setCell ⟨yb,0,none⟩ (.bool Y.none)).setCell ⟨yb,1,none⟩ (.slice js Y.vars.length jc)).setCell ⟨yb,2,none⟩ (.slice ks Y.flds.length kc)).heap.size:=by simp[World.setCell]
  have J9:PicOn (λb=>b≠g) (((w8.setCell ⟨yb,0,none⟩ (.bool Y.none)).setCell ⟨yb,1,none⟩ (.slice js Y.vars.length jc)).setCell ⟨yb,2,none⟩ (.slice ks Y.flds.length kc)) Y js ks:=(J8.same (λb hb _=>hch b hb.2) hcz).mono λb hb _=>hb.1.1;refine hK.out _ _ (HKZ.out _ B9) (λhHeld9=> ?_);clear hK K r0 r1 r2 f0 f1 f2 A8 B8 J8 hch hcz;refine sm ?_;generalize (((w8.setCell ⟨yb,0,none⟩ (.bool Y.none)).setCell ⟨yb,1,none⟩ (.slice js Y.vars.length jc)).setCell ⟨yb,2,none⟩ (.slice ks Y.flds.length kc))=w9 at *;refine wpAnyH_done (by kernel_rfl) ?_ _
  first|refine hK1 _ _ (Met.intro (hJ1 _ _ ?_))|refine Met.intro (hJ1 _ _ ?_)|refine hJ1 _ _ ?_
  (repeat apply Exists.intro)
  refine⟨?_,rfl⟩;exact⟨yb,js,jc,ks,kc,rfl,by show JnAt _ _ _ _ _ _ _ _ _;rw[HWD.out];have h:=HYE.out;(try simp only[Int.ofNat_le] at h |-);rw[<-h];exact⟨A9,J9,JC1,JC2,B9⟩⟩):p:=h
theorem vV (hF:s8)(hS:uP)(hJ:uX)(V F:Int)(s:oA)(c:List Ins)(cap:Nat)(w:World)(hc:CodeAt w s c)(h0:ag V F c=0):
  Calls pG 13 #[pv V F s c cap] w λe w'=>tj V F c e w'/\Below w.heap.size w w':=by
 obtain⟨⟨hV1,hV8⟩,⟨hF0,hF3⟩,h60⟩:=bq h0;obtain⟨ti,hi,hz0,hz1,hz2⟩:=info_parts Tryz.info_pic;have P0:=PrAt.new w V F s c cap;have B0:Below w.heap.size w (w.alloc (Cc #[I .i64 V,I .i64 F,U s c.length cap] 24)):=by go_grown
 have z0:w.heap.size < (w.alloc (Cc #[I .i64 V,I .i64 F,U s c.length cap] 24)).heap.size:=by simp
 have HC:=aa hc;have HZ:=aa h0;have HF:=aa (λwx=>hF V F s c cap wx h0);have HSD:=aa hS;have HJD:=aa hJ;clear hc h0 hF hS hJ;go_enter Tryz.func13,Tryz.ntmps13
 go_upto_region 1 with fail
 generalize w.alloc (Cc #[I .i64 V,I .i64 F,U s c.length cap] 24)=w0 at *;obtain⟨⟨p0,p1,p2⟩,pz⟩:=id P0;go_wp2_with (go_at_call 40;fail);refine(HF.out w0).mono ?_;rintro e w1 ⟨⟨vs,vc,fs,fc,rfl,hx,hq1,hq2⟩,hb1⟩;have P1:=P0.call hb1;have B1:=B0.trans (hb1.mono B0.size);have z1:w.heap.size < w1.heap.size:=lL z0 hb1.size;have HD:=aa (λ(g cp:Nat) (W:World) (h:BegAt w1 (aQ V F c) vs vc fs fc c.length g cp W)=>h.doc hx hq1 hq2 P1 B1 z1);have HPG:=aa (λ(k g cp:Nat) (W:World) (h:BegAt w1 (aQ V F c) vs vc fs fc k g cp W)=>(P1.low h.lo z1:PrAt W w.heap.size V F s c cap));obtain⟨x,ex⟩:∃x,x=(aQ V F c):=⟨_,rfl⟩;rw[<-ex] at HD HPG |-;clear P0 B0 z0 hb1 HF p0 p1 p2 pz hx hq1 hq2 P1 B1 z1 ex;have N0:=BegAt.new (w1:=w1) (x:=x) (vs:=vs) (vc:=vc) (fs:=fs) (fc:=fc)
 go_upto_region 2 with fail
 generalize w1.alloc (Cc #[Bb x.none,U vs x.vars.length vc,U fs x.flds.length fc] 28)=w2 at *;obtain⟨g1,eg1⟩:∃g,g=w1.heap.size:=⟨_,rfl⟩;rw[<-eg1] at N0 |-;clear eg1;have zw1:w1.heap.size=w1.heap.size:=rfl;go_wp2;go_loopw [4,5] (λl i wr=>∃k g cp:Nat,k<=c.length/\i=I .i64 k/\l=U (sO ⟨g,0,nO⟩) (k+1) cp/\Hid (BegAt w1 x vs vc fs fc k g cp wr)) (λ_ i _=>c.length - (intOf i).toNat)
 case atStart=>exact⟨0,g1,1,j1 _,rfl,rfl,N0⟩
 case round=>
  clear N0;obtain⟨k,g,cp,hk1,rfl,rfl,HN⟩:=hrel;obtain⟨⟨p0,p1,p2⟩,pz⟩:=id (HPG.out k g cp wr HN.out);by_cases hlt:k < c.length
  ·have n0:(0:Int)<=(k:Int):=by omega
   have n1:(k:Int) < (c.length:Int):=by omega
   have S4:=HN.out.pr.kept (j3 wr (Cc #[Bb true,U nO 0 0,U nO 0 0] 28) nO) (.inr (by simp[j2]));have zw:=HN.out.lo.size;go_wp2_with (at_builtin;refine aY _ rfl _ _ 34 rfl w1.heap.size 28 ti (Ag #[Bb false,U nO 0 0,U nO 0 0]) 3 56 Tryz.underlying34 hi hz0 hz1 hz2 rfl (by decide) _ _ _ rfl S4 (sO ⟨wr.heap.size,0,nO⟩) 1 1 npC rfl rfl (λh=>by cases h) ?qa2 ?qa3 ?qa4 ?qa5 ?qa6 ?_)
   case qa2=>exact nd wr 28 npC
   case qa3=>intro u hu;simp[npC] at hu;rcases hu with rfl|rfl<;>rfl
   case qa4=>unfold maxLen;omega
   case qa5=>omega
   case qa6=>rw[zA];omega
   intro v' w4 hown hgrow hat;obtain⟨g',cp',rfl,N4⟩:=HN.out.grow hown hgrow;have HN4:=aa N4;clear hown hgrow hat S4 HN zw N4 p0 p1 p2 pz;go_wp2;go_roundw
   case rel=>exact⟨k+1,g',cp',by omega,by go_num,rfl,HN4.out⟩
   case measure=>simp[intOf];omega
  have n1:¬(k:Int) < (c.length:Int):=by omega
  have ek:k=c.length:=by omega
  subst ek;obtain⟨D0,hg⟩:=HD.out g cp wr HN.out;clear HN HD HPG hk1 hlt;go_wp2;clear p0 p1 p2 pz hi hz0 hz1 hz2;obtain⟨M,hM⟩:∃M:Nat,M=200000000000003:=⟨_,rfl⟩;have HM:=aa hM;clear hM;go_loopw [6,7] (λn ch wr=>∃(m:Nat) (b:Bool),n=I .i64 (m:Int)/\ch=Bb b/\Hid (DocAt w V F s c cap g (aK V F c m) wr)/\Hid (RndIs V F c m b)) (λn _ _=>M - (intOf n).toNat)
  case atStart=>exact⟨0,true,rfl,rfl,D0,.inl ⟨rfl,λk h=>absurd h (by omega)⟩⟩
  case round=>
   clear D0;obtain⟨m,b,rfl,rfl,HW,HR⟩:=hrel;rcases HR.out with⟨rfl,hall⟩|⟨rfl,m',rfl,hS⟩;rotate_left
   ·have HA:Hid (tj V F c (Rt (Tu #[U (sO ⟨g,0,nO⟩) (c.length+1) cp,I .i64 ((m'+1:Nat):Int)])) wr):=by
     refine⟨m',g,cp,hS,ul HZ.out hS,rfl,?_⟩;rw[<-(iE HZ.out hS).1];exact HW.out.pr.xs
    have HL:=aa HW.out.lo;clear HW HR hS;go_wp2;refine bodyPost_ret (v:=Tu #[U (sO ⟨g,0,nO⟩) (c.length+1) cp,I .i64 ((m'+1:Nat):Int)]) (by simp[results,Tryz.results13,go_sem]) rfl ?_;exact⟨HA.out,HL.out⟩
   have hfew:=gq HZ.out hall;have hmb:(m:Int)<=200000000000000:=by omega
   have HMB:Hid (m+2 < M):=by show _ < _;rw[HM.out];exact Nat.lt_of_le_of_lt (Nat.add_le_add_right (show m<=200000000000000 by omega) 2) (by decide)
   have HALL:=aa hall;have HOK:=aa (λ(k:Nat) (hk:k<=c.length)=>(lj (n:=((m+1:Nat):Int)) HZ.out hk (s:=(aK V F c m,false)) (cV HZ.out m)).1);clear hfew hall HR;go_wp2;go_loopw [7,8] (λch i wr=>∃(k:Nat) (L:List Pic) (b:Bool),k<=c.length/\i=I .i64 k/\ch=Bb b/\Hid ((List.range k).foldl (cO c ((m+1:Nat):Int)) (aK V F c m,false)=(L,b))/\Hid (DocAt w V F s c cap g L wr)) (λ_ i _=>c.length - (intOf i).toNat)
   case atStart=>exact⟨0,_,_,j1 _,rfl,rfl,rfl,HW.out⟩
   case round=>
    clear HW;obtain⟨k,L,b,hk1,rfl,rfl,HK,HW⟩:=hrel;have hpg:=HW.out.pg;obtain⟨⟨p0,p1,p2⟩,pz⟩:=id hpg;by_cases hlt:k < c.length;rotate_left
    ·have n1:¬(k:Int) < (c.length:Int):=by omega
     have ek:k=c.length:=by omega
     subst ek;have HRD:Hid (cL c ((m+1:Nat):Int) (aK V F c m)=(L,b)):=HK.out;have HRI:Hid (RndIs V F c (m+1) b):=RndIs.next HALL.out HRD.out;have HWN:Hid (DocAt w V F s c cap g (aK V F c (m+1)) wr):=by
      show DocAt _ _ _ _ _ _ _ _ _;rw[show aK V F c (m+1)=L from congrArg Prod.fst HRD.out];exact HW.out
     clear hpg HW HK HRD;go_wp2;go_roundw
     case rel=>exact⟨m+1,b,by go_num,rfl,HWN.out,HRI.out⟩
     case measure=>have:=HMB.out;simp[intOf];omega
    have hxs:XsOk V F c L:=by have h:=HOK.out k hk1;rw[HK.out] at h;exact h
    have hkL:k < L.length:=by have:=hxs.len;omega
    obtain⟨vs3,vc3,fs3,fc3,⟨q0,q1,q2⟩,hPx,hvx,hfx,zg,-⟩:=HW.out.pr.cell hkL;obtain⟨x3,ex⟩:∃x,x=L[k]:=⟨_,rfl⟩;have hckx:an V F c x3=0:=by rw[ex];exact hxs.ck _ (gM hkL)
    have exa:aI L (k:Int)=x3:=by rw[ex];exact dm hkL
    rw[<-ex] at q0 q1 q2 hPx hvx hfx;have hEd:=e8 HZ.out hckx hlt;have hEl:=iz (bM c (k:Int)) (k:Int) x3;obtain⟨⟨E,f1,f2⟩,er⟩:∃r,r=ah (bM c (k:Int)) (k:Int) x3:=⟨_,rfl⟩;have HTN:Hid (∀t:List Pic×Bool,E.foldl (bD ((m+1:Nat):Int) (k:Int)) (L,b)=t->(List.range (k+1)).foldl (cO c ((m+1:Nat):Int)) (aK V F c m,false)=t):=λt h=>by
     rw[List.range_succ,x1,HK.out];show (bG c k (aI L k)).foldl _ _=t;rw[exa];unfold bG;rw[<-er];exact h
    have HE:Hid ((∀e∈E,en V F c e)/\E.length<=10):=by
     unfold bG at hEd;rw[<-er] at hEd hEl;exact⟨hEd,lT hEl (by decide)⟩
    have HST:Hid (∀wx,Below wr.heap.size wr wx->Calls pG 7 #[pv V F s c cap,I .i64 (k:Int),xv x3 vs3 vc3 fs3 fc3] wx λe w'=>(∃es ec,e=Rt (Tu #[U es E.length ec,Bb f1,Bb f2])/\EdsOn (λb=>b≠g) w' es E)/\Below wx.heap.size wx w'):=λwx hb=>by
     have h:=HSD.out (λb=>b≠g) V F s c cap (k:Int) x3 vs3 vc3 fs3 fc3 wx (HC.out.below (HW.out.lo.trans (hb.mono HW.out.lo.size)) (lR _)) (hPx.call hb) HZ.out hckx (by omega) (by omega) hvx hfx;rw[<-er] at h;refine h.mono ?_;rintro e w' ⟨⟨es,ec,rfl,hE⟩,hb'⟩;exact⟨⟨es,ec,rfl,hE.mono λb hb1 _=>by have:=hb.size;omega⟩,hb'⟩
    have HKZ:Hid (∀wx,Below wr.heap.size wr wx->(wx.cell? ⟨w.heap.size,0,nO⟩=sO (I .i64 V)/\wx.cell? ⟨w.heap.size,1,nO⟩=sO (I .i64 F)/\wx.cell? ⟨w.heap.size,2,nO⟩=sO (U s c.length cap))/\(wx.cell? ⟨g,k * 3,nO⟩=sO (Bb x3.none)/\wx.cell? ⟨g,k * 3+1,nO⟩=sO (U vs3 x3.vars.length vc3)/\wx.cell? ⟨g,k * 3+2,nO⟩=sO (U fs3 x3.flds.length fc3))):=λwx hb=>by
     refine⟨(hpg.call hb).1,?_,?_,?_⟩
     ·rw[hb.cell (by simp only;exact zg)];exact q0
     ·rw[hb.cell (by simp only;exact zg)];exact q1
     ·rw[hb.cell (by simp only;exact zg)];exact q2
    have HXS:=aa hxs;have B34:Below wr.heap.size wr wr.drew:=(bR _ _).drew;have n0:(0:Int)<=(k:Int):=by omega
    have n1:(k:Int) < (c.length:Int):=by omega
    have n2:(k:Int) < ((c.length+1:Nat):Int):=by omega
    have n3:(k:Int) < (c.length:Int)+1:=by omega
    clear er exa hckx hPx hvx hfx q0 q1 q2 hEd hEl hxs ex
    go_upto_region 14 with fail
    refine am (S:=(λwx=>(wx.cell? ⟨w.heap.size,0,nO⟩=sO (I .i64 V)/\wx.cell? ⟨w.heap.size,1,nO⟩=sO (I .i64 F)/\wx.cell? ⟨w.heap.size,2,nO⟩=sO (U s c.length cap))/\(wx.cell? ⟨g,k * 3,nO⟩=sO (Bb x3.none)/\wx.cell? ⟨g,k * 3+1,nO⟩=sO (U vs3 x3.vars.length vc3)/\wx.cell? ⟨g,k * 3+2,nO⟩=sO (U fs3 x3.flds.length fc3)))) [] (by kernel_rfl) (HKZ.out _ B34) (λhHeld=> ?_);generalize wr.drew=w4 at *;refine vZ 0 ?_ ?_;refine vZ 1 ?_ ?_;refine vZ 2 ?_ ?_;refine vZ 3 ?_ ?_;refine vZ 4 ?_ ?_;refine vZ 5 ?_ ?_;refine ai (i:=6) rfl (by kernel_rfl) (λK hK=> ?_);go_simp;go_at_call 7;refine(HST.out w4 B34).mono ?_;rintro e w5 ⟨⟨es,ec,rfl,hE5⟩,hb5⟩;have HE5:=aa hE5;clear hE5;go_wp2_with fail;refine hK.out _ _ (HKZ.out _ (B34.trans (hb5.mono B34.size))) (λhHeld=> ?_);clear hK K;refine sm ?_;refine vZ 7 ?_ ?_;refine vZ 8 ?_ ?_;refine vZ 9 ?_ ?_;refine vZ 10 ?_ ?_;refine vZ 11 ?_ ?_;refine vZ 12 ?_ ?_;refine vZ 13 ?_ ?_;refine aj (by kernel_rfl) ?_ _;have B5:=B34.trans (hb5.mono B34.size);have HW5:=aa (HW.out.call B5);clear hHeld HKZ HST B34 B5 hb5 HW hpg p0 p1 p2 pz;go_wp2;generalize w5=wA at *;clear w5;go_loopw [7,12] (λch j wr=>∃(q:Nat) (L':List Pic) (b':Bool),q<=E.length/\j=I .i64 q/\ch=Bb b'/\Hid ((E.take q).foldl (bD ((m+1:Nat):Int) (k:Int)) (L,b)=(L',b'))/\Hid (DocAt w V F s c cap g L' wr)/\Hid (EdsOn (λb=>b≠g) wr es E)) (λ_ j _=>E.length - (intOf j).toNat)
    case atStart=>exact⟨0,L,b,j1 _,rfl,rfl,rfl,HW5.out,HE5.out⟩
    case round=>
     clear HW5 HE5;obtain⟨q,L',b',hq1,rfl,rfl,HQ,HD,HS⟩:=hrel;have hx':XsOk V F c L':=ub HZ.out HE.out.1 HXS.out q HQ.out;have hEl:=HE.out.2;by_cases hlq:q < E.length;rotate_left
     ·have n3:¬(q:Int) < (E.length:Int):=by omega
      have HKN:=aa (HTN.out (L',b') (by have h:=HQ.out;rwa [z8 (by omega)] at h))
      clear HQ HS hx';go_wp2;go_roundw
      case rel=>exact⟨k+1,L',b',by omega,by go_num,rfl,HKN.out,HD.out⟩
      case measure=>simp[intOf];omega
     have m0:(0:Int)<=(q:Int):=by omega
     have m1:(q:Int) < (E.length:Int):=by omega
     obtain⟨b2,o2,rfl,hS2,hz2,us,uc,gs,gc,⟨d0,d1,d2,d3⟩,hPe,hve,hfe⟩:=HS.out q hlq;have heo:=HE.out.1 _ (gM hlq);have HNX:=aa (ue hlq HQ.out);obtain⟨⟨tq,y⟩,ee⟩:∃e,e=E[q]:=⟨_,rfl⟩;rw[<-ee] at d0 d1 d2 d3 hPe hve hfe heo HNX;clear ee;obtain⟨hcy,t0,t1⟩:=heo;simp only at d0 d1 d2 d3 hPe hve hfe hcy t0 t1;obtain⟨t,rfl⟩:=q5 t0;have htL:t < L'.length:=by have:=hx'.len;omega
     obtain⟨vs4,vc4,fs4,fc4,⟨r0,r1,r2⟩,hPz,hvz,hfz,zg4,-⟩:=HD.out.pr.cell htL;obtain⟨z,ez⟩:∃z,z=L'[t]:=⟨_,rfl⟩;have hcz:an V F c z=0:=by rw[ez];exact hx'.ck _ (gM htL)
     have HZA:Hid (aI L' (t:Int)=z):=by show _=_;rw[ez];exact dm htL
     rw[<-ez] at r0 r1 r2 hPz hvz hfz;clear ez;have HJN:Hid (∀(wide:Bool) wx,Below wr.heap.size wr wx->Calls pG 41 #[xv z vs4 vc4 fs4 fc4,xv y us uc gs gc,Bb wide] wx λe w'=>(∃Y js jc ks kc,Hid (Y=aw (ac wide) z y)/\e=Rt (Ag #[Bb Y.none,U js Y.vars.length jc,U ks Y.flds.length kc])/\PicOn (λb=>(b≠g/\b < wr.heap.size)\/wx.heap.size<=b) w' Y js ks/\(Y.vars.length<=jc/\jc<=maxLen)/\(Y.flds.length<=kc/\kc<=maxLen))/\Below wx.heap.size wx w'):=λwide wx hb=>by
      refine(HJD.out (λb=>b≠g/\b < wr.heap.size) V F c wide z y vs4 vc4 fs4 fc4 us uc gs gc wx ((hPz.mono λb h hl=>⟨h,hl⟩).call hb) ((hPe.mono λb h hl=>⟨h,hl⟩).call hb) hvz hfz hve hfe HZ.out hcz hcy).mono ?_;rintro e w' ⟨⟨js,jc,ks,kc,rfl,h1,h2⟩,hb'⟩;exact⟨⟨_,js,jc,ks,kc,rfl,rfl,h1,h2⟩,hb'⟩
     have HKZ:Hid (∀wx,Below wr.heap.size wr wx->(wx.cell? ⟨g,t * 3,nO⟩=sO (Bb z.none)/\wx.cell? ⟨g,t * 3+1,nO⟩=sO (U vs4 z.vars.length vc4)/\wx.cell? ⟨g,t * 3+2,nO⟩=sO (U fs4 z.flds.length fc4))/\(wx.cell? ⟨b2,o2+q * 4+1,nO⟩=sO (Bb y.none)/\wx.cell? ⟨b2,o2+q * 4+2,nO⟩=sO (U us y.vars.length uc)/\wx.cell? ⟨b2,o2+q * 4+3,nO⟩=sO (U gs y.flds.length gc))):=λwx hb=>by
      have c1:=λj=>hb.cell (p:=⟨g,j,nO⟩) (by simp only;exact zg4);have c2:=λj=>hb.cell (p:=⟨b2,j,nO⟩) (by simp only;exact hz2);exact⟨⟨(c1 _).trans r0,(c1 _).trans r1,(c1 _).trans r2⟩,(c2 _).trans d1,(c2 _).trans d2,(c2 _).trans d3⟩
     have HK4:=aa (λwx hb=>(HKZ.out wx hb).1);have HPZ:=aa (λwx (hb:Below wr.heap.size wr wx)=>(hPz.call hb).at);have HCZ:=aa (And.intro hcz hcy);have m2:(0:Int)<=(t:Int):=by omega
     have m3:(t:Int) < ((c.length+1:Nat):Int):=by omega
     have m4:(t:Int) < (c.length:Int)+1:=by omega
     clear hPe hve hfe hcy hcz hPz hvz hfz d1 d2 d3 hx' t0 t1 r0 r1 r2
     go_upto_region 19 with fail
     clear d0
     go_cut [14] (λt14 wc=>∃(yb:Nat) (js:oA) (jc:Nat) (ks:oA) (kc:Nat),t14=Pp (sO ⟨yb,0,nO⟩)/\Hid (JnAt wr g yb (aw (ac (cF ((m+1:Nat):Int) (k:Int) (t:Int))) z y) js jc ks kc wc))
     case first=>
      rename_i J1 K1 hJ1 hK1;have B6:Below wr.heap.size wr wr.drew:=(bR _ _).drew;by_cases hm4:(4:Int)<=(m:Int)+1
      ·have HWD:Hid (cF ((m+1:Nat):Int) (k:Int) (t:Int)=decide ((t:Int)<=(k:Int))):=by show _=_;unfold cF;rw[decide_eq_true (by omega:(4:Int)<=((m+1:Nat):Int)),Bool.true_and]
       refine wp_region_held_drew (S:=(λwx=>(wx.cell? ⟨g,t * 3,nO⟩=sO (Bb z.none)/\wx.cell? ⟨g,t * 3+1,nO⟩=sO (U vs4 z.vars.length vc4)/\wx.cell? ⟨g,t * 3+2,nO⟩=sO (U fs4 z.flds.length fc4))/\(wx.cell? ⟨b2,o2+q * 4+1,nO⟩=sO (Bb y.none)/\wx.cell? ⟨b2,o2+q * 4+2,nO⟩=sO (U us y.vars.length uc)/\wx.cell? ⟨b2,o2+q * 4+3,nO⟩=sO (U gs y.flds.length gc)))) (by kernel_rfl) (HKZ.out _ B6) (λhHeld=> ?_);generalize wr.drew=w6 at *;refine vH 0 ?_ ?_;refine vH 1 ?_ ?_;refine vH 2 ?_ ?_;refine vH 3 ?_ ?_;refine vH 4 ?_ ?_;refine vH 5 ?_ ?_;refine vH 6 ?_ ?_;refine vH 7 ?_ ?_;refine vH 8 ?_ ?_;refine vH 9 ?_ ?_;refine vH 10 ?_ ?_;refine vH 11 ?_ ?_;refine vH 12 ?_ ?_;refine vH 13 ?_ ?_;refine vH 14 ?_ ?_;exact o8
      ·have HWD:Hid (cF ((m+1:Nat):Int) (k:Int) (t:Int)=false):=by show _=_;unfold cF;rw[decide_eq_false (by omega:¬(4:Int)<=((m+1:Nat):Int)),Bool.false_and]
       refine wp_region_held_drew (S:=(λwx=>(wx.cell? ⟨g,t * 3,nO⟩=sO (Bb z.none)/\wx.cell? ⟨g,t * 3+1,nO⟩=sO (U vs4 z.vars.length vc4)/\wx.cell? ⟨g,t * 3+2,nO⟩=sO (U fs4 z.flds.length fc4))/\(wx.cell? ⟨b2,o2+q * 4+1,nO⟩=sO (Bb y.none)/\wx.cell? ⟨b2,o2+q * 4+2,nO⟩=sO (U us y.vars.length uc)/\wx.cell? ⟨b2,o2+q * 4+3,nO⟩=sO (U gs y.flds.length gc)))) (by kernel_rfl) (HKZ.out _ B6) (λhHeld=> ?_);generalize wr.drew=w6 at *;refine vH 0 ?_ ?_;refine vH 1 ?_ ?_;refine vH 2 ?_ ?_;refine vH 3 ?_ ?_;refine vH 4 ?_ ?_;refine vH 5 ?_ ?_;refine vH 6 ?_ ?_;refine vH 7 ?_ ?_;refine vH 8 ?_ ?_;refine vH 9 ?_ ?_;refine vH 10 ?_ ?_;refine vH 11 ?_ ?_;refine uH 12 ?_;refine sm ?_;refine uH 13 ?_;refine sm ?_;refine uH 14 ?_;refine sm ?_;exact o8
     obtain⟨yb,js,jc,ks,kc,rfl,HY⟩:=hcut;have HYN:Hid (aw (ac (cF ((m+1:Nat):Int) (k:Int) (t:Int))) z y=z->(E.take (q+1)).foldl (bD ((m+1:Nat):Int) (k:Int)) (L,b)=(L',b')):=λh=>HNX.out.trans (vA HZ.out HZA.out HCZ.out.1 HCZ.out.2 h);have HYP:Hid (¬aw (ac (cF ((m+1:Nat):Int) (k:Int) (t:Int))) z y=z->(E.take (q+1)).foldl (bD ((m+1:Nat):Int) (k:Int)) (L,b)=(L'.set t (aw (ac (cF ((m+1:Nat):Int) (k:Int) (t:Int))) z y),true)):=λh=>HNX.out.trans (Aj HZ.out HZA.out HCZ.out.1 HCZ.out.2 h);obtain⟨Y,eY⟩:∃Y,Y=aw (ac (cF ((m+1:Nat):Int) (k:Int) (t:Int))) z y:=⟨_,rfl⟩;rw[<-eY] at HY HYN HYP;clear eY HNX HJN HKZ HZA HCZ HQ;have HDC:=aa (HD.out.call HY.out.lo);have HSC:=aa (HS.out.call HY.out.lo);have HSM:Hid (∀wx,Below wc.heap.size wc wx->Calls pG 31 #[xv Y js jc ks kc,xv z vs4 vc4 fs4 fc4] wx λe w'=>SameAns e (Y=z)/\Below wx.heap.size wx w'):=λwx hb=>iv Y z js jc ks kc vs4 vc4 fs4 fc4 wx ⟨lT HY.out.c1.1 HY.out.c1.2,lT HY.out.c2.1 HY.out.c2.2⟩ (HY.out.pic.call hb).at (HPZ.out wx (HY.out.lo.trans (hb.mono HY.out.lo.size)));have HKZ:Hid (∀wx,Below wc.heap.size wc wx->(wx.cell? ⟨yb,0,nO⟩=sO (Bb Y.none)/\wx.cell? ⟨yb,1,nO⟩=sO (U js Y.vars.length jc)/\wx.cell? ⟨yb,2,nO⟩=sO (U ks Y.flds.length kc))/\(wx.cell? ⟨g,t * 3,nO⟩=sO (Bb z.none)/\wx.cell? ⟨g,t * 3+1,nO⟩=sO (U vs4 z.vars.length vc4)/\wx.cell? ⟨g,t * 3+2,nO⟩=sO (U fs4 z.flds.length fc4))):=λwx hb=>by
      have a:=HY.out.cell.call hb;exact⟨⟨a.1 0 _ rfl,a.1 1 _ rfl,a.1 2 _ rfl⟩,HK4.out wx (HY.out.lo.trans (hb.mono HY.out.lo.size))⟩
     have B7:Below wc.heap.size wc wc.drew:=(bR _ _).drew;clear HPZ
     go_upto_region 20 with fail
     refine am (S:=(λwx=>(wx.cell? ⟨yb,0,nO⟩=sO (Bb Y.none)/\wx.cell? ⟨yb,1,nO⟩=sO (U js Y.vars.length jc)/\wx.cell? ⟨yb,2,nO⟩=sO (U ks Y.flds.length kc))/\(wx.cell? ⟨g,t * 3,nO⟩=sO (Bb z.none)/\wx.cell? ⟨g,t * 3+1,nO⟩=sO (U vs4 z.vars.length vc4)/\wx.cell? ⟨g,t * 3+2,nO⟩=sO (U fs4 z.flds.length fc4)))) [] (by kernel_rfl) (HKZ.out _ B7) (λhHeld=> ?_);generalize wc.drew=w7 at *;refine vZ 0 ?_ ?_;refine vZ 1 ?_ ?_;refine vZ 2 ?_ ?_;refine vZ 3 ?_ ?_;refine vZ 4 ?_ ?_;refine ai (i:=5) rfl (by kernel_rfl) (λK hK=> ?_);go_simp;go_at_call 31;refine(HSM.out w7 B7).mono ?_;rintro e w8 ⟨⟨bb,rfl,HBB0⟩,hb8⟩;have HBB:=aa HBB0;clear HBB0;go_wp2_with fail;refine hK.out _ _ (HKZ.out _ (B7.trans (hb8.mono B7.size))) (λhHeld=> ?_);clear hK K;refine sm ?_;refine vZ 6 ?_ ?_;refine aj (by kernel_rfl) ?_ _;have B9:=B7.trans (hb8.mono B7.size);have HD9:=aa (HDC.out.call B9);have HS9:=aa (HSC.out.call B9);have HY9:Hid (Cells w8 yb [Bb Y.none,U js Y.vars.length jc,U ks Y.flds.length kc]/\PicOn (λb=>b≠g) w8 Y js ks):=⟨HY.out.cell.call B9,HY.out.pic.call B9⟩;have HYC:=aa (And.intro HY.out.c1 HY.out.c2);have HXC:=aa (HKZ.out w8 B9).2;clear HDC HSC HSM HKZ hHeld B7 hb8 HY HD HS B9 HK4;rcases Bool.eq_false_or_eq_true bb with e1|e1
     ·have HQN:=aa (HYN.out (HBB.out.1 e1))
      subst e1;clear HBB HYN HYP HY9 HXC HYC;go_wp2;go_roundw
      case rel=>exact⟨q+1,L',b',by omega,by go_num,rfl,HQN.out,HD9.out,HS9.out⟩
      case measure=>simp[intOf];omega
     ·have HQN:=aa (HYP.out (λh=>by rw[HBB.out.2 h] at e1;cases e1))
      subst e1;clear HBB HYN HYP;have a0:=HY9.out.1.1 0 _ rfl;have a1:=HY9.out.1.1 1 _ rfl;have a2:=HY9.out.1.1 2 _ rfl;obtain⟨r0,r1,r2⟩:=HXC.out;obtain⟨_,_,_,_,_,_,_,_,_,fz⟩:=HD9.out.pr.cell htL;have f0:=fz (t * 3);have f1':=fz (t * 3+1);have f2':=fz (t * 3+2);clear fz HXC
      go_upto_region 22 with fail
      obtain⟨wq,ewq⟩:∃q',q'=aO w8 g (t * 3) [Bb Y.none,U js Y.vars.length jc,U ks Y.flds.length kc]:=⟨_,rfl⟩;have PT:=aa (HD9.out.pr.put (λb hb=>hb) htL HY9.out.2 HYC.out.1 HYC.out.2 ewq);simp only[aO] at ewq;rw[<-ewq];clear ewq a0 a1 a2 r0 r1 r2 f0 f1' f2';have HDN:Hid (DocAt w V F s c cap g (L'.set t Y) wq):=by
       obtain⟨T1,T2,T3,T4⟩:=PT.out;exact⟨T1,HD9.out.pg.low (T4 (lR g) (bR g w8)) hg,T4 (Nat.le_of_lt hg) HD9.out.lo⟩
      have HSN:=aa (HS9.out.same (λb hb _=>PT.out.2.1 b hb) PT.out.2.2.1);clear PT HD9 HS9 HY9 HYC;go_wp2;go_roundw
      case rel=>exact⟨q+1,L'.set t Y,true,by omega,by go_num,rfl,HQN.out,HDN.out,HSN.out⟩
      case measure=>simp[intOf];omega
end
end Go.Proofs.YtmapdpcfanecdabGreat
