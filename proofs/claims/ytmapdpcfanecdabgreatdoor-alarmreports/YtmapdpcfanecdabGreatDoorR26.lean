import Derived.Test.YtmapdpcfanecdabGreatDoorR25
import Derived.Lib.AppendZeros
import Derived.Laws.AppendOwn
import Derived.Deep.CutBlock
open Bool renaming and_eq_true→j9
open Go.Ending renaming returned→Rt
open Go.IntKind renaming i64→Y
open Go.Obj renaming cells→Cc
open Go.Proofs.Tryz renaming prog→pG
open Go.RowKit.Below renaming heap_setCell→hSe,refl→bR
open Go.Value renaming agg→Ag,bool→Bb,int→I,pointer→Pp,slice→U,tuple→Tu
open Go.World renaming cell?_setCell_same→x7,setCell→q8,size_alloc→zA
open List renaming drop_eq_nil_of_le→q7,eq_nil_of_length_eq_zero→z8,flatten_cons→z9,getElem_mem→gM,length_append→j4,length_map→j7,length_take→q9,length_zipWith→x8,map→z6,map_append→j8,mem_append→x4,mem_flatten→x5,pairwise_cons→x6,range→j5,take_of_length_le→j6,zipWith→z3,zipWith_cons_cons→x9
open Nat renaming le_refl→lR,le_trans→lT,lt_of_lt_of_le→lL,zero_add→j3,zero_le→j0
open Option renaming none→nO,some→sO
open Go.Proofs.Tryz
set_option linter.unusedSimpArgs false
set_option linter.unusedVariables false
set_option maxHeartbeats 32000000
set_option maxRecDepth 100000
namespace Go.Proofs.YtmapdpcfanecdabGreatDoor
section
open Go.RowKit
attribute [local go_sem ↓] Go.wp_at_zero Go.wp_at_succ
theorem Tz {T:Nat->Prop}{V F:Int}{s:oA}{c:lI}{cap m:Nat}{i:Ins}{x:Pic}{vs:oA}{vc:Nat}{fs:oA}{fc:Nat}{w:World}{w3 w4 w7 w11 wp:World}{v:Ro}{gs:oA}{gc:Nat}{L:List Ro}(hx:PicOn T w x vs fs)(K:SCtx V F c x vc fc i (m:Int))(hk:i.k=18){ka:Nat}{sska:oA}{gcka:Nat}(hkax:ka < x.vq.length)(eka:i.a=(ka:Int))(SP:Hid (SPre T V F s c cap (m:Int) i x vs vc fs fc w wp (w.heap.size+1+1) w3.heap.size w4.heap.size w7.heap.size (w7.heap.size+1) w11.heap.size w3 v gs gc L x.vq[ka] sska gcka noneG nO 0)):SwT (λe w'=>bY (λb=>T b\/w.heap.size<=b) w' e (aA i (m:Int) x)/\bl w w') m w w3 w4 w7 w11 wp:=by
 have HKAV:=dS;have HKK:=ag hk;clear hk;have HK:=ag K;have HX:=cC;have h60:=K.lens.2.1;have n0:=dF;have n1:=dK;have hm:=cS;have w61:=c7;clear K hx eka;refine gX rfl λz0 z2 z4 u=> ?_;simp only[j5,j5.loop,z6];obtain⟨BP,PP,XP,IP,YP,OP,AP,EP,TP,GAI,GBI,GOW,YW,-,EPV0,-,o2,o3,o4,o5,o6⟩:=SP.out;have EPV:=dJ;clear EPV0;have i0:=dH;rw[HKK.out] at i0;have HST:Hid (aA i (m:Int) x=([⟨(m:Int)+1,x⟩],false,false)):=Dv;have GP:=GOW.same (w':=wp) (λb _ hlt=>YW.block b hlt) YW.size;go_wp2;refine bodyPost_ret (v:=Tu #[U (sO ⟨w4.heap.size,0,nO⟩) 1 1,Bb false,Bb false]) eP rfl ⟨?_,BP⟩;rw[HST.out];exact⟨sO ⟨w4.heap.size,0,nO⟩,1,rfl,lh (S:=(λb=>T b\/w.heap.size<=b)) OP (.inr aa) (GP) (λb hb=>.inr hb) (λb hb=>.inr aa) EPV.out⟩
theorem Ux {T:Nat->Prop}{V F:Int}{s:oA}{c:lI}{cap m:Nat}{i:Ins}{x:Pic}{vs:oA}{vc:Nat}{fs:oA}{fc:Nat}{w:World}{w3 w4 w7 w11 wp:World}{v:Ro}{gs:oA}{gc:Nat}{L:List Ro}(hx:PicOn T w x vs fs)(K:SCtx V F c x vc fc i (m:Int))(hk:i.k=19)(SP:Hid (SPre T V F s c cap (m:Int) i x vs vc fs fc w wp (w.heap.size+1+1) w3.heap.size w4.heap.size w7.heap.size (w7.heap.size+1) w11.heap.size w3 v gs gc L noneG nO 0 noneG nO 0)):SwT (λe w'=>bY (λb=>T b\/w.heap.size<=b) w' e (aA i (m:Int) x)/\bl w w') m w w3 w4 w7 w11 wp:=by
 have HKK:=ag hk;clear hk;have HK:=ag K;have HX:=cC;have h60:=K.lens.2.1;have n0:=dF;have n1:=dK;have hm:=cS;have w61:=c7;clear K hx;refine gX rfl λz0 z2 z4 u=> ?_;simp only[j5,j5.loop,z6];obtain⟨BP,PP,XP,IP,YP,OP,AP,EP,TP,GAI,GBI,GOW,YW,-,EPV0,-,o2,o3,o4,o5,o6⟩:=SP.out;have EPV:=dJ;clear EPV0;have i0:=dH;rw[HKK.out] at i0;have HST:Hid (aA i (m:Int) x=([],false,false)):=Dv;go_wp2;refine bodyPost_ret (v:=Tu #[U nO 0 0,Bb false,Bb false]) eP rfl ⟨?_,BP⟩;rw[HST.out];exact rm
theorem SU {T:Nat->Prop}{V F:Int}{s:oA}{c:lI}{cap m:Nat}{i:Ins}{x:Pic}{vs:oA}{vc:Nat}{fs:oA}{fc:Nat}{w:World}{w3 w4 w7 w11 wp:World}{v:Ro}{gs:oA}{gc:Nat}{L:List Ro}(hx:PicOn T w x vs fs)(K:SCtx V F c x vc fc i (m:Int))(hk:i.k=16)(SP:Hid (SPre T V F s c cap (m:Int) i x vs vc fs fc w wp (w.heap.size+1+1) w3.heap.size w4.heap.size w7.heap.size (w7.heap.size+1) w11.heap.size w3 v gs gc L noneG nO 0 noneG nO 0)):SwT (λe w'=>bY (λb=>T b\/w.heap.size<=b) w' e (aA i (m:Int) x)/\bl w w') m w w3 w4 w7 w11 wp:=by
 have HKK:=ag hk;clear hk;have HK:=ag K;have HX:=cC;have h60:=K.lens.2.1;have n0:=dF;have n1:=dK;have hm:=cS;have w61:=c7;clear K hx;refine gX rfl λz0 z2 z4 u=> ?_;simp only[j5,j5.loop,z6];obtain⟨BP,PP,XP,IP,YP,OP,AP,EP,TP,GAI,GBI,GOW,YW,-,EPV0,-,o2,o3,o4,o5,o6⟩:=SP.out;have EPV:=dJ;clear EPV0;have i0:=dH;rw[HKK.out] at i0;have HST:Hid (aA i (m:Int) x=([⟨i.g,x⟩],false,false)):=Dv;have YW2:bl w3 (wp.setCell ⟨w4.heap.size,0,nO⟩ (I Y i.g)):=YW.setCell aw _;have GP:=GOW.same (λb _ hlt=>YW2.block b hlt) YW2.size;have i5:=IP.1 5 _ rfl;have q0:=OP.1 0 _ rfl;have f0:=OP.2.2 0;go_wp2;refine bodyPost_ret (v:=Tu #[U (sO ⟨w4.heap.size,0,nO⟩) 1 1,Bb false,Bb false]) eP rfl ⟨?_,BP.setCell aw _⟩;rw[HST.out];exact⟨sO ⟨w4.heap.size,0,nO⟩,1,rfl,lh (S:=(λb=>T b\/w.heap.size<=b)) (OP.put 0 ah _) (.inr aa) (GP) (λb hb=>.inr hb) (λb hb=>.inr aa) EPV.out⟩
theorem SN (n:Nat)(w:World)(hn:n<=1000):
  Calls pG 223 #[U nO 0 0,I Y (n:Int)] w λe w'=>(∃rs rc,e=Rt (U rs 0 rc)/\w'.ownsRow w.heap.size 91 7 (U rs 0 rc) 0 [])/\bl w w':=by
 obtain⟨ti,hi,hz0,hz1,hz2⟩:=kd;cases n with
 |zero=>
  go_enter func223,ntmps223;go_wp2;go_ret;exact⟨⟨nO,0,rfl,rfl,.inl ⟨rfl,rfl⟩⟩,bR _ _⟩
 |succ m=>
  have happ:=Lib.run_append_nil_zeros (P:=pG) w 25 3 25 91 ti (Ag #[Bb false,Bb false,I Y 0,I Y 0,Bb false,Bb false,U nO 0 0]) .i64 .i64 underlying25 underlying3 hi hz0 (m+1) aa (by rw[hz1];omega) aa (by rw[hz2];omega);have hge:=grownCap_ge w (m+1) 0 91;have hle:=grownCap_le_maxLen w (m+1) 0 91 cO;have HA:=ag happ;have HO:Hid (∀cap,m+1<=cap->cap<=maxLen->(w.drew.alloc (Cc (Builtin.zeroCells (Value.cells (Ag #[Bb false,Bb false,I Y 0,I Y 0,Bb false,Bb false,U nO 0 0])) (m+1)++Builtin.zeroCells (Value.cells (Ag #[Bb false,Bb false,I Y 0,I Y 0,Bb false,Bb false,U nO 0 0])) (cap - (m+1))) 91)).ownsRow w.heap.size 91 7 (U (sO ⟨w.heap.size,0,nO⟩) 0 cap) 0 []):=λcap h1 h2=>by
   refine World.ownsRow_made w.drew _ cap (lR _) h2 ?_;rw[Array.size_append,size_zeroCells,size_zeroCells];have:(Value.cells (Ag #[Bb false,Bb false,I Y 0,I Y 0,Bb false,Bb false,U nO 0 0])).size=7:=rfl;rw[this,<-Nat.add_mul];congr 1;omega
  have hnp:(0:Int) < ((m+1:Nat):Int):=aa;have hnn:¬((m+1:Nat):Int) < 0:=aa;generalize grownCap w (m+1) 0 91=cp at *;clear happ;generalize hN:m+1=N at *;clear hN;go_enter func223,ntmps223;go_wp2_with (at_builtin;refine Lib.wpList_append_run _ rfl _ _ _ _ rfl _ _ rfl rfl _ _ HA.out ?_);have h0c:(0:Int)<=(cp:Int):=aa;go_wp2;go_ret;refine⟨⟨_,_,rfl,HO.out cp hge hle⟩,?_⟩;exact((bR _ w).drew).alloc ah _

def yY (w':World)(e:Ending)(l:List Gs):Prop:=∃rs rc,e=Rt (U rs l.length rc)/\GsAt w' rs l/\l.length<=rc/\rc<=maxLen
theorem Cg (ls:oA)(lc:Nat)(L:List (List Gs))(w:World)(h:RowsAt w ls L)(hl:L.length<=1000)(ht:L.flatten.length<=1000):
  Calls pG 192 #[U ls L.length lc] w λe w'=>yY w' e L.flatten/\bl w w':=by
 obtain⟨ti,hi,hz0,hz1,hz2⟩:=kd;have HG:=ag SN;obtain⟨N,eN⟩:∃N,N=L.flatten.length:=⟨_,rfl⟩;have HLE:Hid (∀k,(L.take k).flatten.length<=1000):=λk=>by
  have h1:L.flatten=(L.take k).flatten++(L.drop k).flatten:=by rw[<-List.flatten_append,List.take_append_drop]
  have h2:=congrArg List.length h1;rw[j4] at h2;omega
 rw[<-eN] at ht;have EN:=ag eN;clear eN;go_enter func192,ntmps192;go_wp2;go_loopw [3,11] (λz i wr=>∃k:Nat,k<=L.length/\i=I Y k/\z=I Y ((L.take k).flatten.length:Int)/\wr=w) (λ_ i _=>L.length - (intOf i).toNat)
 case atStart=>exact⟨0,j0 _,rfl,ah,rfl⟩
 case round=>
  obtain⟨k,hk,rfl,rfl,hwr⟩:=hrel;rw[hwr];clear hwr;by_cases hlt:k < L.length
  ·have n0:=dk
   have n1:=gC;obtain⟨b,off,rfl,zb,rs,rc,C1,k1,m1,J1⟩:=h k hlt;have HF:=ag (un L k hlt);have hle:=HLE.out (k+1);rw[HF.out,j4] at hle;obtain⟨z0,e0⟩:∃z0,z0=(L.take k).flatten.length:=⟨_,rfl⟩;obtain⟨z1,e1⟩:∃z1,z1=L[k].length:=⟨_,rfl⟩;rw[<-e0,<-e1] at hle;rw[<-e1] at C1;rw[<-e0];have E0:=ag e0;have E1:=ag e1;clear e0 e1 J1 k1;have hnn:¬((z0:Int)+(z1:Int)) < 0:=aa;go_wp2;go_roundw
   case rel=>exact⟨k+1,aa,aF,by rw[HF.out,j4,<-E0.out,<-E1.out];first|rfl|go_num|(simp;omega),by first|rfl|trivial⟩
   case measure=>exact aK
  ·have n1:¬(k:Int) < (L.length:Int):=by omega
   have et:L.take k=L:=j6 aa;rw[et,<-EN.out];go_wp2_with fail;refine(HG.out _ w ht).mono ?_;rintro e w1 ⟨⟨rs0,rc0,rfl,O1⟩,hb1⟩;have C1:CRow w1 w.heap.size (U rs0 0 rc0) []:=⟨O1,λx hx=>by simp at hx⟩;clear O1 HG et;go_wp2;go_loopw [6,27] (λv i wy=>∃(k:Nat) (rs:oA) (rc:Nat) (l:List Gc),k<=L.length/\i=I Y k/\v=U rs l.length rc/\bl w wy/\Hid (l.map Gc.g=(L.take k).flatten)/\CRow wy w.heap.size (U rs l.length rc) l) (λ_ i _=>L.length - (intOf i).toNat)
   case atStart=>exact⟨0,rs0,rc0,[],j0 _,rfl,rfl,hb1,rfl,C1⟩
   case round=>
    clear C1 hb1;obtain⟨k2,rs,rc,l,hk2,rfl,rfl,hby,HE,CL⟩:=hrel;have LL:Hid (l.length=(L.take k2).flatten.length):=by show _=_;rw[<-HE.out,j7]
    by_cases hlt2:k2 < L.length
    ·have n0:=sk
     have n2:(k2:Int) < (L.length:Int):=aa;obtain⟨b,off,rfl,zb,r1,rc1,D1,k1,m1,J1⟩:=h k2 hlt2;obtain⟨lr,elr,hnr,hnnr,hgr,hlr⟩:=J1.gcsTo hby
     have D1':wr.cell? ⟨b,off+k2,nO⟩=sO (U r1 L[k2].length rc1):=by rw[hby.cell (by simp only;exact zb)];exact D1
     have hsum:l.length+L[k2].length<=1000:=by have h1:=HLE.out (k2+1);rw[un L k2 hlt2,j4] at h1;have:=LL.out;omega
     have HLL:Hid (lr.length=L[k2].length):=by show _=_;rw[<-elr,j7]
     have HNR:=ag hnr;have HLR:=ag elr;clear D1 J1 hnr elr;go_wp2_with (at_builtin;refine bh _ rfl _ _ 25 rfl w.heap.size 91 ti (Ag #[Bb false,Bb false,I Y 0,I Y 0,Bb false,Bb false,U nO 0 0]) 7 64 underlying25 hi hz0 hz1 hz2 rfl ai _ _ _ rfl CL.1 r1 L[k2].length rc1 (aS lr) rfl hlr hnnr ?qb2 (Ia _) ?qb4 ?qb5 ?qb6 ?_);(try (case qb2=>exact HNR.out))
     case qb4=>unfold maxLen;omega
     case qb5=>omega
     (try (case qb6=>exact hby.size));intro v1 w5 hown5 hgrow5 hat5;have hb5:bl w w5:=hby.grown hgrow5 hby.size (λk hk=>(aR CL.1 hk).2);have CR5:CRow w5 w.heap.size v1 (l++lr):=CL.grown hgr (by rw[HLL.out];exact hown5) hgrow5;obtain⟨rs',rc',rfl,-,-,-,-⟩:=CR5.at;clear hown5 hgrow5 hat5 HNR hnnr hgr hlr D1' CL;go_wp2;go_roundw
     case rel=>exact⟨k2+1,rs',rc',l++lr,aa,aF,by first|rfl|(rw[j4]),hb5,by show _=_;rw[j8,HE.out,HLR.out,un _ _ hlt2],CR5⟩
     case measure=>exact aK
    ·have n2:¬(k2:Int) < (L.length:Int):=by omega
     have et:L.take k2=L:=j6 aa;obtain⟨ra,rb,e0,kv1,kv2,GA,-⟩:=CL.at;cases e0;rw[HE.out,et] at GA;have LF:Hid (l.length=L.flatten.length):=by show _=_;rw[LL.out,et]
     go_wp2;go_ret;refine⟨⟨rs,rc,by show Ending.returned (U rs l.length rc)=_;rw[LF.out],GA,by rw[<-LF.out];exact kv1,kv2⟩,hby⟩

theorem Uk (w:World){vs rs:oA}{vc rc:Nat}{a b:List Gs}(h1:GsAt w vs a)(k1:a.length<=vc)(m1:vc<=maxLen)(h2:GsAt w rs b)(k2:b.length<=rc)(m2:rc<=maxLen):
  RowsAt (w.alloc (Cc #[U vs a.length vc,U rs b.length rc] 25)) (sO ⟨w.heap.size,0,nO⟩) [a,b]:=by
 intro i hi
 match i,hi with
 |0,_=>exact⟨w.heap.size,0,rfl,ah,vs,vc,aX,k1,m1,h1.alloc _⟩
 |1,_=>exact⟨w.heap.size,0,rfl,ah,rs,rc,aX,k2,m2,h2.alloc _⟩
 |i+2,h=>simp at h;omega
theorem wN (x:Pic)(vs:oA)(vc:Nat)(fs:oA)(fc:Nat)(w:World)(h:PicAt w x vs fs)(hvc:x.vq.length<=vc)(hvm:vc<=maxLen)(hl:x.fq.length<=1000)(ha:(bP x).length<=1000):
  Calls pG 138 #[xv x vs vc fs fc] w λe w'=>yY w' e (bP x)/\bl w w':=by
 have B0:Below w.heap.size w (w.alloc (Cc #[Bb x.none,U vs x.vq.length vc,U fs x.fq.length fc] 28)):=am;have A0:=XAt.new w x vs vc fs fc;have PV:=h.1.below B0 (lR _);have PF:=h.2.below B0 (lR _);have hf:x.fq.flatten.length<=1000:=by unfold bP at ha;rw[j4] at ha;omega
 obtain⟨fl,efl⟩:∃fl,fl=x.fq.flatten:=⟨_,rfl⟩;have HC1:Hid (∀wx,RowsAt wx fs x.fq->Calls pG 192 #[U fs x.fq.length fc] wx λe w'=>yY w' e fl/\bl wx w'):=λwx hx=>by rw[efl];exact Cg fs fc x.fq wx hx hl hf
 have EA:[x.vq,fl].flatten=bP x:=by unfold bP;rw[efl];simp
 have HC2:Hid (∀wx a,RowsAt wx (sO a) [x.vq,fl]->Calls pG 192 #[U (sO a) 2 2] wx λe w'=>yY w' e (bP x)/\bl wx w'):=λwx a hx=>by rw[<-EA];exact Cg (sO a) 2 [x.vq,fl] wx hx (by simp) (by rw[EA];exact ha)
 clear efl EA hf;clear h ha;go_enter func138,ntmps138;go_upto_region 1 with fail
 generalize w.alloc (Cc #[Bb x.none,U vs x.vq.length vc,U fs x.fq.length fc] 28)=w1 at *;obtain⟨⟨a0,a1,a2⟩,az,-⟩:=id A0;have HKZ:Hid (∀wx,bl w1 wx->wx.cell? ⟨w.heap.size,1,nO⟩=sO (U vs x.vq.length vc)/\wx.cell? ⟨w.heap.size,2,nO⟩=sO (U fs x.fq.length fc)):=λwx hx=>⟨by rw[hx.cell (by simp only;exact az)];exact a1,by rw[hx.cell (by simp only;exact az)];exact a2⟩;have HD:=go;clear a0 a1 a2 az;refine aG (S:=(λwx=>wx.cell? ⟨w.heap.size,1,nO⟩=sO (U vs x.vq.length vc)/\wx.cell? ⟨w.heap.size,2,nO⟩=sO (U fs x.fq.length fc))) [] ae (HKZ.out _ HD) (λhHeld=> ?_);refine vZ 0 ?_ ?_;refine vZ 1 ?_ ?_;refine vZ 2 ?_ ?_;refine vZ 3 ?_ ?_;refine aB (i:=4) rfl ae (λK hK=> ?_);go_simp;go_at_call 192;refine(HC1.out _ (PF.below HD (lR _))).mono ?_;rintro e w2 ⟨⟨rs,rc,rfl,GF,k1,k2⟩,hb2⟩;have HB2:bl w1 w2:=HD.trans (hb2.mono HD.size);go_wp2_with fail;refine hK.out _ _ (HKZ.out _ HB2) (λhHeld=> ?_);clear hK K;refine sm ?_;refine aB (i:=5) rfl ae (λK hK=> ?_);go_simp;have hba:Below w2.heap.size w2 (w2.alloc (Cc #[U vs x.vq.length vc,U rs fl.length rc] 25)):=am;have HB3:bl w1 (w2.alloc (Cc #[U vs x.vq.length vc,U rs fl.length rc] 25)):=HB2.trans (hba.mono HB2.size);refine hK.out _ _ (HKZ.out _ HB3) (λhHeld=> ?_);clear hK K;refine sm ?_;have RR:RowsAt (w2.alloc (Cc #[U vs x.vq.length vc,U rs fl.length rc] 25)) (sO ⟨w2.heap.size,0,nO⟩) [x.vq,fl]:=Uk w2 (PV.below HB2 (lR _)) hvc hvm GF k1 k2;refine aB (i:=6) rfl ae (λK hK=> ?_);go_simp;go_at_call 192;refine(HC2.out _ _ RR).mono ?_;rintro e w4 ⟨⟨ra,rb,rfl,GA,j1,j2⟩,hb4⟩;have HB4:bl w1 w4:=HB3.trans (hb4.mono HB3.size);go_wp2_with fail;refine hK.out _ _ (HKZ.out _ HB4) (λhHeld=> ?_);clear hK K;refine sm ?_;refine vZ 7 ?_ ?_;refine aC ae ?_ _;go_wp2;go_ret;exact⟨⟨ra,rb,rfl,GA,j1,j2⟩,B0.trans (HB4.mono B0.size)⟩
theorem LH (l:List Gs)(rs:oA)(rc q:Nat)(V F:Int)(s:oA)(c:lI)(cap:Nat)(w:World)(hp:PrAt w q V F s c cap):
  Calls pG 190 #[U rs l.length rc,Pp (sO ⟨q,0,nO⟩)] w λe w'=>e=Rt (Bb ((λr:List Gs=> !decide ((r.length:Int)=F)) l))/\bl w w':=by
 obtain⟨⟨p0,p1,p2⟩,pz⟩:=id hp;by_cases h:(l.length:Int)=F
 ·have e1:((l.length:Int)!=F)=false:=by simpa using h
  have er:(λr:List Gs=> !decide ((r.length:Int)=F)) l=false:=by simp[h]
  rw[er];clear er h;go_enter func190,ntmps190;go_wp2;go_ret;exact cZ
 ·have e1:((l.length:Int)!=F)=true:=by simpa using h
  have er:(λr:List Gs=> !decide ((r.length:Int)=F)) l=true:=by simp[h]
  rw[er];clear er h;go_enter func190,ntmps190;go_wp2;go_ret;exact cZ
theorem E4 (q:Nat)(V F:Int)(s:oA)(c:lI)(cap:Nat)(fs:oA)(fc:Nat)(L:List (List Gs))(w:World)(hl:L.length<=9223372036854775807)(h:RowsAt w fs L)(hp:PrAt w q V F s c cap):
  Calls pG 222 #[U fs L.length fc,.func (.func 190) #[] #[Pp (sO ⟨q,0,nO⟩)]] w λe w'=>∃n:Int,e=Rt (I Y n)/\decide (0<=n)=L.any (λr:List Gs=> !decide ((r.length:Int)=F))/\bl w w':=by
 have HF:Hid (∀(l:List Gs) (rs:oA) (rc:Nat) (wx:World),PrAt wx q V F s c cap->Calls pG 190 #[U rs l.length rc,Pp (sO ⟨q,0,nO⟩)] wx λe w'=>e=Rt (Bb ((λr:List Gs=> !decide ((r.length:Int)=F)) l))/\bl wx w'):=λl rs rc wx hx=>LH l rs rc q V F s c cap wx hx;generalize hpp:(λr:List Gs=> !decide ((r.length:Int)=F))=pp at *;clear hpp;go_enter func222,ntmps222;go_wp2;go_loopw [8] (λi wr=>∃k:Nat,k<=L.length/\i=I Y k/\bl w wr/\Hid (L.any pp=(L.drop k).any pp)) (λi _=>L.length - (intOf i).toNat)
 case atStart=>exact⟨0,j0 _,rfl,bR _ _,rfl⟩
 case round=>
  obtain⟨k,hk,rfl,hbr,HA⟩:=hrel;by_cases hlt:k < L.length
  ·obtain⟨b,off,rfl,zb,rs,rc,C1,k1,m1,-⟩:=h k hlt
   have n0:=bA;have n1:=gC;have s0:=hbr.size;have c0:wr.cell? ⟨b,off+k,nO⟩=sO (U rs L[k].length rc):=by rw[hbr.cell (by simp only;exact zb)];exact C1
   have HN:Hid ((L.drop k).any pp=(pp L[k]||(L.drop (k+1)).any pp)):=oQ L pp k hlt;clear C1 h;go_wp2_with fail;refine(HF.out L[k] _ _ _ (hp.call hbr)).mono ?_;rintro e w1 ⟨rfl,hb1⟩;cases hpk:pp L[k] with
   |true=>
    have HT:Hid (L.any pp=true):=by show _=_;rw[HA.out,HN.out,hpk];rfl
    clear HN HA;go_wp2;go_ret;exact lk
   |false=>
    have HT:Hid (L.any pp=(L.drop (k+1)).any pp):=by show _=_;rw[HA.out,HN.out,hpk];rfl
    clear HN HA;go_wp2;go_roundw
    case rel=>exact⟨k+1,aa,aF,hbr.trans (hb1.mono s0),HT⟩
    case measure=>exact aK
  ·go_wp2
   go_ret;exact im
theorem wO (q:Nat)(V F:Int)(s:oA)(c:lI)(cap:Nat)(fs:oA)(fc:Nat)(L:List (List Gs))(w:World)(hl:L.length<=9223372036854775807)(h:RowsAt w fs L)(hp:PrAt w q V F s c cap):
  Calls pG 191 #[U fs L.length fc,.func (.func 190) #[] #[Pp (sO ⟨q,0,nO⟩)]] w λe w'=>e=Rt (Bb (L.any (λr:List Gs=> !decide ((r.length:Int)=F))))/\bl w w':=by
 have HI:=ag (E4 q V F s c cap fs fc L w hl h hp);generalize L.any (λr:List Gs=> !decide ((r.length:Int)=F))=res at *;go_enter func191,ntmps191;go_wp2_with fail;refine HI.out.mono ?_;rintro e w1 ⟨n,rfl,hn,hb1⟩;subst hn;go_wp2;go_ret;exact fA
theorem kD {p:Prop}(h:p:=by
 go_enter func137,ntmps137;go_wp2;go_ret;exact⟨rfl,am⟩):p:=h
theorem Fl (V F:Int)(s:oA)(c:lI)(cap:Nat)(vq:List Gs)(fq:List (List Gs))(vs:oA)(vc:Nat)(fs:oA)(fc:Nat)(w:World):
  Calls pG 137 #[pv V F s c cap,xv ⟨true,vq,fq⟩ vs vc fs fc] w λe w'=>e=Rt (Bb (decide (vq.length=0)&&decide (fq.length=0)))/\bl w w':=by
 cases vq with
 |nil=>
  cases fq with
  |nil=>
   exact kD
  |cons r fq=>
   exact kD
 |cons g vq=>
  exact kD
theorem Fd (V F:Int)(s:oA)(c:lI)(cap:Nat)(vq:List Gs)(fq:List (List Gs))(vs:oA)(vc:Nat)(fs:oA)(fc:Nat)(w:World)(h:¬(vq.length:Int)=V):
  Calls pG 137 #[pv V F s c cap,xv ⟨false,vq,fq⟩ vs vc fs fc] w λe w'=>e=Rt (Bb false)/\bl w w':=by
 have hmf:=wX;have n1:((vq.length:Int)==V)=false:=cq;clear h;exact kD
theorem Ft (V F:Int)(s:oA)(c:lI)(cap:Nat)(vq:List Gs)(fq:List (List Gs))(vs:oA)(vc:Nat)(fs:oA)(fc:Nat)(w:World)(h:¬fq.length=c.length):
  Calls pG 137 #[pv (vq.length:Int) F s c cap,xv ⟨false,vq,fq⟩ vs vc fs fc] w λe w'=>e=Rt (Bb false)/\bl w w':=by
 have hmf:=wX;have n1:((fq.length:Int)==(c.length:Int))=false:=ap;clear h;exact kD
theorem Fp (V F:Int)(s:oA)(c:lI)(cap:Nat)(vq:List Gs)(fq:List (List Gs))(vs:oA)(vc:Nat)(fs:oA)(fc:Nat)(w:World)(hR:RowsAt w fs fq)(h:fq.length=c.length)(h60:c.length<=60):
  Calls pG 137 #[pv (vq.length:Int) F s c cap,xv ⟨false,vq,fq⟩ vs vc fs fc] w λe w'=>e=Rt (Bb (!(fq.any (λr:List Gs=> !decide ((r.length:Int)=F)))))/\bl w w':=by
 have hmf:=wX;have n1:((fq.length:Int)==(c.length:Int))=true:=ap;have hl:fq.length<=9223372036854775807:=aa;have B0:Below w.heap.size w ((w.alloc (Cc #[I Y (vq.length:Int),I Y F,U s c.length cap] 24)).alloc (Cc #[Bb false,U vs vq.length vc,U fs fq.length fc] 28)):=am;have P0:=(PrAt.new w (vq.length:Int) F s c cap).call (w':=((w.alloc (Cc #[I Y (vq.length:Int),I Y F,U s c.length cap] 24)).alloc (Cc #[Bb false,U vs vq.length vc,U fs fq.length fc] 28))) am;have HC:=ag (wO w.heap.size (vq.length:Int) F s c cap fs fc fq ((w.alloc (Cc #[I Y (vq.length:Int),I Y F,U s c.length cap] 24)).alloc (Cc #[Bb false,U vs vq.length vc,U fs fq.length fc] 28)) hl (hR.below B0 (lR _)) P0);generalize fq.any (λr:List Gs=> !decide ((r.length:Int)=F))=q at *;clear hR h P0;go_enter func137,ntmps137;go_wp2_with fail;refine HC.out.mono ?_;rintro e w1 ⟨rfl,hb1⟩;go_wp2;go_ret;exact p5

theorem tx (V F:Int)(s:oA)(c:lI)(cap:Nat)(x:Pic)(vs:oA)(vc:Nat)(fs:oA)(fc:Nat)(w:World)(hP:PicAt w x vs fs)(h60:c.length<=60):
  Calls pG 137 #[pv V F s c cap,xv x vs vc fs fc] w λe w'=>e=Rt (Bb (bK V F c x))/\bl w w':=by
 obtain⟨n,vq,fq⟩:=x;cases n with
 |true=>exact Fl V F s c cap vq fq vs vc fs fc w
 |false=>
  by_cases h1:(vq.length:Int)=V
  ·by_cases h2:fq.length=c.length
   ·have e1:bK V F c ⟨false,vq,fq⟩= !(fq.any (λr:List Gs=> !decide ((r.length:Int)=F))):=by
     unfold bK;simp[h1,h2]
    rw[e1];have h:=Fp V F s c cap vq fq vs vc fs fc w hP.2 h2 h60;rw[h1] at h;exact h
   ·have e1:bK V F c ⟨false,vq,fq⟩=false:=by
     unfold bK;simp[h2]
    rw[e1];have h:=Ft V F s c cap vq fq vs vc fs fc w h2;rw[h1] at h;exact h
  ·have e1:bK V F c ⟨false,vq,fq⟩=false:=by
    unfold bK;simp[h1]
   rw[e1];exact Fd V F s c cap vq fq vs vc fs fc w h1
theorem Fo (ls:oA)(L:List Gs)(lc:Nat)(w:World)(hl:L.length<=9223372036854775807)(hL:GsAt w ls L):
  Calls pG 193 #[U ls L.length lc,.func (.func 139) #[] #[]] w λe w'=>∃n:Int,e=Rt (I Y n)/\decide (0<=n)=L.any cY/\bl w w':=by
 have HF:=ag nT;generalize cY=p at *;go_enter func193,ntmps193;go_wp2;go_loopw [8] (λi wr=>∃k:Nat,k<=L.length/\i=I Y k/\GsAt wr ls L/\bl w wr/\Hid (L.any p=(L.drop k).any p)) (λi _=>L.length - (intOf i).toNat)
 case atStart=>exact⟨0,j0 _,rfl,hL,bR _ _,rfl⟩
 case round=>
  obtain⟨k,hk,rfl,hR,hbr,HA⟩:=hrel;by_cases hlt:k < L.length
  ·obtain⟨b,off,rfl,ss,gc,hG,hI,l1,l2⟩:=hR k hlt
   obtain⟨⟨g0,g1,g2,g3,g4,g5,g6⟩,gz⟩:=id hG;have n0:=bA;have n1:=gC;have s0:=hbr.size;have HN:Hid ((L.drop k).any p=(p L[k]||(L.drop (k+1)).any p)):=oQ L p k hlt;go_wp2_with fail;refine(HF.out L[k] ss gc _ hI (lT l1 l2)).mono ?_;rintro e w1 ⟨rfl,hb1⟩;cases hp:p L[k] with
   |true=>
    have HT:Hid (L.any p=true):=kk;clear HN HA;go_wp2;go_ret;exact lk
   |false=>
    have HT:Hid (L.any p=(L.drop (k+1)).any p):=kk;have hR':=hR.call hb1;clear HN HA;go_wp2;go_roundw
    case rel=>exact⟨k+1,aa,aF,hR',hbr.trans (hb1.mono s0),HT⟩
    case measure=>exact aK
  ·go_wp2
   go_ret;exact im
theorem wJ (ls:oA)(L:List Gs)(lc:Nat)(w:World)(hl:L.length<=9223372036854775807)(hL:GsAt w ls L):
  Calls pG 141 #[U ls L.length lc,.func (.func 139) #[] #[]] w λe w'=>e=Rt (Bb (L.any cY))/\bl w w':=by
 have HI:=ag (Fo ls L lc w hl hL);generalize L.any cY=res at *;go_enter func141,ntmps141;go_wp2_with fail;refine HI.out.mono ?_;rintro e w1 ⟨n,rfl,hn,hb1⟩;subst hn;go_wp2;go_ret;exact fA
theorem lZ {V F:Int}{c:lI}{x:Pic}(h0:au V F c=0)(h:bK V F c x=true):(bP x).length<=1000/\x.fq.length<=c.length:=by
 obtain⟨⟨hV1,hV8⟩,⟨hF0,hF3⟩,h60⟩:=fZ;unfold bK at h;unfold bP;cases hn:x.none with
 |true=>
  rw[hn] at h;simp only[if_true,j9,decide_eq_true_eq] at h;have e1:x.vq=[]:=z8 h.1;have e2:x.fq=[]:=z8 h.2;rw[e1,e2];simp
 |false=>
  rw[hn] at h;simp only[Bool.false_eq_true,if_false,j9,decide_eq_true_eq,Bool.not_eq_true',List.any_eq_false] at h;obtain⟨f,rfl⟩:=Int.eq_ofNat_of_zero_le hF0;have hr:∀r∈x.fq,r.length=f:=λr hr=>by have:=h.2.2 r hr;simp at this;omega
  rw[j4,rR hr];have h2:=h.2.1;have:x.fq.length * f<=60 * 3:=Nat.mul_le_mul aa aa;omega
theorem O7 {V F:Int}{c:lI}{g:Gs}(h0:au V F c=0):ba V F c [g]=aE c g:=by
 unfold ba;rw[if_pos h0];unfold b9;split
 ·rename_i h;rw[h];rfl
 ·rfl
theorem Rd {c:lI}{k:Nat}(h:k < c.length):cc c (k:Int)=decide (c[k].k=11):=by
 unfold cc;simp[h,List.getD]
theorem AE (V F:Int)(s:oA)(c:lI)(cap:Nat)(x:Pic)(vs:oA)(vc:Nat)(fs:oA)(fc:Nat)(w:World)(hc:CodeAt w s c)(hP:PicAt w x vs fs)(hvc:x.vq.length<=vc)(hvm:vc<=maxLen)(h0:au V F c=0)(hf:bK V F c x=false):
  Calls pG 80 #[pv V F s c cap,xv x vs vc fs fc] w λe w'=>e=Rt (I Y (aO V F c x))/\bl w w':=by
 obtain⟨-,-,h60⟩:=fZ;have B0:=lD;have HI:=ag (tx V F s c cap x vs vc fs fc ((w.alloc (Cc #[I Y V,I Y F,U s c.length cap] 24)).alloc (Cc #[Bb x.none,U vs x.vq.length vc,U fs x.fq.length fc] 28)) (hP.below B0 (lR _)) h60);have er:aO V F c x=1:=by unfold aO;rw[if_pos hf]
 rw[er];rw[hf] at HI;clear hP hc er hf;go_enter func80,ntmps80;go_wp2_with fail;refine HI.out.mono ?_;rintro e w1 ⟨rfl,hb1⟩;go_wp2;go_ret;exact p5

theorem DI (V F:Int)(s:oA)(c:lI)(cap:Nat)(x:Pic)(vs:oA)(vc:Nat)(fs:oA)(fc:Nat)(w:World)(hc:CodeAt w s c)(hP:PicAt w x vs fs)(hvc:x.vq.length<=vc)(hvm:vc<=maxLen)(h0:au V F c=0)(hf:bK V F c x=true):
  Calls pG 80 #[pv V F s c cap,xv x vs vc fs fc] w λe w'=>e=Rt (I Y (aO V F c x))/\bl w w':=by
 obtain⟨-,-,h60⟩:=fZ;obtain⟨hal,hfl⟩:=lZ h0 hf;have B0:=lD;have P0:=(PrAt.new w V F s c cap).call (w':=((w.alloc (Cc #[I Y V,I Y F,U s c.length cap] 24)).alloc (Cc #[Bb x.none,U vs x.vq.length vc,U fs x.fq.length fc] 28))) am;have A0:=XAt.new (w.alloc (Cc #[I Y V,I Y F,U s c.length cap] 24)) x vs vc fs fc;rw[zA] at A0;have PX:=hP.below B0 (lR _);have HI:=ag (tx V F s c cap x vs vc fs fc ((w.alloc (Cc #[I Y V,I Y F,U s c.length cap] 24)).alloc (Cc #[Bb x.none,U vs x.vq.length vc,U fs x.fq.length fc] 28)) PX h60);rw[hf] at HI;have HA:Hid (∀wx,PicAt wx x vs fs->Calls pG 138 #[xv x vs vc fs fc] wx λe w'=>yY w' e (bP x)/\bl wx w'):=λwx hx=>wN x vs vc fs fc wx hx hvc hvm aa hal;have HS:=ag nT;have HG:Hid (∀g ss gc wx,CodeAt wx s c->IntsAt wx ss g.s->g.s.length<=gc->gc<=maxLen->Calls pG 140 #[pv V F s c cap,gv g ss gc] wx λe w'=>e=Rt (I Y (aE c g))/\bl wx w'):=λg ss gc wx h1 h2 h3 h4=>by rw[<-O7 (V:=V) (F:=F) h0];exact NL V F s c cap g ss gc wx h1 h2 h3 h4
 have HCS:=ag wJ;obtain⟨res,HR,hres⟩:∃r,Hid (r=if b9 c (bP x)≠0 then b9 c (bP x) else if dU c cY 0 x.fq then 4 else 0)/\aO V F c x=r:=⟨_,rfl,by rw[NS,hf];rfl⟩;rw[hres];have HC:=ag (hc.below B0 (lR _));clear hres hP hc hf hvc hvm;obtain⟨all,eall⟩:∃all,all=bP x:=⟨_,rfl⟩;rw[<-eall] at HR HA hal;clear eall;go_enter func80,ntmps80;go_wp2_with fail;generalize ((w.alloc (Cc #[I Y V,I Y F,U s c.length cap] 24)).alloc (Cc #[Bb x.none,U vs x.vq.length vc,U fs x.fq.length fc] 28))=w1 at *;refine HI.out.mono ?_;rintro e w2 ⟨rfl,hb2⟩;clear HI;obtain⟨⟨a0,a1,a2⟩,az,-⟩:=id (A0.call hb2);go_wp2_with fail;refine(HA.out _ (PX.call hb2)).mono ?_;rintro e w3 ⟨⟨rs,rc,rfl,GA,k1,k2⟩,hb3⟩;clear HA a0 a1 a2 az;have hb13:=sj;have P3:=P0.call hb13;have A3:=A0.call hb13;have C3:=HC.out.call hb13;have R3:=PX.2.below hb13 (lR _);have B3:=B0.trans (hb13.mono B0.size);clear P0 A0 PX HC hb13 hb2 hb3 B0;go_wp2;go_loopw [17] (λi wr=>∃k:Nat,k<=all.length/\i=I Y k/\bl w3 wr/\Hid (b9 c all=b9 c (all.drop k))) (λi _=>all.length - (intOf i).toNat)
 case atStart=>exact⟨0,j0 _,rfl,bR _ _,rfl⟩
 case round=>
  obtain⟨k,hk,rfl,hbr,HK⟩:=hrel;by_cases hlt:k < all.length
  ·have n0:=dk
   have n1:(k:Int) < (all.length:Int):=aa;obtain⟨b,off,rfl,ss,gc,GR,IR,g1,g2⟩:=GA.below hbr (lR _) k hlt;have HD:=ag (CZ c all k hlt);obtain⟨⟨q0,q1,q2,q3,q4,q5,q6⟩,qz⟩:=id GR;have G4:=GuAt.new wr all[k] ss gc;have hb4:Below wr.heap.size wr (wr.alloc (Cc #[Bb all[k].n,Bb all[k].sp.n,I Y all[k].sp.lo,I Y all[k].sp.hi,Bb all[k].t,Bb all[k].f,U ss all[k].s.length gc] 91)):=am;have I4:=IR.call hb4;go_wp2_with fail;generalize wr.alloc (Cc #[Bb all[k].n,Bb all[k].sp.n,I Y all[k].sp.lo,I Y all[k].sp.hi,Bb all[k].t,Bb all[k].f,U ss all[k].s.length gc] 91)=w4 at *;refine(HS.out all[k] ss gc _ I4 (lT g1 g2)).mono ?_;rintro e w5 ⟨rfl,hb5⟩;clear q0 q1 q2 q3 q4 q5 q6 qz GR IR;have G5:=G4.call hb5;have I5:=I4.call hb5;have hb45:bl wr w5:=hb4.trans (hb5.mono hb4.size);have hb35:=hbr.trans (hb45.mono hbr.size);clear hb4 hb5 G4 I4;rcases (show cY all[k]=false\/cY all[k]=true by cases cY all[k]<;>simp) with hs|hs<;>have HSG:=ag hs<;>rw[hs]<;>clear hs
   ·have HZ:Hid (aE c all[k]=0):=by
     show _=_;have h1:=HSG.out;unfold cY at h1;have h2:dP all[k] noneG=true:=gT;rw[sameGs_iff.1 h2];rfl
    go_wp2;go_roundw
    case rel=>exact⟨k+1,aa,aF,hb35,by show _=_;rw[HK.out,HD.out,if_pos HZ.out]⟩
    case measure=>exact aK
   ·obtain⟨⟨p0,p1,p2⟩,pz⟩:=id (P3.call hb35)
    obtain⟨⟨q0,q1,q2,q3,q4,q5,q6⟩,qz⟩:=id G5;simp only[j3] at q0 q1 q2 q3 q4 q5 q6;go_wp2_with fail;refine(HG.out all[k] ss gc _ (C3.call hb35) I5 g1 g2).mono ?_;rintro e w6 ⟨rfl,hb6⟩;have hb36:=hb35.trans (hb6.mono hb35.size);clear p0 p1 p2 pz q0 q1 q2 q3 q4 q5 q6 qz;generalize aE c all[k]=ce at *;by_cases hz:ce=0
    ·have e1:(ce !=0)=false:=by simpa using hz
     go_wp2;go_roundw
     case rel=>exact⟨k+1,aa,aF,hb36,by show _=_;rw[HK.out,HD.out,if_pos hz]⟩
     case measure=>exact aK
    ·have e1:(ce !=0)=true:=by simpa using hz
     go_wp2;go_ret;refine⟨bQ ?_,B3.trans (hb36.mono B3.size)⟩;rw[HR.out,HK.out,HD.out,if_neg hz,if_pos hz]
  ·have n1:¬(k:Int) < (all.length:Int):=by omega
   have HZ:Hid (b9 c all=0):=by show _=_;rw[HK.out,q7 (by omega)];rfl
   have HR2:Hid (res=if dU c cY 0 x.fq then 4 else 0):=by show _=_;rw[HR.out,HZ.out];rfl
   have P4:=P3.call hbr;have A4:=A3.call hbr;have C4:=C3.call hbr;have R4:=R3.below hbr (lR _);have B4:=B3.trans (hbr.mono B3.size);generalize wr=w4 at *;clear wr P3 A3 C3 R3 B3 HK HR HZ GA hbr;obtain⟨⟨a0,a1,a2⟩,az,-⟩:=id A4;go_wp2;clear a0 a1 a2 az;go_loopw [34] (λi wr=>∃k:Nat,k<=x.fq.length/\i=I Y k/\bl w4 wr/\Hid (dU c cY 0 x.fq=dU c cY k (x.fq.drop k))) (λi _=>x.fq.length - (intOf i).toNat)
   case atStart=>exact⟨0,j0 _,rfl,bR _ _,rfl⟩
   case round=>
    obtain⟨k2,hk2,rfl,hbq,HT⟩:=hrel;by_cases hlt2:k2 < x.fq.length
    ·have n0:=sk
     have n2:(k2:Int) < (x.fq.length:Int):=aa;have hkc:k2 < c.length:=aa;have n3:(k2:Int) < (c.length:Int):=aa;have HU:=ag (IV c cY x.fq k2 hlt2);obtain⟨⟨p0,p1',p2⟩,pz⟩:=id (P4.call hbq);obtain⟨p1,q1,e1,zp1,r1,rc1,D1,l1,l2,J1⟩:=(R4.below hbq (lR _)) k2 hlt2;obtain⟨cb,co,e2,zc,hcc⟩:=(C4.call hbq).get k2 hkc;subst e1 e2;obtain⟨i0,-⟩:=hcc k2 hkc;have HST:=ag (Rd hkc);have hrl:x.fq[k2].length<=9223372036854775807:=by unfold maxLen at l2;omega
     clear hcc;by_cases h11:c[k2].k=11
     ·have e11:(c[k2].k !=11)=false:=by simpa using h11
      go_wp2;go_roundw
      case rel=>exact⟨k2+1,aa,aF,hbq,by show _=_;rw[HT.out,HU.out,HST.out,decide_eq_true h11];rfl⟩
      case measure=>exact aK
     ·have e11:(c[k2].k !=11)=true:=by simpa using h11
      go_wp2_with fail;refine(HCS.out r1 x.fq[k2] rc1 _ hrl J1).mono ?_;rintro e w5 ⟨rfl,hb5⟩;have hb45:=hbq.trans (hb5.mono hbq.size);rcases (show x.fq[k2].any cY=false\/x.fq[k2].any cY=true by cases x.fq[k2].any cY<;>simp) with hs|hs<;>have HSG:=ag hs<;>rw[hs]<;>clear hs
      ·go_wp2
       go_roundw
       case rel=>exact⟨k2+1,aa,aF,hb45,by show _=_;rw[HT.out,HU.out,HSG.out];simp⟩
       case measure=>exact aK
      ·go_wp2
       go_ret;refine⟨bQ ?_,B4.trans (hb45.mono B4.size)⟩;rw[HR2.out,HT.out,HU.out,HSG.out,HST.out,decide_eq_false h11];rfl
    ·have n2:¬(k2:Int) < (x.fq.length:Int):=by omega
     go_wp2;go_ret;refine⟨bQ ?_,B4.trans (hbq.mono B4.size)⟩;rw[HR2.out,HT.out,q7 aa];rfl

theorem Bz (V F:Int)(s:oA)(c:lI)(cap:Nat)(x:Pic)(vs:oA)(vc:Nat)(fs:oA)(fc:Nat)(w:World)(hc:CodeAt w s c)(hP:PicAt w x vs fs)(hvc:x.vq.length<=vc)(hvm:vc<=maxLen)(h0:au V F c=0):
  Calls pG 80 #[pv V F s c cap,xv x vs vc fs fc] w λe w'=>e=Rt (I Y (aO V F c x))/\bl w w':=by
 rcases (show bK V F c x=false\/bK V F c x=true by cases bK V F c x<;>simp) with hf|hf
 ·exact AE V F s c cap x vs vc fs fc w hc hP hvc hvm h0 hf
 ·exact DI V F s c cap x vs vc fs fc w hc hP hvc hvm h0 hf
theorem XsAt.new1 (w:World)(x:Pic)(vs:oA)(vc:Nat)(fs:oA)(fc:Nat)(hP:PicAt w x vs fs)(h1:x.vq.length<=vc/\vc<=maxLen)(h2:x.fq.length<=fc/\fc<=maxLen):
  XsAt (w.alloc (Cc #[Bb x.none,U vs x.vq.length vc,U fs x.fq.length fc] 28)) (sO ⟨w.heap.size,0,nO⟩) [x]:=by
 intro i hi;obtain rfl:i=0:=uN;exact⟨w.heap.size,0,rfl,ah,vs,vc,fs,fc,aX,hP.call am,h1,h2⟩
theorem XsAt.new2 (w:World)(x:Pic)(vs:oA)(vc:Nat)(fs:oA)(fc:Nat)(y:Pic)(us:oA)(uc:Nat)(gs:oA)(gc:Nat)(hP:PicAt w x vs fs)(h1:x.vq.length<=vc/\vc<=maxLen)(h2:x.fq.length<=fc/\fc<=maxLen)(hQ:PicAt w y us gs)(h3:y.vq.length<=uc/\uc<=maxLen)(h4:y.fq.length<=gc/\gc<=maxLen):
  XsAt (w.alloc (Cc #[Bb x.none,U vs x.vq.length vc,U fs x.fq.length fc,Bb y.none,U us y.vq.length uc,U gs y.fq.length gc] 28)) (sO ⟨w.heap.size,0,nO⟩) [x,y]:=by
 intro i hi;by_cases e:i=0
 ·subst e;exact⟨w.heap.size,0,rfl,ah,vs,vc,fs,fc,aX,hP.call am,h1,h2⟩
 ·obtain rfl:i=1:=by simp at hi;omega
  exact⟨w.heap.size,0,rfl,ah,us,uc,gs,gc,aX,hQ.call am,h3,h4⟩
theorem mb (V F:Int)(s:oA)(c:lI)(cap:Nat)(ls:oA)(L:List Pic)(lc:Nat)(w:World)(hc:CodeAt w s c)(hL:XsAt w ls L)(hl:L.length<=9223372036854775807):
  Calls pG 43 #[pv V F s c cap,U ls L.length lc] w λe w'=>e=Rt (I Y (aU V F c L))/\bl w w':=by
 have P0:=mS;have B0:=ic;have C0:=hc.below B0 (lR _);have L0:=hL.below B0 (lR _);have HC:=ag (fL V F s cap c _ C0);clear hc hL;by_cases h0:au V F c=0
 ·have er:aU V F c L=cV V F c L:=by unfold aU;rw[if_pos h0]
  obtain⟨res,HR,hres⟩:∃r,Hid (r=cV V F c L)/\aU V F c L=r:=⟨_,rfl,er⟩;rw[hres];rw[h0] at HC;have H0:=ag h0;clear er hres h0;go_enter func43,ntmps43;go_wp2_with fail;refine HC.out.mono ?_;rintro e w1 ⟨rfl,hb1⟩;have P1:=gk;have C1:=C0.call hb1;have L1:=L0.below hb1 (lR _);have B1:=gO;clear hb1 P0 C0 L0 B0 HC;go_wp2;go_loopw [16] (λi wr=>∃k:Nat,k<=L.length/\i=I Y k/\bl w1 wr/\Hid (res=cV V F c (L.drop k))) (λi _=>L.length - (intOf i).toNat)
  case atStart=>exact⟨0,j0 _,rfl,bR _ _,HR⟩
  case round=>
   obtain⟨k,hk,rfl,hbr,HK⟩:=hrel;by_cases hlt:k < L.length
   ·have n0:=dk
    have n1:=gC;have HS:=ag (LT V F c L k hlt);obtain⟨b,off,rfl,zb,vs,vc,fs,fc,⟨g0,g1,g2⟩,hP,hv,hf⟩:=(L1.below hbr (lR _)) k hlt;have X2:=XAt.new wr L[k] vs vc fs fc;have hb2:Below wr.heap.size wr (wr.alloc (Cc #[Bb L[k].none,U vs L[k].vq.length vc,U fs L[k].fq.length fc] 28)):=am;have hb12:=hbr.trans (hb2.mono hbr.size);have P2:=P1.call hb12;have hP2:=hP.call hb2;go_upto_region 7 with fail
    generalize wr.alloc (Cc #[Bb L[k].none,U vs L[k].vq.length vc,U fs L[k].fq.length fc] 28)=w2 at *;clear g0 g1 g2;obtain⟨⟨p0,p1,p2⟩,pz⟩:=id P2;obtain⟨⟨x0,x1,x2⟩,xz,-⟩:=id X2;go_wp2_with fail;refine(Bz V F s c cap L[k] vs vc fs fc _ (C1.call hb12) hP2 hv.1 hv.2 H0.out).mono ?_;rintro e w3 ⟨rfl,hb3⟩;have hb13:=hb12.trans (hb3.mono hb12.size);clear p0 p1 p2 pz x0 x1 x2 xz;generalize aO V F c L[k]=ce at *;by_cases hz:ce=0
    ·have e1:(ce !=0)=false:=by simpa using hz
     go_wp2;go_roundw
     case rel=>exact⟨k+1,aa,aF,hb13,by show _=_;rw[HK.out,HS.out,if_pos hz]⟩
     case measure=>exact aK
    ·have e1:(ce !=0)=true:=by simpa using hz
     go_wp2;go_ret;exact⟨bQ (by rw[HK.out,HS.out,if_neg hz]),B1.trans (hb13.mono B1.size)⟩
   ·have n1:¬(k:Int) < (L.length:Int):=by omega
    go_wp2;go_ret;refine⟨bQ ?_,B1.trans (hbr.mono B1.size)⟩;rw[HK.out,q7 aa];rfl
 ·have er:aU V F c L=au V F c:=by unfold aU;rw[if_neg h0]
  rw[er];have e1:=rS;generalize au V F c=ce at *;clear er h0;go_enter func43,ntmps43;go_wp2_with fail;refine HC.out.mono ?_;rintro e w1 ⟨rfl,hb1⟩;go_wp2;go_ret;exact p5

theorem Ou (V F:Int)(s:oA)(c:lI)(cap:Nat)(x:Pic)(vs:oA)(vc:Nat)(fs:oA)(fc:Nat)(w:World)(hc:CodeAt w s c)(hP:PicAt w x vs fs)(h1:x.vq.length<=vc/\vc<=maxLen)(h2:x.fq.length<=fc/\fc<=maxLen):
  Calls pG 41 #[pv V F s c cap,xv x vs vc fs fc] w λe w'=>e=Rt (I Y (aU V F c [x]))/\bl w w':=by
 have B1:Below w.heap.size w (((w.alloc (Cc #[I Y V,I Y F,U s c.length cap] 24)).alloc (Cc #[Bb x.none,U vs x.vq.length vc,U fs x.fq.length fc] 28)).alloc (Cc #[Bb x.none,U vs x.vq.length vc,U fs x.fq.length fc] 28)):=am;have HC:=ag (mb V F s c cap (sO ⟨((w.alloc (Cc #[I Y V,I Y F,U s c.length cap] 24)).alloc (Cc #[Bb x.none,U vs x.vq.length vc,U fs x.fq.length fc] 28)).heap.size,0,nO⟩) [x] 1 (((w.alloc (Cc #[I Y V,I Y F,U s c.length cap] 24)).alloc (Cc #[Bb x.none,U vs x.vq.length vc,U fs x.fq.length fc] 28)).alloc (Cc #[Bb x.none,U vs x.vq.length vc,U fs x.fq.length fc] 28)) (hc.below B1 (lR _)) (XsAt.new1 ((w.alloc (Cc #[I Y V,I Y F,U s c.length cap] 24)).alloc (Cc #[Bb x.none,U vs x.vq.length vc,U fs x.fq.length fc] 28)) x vs vc fs fc (hP.below (B:=w.heap.size) am (lR _)) h1 h2) ah);simp only[zA] at HC;go_enter func41,ntmps41;go_wp2_with fail;refine HC.out.mono ?_;rintro e w1 ⟨rfl,hb1⟩;go_wp2;go_ret;exact⟨rfl,B1.trans (hb1.mono (by first|omega|exact B1.size))⟩
theorem RJ {c:lI}{g:Gs}(h:aE c g=0):dp g g=true:=by
 have hs:cE g.sp=0:=by
  unfold aE at h;split at h
  ·exact h
  ·rename_i h1;simpa using h1
 have hok:=ckSp_ok.1 hs;obtain⟨n,⟨sn,lo,hi⟩,t,f,s⟩:=g;have h4:=hok.2.2.2;simp only at h4;unfold dp fI Sp.has;cases n<;>cases t<;>cases f<;>cases sn<;>simp<;>omega
theorem tS {a b x y:List Gs}(h:a.length=b.length):gp (a++x) (b++y)=(gp a b&&gp x y):=by
 unfold gp;rw[List.zipWith_append h,List.all_append]
theorem vX:∀{a b:List (List Gs)},a.length=b.length->(∀i (h:i < a.length) (h':i < b.length),a[i].length=b[i].length)->gp a.flatten b.flatten=Ws a b
 |[],[],_,_=>rfl
 |[],_::_,h,_=>by simp at h
 |_::_,[],h,_=>by simp at h
 |r::a,q::b,h,hr=>by
  have h0:=hr 0 ah ah;rw[z9,z9,tS oO,vX cq λi h1 h2=>by
   have:=hr (i+1) gT kX;simpa using this]
  rfl
theorem OU {V F:Int}{c:lI}{x y:Pic}(h1:aO V F c x=0)(h2:aO V F c y=0)(hn:x.none=false)(hm:y.none=false):gp (bP x) (bP y)=bJ x y/\(bP x).length=(bP y).length/\(∀g∈bP x,aE c g=0)/\∀g∈bP y,aE c g=0:=by
 obtain⟨a1,a2,a3,a4,a5⟩:=iH h1 hn;obtain⟨b1,b2,b3,b4,b5⟩:=iH h2 hm;have hv:x.vq.length=y.vq.length:=aa;have hl:x.fq.length=y.fq.length:=aa;have hr:∀i (h:i < x.fq.length) (h':i < y.fq.length),x.fq[i].length=y.fq[i].length:=λi h h'=>Nm;refine⟨?_,?_,λg hg=> ?_,λg hg=> ?_⟩
 ·unfold bP bJ
  rw[tS hv,vX hl hr,hn,hm];rfl
 ·unfold bP
  rw[j4,j4,hv];congr 1;have e1:∀r∈x.fq,r.length=F.toNat:=λr hr=>by have:=a3 r hr;omega
  have e2:∀r∈y.fq,r.length=F.toNat:=λr hr=>by have:=b3 r hr;omega
  rw[rR e1,rR e2,hl]
 ·unfold bP at hg
  rcases x4.1 hg with hg|hg
  ·exact a4 g hg
  ·obtain⟨r,hr,hg⟩:=x5.1 hg
   exact a5 r hr g hg
 ·unfold bP at hg
  rcases x4.1 hg with hg|hg
  ·exact b4 g hg
  ·obtain⟨r,hr,hg⟩:=x5.1 hg
   exact b5 r hr g hg
theorem KA (V F:Int)(s:oA)(c:lI)(cap:Nat)(g:Gs)(ss:oA)(gc:Nat)(h:Gs)(st:oA)(hc:Nat)(w:World)(hcd:CodeAt w s c)(hs:IntsAt w ss g.s)(h1:g.s.length<=gc)(h2:gc<=maxLen)(ht:IntsAt w st h.s)(h3:h.s.length<=hc)(h4:hc<=maxLen)(h0:au V F c=0)(hg:aE c g=0)(hh:aE c h=0):
  Calls pG 166 #[pv V F s c cap,gv g ss gc,gv h st hc] w λe w'=>e=Rt (Bb (dp g h))/\bl w w':=by
 have B0:Below w.heap.size w (((w.alloc (Cc #[I Y V,I Y F,U s c.length cap] 24)).alloc (Cc #[Bb g.n,Bb g.sp.n,I Y g.sp.lo,I Y g.sp.hi,Bb g.t,Bb g.f,U ss g.s.length gc] 91)).alloc (Cc #[Bb h.n,Bb h.sp.n,I Y h.sp.lo,I Y h.sp.hi,Bb h.t,Bb h.f,U st h.s.length hc] 91)):=am;have P0:=(PrAt.new w V F s c cap).call (w':=(((w.alloc (Cc #[I Y V,I Y F,U s c.length cap] 24)).alloc (Cc #[Bb g.n,Bb g.sp.n,I Y g.sp.lo,I Y g.sp.hi,Bb g.t,Bb g.f,U ss g.s.length gc] 91)).alloc (Cc #[Bb h.n,Bb h.sp.n,I Y h.sp.lo,I Y h.sp.hi,Bb h.t,Bb h.f,U st h.s.length hc] 91))) am;have G0:=(GuAt.new (w.alloc (Cc #[I Y V,I Y F,U s c.length cap] 24)) g ss gc).call (w':=(((w.alloc (Cc #[I Y V,I Y F,U s c.length cap] 24)).alloc (Cc #[Bb g.n,Bb g.sp.n,I Y g.sp.lo,I Y g.sp.hi,Bb g.t,Bb g.f,U ss g.s.length gc] 91)).alloc (Cc #[Bb h.n,Bb h.sp.n,I Y h.sp.lo,I Y h.sp.hi,Bb h.t,Bb h.f,U st h.s.length hc] 91))) am;have H0:=GuAt.new ((w.alloc (Cc #[I Y V,I Y F,U s c.length cap] 24)).alloc (Cc #[Bb g.n,Bb g.sp.n,I Y g.sp.lo,I Y g.sp.hi,Bb g.t,Bb g.f,U ss g.s.length gc] 91)) h st hc;rw[zA] at G0;rw[zA,zA] at H0;have C0:=lg;have I0:=hs.below B0 (lR _);have J0:=ht.below B0 (lR _);have HS:=ag (rG g ss gc h st hc (((w.alloc (Cc #[I Y V,I Y F,U s c.length cap] 24)).alloc (Cc #[Bb g.n,Bb g.sp.n,I Y g.sp.lo,I Y g.sp.hi,Bb g.t,Bb g.f,U ss g.s.length gc] 91)).alloc (Cc #[Bb h.n,Bb h.sp.n,I Y h.sp.lo,I Y h.sp.hi,Bb h.t,Bb h.f,U st h.s.length hc] 91)) I0 J0 (lT h1 h2) (lT h3 h4));have HW:Hid (∀wx,CodeAt wx s c->IntsAt wx ss g.s->IntsAt wx st h.s->Calls pG 161 #[pv V F s c cap,gv g ss gc,gv h st hc] wx λe w'=>e=Rt (Tu #[Bb (dp g h),I Y 0])/\bl wx w'):=λwx x1 x2 x3=>by
  have hk:=iN h0 hg hh;have:=U4 V F s c cap g ss gc h st hc wx x1 x2 h1 h2 x3 h3 h4;rw[hk,if_pos rfl] at this;exact this
 have HQ:Hid (dP g h=true->dp g h=true):=λe=>by rw[<-sameGs_iff.1 e];exact RJ hg
 clear hcd hs ht;go_enter func166,ntmps166;go_wp2_with fail;generalize (((w.alloc (Cc #[I Y V,I Y F,U s c.length cap] 24)).alloc (Cc #[Bb g.n,Bb g.sp.n,I Y g.sp.lo,I Y g.sp.hi,Bb g.t,Bb g.f,U ss g.s.length gc] 91)).alloc (Cc #[Bb h.n,Bb h.sp.n,I Y h.sp.lo,I Y h.sp.hi,Bb h.t,Bb h.f,U st h.s.length hc] 91))=w1 at *;refine HS.out.mono ?_;rintro e w2 ⟨rfl,hb2⟩;rcases (show dP g h=false\/dP g h=true by cases dP g h<;>simp) with hq|hq<;>have HSG:=ag hq<;>rw[hq]<;>clear hq
 ·obtain⟨⟨p0,p1,p2⟩,pz⟩:=id (P0.call hb2)
  obtain⟨⟨q0,q1,q2,q3,q4,q5,q6⟩,qz⟩:=id (G0.call hb2);obtain⟨⟨r0,r1,r2,r3,r4,r5,r6⟩,rz⟩:=id (H0.call hb2);simp only[j3] at q0 q1 q2 q3 q4 q5 q6 r0 r1 r2 r3 r4 r5 r6;go_wp2_with fail;refine(HW.out _ (C0.call hb2) (I0.call hb2) (J0.call hb2)).mono ?_;rintro e w3 ⟨rfl,hb3⟩;go_wp2;go_ret;exact⟨rfl,B0.trans ((hb2.trans (hb3.mono hb2.size)).mono B0.size)⟩
 ·go_wp2
  go_ret;exact⟨bF (HQ.out HSG.out).symm,B0.trans (hb2.mono B0.size)⟩

theorem LB (V F:Int)(s:oA)(c:lI)(cap:Nat)(x:Pic)(vs1:oA)(vc1:Nat)(fs1:oA)(fc1:Nat)(y:Pic)(vs2:oA)(vc2:Nat)(fs2:oA)(fc2:Nat)(w:World)(hcd:CodeAt w s c)(hx:PicAt w x vs1 fs1)(h1:x.vq.length<=vc1/\vc1<=maxLen)(h2:x.fq.length<=fc1/\fc1<=maxLen)(hy:PicAt w y vs2 fs2)(h3:y.vq.length<=vc2/\vc2<=maxLen)(h4:y.fq.length<=fc2/\fc2<=maxLen)(h:aU V F c [x,y]≠0):
  Calls pG 102 #[pv V F s c cap,xv x vs1 vc1 fs1 fc1,xv y vs2 vc2 fs2 fc2] w λe w'=>e=Rt (Tu #[Bb false,I Y (aU V F c [x,y])])/\bl w w':=by
 have B0:=so;have P0:=yr;have X0:=yB;have Y0:=yj;rw[zA] at X0;rw[zA,zA] at Y0;have C0:=lg;have PX:=nj;have PY:=mY;have HC:=yH;have hbz:=wE;have e3:=yX;have d1:(aU V F c [x,y]!=0)=true:=cq;have HB:Hid (bl w ((((w.alloc (Cc #[I Y V,I Y F,U s c.length cap] 24)).alloc (Cc #[Bb x.none,U vs1 x.vq.length vc1,U fs1 x.fq.length fc1] 28)).alloc (Cc #[Bb y.none,U vs2 y.vq.length vc2,U fs2 y.fq.length fc2] 28)).alloc (Cc #[Bb x.none,U vs1 x.vq.length vc1,U fs1 x.fq.length fc1,Bb y.none,U vs2 y.vq.length vc2,U fs2 y.fq.length fc2] 28))):=B0.trans (hbz.mono B0.size);generalize aU V F c [x,y]=ce at *;clear h hx hy hcd PX PY P0 X0 Y0 C0 hbz;rw[e3] at HC;clear e3;go_enter func102,ntmps102;go_wp2_with fail;refine HC.out.mono ?_;rintro e w1 ⟨rfl,hb1⟩;go_wp2;refine bodyPost_ret (v:=Tu #[Bb false,I Y ce]) oB rfl ⟨rfl,HB.out.trans (hb1.mono (by first|omega|exact HB.out.size))⟩

theorem FN (V F:Int)(s:oA)(c:lI)(cap:Nat)(x:Pic)(vs1:oA)(vc1:Nat)(fs1:oA)(fc1:Nat)(y:Pic)(vs2:oA)(vc2:Nat)(fs2:oA)(fc2:Nat)(w:World)(hcd:CodeAt w s c)(hx:PicAt w x vs1 fs1)(h1:x.vq.length<=vc1/\vc1<=maxLen)(h2:x.fq.length<=fc1/\fc1<=maxLen)(hy:PicAt w y vs2 fs2)(h3:y.vq.length<=vc2/\vc2<=maxLen)(h4:y.fq.length<=fc2/\fc2<=maxLen)(h:aU V F c [x,y]=0)(hn:x.none=true\/y.none=true):
  Calls pG 102 #[pv V F s c cap,xv x vs1 vc1 fs1 fc1,xv y vs2 vc2 fs2 fc2] w λe w'=>e=Rt (Tu #[Bb (bJ x y),I Y 0])/\bl w w':=by
 have B0:=so;have P0:=yr;have X0:=yB;have Y0:=yj;rw[zA] at X0;rw[zA,zA] at Y0;have C0:=lg;have PX:=nj;have PY:=mY;have HC:=yH;have hbz:=wE;have e3:=yX;have HB:=ag hbz;have er:bJ x y=x.none:=by
  unfold bJ;rcases hn with hn|hn
  ·rw[hn];rfl
  ·rw[hn];cases x.none<;>rfl
 rw[er];rw[h,e3] at HC;clear er h hx hy hcd PX PY P0 C0 hbz e3;go_enter func102,ntmps102;go_wp2_with fail;refine HC.out.mono ?_;rintro e w1 ⟨rfl,hb1⟩;have hb01:=K6;obtain⟨⟨a0,a1,a2⟩,az,-⟩:=id (X0.call hb01);obtain⟨⟨b0,b1,b2⟩,bz,-⟩:=id (Y0.call hb01);have B1:=rh;clear X0 Y0 HB hb1 hb01 B0;obtain⟨xn,vx,fx⟩:=x;obtain⟨yn,vy,fy⟩:=y;simp only at a0 a1 a2 b0 b1 b2 hn;cases xn with
 |true=>
  go_wp2;refine bodyPost_ret (v:=Tu #[Bb true,I Y 0]) oB rfl ⟨rfl,B1⟩
 |false=>
  have hy:yn=true:=oT;subst hy;go_wp2;refine bodyPost_ret (v:=Tu #[Bb false,I Y 0]) oB rfl ⟨rfl,B1⟩
theorem Iu (V F:Int)(s:oA)(c:lI)(cap:Nat)(x:Pic)(vs1:oA)(vc1:Nat)(fs1:oA)(fc1:Nat)(y:Pic)(vs2:oA)(vc2:Nat)(fs2:oA)(fc2:Nat)(w:World)(hcd:CodeAt w s c)(hx:PicAt w x vs1 fs1)(h1:x.vq.length<=vc1/\vc1<=maxLen)(h2:x.fq.length<=fc1/\fc1<=maxLen)(hy:PicAt w y vs2 fs2)(h3:y.vq.length<=vc2/\vc2<=maxLen)(h4:y.fq.length<=fc2/\fc2<=maxLen)(h:aU V F c [x,y]=0)(h0:au V F c=0)(hcx:aO V F c x=0)(hcy:aO V F c y=0)(hn:x.none=false)(hm:y.none=false):
  Calls pG 102 #[pv V F s c cap,xv x vs1 vc1 fs1 fc1,xv y vs2 vc2 fs2 fc2] w λe w'=>e=Rt (Tu #[Bb (bJ x y),I Y 0])/\bl w w':=by
 have B0:=so;have P0:=yr;have X0:=yB;have Y0:=yj;rw[zA] at X0;rw[zA,zA] at Y0;have C0:=lg;have PX:=nj;have PY:=mY;have HC:=yH;have hbz:=wE;have e3:=yX;have HB:=ag hbz;obtain⟨ei,el,rx,ry⟩:=OU hcx hcy hn hm;have hfx:bK V F c x=true:=by
  unfold aO at hcx;split at hcx
  ·cases hcx
  ·rename_i hq;simpa using hq
 have hfy:bK V F c y=true:=by
  unfold aO at hcy;split at hcy
  ·cases hcy
  ·rename_i hq;simpa using hq
 obtain⟨lx,lx'⟩:=lZ h0 hfx;obtain⟨ly,ly'⟩:=lZ h0 hfy;obtain⟨-,-,h60⟩:=fZ;have HAX:Hid (∀wx,PicAt wx x vs1 fs1->Calls pG 138 #[xv x vs1 vc1 fs1 fc1] wx λe w'=>yY w' e (bP x)/\bl wx w'):=λwx hx=>wN x vs1 vc1 fs1 fc1 wx hx h1.1 h1.2 aa lx;have HAY:Hid (∀wx,PicAt wx y vs2 fs2->Calls pG 138 #[xv y vs2 vc2 fs2 fc2] wx λe w'=>yY w' e (bP y)/\bl wx w'):=λwx hx=>wN y vs2 vc2 fs2 fc2 wx hx h3.1 h3.2 aa ly;have HW:Hid (∀(g:Gs) (ss:oA) (gc:Nat) (h:Gs) (st:oA) (hc:Nat) (wx:World),CodeAt wx s c->IntsAt wx ss g.s->g.s.length<=gc->gc<=maxLen->IntsAt wx st h.s->h.s.length<=hc->hc<=maxLen->aE c g=0->aE c h=0->Calls pG 166 #[pv V F s c cap,gv g ss gc,gv h st hc] wx λe w'=>e=Rt (Bb (dp g h))/\bl wx w'):=λg ss gc h st hc wx a1 a2 a3 a4 a5 a6 a7 a8 a9=>KA V F s c cap g ss gc h st hc wx a1 a2 a3 a4 a5 a6 a7 h0 a8 a9;rw[<-ei];obtain⟨ax,eax⟩:∃ax,ax=bP x:=⟨_,rfl⟩;obtain⟨ay,eay⟩:∃ay,ay=bP y:=⟨_,rfl⟩;rw[<-eax] at HAX rx el lx |-;rw[<-eay] at HAY ry el ly |-;obtain⟨res,HR,hres⟩:∃r,Hid (r=gp ax ay)/\gp ax ay=r:=⟨_,rfl,rfl⟩;rw[hres];have HNN:=ag hn;have HMM:=ag hm;have EL:=ag el;have RX:=ag rx;have RY:=ag ry;rw[h,e3] at HC;clear hn hm h ei el rx ry eax eay hres hcx hcy hfx hfy lx' ly' h0 hx hy hcd hbz e3;go_enter func102,ntmps102;go_wp2_with fail;refine HC.out.mono ?_;rintro e w1 ⟨rfl,hb1⟩;have hb01:=K6;have X1:=X0.call hb01;have Y1:=Y0.call hb01;have P1:=P0.call hb01;have C1:=C0.call hb01;have QX:=PX.call hb01;have QY:=PY.call hb01;have B1:=rh;clear X0 Y0 P0 C0 PX PY HB hb1 hb01 B0 HC;have hn:=HNN.out;have hm:=HMM.out;clear HNN HMM;obtain⟨xn,vx,fx⟩:=x;obtain⟨yn,vy,fy⟩:=y;simp only at hn hm;subst hn hm;obtain⟨⟨a0,a1,a2⟩,az,-⟩:=id X1;obtain⟨⟨b0,b1,b2⟩,bz,-⟩:=id Y1;go_wp2_with fail;refine(HAY.out _ QY).mono ?_;rintro e w2 ⟨⟨rs2,rc2,rfl,GY,ky1,ky2⟩,hb2⟩;clear a0 a1 a2 az b0 b1 b2 bz;obtain⟨⟨a0,a1,a2⟩,az,-⟩:=id (X1.call hb2);go_wp2_with fail;refine(HAX.out _ (QX.call hb2)).mono ?_;rintro e w3 ⟨⟨rs1,rc1,rfl,GX,kx1,kx2⟩,hb3⟩;clear a0 a1 a2 az HAX HAY;have hb13:=sj;have P3:=P1.call hb13;have C4:=C1.call hb13;have GY3:=GY.call hb3;have B3:=B1.trans (hb13.mono B1.size);clear P1 C1 X1 Y1 QX QY GY hb2 hb3 hb13 B1;go_wp2;go_loopw [33] (λi wr=>∃k:Nat,k<=ax.length/\i=I Y k/\bl w3 wr/\Hid (res=gp (ax.drop k) (ay.drop k))) (λi _=>ax.length - (intOf i).toNat)
 case atStart=>exact⟨0,j0 _,rfl,bR _ _,HR⟩
 case round=>
  obtain⟨k,hk,rfl,hbr,HK⟩:=hrel;by_cases hlt:k < ax.length
  ·have n0:=dk
   have n1:(k:Int) < (ax.length:Int):=aa;have hlt':k < ay.length:=by have:=EL.out;omega
   have n2:(k:Int) < (ay.length:Int):=aa;obtain⟨b1,o1,e1,ss1,g1,G1,I1,k1,m1⟩:=(GX.below hbr (lR _)) k hlt;obtain⟨b2,o2,e2,ss2,g2,G2,J1,k2,m2⟩:=(GY3.below hbr (lR _)) k hlt';subst e1 e2;have hRx:=RX.out _ (gM hlt);have hRy:=RY.out _ (gM hlt');have HS:=ag (Oj ax ay k hlt hlt');obtain⟨⟨q0,q1,q2,q3,q4,q5,q6⟩,qz⟩:=id G1;have Q4:=GuAt.new wr ax[k] ss1 g1;have hb4:Below wr.heap.size wr (wr.alloc (Cc #[Bb ax[k].n,Bb ax[k].sp.n,I Y ax[k].sp.lo,I Y ax[k].sp.hi,Bb ax[k].t,Bb ax[k].f,U ss1 ax[k].s.length g1] 91)):=am;have I4:=I1.call hb4;have J4:=J1.call hb4;have G4:=G2.call hb4;have hb34:=hbr.trans (hb4.mono hbr.size);go_upto_region 10 with fail
   generalize wr.alloc (Cc #[Bb ax[k].n,Bb ax[k].sp.n,I Y ax[k].sp.lo,I Y ax[k].sp.hi,Bb ax[k].t,Bb ax[k].f,U ss1 ax[k].s.length g1] 91)=w4 at *;generalize wr.heap.size=qb at *;clear q0 q1 q2 q3 q4 q5 q6 qz G1 G2 I1 J1;have HKZ:Hid (∀wx,bl w4 wx->(wx.cell? ⟨w.heap.size,0,nO⟩=sO (I Y V)/\wx.cell? ⟨w.heap.size,1,nO⟩=sO (I Y F)/\wx.cell? ⟨w.heap.size,2,nO⟩=sO (U s c.length cap))/\(wx.cell? ⟨qb,0,nO⟩=sO (Bb ax[k].n)/\wx.cell? ⟨qb,0+1,nO⟩=sO (Bb ax[k].sp.n)/\wx.cell? ⟨qb,0+2,nO⟩=sO (I Y ax[k].sp.lo)/\wx.cell? ⟨qb,0+3,nO⟩=sO (I Y ax[k].sp.hi)/\wx.cell? ⟨qb,0+4,nO⟩=sO (Bb ax[k].t)/\wx.cell? ⟨qb,0+5,nO⟩=sO (Bb ax[k].f)/\wx.cell? ⟨qb,0+6,nO⟩=sO (U ss1 ax[k].s.length g1))/\(wx.cell? ⟨b2,o2+k * 7,nO⟩=sO (Bb ay[k].n)/\wx.cell? ⟨b2,o2+k * 7+1,nO⟩=sO (Bb ay[k].sp.n)/\wx.cell? ⟨b2,o2+k * 7+2,nO⟩=sO (I Y ay[k].sp.lo)/\wx.cell? ⟨b2,o2+k * 7+3,nO⟩=sO (I Y ay[k].sp.hi)/\wx.cell? ⟨b2,o2+k * 7+4,nO⟩=sO (Bb ay[k].t)/\wx.cell? ⟨b2,o2+k * 7+5,nO⟩=sO (Bb ay[k].f)/\wx.cell? ⟨b2,o2+k * 7+6,nO⟩=sO (U ss2 ay[k].s.length g2))):=λwx hx=>⟨((P3.call hb34).call hx).1,(Q4.call hx).1,(G4.call hx).1⟩;have HD:bl w4 w4.drew:=(bR _ _).drew;refine aG (S:=(λwx=>(wx.cell? ⟨w.heap.size,0,nO⟩=sO (I Y V)/\wx.cell? ⟨w.heap.size,1,nO⟩=sO (I Y F)/\wx.cell? ⟨w.heap.size,2,nO⟩=sO (U s c.length cap))/\(wx.cell? ⟨qb,0,nO⟩=sO (Bb ax[k].n)/\wx.cell? ⟨qb,0+1,nO⟩=sO (Bb ax[k].sp.n)/\wx.cell? ⟨qb,0+2,nO⟩=sO (I Y ax[k].sp.lo)/\wx.cell? ⟨qb,0+3,nO⟩=sO (I Y ax[k].sp.hi)/\wx.cell? ⟨qb,0+4,nO⟩=sO (Bb ax[k].t)/\wx.cell? ⟨qb,0+5,nO⟩=sO (Bb ax[k].f)/\wx.cell? ⟨qb,0+6,nO⟩=sO (U ss1 ax[k].s.length g1))/\(wx.cell? ⟨b2,o2+k * 7,nO⟩=sO (Bb ay[k].n)/\wx.cell? ⟨b2,o2+k * 7+1,nO⟩=sO (Bb ay[k].sp.n)/\wx.cell? ⟨b2,o2+k * 7+2,nO⟩=sO (I Y ay[k].sp.lo)/\wx.cell? ⟨b2,o2+k * 7+3,nO⟩=sO (I Y ay[k].sp.hi)/\wx.cell? ⟨b2,o2+k * 7+4,nO⟩=sO (Bb ay[k].t)/\wx.cell? ⟨b2,o2+k * 7+5,nO⟩=sO (Bb ay[k].f)/\wx.cell? ⟨b2,o2+k * 7+6,nO⟩=sO (U ss2 ay[k].s.length g2)))) [] ae (HKZ.out _ HD) (λhHeld=> ?_);refine vZ 0 ?_ ?_;refine vZ 1 ?_ ?_;refine vZ 2 ?_ ?_;refine vZ 3 ?_ ?_;refine vZ 4 ?_ ?_;refine vZ 5 ?_ ?_;refine aB (i:=6) rfl ae (λK hK=> ?_);go_simp;go_at_call 166;refine(HW.out ax[k] ss1 g1 ay[k] ss2 g2 _ (C4.call (hb34.trans (HD.mono hb34.size))) (I4.call HD) k1 m1 (J4.call HD) k2 m2 hRx hRy).mono ?_;rintro e w5 ⟨rfl,hb5⟩;have HB5:bl w4 w5:=HD.trans (hb5.mono HD.size);go_wp2_with fail;refine hK.out _ _ (HKZ.out _ HB5) (λhHeld=> ?_);clear hK K;refine sm ?_;refine vZ 7 ?_ ?_;refine aC ae ?_ _;have hb35:=hb34.trans (HB5.mono hb34.size);rcases (show dp ax[k] ay[k]=false\/dp ax[k] ay[k]=true by cases dp ax[k] ay[k]<;>simp) with hs|hs<;>have HSG:=ag hs<;>rw[hs]<;>clear hs
   ·go_wp2
    refine bodyPost_ret (v:=Tu #[Bb false,I Y 0]) oB rfl ⟨?_,B3.trans (hb35.mono B3.size)⟩;rw[HK.out,HS.out,HSG.out];rfl
   ·go_wp2
    go_roundw
    case rel=>exact⟨k+1,aa,aF,hb35,by show _=_;rw[HK.out,HS.out,HSG.out];rfl⟩
    case measure=>exact aK
  ·have n1:¬(k:Int) < (ax.length:Int):=by omega
   go_wp2;refine bodyPost_ret (v:=Tu #[Bb true,I Y 0]) oB rfl ⟨?_,B3.trans (hbr.mono B3.size)⟩;rw[HK.out,q7 aa];rfl

theorem Ta (V F:Int)(s:oA)(c:lI)(cap:Nat)(x:Pic)(vs1:oA)(vc1:Nat)(fs1:oA)(fc1:Nat)(y:Pic)(vs2:oA)(vc2:Nat)(fs2:oA)(fc2:Nat)(w:World)(hcd:CodeAt w s c)(hx:PicAt w x vs1 fs1)(h1:x.vq.length<=vc1/\vc1<=maxLen)(h2:x.fq.length<=fc1/\fc1<=maxLen)(hy:PicAt w y vs2 fs2)(h3:y.vq.length<=vc2/\vc2<=maxLen)(h4:y.fq.length<=fc2/\fc2<=maxLen):
  Calls pG 102 #[pv V F s c cap,xv x vs1 vc1 fs1 fc1,xv y vs2 vc2 fs2 fc2] w λe w'=>e=Rt (Tu #[Bb (if aU V F c [x,y]=0 then bJ x y else false),I Y (aU V F c [x,y])])/\bl w w':=by
 by_cases h:aU V F c [x,y]=0
 ·rw[h,if_pos rfl]
  have h0:au V F c=0:=by
   unfold aU at h;split at h
   ·assumption
   ·exact h
  have hl:cV V F c [x,y]=0:=by
   unfold aU at h;rw[if_pos h0] at h;exact h
  have hcx:aO V F c x=0:=by
   unfold cV at hl;split at hl
   ·assumption
   ·exact hl
  have hcy:aO V F c y=0:=by
   unfold cV at hl;rw[if_pos hcx] at hl;unfold cV at hl;split at hl
   ·assumption
   ·exact hl
  by_cases hn:x.none=true\/y.none=true
  ·exact FN V F s c cap x vs1 vc1 fs1 fc1 y vs2 vc2 fs2 fc2 w hcd hx h1 h2 hy h3 h4 h hn
  ·exact Iu V F s c cap x vs1 vc1 fs1 fc1 y vs2 vc2 fs2 fc2 w hcd hx h1 h2 hy h3 h4 h h0 hcx hcy (by cases hq:x.none<;>simp_all) (by cases hq:y.none<;>simp_all)
 ·rw[if_neg h]
  exact LB V F s c cap x vs1 vc1 fs1 fc1 y vs2 vc2 fs2 fc2 w hcd hx h1 h2 hy h3 h4 h
theorem vE:∀{l:List Int},di l=true->l.Pairwise (· < ·)
 |[],_=>List.Pairwise.nil
 |[a],_=>List.pairwise_singleton _ _
 |a::b::r,h=>by
  unfold di at h;simp only[j9,decide_eq_true_eq] at h;have ih:=vE h.2;rw[x6];refine⟨λx hx=> ?_,ih⟩;rw[x6] at ih;rcases List.mem_cons.1 hx with rfl|hx
  ·exact h.1
  ·have:=ih.1 x hx
   omega
theorem Ob {c:lI}{g:Gs}(h60:c.length<=60)(h:aE c g=0):cI [g,g]=g.s:=by
 obtain⟨h1,h2⟩:=dx h60 h;rw[mC g g h1 h1];refine rq _ _ (tC _ _ _) (vE h2) λx=> ?_;rw[CH];constructor
 ·rintro ⟨-,h|h⟩<;>exact h
 ·intro hx
  exact⟨h1 x hx,.inl hx⟩
theorem KT {c:lI}{g:Gs}{op:Sp->Sp->Sp}(hop:∀s,op s s=s)(h60:c.length<=60)(h:aE c g=0):dd op g g=g:=by
 unfold dd;rw[Ob h60 h,hop];simp
theorem Lh (s:Sp):bj s s=s:=by
 obtain⟨n,lo,hi⟩:=s;unfold bj;cases n<;>simp
theorem La (s:Sp):bp s s=s:=by
 obtain⟨n,lo,hi⟩:=s;unfold bp;cases n<;>simp
theorem Eu {w w':World}{js:oA}{l:List Int}{N:Nat}(h:IntsAt w js l)(hf:∀a,js=sO a->N<=a.block)(hs:∀b,N<=b->w'.heap[b]? =w.heap[b]?)(hz:w.heap.size<=w'.heap.size):IntsAt w' js l:=by
 rcases h with h|⟨b,off,e,hb,hc⟩
 ·exact .inl h
 ·have hn:=hf _ e
  exact .inr ⟨b,off,e,lL hb hz,λk hk=>by rw[World.cell?_of_block (a:=⟨b,off+k,nO⟩) (hs b hn)];exact hc k hk⟩
theorem GuAt.put6 {w:World}{b:Nat}{g:Gs}{ss js:oA}{gc jc:Nat}(h:GuAt w b 0 g ss gc):GuAt (w.setCell ⟨b,6,nO⟩ (U js g.s.length jc)) b 0 g js jc:=by
 obtain⟨⟨h0,h1,h2,h3,h4,h5,h6⟩,hz⟩:=h;simp only[j3] at h0 h1 h2 h3 h4 h5 h6;have ne:∀i,i≠6->(w.setCell ⟨b,6,nO⟩ (U js g.s.length jc)).cell? ⟨b,i,nO⟩=w.cell? ⟨b,i,nO⟩:=λi hi=>World.cell?_setCell_other _ _ _ _ (by intro e;cases e;exact hi rfl);simp only[GuAt,j3];exact⟨⟨(ne _ aa).trans h0,(ne _ aa).trans h1,(ne _ aa).trans h2,(ne _ aa).trans h3,(ne _ aa).trans h4,(ne _ aa).trans h5,x7 _ _ _ h6⟩,by simpa[q8] using hz⟩
theorem Ox (ss:oA)(cap:Nat)(l:List Int)(w:World)(hl:l.length<=1000000)(hs:IntsAt w ss l):
  Calls pG 179 #[U ss l.length cap] w λe w'=>(∃js jc,e=Rt (U js l.length jc)/\IntsAt w' js l/\l.length<=jc/\jc<=maxLen/\∀a,js=sO a->w.heap.size<=a.block)/\bl w w':=by
 have key:Calls pG 179 #[U ss l.length cap] w λe w'=>∃v,e=Rt v/\w'.ownsRow w.heap.size 3 1 v l.length (l.map (.int .i64))/\bl w w':=by
  cases ss with
  |none=>
   have h0:l=[]:=by
    rcases hs with h|⟨_,_,h,_⟩
    ·exact h
    ·cases h
   subst h0;refine(Tryz.slices_Clone_int_nil _ _ _).mono ?_;rintro e w' ⟨rfl,rfl⟩;exact⟨_,rfl,⟨rfl,.inl ⟨rfl,rfl⟩⟩,bR _ _⟩
  |some a=>
   by_cases h0:l=[]
   ·subst h0
    refine(Tryz.slices_Clone_int_zero a cap w).mono ?_;rintro e w' ⟨v,rfl,ho,-,hb⟩;exact⟨_,rfl,ho,hb⟩
   ·obtain⟨b,off,e,hb,hc⟩:=hs.get 0 (List.length_pos_iff.2 h0)
    cases e;refine(Tryz.slices_Clone_int b off l.length cap l w (lR _) aa (λj hj=> ?_)).mono ?_
    ·rw[hc j hj]
     simp[List.getD,List.getElem?_eq_getElem hj]
    ·rintro e w' ⟨v,rfl,ho,-,hb'⟩
     rw[List.take_length] at ho;exact⟨_,rfl,ho,hb'⟩
 refine key.mono ?_;rintro e w' ⟨v,rfl,ho,hb⟩;obtain⟨js,jc,rfl,hi,k1,k2,hf⟩:=IntsAt.own ho;exact⟨⟨js,jc,rfl,hi,k1,k2,hf⟩,hb⟩
end
section
open Go.RowKit Go
attribute [local go_sem ↓] Go.wp_at_zero Go.wp_at_succ
theorem BL (fh:Nat)(jn:Gs->Gs->Gs)(hfh:∀args wx,Sem.run pG (callFunc fh args) wx=.ok (.enter fh args) wx)(V F:Int)(s:oA)(c:lI)(cap:Nat)(a b:List Gs)(ra:oA)(rac:Nat)(rb:oA)(rbc:Nat)(w:World)(hcd:CodeAt w s c)(ha:GsAt w ra a)(hb:GsAt w rb b)(hl:a.length=b.length)(hl8:a.length<=1000)(h0:au V F c=0)(hga:∀g∈a,aE c g=0)(hgb:∀g∈b,aE c g=0)(hop:∀g,aE c g=0->jn g g=g)
  (hJ:∀(g:Gs) (ss:oA) (gc:Nat) (h:Gs) (st:oA) (hc:Nat) (wx:World),CodeAt wx s c->IntsAt wx ss g.s->g.s.length<=gc->gc<=maxLen->IntsAt wx st h.s->h.s.length<=hc->hc<=maxLen->aE c g=0->aE c h=0->Calls pG fh #[pv V F s c cap,gv g ss gc,gv h st hc] wx λe w'=>(∃js jc,e=Rt (Tu #[gv (jn g h) js jc,I Y 0])/\IntsAt w' js (jn g h).s/\(jn g h).s.length<=jc/\jc<=maxLen/\∀a,js=sO a->wx.heap.size<=a.block)/\bl wx w'):
  Calls pG 122 #[pv V F s c cap,U ra a.length rac,U rb b.length rbc,.func (.func fh) #[] #[]] w λe w'=>OH w w' e (aQ jn a b)/\bl w w':=by
 obtain⟨ti,hi,hz0,hz1,hz2⟩:=kd;obtain⟨-,-,h60⟩:=fZ;have B0:=ic;have P0:=mS;have z01:w.heap.size<=(w.alloc (Cc #[I Y V,I Y F,U s c.length cap] 24)).heap.size:=ah;have HL:=ag hl;have HGA:=ag hga;have HGB:=ag hgb;have HA:=ag ha;have HB:=ag hb;have HCD:=ag hcd;have HJ:=ag hJ;have H0:=ag h0;have HOP:=ag hop;clear hop;have HCL:=ag Ox;clear hl hga hgb ha hb hcd hJ h0;go_enter func122,ntmps122;go_upto_region 1 with fail
 generalize w.alloc (Cc #[I Y V,I Y F,U s c.length cap] 24)=w1 at *;go_wp2;go_loopw [9,14] (λv i wr=>∃(k:Nat) (rs:oA) (rc:Nat) (l:List Gc),k<=a.length/\i=I Y k/\v=U rs l.length rc/\bl w1 wr/\SRow wr w1.heap.size (U rs l.length rc) l/\Hid (l.map Gc.g=aQ jn (a.take k) (b.take k))) (λ_ i _=>a.length - (intOf i).toNat)
 case atStart=>exact⟨0,nO,0,[],j0 _,rfl,rfl,bR _ _,SRow.nil _ _,rfl⟩
 case round=>
  obtain⟨k,rs,rc,l,hk,rfl,rfl,hbr,SR,HE⟩:=hrel;have LL:Hid (l.length=k):=by
   show _=_;have h1:=congrArg List.length HE.out;have h2:=HL.out;unfold aQ at h1;rw[j7,x8,q9,q9] at h1;omega
  have LR:=B0.trans (hbr.mono B0.size);by_cases hlt:k < a.length
  ·have n0:=dk
   have n1:(k:Int) < (a.length:Int):=aa;have hlt':k < b.length:=ut;have n2:(k:Int) < (b.length:Int):=aa;obtain⟨b1,o1,e1,ss1,g1,G1,I1,k1,m1⟩:=(HA.out.below LR (lR _)) k hlt;obtain⟨b2,o2,e2,ss2,g2,G2,J1,k2,m2⟩:=(HB.out.below LR (lR _)) k hlt';subst e1 e2;have zb2:b2 < w.heap.size:=oH HB.out k hlt';have hRa:=HGA.out _ (gM hlt);have hRb:=HGB.out _ (gM hlt');obtain⟨⟨q0,q1,q2,q3,q4,q5,q6⟩,qz⟩:=id G1;have Q4:=GuAt.new wr a[k] ss1 g1;have F4:∀j,(wr.alloc (Cc #[Bb a[k].n,Bb a[k].sp.n,I Y a[k].sp.lo,I Y a[k].sp.hi,Bb a[k].t,Bb a[k].f,U ss1 a[k].s.length g1] 91)).frozen? ⟨wr.heap.size,j,nO⟩=false:=λj=>aX;have hb4:Below wr.heap.size wr (wr.alloc (Cc #[Bb a[k].n,Bb a[k].sp.n,I Y a[k].sp.lo,I Y a[k].sp.hi,Bb a[k].t,Bb a[k].f,U ss1 a[k].s.length g1] 91)):=am;have I4:=I1.call hb4;have J4:=J1.call hb4;have G4:=G2.call hb4;have hq:wr.heap.size < (wr.alloc (Cc #[Bb a[k].n,Bb a[k].sp.n,I Y a[k].sp.lo,I Y a[k].sp.hi,Bb a[k].t,Bb a[k].f,U ss1 a[k].s.length g1] 91)).heap.size:=ah;go_upto_region 5 with fail
   generalize wr.alloc (Cc #[Bb a[k].n,Bb a[k].sp.n,I Y a[k].sp.lo,I Y a[k].sp.hi,Bb a[k].t,Bb a[k].f,U ss1 a[k].s.length g1] 91)=w4 at *;have hqb:∃qb,qb=wr.heap.size:=⟨_,rfl⟩;obtain⟨qb,eqb⟩:=hqb;rw[<-eqb] at Q4 F4 hq |-;have EQB:=ag eqb;clear q0 q1 q2 q3 q4 q5 q6 qz G1 G2 I1 J1 eqb;have HKZ:Hid (∀wx,bl w4 wx->(wx.cell? ⟨qb,0,nO⟩=sO (Bb a[k].n)/\wx.cell? ⟨qb,0+1,nO⟩=sO (Bb a[k].sp.n)/\wx.cell? ⟨qb,0+2,nO⟩=sO (I Y a[k].sp.lo)/\wx.cell? ⟨qb,0+3,nO⟩=sO (I Y a[k].sp.hi)/\wx.cell? ⟨qb,0+4,nO⟩=sO (Bb a[k].t)/\wx.cell? ⟨qb,0+5,nO⟩=sO (Bb a[k].f)/\wx.cell? ⟨qb,0+6,nO⟩=sO (U ss1 a[k].s.length g1))/\(wx.cell? ⟨b2,o2+k * 7,nO⟩=sO (Bb b[k].n)/\wx.cell? ⟨b2,o2+k * 7+1,nO⟩=sO (Bb b[k].sp.n)/\wx.cell? ⟨b2,o2+k * 7+2,nO⟩=sO (I Y b[k].sp.lo)/\wx.cell? ⟨b2,o2+k * 7+3,nO⟩=sO (I Y b[k].sp.hi)/\wx.cell? ⟨b2,o2+k * 7+4,nO⟩=sO (Bb b[k].t)/\wx.cell? ⟨b2,o2+k * 7+5,nO⟩=sO (Bb b[k].f)/\wx.cell? ⟨b2,o2+k * 7+6,nO⟩=sO (U ss2 b[k].s.length g2))):=λwx hx=>⟨(Q4.call hx).1,(G4.call hx).1⟩;have HD:bl w4 w4.drew:=(bR _ _).drew;refine aG (S:=(λwx=>(wx.cell? ⟨qb,0,nO⟩=sO (Bb a[k].n)/\wx.cell? ⟨qb,0+1,nO⟩=sO (Bb a[k].sp.n)/\wx.cell? ⟨qb,0+2,nO⟩=sO (I Y a[k].sp.lo)/\wx.cell? ⟨qb,0+3,nO⟩=sO (I Y a[k].sp.hi)/\wx.cell? ⟨qb,0+4,nO⟩=sO (Bb a[k].t)/\wx.cell? ⟨qb,0+5,nO⟩=sO (Bb a[k].f)/\wx.cell? ⟨qb,0+6,nO⟩=sO (U ss1 a[k].s.length g1))/\(wx.cell? ⟨b2,o2+k * 7,nO⟩=sO (Bb b[k].n)/\wx.cell? ⟨b2,o2+k * 7+1,nO⟩=sO (Bb b[k].sp.n)/\wx.cell? ⟨b2,o2+k * 7+2,nO⟩=sO (I Y b[k].sp.lo)/\wx.cell? ⟨b2,o2+k * 7+3,nO⟩=sO (I Y b[k].sp.hi)/\wx.cell? ⟨b2,o2+k * 7+4,nO⟩=sO (Bb b[k].t)/\wx.cell? ⟨b2,o2+k * 7+5,nO⟩=sO (Bb b[k].f)/\wx.cell? ⟨b2,o2+k * 7+6,nO⟩=sO (U ss2 b[k].s.length g2)))) [] ae (HKZ.out _ HD) (λhHeld=> ?_);refine vZ 0 ?_ ?_;refine vZ 1 ?_ ?_;refine vZ 2 ?_ ?_;refine vZ 3 ?_ ?_;refine vZ 4 ?_ ?_;refine aB (i:=5) rfl ae (λK hK=> ?_);go_simp;go_at_call 178;refine(rG a[k] ss1 g1 b[k] ss2 g2 _ (I4.call HD) (J4.call HD) (lT k1 m1) (lT k2 m2)).mono ?_;rintro e w5 ⟨rfl,hb5⟩;have HB5:bl w4 w5:=HD.trans (hb5.mono HD.size);go_wp2_with fail;refine hK.out _ _ (HKZ.out _ HB5) (λhHeld=> ?_);clear hK K;refine sm ?_;refine aC ae ?_ _;have Q5:=Q4.call HB5;have F5:∀j,w5.frozen? ⟨qb,j,nO⟩=false:=λj=>by rw[HB5.frozen (by simp only;exact hq)];exact F4 j
   have I5:=I4.call HB5;have J5:=J4.call HB5;have G5:=G4.call HB5;have hbr5:bl wr w5:=hb4.trans (HB5.mono hb4.size);have L5:=LR.trans (hbr5.mono LR.size);have C5:=HCD.out.below L5 (lR _);have z5:wr.heap.size<=w5.heap.size:=hbr5.size;clear Q4 F4 I4 J4 G4 HKZ HD HB5 hb4;rcases (show dP a[k] b[k]=false\/dP a[k] b[k]=true by cases dP a[k] b[k]<;>simp) with hs|hs<;>have HSG:=ag hs<;>rw[hs]<;>clear hs
   ·have P5:=(P0.call (hbr.trans (hbr5.mono hbr.size)))
    have z0w:w.heap.size < w1.heap.size:=P0.2;have z15:w1.heap.size<=w5.heap.size:=lT hbr.size z5;have HKY:Hid (∀wx,Below w1.heap.size w5 wx->(wx.cell? ⟨w.heap.size,0,nO⟩=sO (I Y V)/\wx.cell? ⟨w.heap.size,1,nO⟩=sO (I Y F)/\wx.cell? ⟨w.heap.size,2,nO⟩=sO (U s c.length cap))/\(wx.cell? ⟨b2,o2+k * 7,nO⟩=sO (Bb b[k].n)/\wx.cell? ⟨b2,o2+k * 7+1,nO⟩=sO (Bb b[k].sp.n)/\wx.cell? ⟨b2,o2+k * 7+2,nO⟩=sO (I Y b[k].sp.lo)/\wx.cell? ⟨b2,o2+k * 7+3,nO⟩=sO (I Y b[k].sp.hi)/\wx.cell? ⟨b2,o2+k * 7+4,nO⟩=sO (Bb b[k].t)/\wx.cell? ⟨b2,o2+k * 7+5,nO⟩=sO (Bb b[k].f)/\wx.cell? ⟨b2,o2+k * 7+6,nO⟩=sO (U ss2 b[k].s.length g2))):=λwx hx=>⟨(P5.low hx z0w).1,(G5.low hx aa).1⟩;have HE5:bl w5 w5.drew:=(bR _ _).drew;go_wp2;refine aG (S:=(λwx=>(wx.cell? ⟨w.heap.size,0,nO⟩=sO (I Y V)/\wx.cell? ⟨w.heap.size,1,nO⟩=sO (I Y F)/\wx.cell? ⟨w.heap.size,2,nO⟩=sO (U s c.length cap))/\(wx.cell? ⟨b2,o2+k * 7,nO⟩=sO (Bb b[k].n)/\wx.cell? ⟨b2,o2+k * 7+1,nO⟩=sO (Bb b[k].sp.n)/\wx.cell? ⟨b2,o2+k * 7+2,nO⟩=sO (I Y b[k].sp.lo)/\wx.cell? ⟨b2,o2+k * 7+3,nO⟩=sO (I Y b[k].sp.hi)/\wx.cell? ⟨b2,o2+k * 7+4,nO⟩=sO (Bb b[k].t)/\wx.cell? ⟨b2,o2+k * 7+5,nO⟩=sO (Bb b[k].f)/\wx.cell? ⟨b2,o2+k * 7+6,nO⟩=sO (U ss2 b[k].s.length g2)))) [] ae (HKY.out _ (HE5.mono z15)) (λhHeld=> ?_);refine vZ 0 ?_ ?_;refine vZ 1 ?_ ?_;refine vZ 3 ?_ ?_;refine vZ 4 ?_ ?_;refine vZ 5 ?_ ?_;refine vZ 6 ?_ ?_;refine aB (i:=2) rfl ae (λK hK=> ?_);have Qd:=Q5.drew;obtain⟨⟨q0,q1,q2,q3,q4,q5,q6⟩,qz⟩:=id Qd;simp only[j3] at q0 q1 q2 q3 q4 q5 q6;go_simp;refine hK.out _ _ (HKY.out _ (HE5.mono z15)) (λhHeld=> ?_);clear hK K q0 q1 q2 q3 q4 q5 q6 qz;refine sm ?_;refine aB (i:=7) rfl ae (λK hK=> ?_);go_simp;refine(HJ.out a[k] ss1 g1 b[k] ss2 g2 _ (C5.call HE5) (I5.call HE5) k1 m1 (J5.call HE5) k2 m2 hRa hRb).mono ?_;rintro e w6 ⟨⟨js,jc,rfl,HI6,HJ1,HJ2,HF7⟩,hb6⟩;have HB6:bl w5 w6:=HE5.trans (hb6.mono HE5.size);go_wp2_with fail;refine hK.out _ _ (HKY.out _ (HB6.mono z15)) (λhHeld=> ?_);clear hK K;refine sm ?_;refine vZ 8 ?_ ?_;refine vZ 9 ?_ ?_;refine vZ 10 ?_ ?_;refine aB (i:=11) rfl ae (λK hK=> ?_);have Q6:=Q5.call HB6;have F6:∀j,w6.frozen? ⟨qb,j,nO⟩=false:=λj=>by rw[HB6.frozen (by simp only;exact Q5.2)];exact F5 j
    obtain⟨⟨q0,q1,q2,q3,q4,q5,q6⟩,qz⟩:=id Q6;simp only[j3] at q0 q1 q2 q3 q4 q5 q6;have f0:=F6 0;have f1:=F6 1;have f2:=F6 2;have f3:=F6 3;have f4:=F6 4;have f5:=F6 5;have f6:=F6 6;go_simp;have HBC:Below w1.heap.size w5 (((((((w6.setCell ⟨qb,0,nO⟩ (Bb (jn a[k] b[k]).n)).setCell ⟨qb,1,nO⟩ (Bb (jn a[k] b[k]).sp.n)).setCell ⟨qb,2,nO⟩ (I Y (jn a[k] b[k]).sp.lo)).setCell ⟨qb,3,nO⟩ (I Y (jn a[k] b[k]).sp.hi)).setCell ⟨qb,4,nO⟩ (Bb (jn a[k] b[k]).t)).setCell ⟨qb,5,nO⟩ (Bb (jn a[k] b[k]).f)).setCell ⟨qb,6,nO⟩ (U js (jn a[k] b[k]).s.length jc)):=((((((((HB6.mono z15)).setCell lu _).setCell lu _).setCell lu _).setCell lu _).setCell lu _).setCell lu _).setCell lu _;refine hK.out _ _ (HKY.out _ HBC) (λhHeld=> ?_);clear hK K HBC;refine sm ?_;refine aC ae ?_ _;have hch:∀bb,bb≠qb->(((((((w6.setCell ⟨qb,0,nO⟩ (Bb (jn a[k] b[k]).n)).setCell ⟨qb,1,nO⟩ (Bb (jn a[k] b[k]).sp.n)).setCell ⟨qb,2,nO⟩ (I Y (jn a[k] b[k]).sp.lo)).setCell ⟨qb,3,nO⟩ (I Y (jn a[k] b[k]).sp.hi)).setCell ⟨qb,4,nO⟩ (Bb (jn a[k] b[k]).t)).setCell ⟨qb,5,nO⟩ (Bb (jn a[k] b[k]).f)).setCell ⟨qb,6,nO⟩ (U js (jn a[k] b[k]).s.length jc)).heap[bb]? =w6.heap[bb]? :=λbb hbb=>by rw[hSe _ _ _ _ hbb,hSe _ _ _ _ hbb,hSe _ _ _ _ hbb,hSe _ _ _ _ hbb,hSe _ _ _ _ hbb,hSe _ _ _ _ hbb,hSe _ _ _ _ hbb]
    have hcz:w6.heap.size<=(((((((w6.setCell ⟨qb,0,nO⟩ (Bb (jn a[k] b[k]).n)).setCell ⟨qb,1,nO⟩ (Bb (jn a[k] b[k]).sp.n)).setCell ⟨qb,2,nO⟩ (I Y (jn a[k] b[k]).sp.lo)).setCell ⟨qb,3,nO⟩ (I Y (jn a[k] b[k]).sp.hi)).setCell ⟨qb,4,nO⟩ (Bb (jn a[k] b[k]).t)).setCell ⟨qb,5,nO⟩ (Bb (jn a[k] b[k]).f)).setCell ⟨qb,6,nO⟩ (U js (jn a[k] b[k]).s.length jc)).heap.size:=bH;have G7:GuAt (((((((w6.setCell ⟨qb,0,nO⟩ (Bb (jn a[k] b[k]).n)).setCell ⟨qb,1,nO⟩ (Bb (jn a[k] b[k]).sp.n)).setCell ⟨qb,2,nO⟩ (I Y (jn a[k] b[k]).sp.lo)).setCell ⟨qb,3,nO⟩ (I Y (jn a[k] b[k]).sp.hi)).setCell ⟨qb,4,nO⟩ (Bb (jn a[k] b[k]).t)).setCell ⟨qb,5,nO⟩ (Bb (jn a[k] b[k]).f)).setCell ⟨qb,6,nO⟩ (U js (jn a[k] b[k]).s.length jc)) qb 0 (jn a[k] b[k]) js jc:=by
     refine⟨?_,by simpa[q8] using qz⟩;simp[go_sem,q0,q1,q2,q3,q4,q5,q6]
    have HB7:bl wr (((((((w6.setCell ⟨qb,0,nO⟩ (Bb (jn a[k] b[k]).n)).setCell ⟨qb,1,nO⟩ (Bb (jn a[k] b[k]).sp.n)).setCell ⟨qb,2,nO⟩ (I Y (jn a[k] b[k]).sp.lo)).setCell ⟨qb,3,nO⟩ (I Y (jn a[k] b[k]).sp.hi)).setCell ⟨qb,4,nO⟩ (Bb (jn a[k] b[k]).t)).setCell ⟨qb,5,nO⟩ (Bb (jn a[k] b[k]).f)).setCell ⟨qb,6,nO⟩ (U js (jn a[k] b[k]).s.length jc)):=(((((((hbr5.trans (HB6.mono z5)).setCell ki _).setCell ki _).setCell ki _).setCell ki _).setCell ki _).setCell ki _).setCell ki _;have hqq:qb < w5.heap.size:=Q5.2;have HI7:IntsAt (((((((w6.setCell ⟨qb,0,nO⟩ (Bb (jn a[k] b[k]).n)).setCell ⟨qb,1,nO⟩ (Bb (jn a[k] b[k]).sp.n)).setCell ⟨qb,2,nO⟩ (I Y (jn a[k] b[k]).sp.lo)).setCell ⟨qb,3,nO⟩ (I Y (jn a[k] b[k]).sp.hi)).setCell ⟨qb,4,nO⟩ (Bb (jn a[k] b[k]).t)).setCell ⟨qb,5,nO⟩ (Bb (jn a[k] b[k]).f)).setCell ⟨qb,6,nO⟩ (U js (jn a[k] b[k]).s.length jc)) js (jn a[k] b[k]).s:=Eu HI6 HF7 (λbb hbb=>hch bb (by have h9:w5.drew.heap.size=w5.heap.size:=rfl;omega)) hcz
    have zwd:wr.heap.size<=w5.drew.heap.size:=z5;clear q0 q1 q2 q3 q4 q5 q6 qz f0 f1 f2 f3 f4 f5 f6 F6 Q6 hch hcz;generalize (((((((w6.setCell ⟨qb,0,nO⟩ (Bb (jn a[k] b[k]).n)).setCell ⟨qb,1,nO⟩ (Bb (jn a[k] b[k]).sp.n)).setCell ⟨qb,2,nO⟩ (I Y (jn a[k] b[k]).sp.lo)).setCell ⟨qb,3,nO⟩ (I Y (jn a[k] b[k]).sp.hi)).setCell ⟨qb,4,nO⟩ (Bb (jn a[k] b[k]).t)).setCell ⟨qb,5,nO⟩ (Bb (jn a[k] b[k]).f)).setCell ⟨qb,6,nO⟩ (U js (jn a[k] b[k]).s.length jc))=w7 at *;have S7:=SR.call HB7;obtain⟨⟨q0,q1,q2,q3,q4,q5,q6⟩,qz⟩:=id G7;simp only[j3] at q0 q1 q2 q3 q4 q5 q6;have hb8:Below w7.heap.size w7 (w7.alloc (Cc #[Bb (jn a[k] b[k]).n,Bb (jn a[k] b[k]).sp.n,I Y (jn a[k] b[k]).sp.lo,I Y (jn a[k] b[k]).sp.hi,Bb (jn a[k] b[k]).t,Bb (jn a[k] b[k]).f,U js (jn a[k] b[k]).s.length jc] 91)):=am;have S8:=S7.call hb8;have z17:w1.heap.size<=w7.heap.size:=lT hbr.size HB7.size;have GX:bS (λb=>w1.heap.size<=b/\(Value.slice rs l.length rc).ownBlock≠sO b) (w7.alloc (Cc #[Bb (jn a[k] b[k]).n,Bb (jn a[k] b[k]).sp.n,I Y (jn a[k] b[k]).sp.lo,I Y (jn a[k] b[k]).sp.hi,Bb (jn a[k] b[k]).t,Bb (jn a[k] b[k]).f,U js (jn a[k] b[k]).s.length jc] 91)) ⟨(jn a[k] b[k]),js,jc⟩:=km HI7 HJ1 HJ2 HF7 hbr.size (λe=>(aR SR.1 e).1) hb8 zwd;go_wp2_with (at_builtin;refine bh _ rfl _ _ 25 rfl w1.heap.size 91 ti (Ag #[Bb false,Bb false,I Y 0,I Y 0,Bb false,Bb false,U nO 0 0]) 7 64 underlying25 hi hz0 hz1 hz2 rfl ai _ _ _ rfl S8.1 (sO ⟨w7.heap.size,0,nO⟩) 1 1 (br ⟨(jn a[k] b[k]),js,jc⟩) rfl rfl (λh=>aT) ?qa2 (dE _) ?qa4 ?qa5 ?qa6 ?_);(try (case qa2=>exact nV w7 ⟨(jn a[k] b[k]),js,jc⟩ #[Bb (jn a[k] b[k]).n,Bb (jn a[k] b[k]).sp.n,I Y (jn a[k] b[k]).sp.lo,I Y (jn a[k] b[k]).sp.hi,Bb (jn a[k] b[k]).t,Bb (jn a[k] b[k]).f,U js (jn a[k] b[k]).s.length jc] _ rfl))
    case qa4=>unfold maxLen;have:=LL.out;omega
    case qa5=>have:=LL.out;omega
    (try (case qa6=>first|omega|(rw[zA];omega)|(simp;omega)|simp));intro v' w9 hown hgrow hat;have S9:=S8.grown (x:=⟨(jn a[k] b[k]),js,jc⟩) GX hown hgrow gx;have hb9:=H8;obtain⟨rs',rc',rfl,-,-,-⟩:=S9.in;clear hown hgrow hat S8 S7 GX q0 q1 q2 q3 q4 q5 q6 qz hb8;go_wp2;go_roundw
    case rel=>exact⟨k+1,rs',rc',l++[⟨(jn a[k] b[k]),js,jc⟩],aa,aF,oD,hb9,S9,by show _=_;rw[j8,HE.out,kO _ a b k hlt hlt'];rfl⟩
    case measure=>exact aK
   ·have ES:Hid ((jn a[k] b[k])=a[k]):=by
     show _=_;rw[<-sameGs_iff.1 HSG.out];exact HOP.out _ hRa
    obtain⟨⟨q0,q1,q2,q3,q4,q5,q6⟩,qz⟩:=id Q5;simp only[j3] at q0 q1 q2 q3 q4 q5 q6;have l60:=da (dx h60 hRa).2 (dx h60 hRa).1;go_wp2_with fail;refine(HCL.out ss1 g1 a[k].s _ aa I5).mono ?_;rintro e w6 ⟨⟨js,jc,rfl,HI6,HJ1,HJ2,HF7⟩,hb6⟩;clear q0 q1 q2 q3 q4 q5 q6 qz;have Q6:=Q5.call hb6;obtain⟨⟨q0,q1,q2,q3,q4,q5,q6⟩,qz⟩:=id Q6;simp only[j3] at q0 q1 q2 q3 q4 q5 q6;have f6:w6.frozen? ⟨qb,6,nO⟩=false:=by rw[hb6.frozen (by simp only;exact Q5.2)];exact F5 6
    have G7:=Q6.put6 (js:=js) (jc:=jc);have HB7:bl wr (w6.setCell ⟨qb,6,nO⟩ (U js a[k].s.length jc)):=(hbr5.trans (hb6.mono z5)).setCell ki _;have hqq:qb < w5.heap.size:=Q5.2;have HI7:IntsAt (w6.setCell ⟨qb,6,nO⟩ (U js a[k].s.length jc)) js a[k].s:=Eu HI6 HF7 (λbb hbb=>hSe _ _ _ _ aw) bH;have zwd:wr.heap.size<=w5.heap.size:=z5;go_upto_region 8 with fail
    clear q0 q1 q2 q3 q4 q5 q6 qz f6;generalize w6.setCell ⟨qb,6,nO⟩ (U js a[k].s.length jc)=w7 at *;have S7:=SR.call HB7;obtain⟨⟨q0,q1,q2,q3,q4,q5,q6⟩,qz⟩:=id G7;simp only[j3] at q0 q1 q2 q3 q4 q5 q6;have hb8:Below w7.heap.size w7 (w7.alloc (Cc #[Bb a[k].n,Bb a[k].sp.n,I Y a[k].sp.lo,I Y a[k].sp.hi,Bb a[k].t,Bb a[k].f,U js a[k].s.length jc] 91)):=am;have S8:=S7.call hb8;have z17:w1.heap.size<=w7.heap.size:=lT hbr.size HB7.size;have GX:bS (λb=>w1.heap.size<=b/\(Value.slice rs l.length rc).ownBlock≠sO b) (w7.alloc (Cc #[Bb a[k].n,Bb a[k].sp.n,I Y a[k].sp.lo,I Y a[k].sp.hi,Bb a[k].t,Bb a[k].f,U js a[k].s.length jc] 91)) ⟨a[k],js,jc⟩:=km HI7 HJ1 HJ2 HF7 hbr.size (λe=>(aR SR.1 e).1) hb8 zwd;go_wp2_with (at_builtin;refine bh _ rfl _ _ 25 rfl w1.heap.size 91 ti (Ag #[Bb false,Bb false,I Y 0,I Y 0,Bb false,Bb false,U nO 0 0]) 7 64 underlying25 hi hz0 hz1 hz2 rfl ai _ _ _ rfl S8.1 (sO ⟨w7.heap.size,0,nO⟩) 1 1 (br ⟨a[k],js,jc⟩) rfl rfl (λh=>aT) ?qa2 (dE _) ?qa4 ?qa5 ?qa6 ?_);(try (case qa2=>exact nV w7 ⟨a[k],js,jc⟩ #[Bb a[k].n,Bb a[k].sp.n,I Y a[k].sp.lo,I Y a[k].sp.hi,Bb a[k].t,Bb a[k].f,U js a[k].s.length jc] _ rfl))
    case qa4=>unfold maxLen;have:=LL.out;omega
    case qa5=>have:=LL.out;omega
    (try (case qa6=>first|omega|(rw[zA];omega)|(simp;omega)|simp));intro v' w9 hown hgrow hat;have S9:=S8.grown (x:=⟨a[k],js,jc⟩) GX hown hgrow gx;have hb9:=H8;obtain⟨rs',rc',rfl,-,-,-⟩:=S9.in;clear hown hgrow hat S8 S7 GX q0 q1 q2 q3 q4 q5 q6 qz hb8;go_wp2;go_roundw
    case rel=>exact⟨k+1,rs',rc',l++[⟨a[k],js,jc⟩],aa,aF,oD,hb9,S9,by show _=_;rw[j8,HE.out,kO _ a b k hlt hlt'];rw[ES.out];rfl⟩
    case measure=>exact aK
  ·have n1:=Ai
   have et1:a.take k=a:=j6 aa;have et2:b.take k=b:=j6 ut;have HEE:Hid (l.map Gc.g=aQ jn a b):=by show _=_;rw[HE.out,et1,et2]
   clear HE et1 et2;go_wp2;go_ret;exact⟨⟨rs,rc,l,rfl,HEE,⟨eD SR.1 z01,λx hx=>⟨(SR.2 x hx).1.mono λb hb _=>⟨lT z01 hb.1,hb.2⟩,(SR.2 x hx).2⟩⟩⟩,LR⟩
end
section
open Go.RowKit
attribute [local go_sem ↓] Go.wp_at_zero Go.wp_at_succ
theorem Ol {p:Prop}(h:p:=by
 have B0:=rF;have P0:=Hm;have X0:=Kt;have Y0:=Ik;have Z0:=sH;rw[World.size_alloc] at X0;rw[World.size_alloc,World.size_alloc] at Y0;rw[World.size_alloc,World.size_alloc,World.size_alloc] at Z0;have C0:=lg;have PX:=nj;have PY:=mY;have HC:=If;have hbz:=Gh;have e3:=rT;have d1:(aU V F c [x,y]!=0)=true:=cq;have HB:=ag hbz;generalize aU V F c [x,y]=ce at *;rw[e3] at HC;clear h hx hy hcd PX PY P0 X0 Y0 C0 hbz;go_enter func71,ntmps71;go_wp2_with fail;refine HC.out.mono ?_;rintro e w1 ⟨rfl,hb1⟩;have hb01:=Gb;have Z1:=Z0.call hb01;have B1:=rh;clear HB hb1 hb01 B0 Z0 HC e3;obtain⟨⟨z0,z1,z2⟩,zz,zf⟩:=id Z1;have f0:=zf 0;have f1:=zf 1;have f2:=zf 2;clear zf;go_wp2;refine bodyPost_ret (v:=.tuple #[.agg #[.bool false,.slice none 0 0,.slice none 0 0],.int .i64 ce]) (by simp[results,results71,go_sem,z0,z1,z2]) rfl ⟨rfl,?_⟩;exact((B1.setCell aw _).setCell aw _).setCell aw _):p:=h
theorem mQ (fh:Nat)(V F:Int)(s:oA)(c:lI)(cap:Nat)(x:Pic)(vs1:oA)(vc1:Nat)(fs1:oA)(fc1:Nat)(y:Pic)(vs2:oA)(vc2:Nat)(fs2:oA)(fc2:Nat)(w:World)(hcd:CodeAt w s c)(hx:PicAt w x vs1 fs1)(h1:x.vq.length<=vc1/\vc1<=maxLen)(h2:x.fq.length<=fc1/\fc1<=maxLen)(hy:PicAt w y vs2 fs2)(h3:y.vq.length<=vc2/\vc2<=maxLen)(h4:y.fq.length<=fc2/\fc2<=maxLen)(h:aU V F c [x,y]≠0):
  Calls pG 71 #[pv V F s c cap,xv x vs1 vc1 fs1 fc1,xv y vs2 vc2 fs2 fc2,.func (.func fh) #[] #[]] w λe w'=>e=Rt (Tu #[Ag #[Bb false,U nO 0 0,U nO 0 0],I Y (aU V F c [x,y])])/\bl w w':=Ol
end
section
open Go.RowKit Go
attribute [local go_sem ↓] Go.wp_at_zero Go.wp_at_succ
theorem X3.put0 {w:World}{b:Nat}{x0 x1 x2:Value}(h:X3 w b x0 x1 x2)(y:Value):X3 (w.setCell ⟨b,0,nO⟩ y) b y x1 x2:=by
 obtain⟨⟨h0,h1,h2⟩,h6,h7⟩:=h;exact⟨⟨x7 _ _ _ h0,Mj,Mq⟩,Do,λj=>DS⟩
def l8 (B:Nat)(w':World)(e:Ending)(x:Pic)(er:Int):Prop:=∃vs vc fs fc,e=Rt (Tu #[Ag #[Bb x.none,U vs x.vq.length vc,U fs x.fq.length fc],I Y er])/\PicOn (λb=>B<=b) w' x vs fs/\(x.vq.length<=vc/\vc<=maxLen)/\(x.fq.length<=fc/\fc<=maxLen)
theorem PicS.weak {B:Nat}{w':World}{e:Ending}{x:Pic}{er:Int}(h:PicS B w' e x er):l8 B w' e x er:=by
 obtain⟨v,fs,fc,L,hx,rfl,h1⟩:=h;have l1:x.vq.length=v.l.length:=by rw[hx];simp[aV,roG]
 have l2:x.fq.length=L.length:=by rw[hx];simp[aV]
 have k1:=h1.vcap x.none;have k2:=h1.fcap' x.none;have ho:=h1.on x.none;rw[<-hx] at k1 k2 ho;exact⟨v.rs,v.rc,fs,fc,by rw[l1,l2],ho.mono λb hb _=>hb.elim id id,k1,k2⟩
def FJ (V F:Int)(c:lI)(w:World)(x:Pic)(vs:oA)(vc:Nat)(fs:oA)(fc:Nat):Prop:=
 PicAt w x vs fs/\(x.vq.length<=vc/\vc<=maxLen)/\(x.fq.length<=fc/\fc<=maxLen)/\aO V F c x=0
def Sw (x y px py:Pic):Prop:=(x.none=true/\px=y/\py=y)\/(x.none=false/\y.none=true/\px=x/\py=x)\/(x.none=false/\y.none=false/\px=x/\py=y)
theorem Sw.none {x y px py:Pic}(h:Sw x y px py):px.none=py.none:=by
 rcases h with⟨_,rfl,rfl⟩|⟨_,_,rfl,rfl⟩|⟨h1,h2,rfl,rfl⟩
 ·rfl
 ·rfl
 ·rw[h1,h2]
theorem Sq {V F:Int}{c:lI}{px py:Pic}(h0:au V F c=0)(hx:aO V F c px=0)(hy:aO V F c py=0)(hn:px.none=py.none):px.vq.length=py.vq.length/\px.vq.length<=1000/\px.fq.length=py.fq.length/\px.fq.length<=60/\(∀g∈px.vq,aE c g=0)/\(∀g∈py.vq,aE c g=0)/\∀k (h1:k < px.fq.length) (h2:k < py.fq.length),px.fq[k].length=py.fq[k].length/\px.fq[k].length<=1000/\(∀g∈px.fq[k],aE c g=0)/\∀g∈py.fq[k],aE c g=0:=by
 obtain⟨⟨_,_⟩,⟨_,_⟩,h60⟩:=fZ;cases hp:px.none with
 |true=>
  have hq:py.none=true:=by rw[<-hn,hp]
  have fx:bK V F c px=true:=by
   unfold aO at hx;split at hx
   ·cases hx
   ·rename_i hq;simpa using hq
  have fy:bK V F c py=true:=by
   unfold aO at hy;split at hy
   ·cases hy
   ·rename_i hq;simpa using hq
  unfold bK at fx fy;simp only[hp,hq,if_true,j9,decide_eq_true_eq,List.length_eq_zero_iff] at fx fy;obtain⟨x1,x2⟩:=fx;obtain⟨y1,y2⟩:=fy;refine⟨by simp[x1,y1],by simp[x1],by simp[x2,y2],by simp[x2],by simp[x1],by simp[y1],λk h1 _=>absurd h1 (by simp[x2])⟩
 |false=>
  have hq:py.none=false:=by rw[<-hn,hp]
  obtain⟨a1,a2,a3,a4,a5⟩:=iH hx hp;obtain⟨b1,b2,b3,b4,b5⟩:=iH hy hq;refine⟨aa,aa,aa,aa,a4,b4,λk h1 h2=> ?_⟩;have m1:=gM h1;have m2:=gM h2;have:=a3 _ m1;have:=b3 _ m2;exact⟨aa,aa,a5 _ m1,b5 _ m2⟩
theorem tG {j:Gs->Gs->Gs}{l:List Gs}(h:∀g∈l,j g g=g):aQ j l l=l:=by
 unfold aQ;induction l with
 |nil=>rfl
 |cons a l ih=>rw[x9,h a ah,ih (λg hg=>h g (by simp[hg]))]
theorem Fu {j:Gs->Gs->Gs}{l:List (List Gs)}(h:∀r∈l,∀g∈r,j g g=g):z3 (aQ j) l l=l:=by
 induction l with
 |nil=>rfl
 |cons a l ih=>rw[x9,tG (h a ah),ih (λg hg=>h g (by simp[hg]))]
theorem US {V F:Int}{c:lI}{j:Gs->Gs->Gs}{x y px py:Pic}(h0:au V F c=0)(hx:aO V F c px=0)(hs:Sw x y px py)(hop:∀g,aE c g=0->j g g=g):aH j x y=⟨px.none,aQ j px.vq py.vq,z3 (aQ j) px.fq py.fq⟩:=by
 have hf:=Sq h0 hx hx rfl;have e1:aQ j px.vq px.vq=px.vq:=tG λg hg=>hop g (hf.2.2.2.2.1 g hg);have e2:z3 (aQ j) px.fq px.fq=px.fq:=Fu λr hr g hg=>by
  obtain⟨k,hk,rfl⟩:=List.getElem_of_mem hr;exact hop g ((hf.2.2.2.2.2.2 k hk hk).2.2.1 g hg)
 unfold aH;rcases hs with⟨h1,rfl,rfl⟩|⟨h1,h2,rfl,rfl⟩|⟨h1,h2,rfl,rfl⟩
 ·rw[if_pos h1,e1,e2]
 ·rw[if_neg (by rw[h1];decide),if_pos h2,e1,e2]
 ·rw[if_neg (by rw[h1];decide),if_neg (by rw[h2];decide),h1]

theorem nU (fh:Nat)(jn:Gs->Gs->Gs)(hfh:∀args wx,Sem.run pG (callFunc fh args) wx=.ok (.enter fh args) wx)(V F:Int)(s:oA)(c:lI)(cap:Nat)(x:Pic)(vs1:oA)(vc1:Nat)(fs1:oA)(fc1:Nat)(y:Pic)(vs2:oA)(vc2:Nat)(fs2:oA)(fc2:Nat)(w:World)(hcd:CodeAt w s c)(hx:PicAt w x vs1 fs1)(h1:x.vq.length<=vc1/\vc1<=maxLen)(h2:x.fq.length<=fc1/\fc1<=maxLen)(hy:PicAt w y vs2 fs2)(h3:y.vq.length<=vc2/\vc2<=maxLen)(h4:y.fq.length<=fc2/\fc2<=maxLen)(h:aU V F c [x,y]=0)(hcx:aO V F c x=0)(hcy:aO V F c y=0)(h0:au V F c=0)(hop:∀g,aE c g=0->jn g g=g)(hJ:∀(g:Gs) (ss:oA) (gc:Nat) (h:Gs) (st:oA) (hc:Nat) (wx:World),CodeAt wx s c->IntsAt wx ss g.s->g.s.length<=gc->gc<=maxLen->IntsAt wx st h.s->h.s.length<=hc->hc<=maxLen->aE c g=0->aE c h=0->Calls pG fh #[pv V F s c cap,gv g ss gc,gv h st hc] wx λe w'=>(∃js jc,e=Rt (Tu #[gv (jn g h) js jc,I Y 0])/\IntsAt w' js (jn g h).s/\(jn g h).s.length<=jc/\jc<=maxLen/\∀a,js=sO a->wx.heap.size<=a.block)/\bl wx w'):
  Calls pG 71 #[pv V F s c cap,xv x vs1 vc1 fs1 fc1,xv y vs2 vc2 fs2 fc2,.func (.func fh) #[] #[]] w λe w'=>PicS w.heap.size w' e (aH jn x y) 0/\bl w w':=by
 have B0:=rF;have P0:=Hm;have X0:=Kt;have Y0:=Ik;have Z0:=sH;rw[zA] at X0;rw[zA,zA] at Y0;rw[zA,zA,zA] at Z0;have C0:=lg;have PX:=nj;have PY:=mY;have HC:=If;have hbz:=Gh;have e3:=rT;have HB:=ag hbz;have GX:FJ V F c w x vs1 vc1 fs1 fc1:=⟨hx,h1,h2,hcx⟩;have GY:FJ V F c w y vs2 vc2 fs2 fc2:=⟨hy,h3,h4,hcy⟩;rw[h,e3] at HC;have HG:=ag (And.intro GX GY);have HTG:Hid (∀(a b:List Gs) (ra:oA) (rac:Nat) (rb:oA) (rbc:Nat) (wx:World),CodeAt wx s c->GsAt wx ra a->GsAt wx rb b->a.length=b.length->a.length<=1000->(∀g∈a,aE c g=0)->(∀g∈b,aE c g=0)->Calls pG 122 #[pv V F s c cap,U ra a.length rac,U rb b.length rbc,.func (.func fh) #[] #[]] wx λe w'=>OH wx w' e (aQ jn a b)/\bl wx w'):=λa b ra rac rb rbc wx k1 k2 k3 k4 k5 k6 k7=>BL fh jn hfh V F s c cap a b ra rac rb rbc wx k1 k2 k3 k4 k5 h0 k6 k7 hop hJ;clear hJ;clear h hx hy PX PY hbz GX GY hcx hcy;go_enter func71,ntmps71;go_wp2_with fail;refine HC.out.mono ?_;rintro e w1 ⟨rfl,hb1⟩;have hb01:=Gb;have Z1:=Z0.call hb01;have X1:=X0.call hb01;have Y1:=Y0.call hb01;have P1:=P0.call hb01;have B1:=rh;have z1:w.heap.size+1+1+1+1<=w1.heap.size:=by have:=hb01.size;omega
 clear HB hb1 hb01 B0 Z0 X0 Y0 P0 C0 HC e3;obtain⟨⟨a0,a1,a2⟩,az,af⟩:=id X1;obtain⟨⟨b0,b1,b2⟩,bz,bf⟩:=id Y1;have a3:=af 0;have a4:=af 1;have a5:=af 2;have b3:=bf 0;have b4:=bf 1;have b5:=bf 2;clear af bf;go_upto_block 0 with fail
 go_cut [] (λwy=>∃px us1 uc1 gs1 gc1 py us2 uc2 gs2 gc2,XAt wy (w.heap.size+1) px us1 uc1 gs1 gc1/\XAt wy (w.heap.size+1+1) py us2 uc2 gs2 gc2/\bl w wy/\PrAt wy w.heap.size V F s c cap/\X3 wy (w.heap.size+1+1+1) (Bb false) (U nO 0 0) (U nO 0 0)/\w.heap.size+1+1+1+1<=wy.heap.size/\FJ V F c w px us1 uc1 gs1 gc1/\FJ V F c w py us2 uc2 gs2 gc2/\Sw x y px py)
 case first=>
  cases hn:x.none with
  |true=>
   rw[hn] at a0;go_wp2_with fail;go_meet;have X1':X3 w1 (w.heap.size+1) _ _ _:=X1;have Y1':X3 w1 (w.heap.size+1+1) _ _ _:=Y1;exact⟨y,vs2,vc2,fs2,fc2,y,vs2,vc2,fs2,fc2,((X1'.put0 _).put1 _).put2 _,((Y1'.far aw _).far aw _).far aw _,((B1.setCell aw _).setCell aw _).setCell aw _,((P1.far aw _).far aw _).far aw _,((Z1.far aw _).far aw _).far aw _,by simpa[q8] using z1,HG.out.2,HG.out.2,Or.inl ⟨hn,rfl,rfl⟩⟩
  |false=>
   rw[hn] at a0;cases hm:y.none with
   |true=>
    rw[hm] at b0;go_wp2_with fail;go_meet;have X1':X3 w1 (w.heap.size+1) _ _ _:=X1;have Y1':X3 w1 (w.heap.size+1+1) _ _ _:=Y1;exact⟨x,vs1,vc1,fs1,fc1,x,vs1,vc1,fs1,fc1,((X1'.far aw _).far aw _).far aw _,by unfold XAt;rw[hn];exact((Y1'.put0 _).put1 _).put2 _,((B1.setCell aw _).setCell aw _).setCell aw _,((P1.far aw _).far aw _).far aw _,((Z1.far aw _).far aw _).far aw _,by simpa[q8] using z1,HG.out.1,HG.out.1,Or.inr (Or.inl ⟨hn,hm,rfl,rfl⟩)⟩
   |false=>
    rw[hm] at b0;go_wp2_with fail;go_meet;exact⟨x,vs1,vc1,fs1,fc1,y,vs2,vc2,fs2,fc2,X1,Y1,B1,P1,Z1,z1,HG.out.1,HG.out.2,Or.inr (Or.inr ⟨hn,hm,rfl,rfl⟩)⟩
 obtain⟨px,us1,uc1,gs1,gc1,py,us2,uc2,gs2,gc2,X2,Y2,B2,P2,Z2,z2,GPX,GPY,SW⟩:=hcut;generalize wc=w2 at *;have FIT:=ag (Sq h0 GPX.2.2.2 GPY.2.2.2 SW.none);have HRT:Hid (∀wx,bl w2 wx->Calls pG 122 #[pv V F s c cap,U us1 px.vq.length uc1,U us2 py.vq.length uc2,.func (.func fh) #[] #[]] wx λe w'=>OH wx w' e (aQ jn px.vq py.vq)/\bl wx w'):=λwx hx=>HTG.out px.vq py.vq us1 uc1 us2 uc2 wx (hcd.below (B2.trans (hx.mono B2.size)) (lR _)) (GPX.1.1.below (B2.trans (hx.mono B2.size)) (lR _)) (GPY.1.1.below (B2.trans (hx.mono B2.size)) (lR _)) FIT.out.1 FIT.out.2.1 FIT.out.2.2.2.2.1 FIT.out.2.2.2.2.2.1;have HJP:=ag (US h0 GPX.2.2.2 SW hop);generalize aQ jn px.vq py.vq=VL at HRT HJP;clear a0 a1 a2 a3 a4 a5 b0 b1 b2 b3 b4 b5 az bz X1 Y1 Z1 P1 B1 z1;have KS:∀wx,bl w2 wx->(wx.cell? ⟨w.heap.size,0,nO⟩=sO (I Y V)/\wx.cell? ⟨w.heap.size,1,nO⟩=sO (I Y F)/\wx.cell? ⟨w.heap.size,2,nO⟩=sO (U s c.length cap))/\(wx.cell? ⟨w.heap.size+1,0,nO⟩=sO (Bb px.none)/\wx.cell? ⟨w.heap.size+1,1,nO⟩=sO (U us1 px.vq.length uc1))/\wx.cell? ⟨w.heap.size+1+1,1,nO⟩=sO (U us2 py.vq.length uc2):=λwx hx=>by
  obtain⟨⟨p0,p1,p2⟩,-⟩:=P2.call hx;obtain⟨⟨a0,a1,-⟩,-⟩:=X2.call hx;obtain⟨⟨-,b1,-⟩,-⟩:=Y2.call hx;exact⟨⟨p0,p1,p2⟩,⟨a0,a1⟩,b1⟩
 go_upto_region 8 with fail
 go_cut [11] (λp11 wy=>∃(zb:Nat) (vs:oA) (vc:Nat) (vl:List Gc),p11=Pp (sO ⟨zb,0,nO⟩)/\X3 wy zb (Bb px.none) (U vs vl.length vc) (U nO 0 0)/\VRow (λb=>w2.heap.size<=b/\b≠zb) wy w2.heap.size (U vs vl.length vc) vl/\Hid (vl.map Gc.g=VL)/\w2.heap.size<=zb/\bl w2 wy)
 case first=>
  rename_i J1 K1' hJ1 hK1;refine aG (S:=λwx=>(wx.cell? ⟨w.heap.size,0,nO⟩=sO (I Y V)/\wx.cell? ⟨w.heap.size,1,nO⟩=sO (I Y F)/\wx.cell? ⟨w.heap.size,2,nO⟩=sO (U s c.length cap))/\(wx.cell? ⟨w.heap.size+1,0,nO⟩=sO (Bb px.none)/\wx.cell? ⟨w.heap.size+1,1,nO⟩=sO (U us1 px.vq.length uc1))/\wx.cell? ⟨w.heap.size+1+1,1,nO⟩=sO (U us2 py.vq.length uc2)) [11] ae (KS _ (bR _ _).drew) (λhHeld=> ?_);have HB0:=sN;have hzd:w2.drew.heap.size=w2.heap.size:=rfl;generalize w2.drew=wq at *;refine vZ 0 ?_ ?_;refine vZ 1 ?_ ?_;refine vZ 2 ?_ ?_;refine vZ 3 ?_ ?_;refine vZ 4 ?_ ?_;refine vZ 5 ?_ ?_;refine vZ 6 ?_ ?_;refine vZ 7 ?_ ?_;refine O6 (i:=8) (j:=10) rfl rfl ae (λK hK=> ?_) (λK hK=> ?_)
  case refine_1=>
   go_simp;go_at_call 122;refine(HRT.out wq HB0).mono ?_;rintro e w5 ⟨⟨vs,vc,vl,rfl,EV,SV⟩,hb5⟩;have GV:=SV.vrow;clear SV;have HB5:bl w2 w5:=HB0.trans (hb5.mono HB0.size);go_wp2_with fail;refine hK.out _ _ (KS _ HB5) (λhHeld=> ?_);clear hK K;refine sm ?_;refine vZ 9 ?_ ?_;refine aB (i:=10) rfl ae (λK hK=> ?_);go_simp;have HB6:bl w2 (w5.alloc (Cc #[Bb false,U nO 0 0,U nO 0 0] 28)):=HB5.alloc HB5.size _;refine hK.out _ _ (KS _ HB6) (λhHeld=> ?_);clear hK K;refine sm ?_;refine bE (i:=11) rfl ae ae (λK hK=> ?_);go_simp;refine hK.out _ _ ?_;clear hK K;refine sm ?_;refine aC ae ?_ _;refine hK1 _ _ (Met.intro (hJ1 _ _ ?_))
   (repeat apply Exists.intro)
   refine⟨?_,rfl⟩;exact⟨w5.heap.size,vs,vc,vl,rfl,X3.new w5 _ _ _ _,((GV.mono (λb h1 h2=>⟨lT HB0.size h1,Nat.ne_of_lt h2⟩)).lower HB0.size).call (Below.alloc (bR _ _) (lR _) _),EV,HB5.size,HB5.alloc HB5.size _⟩
  case refine_2=>
   go_simp;have HB1:bl w2 (wq.alloc (Cc #[Bb false,U nO 0 0,U nO 0 0] 28)):=HB0.alloc HB0.size _;have U1:=X3.new wq 28 (Bb false) (U nO 0 0) (U nO 0 0);have hma:wq.heap.size < (wq.alloc (Cc #[Bb false,U nO 0 0,U nO 0 0] 28)).heap.size:=ah;rw[hzd] at U1 hma;refine hK.out _ _ (KS _ HB1) (λhHeld=> ?_);clear hK K;refine sm ?_;generalize wq.alloc (Cc #[Bb false,U nO 0 0,U nO 0 0] 28)=wa at *;refine aB (i:=8) rfl ae (λK hK=> ?_);go_simp;go_at_call 122;refine(HRT.out wa HB1).mono ?_;rintro e w5 ⟨⟨vs,vc,vl,rfl,EV,SV⟩,hb5⟩;have GV:=SV.vrow;clear SV;have HB5:bl w2 w5:=HB1.trans (hb5.mono HB1.size);go_wp2_with fail;refine hK.out _ _ (KS _ HB5) (λhHeld=> ?_);clear hK K;refine sm ?_;have U5:=U1.call hb5;obtain⟨⟨v0,v1,v2⟩,vz,vf⟩:=id U5;have v3:=vf 0;have v4:=vf 1;have v5:=vf 2;clear vf;refine vZ 9 ?_ ?_;refine bE (i:=11) rfl ae ae (λK hK=> ?_);go_simp;refine hK.out _ _ ?_;clear hK K;refine sm ?_;refine aC ae ?_ _;refine hK1 _ _ (Met.intro (hJ1 _ _ ?_))
   (repeat apply Exists.intro)
   refine⟨?_,rfl⟩;have GV':=(GV.mono (S':=λb=>w2.heap.size<=b/\b≠w2.heap.size) λb h1 _=>⟨aa,aa⟩).lower (C:=w2.heap.size) aa;exact⟨w2.heap.size,vs,vc,vl,rfl,((U5.put0 _).put1 _).put2 _,GV'.same (λb hS _=>((hSe _ _ _ _ hS.2).trans (hSe _ _ _ _ hS.2)).trans (hSe _ _ _ _ hS.2)) bH,EV,lR _,((HB5.setCell (lR _) _).setCell (lR _) _).setCell (lR _) _⟩
 obtain⟨zb,vs,vc,vl,rfl,U3,GV0,EV,zz,hb3⟩:=hcut;generalize wc=w3 at *;have X3':=X2.call hb3;have Y3':=Y2.call hb3;have P3':=P2.call hb3;have Z3':=Z2.call hb3;have B3:=fH;have zN:zb < w3.heap.size:=U3.2.1;have zn:w.heap.size+1+1+1+1<=zb:=aa;obtain⟨N,hN⟩:∃N,N=w3.heap.size:=⟨_,rfl⟩;have GV:VRow (λb=>w.heap.size+1+1+1+1<=b/\b < N/\b≠zb) w3 (w.heap.size+1+1+1+1) (U vs vl.length vc) vl:=(GV0.mono λb h1 h2=>⟨aa,aa,h1.2⟩).lower aa;rw[<-hN] at zN;have hN':N<=w3.heap.size:=aa;clear GV0 KS HRT X2 Y2 P2 Z2 B2 hb3 z2 hN;have LXF:px.fq.length=py.fq.length/\px.fq.length<=60:=⟨FIT.out.2.2.1,FIT.out.2.2.2.1⟩;obtain⟨lxf,lx60⟩:=LXF;have HXR:=ag GPX.1.2;have HYR:=ag GPY.1.2;obtain⟨tk,hk,hx0,hx1,hx2⟩:=mX;obtain⟨⟨a0,a1,a2⟩,az,-⟩:=id X3';go_wp2;clear a0 a1 a2 az;go_loopw [43,12] (λi _ wr=>∃(k:Nat) (fs:oA) (fc:Nat) (L:List Ro),k<=px.fq.length/\i=I Y k/\XAt wr (w.heap.size+1) px us1 uc1 gs1 gc1/\XAt wr (w.heap.size+1+1) py us2 uc2 gs2 gc2/\PrAt wr w.heap.size V F s c cap/\X3 wr (w.heap.size+1+1+1) (Bb false) (U nO 0 0) (U nO 0 0)/\X3 wr zb (Bb px.none) (U vs vl.length vc) (U fs L.length fc)/\FRowS wr N (U fs L.length fc) L/\Hid (L.map roG=z3 (aQ jn) (px.fq.take k) (py.fq.take k))/\VRow (λb=>w.heap.size+1+1+1+1<=b/\b < N/\b≠zb) wr (w.heap.size+1+1+1+1) (U vs vl.length vc) vl/\bl w wr/\N<=wr.heap.size) (λi _ _=>px.fq.length - (intOf i).toNat)
 case atStart=>exact⟨0,nO,0,[],j0 _,rfl,X3',Y3',P3',Z3',U3,FRowS.nil _ _,rfl,GV,B3,hN'⟩
 case round=>
  clear X3' Y3' P3' Z3' U3 GV B3 hN';obtain⟨k,fs,fc,L,hk1,rfl,XR,YR,PR,ZR,UR,FR,HL,GV,LR,zr⟩:=hrel;have LL:Hid (L.length=k):=by
   show _=_;have h1:=ij;rw[j7,x8,q9,q9] at h1;omega
  by_cases hlt:k < px.fq.length
  ·have n0:=dk
   have n1:(k:Int) < (px.fq.length:Int):=aa;have hlt':k < py.fq.length:=aa;have n2:(k:Int) < (py.fq.length:Int):=aa;obtain⟨p1,q1,e1,zp1,r1,rc1,C1,k1,m1,J1⟩:=HXR.out k hlt;obtain⟨p2,q2,e2,zp2,r2,rc2,C2,k2,m2,J2⟩:=HYR.out k hlt';subst e1 e2;have hF:=FIT.out.2.2.2.2.2.2 k hlt hlt';have HRK:Hid (∀wx,bl w wx->Calls pG 122 #[pv V F s c cap,U r1 px.fq[k].length rc1,U r2 py.fq[k].length rc2,.func (.func fh) #[] #[]] wx λe w'=>OH wx w' e (aQ jn px.fq[k] py.fq[k])/\bl wx w'):=λwx hx=>HTG.out px.fq[k] py.fq[k] r1 rc1 r2 rc2 wx (hcd.below hx (lR _)) (J1.below hx (lR _)) (J2.below hx (lR _)) hF.1 hF.2.1 hF.2.2.1 hF.2.2.2;obtain⟨⟨p0',p1',p2'⟩,pz⟩:=id PR;obtain⟨⟨a0,a1,a2⟩,az,-⟩:=id XR;obtain⟨⟨c0,c1,c2⟩,cz,-⟩:=id YR;obtain⟨⟨y0,y1,y2⟩,yz,yf⟩:=id UR;have D1:wr.cell? ⟨p1,q1+k,nO⟩=sO (U r1 px.fq[k].length rc1):=by rw[LR.cell (by simp only;exact zp1)];exact C1
   have D2:wr.cell? ⟨p2,q2+k,nO⟩=sO (U r2 py.fq[k].length rc2):=by rw[LR.cell (by simp only;exact zp2)];exact C2
   have HKZ:Hid (∀wx,Below N wr wx->(wx.cell? ⟨w.heap.size,0,nO⟩=sO (I Y V)/\wx.cell? ⟨w.heap.size,1,nO⟩=sO (I Y F)/\wx.cell? ⟨w.heap.size,2,nO⟩=sO (U s c.length cap))/\(wx.cell? ⟨w.heap.size+1,2,nO⟩=sO (U (sO ⟨p1,q1,nO⟩) px.fq.length gc1)/\wx.cell? ⟨p1,q1+k,nO⟩=sO (U r1 px.fq[k].length rc1))/\(wx.cell? ⟨w.heap.size+1+1,2,nO⟩=sO (U (sO ⟨p2,q2,nO⟩) py.fq.length gc2)/\wx.cell? ⟨p2,q2+k,nO⟩=sO (U r2 py.fq[k].length rc2))/\wx.cell? ⟨zb,2,nO⟩=sO (U fs L.length fc)):=λwx hx=>⟨⟨by rw[hx.cell (by simp only;omega)];exact p0',by rw[hx.cell (by simp only;omega)];exact p1',by rw[hx.cell (by simp only;omega)];exact p2'⟩,⟨by rw[hx.cell (by simp only;omega)];exact a2,by rw[hx.cell (by simp only;omega)];exact D1⟩,⟨by rw[hx.cell (by simp only;omega)];exact c2,by rw[hx.cell (by simp only;omega)];exact D2⟩,by rw[hx.cell (by simp only;omega)];exact y2⟩;have HD:=dB;clear hF C1 C2 J1 J2 k1 k2 m1 m2;go_wp2;clear a0 a1 a2 az c0 c1 c2 cz y0 y1 y2 yz yf p0' p1' p2' pz D1 D2;refine aG (S:=(λwx=>(wx.cell? ⟨w.heap.size,0,nO⟩=sO (I Y V)/\wx.cell? ⟨w.heap.size,1,nO⟩=sO (I Y F)/\wx.cell? ⟨w.heap.size,2,nO⟩=sO (U s c.length cap))/\(wx.cell? ⟨w.heap.size+1,2,nO⟩=sO (U (sO ⟨p1,q1,nO⟩) px.fq.length gc1)/\wx.cell? ⟨p1,q1+k,nO⟩=sO (U r1 px.fq[k].length rc1))/\(wx.cell? ⟨w.heap.size+1+1,2,nO⟩=sO (U (sO ⟨p2,q2,nO⟩) py.fq.length gc2)/\wx.cell? ⟨p2,q2+k,nO⟩=sO (U r2 py.fq[k].length rc2))/\wx.cell? ⟨zb,2,nO⟩=sO (U fs L.length fc))) [18] ae (HKZ.out _ (HD.mono zr)) (λhHeld=> ?_);refine vZ 0 ?_ ?_;refine vZ 1 ?_ ?_;refine vZ 2 ?_ ?_;refine vZ 3 ?_ ?_;refine vZ 4 ?_ ?_;refine vZ 5 ?_ ?_;refine vZ 6 ?_ ?_;refine vZ 7 ?_ ?_;refine vZ 8 ?_ ?_;refine vZ 9 ?_ ?_;refine vZ 10 ?_ ?_;refine vZ 11 ?_ ?_;refine vZ 12 ?_ ?_;refine vZ 13 ?_ ?_;refine aB (i:=14) rfl ae (λK hK=> ?_);go_simp;go_at_call 122;refine(HRK.out _ (LR.trans (HD.mono LR.size))).mono ?_;rintro e w5 ⟨⟨rs,rc,gl,rfl,ER,SR5⟩,hb5⟩;have HW5:=nw;have HB5:Below N wr w5:=HW5.mono zr;go_wp2_with fail;refine hK.out _ _ (HKZ.out _ HB5) (λhHeld=> ?_);clear hK K;refine sm ?_;refine aB (i:=15) rfl ae (λK hK=> ?_);go_simp;have HW6:bl wr (w5.alloc (Cc #[U rs gl.length rc] 25)):=HW5.alloc HW5.size _;have HB6:Below N wr (w5.alloc (Cc #[U rs gl.length rc] 25)):=HW6.mono zr;refine hK.out _ _ (HKZ.out _ HB6) (λhHeld=> ?_);clear hK K;refine sm ?_;refine aB (i:=16) rfl ae (λK hK=> ?_);have F6:=FR.call HW6;have VX:VRow (λb=>wr.heap.size<=b) (w5.alloc (Cc #[U rs gl.length rc] 25)) wr.heap.size (roV ⟨rs,rc,gl⟩) gl:=((SR5.vrow.mono λb h _=>lT HD.size h).lower HD.size).call am;refine eK _ rfl _ _ 26 rfl N 25 tk (U nO 0 0) 1 24 underlying26 hk hx0 hx1 hx2 rfl ai _ _ _ rfl F6.own (sO ⟨w5.heap.size,0,nO⟩) 1 1 [U rs gl.length rc] rfl rfl (λh=>aT) (BI w5 _ _) oC uD uU kv ?_;intro v' w7 hown hgrow hat;have F7:=FR.grown HW6 zr (x:=⟨rs,rc,gl⟩) VX hown hgrow hat;have HB7:Below N wr w7:=HB6.grown hgrow kv (λk hk=>(aR F6.own hk).2);obtain⟨fs',fc',rfl⟩:=F7.form;refine hK.out _ _ (HKZ.out _ HB7) (λhHeld=> ?_);clear hK K hown hgrow hat F6 VX HB6 HW6 HB5 HW5 SR5;refine sm ?_;refine vZ 17 ?_ ?_;refine bE (i:=18) rfl ae ae (λK hK=> ?_);have U7:X3 w7 zb _ _ _:=UR.same (HB7.block _ aa) HB7.size;obtain⟨⟨y0,y1,y2⟩,yz,yf⟩:=id U7;have yf2:=yf 2;clear yf;go_simp;refine hK.out _ _ ?_;clear hK K;refine sm ?_;refine aC ae ?_ _;clear y0 y1 y2 yz yf2;have X7:XAt w7 (w.heap.size+1) px us1 uc1 _ gc1:=XR.same (HB7.block _ aa) HB7.size;have Y7:XAt w7 (w.heap.size+1+1) py us2 uc2 _ gc2:=YR.same (HB7.block _ aa) HB7.size;have P7:=PR.low HB7 aa;have Z7:X3 w7 (w.heap.size+1+1+1) (Bb false) (U nO 0 0) (U nO 0 0):=ZR.same (HB7.block _ aa) HB7.size;have V7:=GV.same (w':=w7) (λb hS _=>HB7.block b hS.2.1) HB7.size;have L7:=pk;have z7:N<=w7.heap.size:=lT zr HB7.size;have E7:=Ie;have S7:=IE;clear XR YR PR ZR UR FR LR zr HKZ GV HB7;go_wp2;go_roundw
   case rel=>exact⟨k+1,fs',fc',L++[⟨rs,rc,gl⟩],aa,aF,X7.same (E7.out _ _ aa) (S7.out _),Y7.same (E7.out _ _ aa) (S7.out _),P7.far aw _,Z7.same (E7.out _ _ aa) (S7.out _),Md,F7.olden (λb hb _=>E7.out _ b aa) (S7.out _),by show _=_;rw[j8,HL.out,s8 _ px.fq py.fq k hlt hlt'];exact congrArg (λq=>_++[q]) ER.out,V7.same (λb hS _=>E7.out _ b hS.2.2) (S7.out _),L7.setCell aw _,uM⟩
   case measure=>exact aK
  ·have n1':¬(k:Int) < (px.fq.length:Int):=by omega
   have et1:px.fq.take k=px.fq:=j6 aa;have et2:py.fq.take k=py.fq:=j6 aa;have hch:∀b,b≠w.heap.size+1+1+1->(((wr.setCell ⟨w.heap.size+1+1+1,0,nO⟩ (Bb px.none)).setCell ⟨w.heap.size+1+1+1,1,nO⟩ (U vs vl.length vc)).setCell ⟨w.heap.size+1+1+1,2,nO⟩ (U fs L.length fc)).heap[b]? =wr.heap[b]? :=λb hb=>oX;have hcz:wr.heap.size<=(((wr.setCell ⟨w.heap.size+1+1+1,0,nO⟩ (Bb px.none)).setCell ⟨w.heap.size+1+1+1,1,nO⟩ (U vs vl.length vc)).setCell ⟨w.heap.size+1+1+1,2,nO⟩ (U fs L.length fc)).heap.size:=bH;have FX:=FR.olden (w':=(((wr.setCell ⟨w.heap.size+1+1+1,0,nO⟩ (Bb px.none)).setCell ⟨w.heap.size+1+1+1,1,nO⟩ (U vs vl.length vc)).setCell ⟨w.heap.size+1+1+1,2,nO⟩ (U fs L.length fc))) (λb hb _=>hch b aa) hcz;have GX:=GV.same (w':=(((wr.setCell ⟨w.heap.size+1+1+1,0,nO⟩ (Bb px.none)).setCell ⟨w.heap.size+1+1+1,1,nO⟩ (U vs vl.length vc)).setCell ⟨w.heap.size+1+1+1,2,nO⟩ (U fs L.length fc))) (λb hS _=>hch b aa) hcz;have BX:bl w (((wr.setCell ⟨w.heap.size+1+1+1,0,nO⟩ (Bb px.none)).setCell ⟨w.heap.size+1+1+1,1,nO⟩ (U vs vl.length vc)).setCell ⟨w.heap.size+1+1+1,2,nO⟩ (U fs L.length fc)):=((LR.setCell aw _).setCell aw _).setCell aw _;have HPX:Hid (PicG (λb=>w.heap.size<=b) w.heap.size (((wr.setCell ⟨w.heap.size+1+1+1,0,nO⟩ (Bb px.none)).setCell ⟨w.heap.size+1+1+1,1,nO⟩ (U vs vl.length vc)).setCell ⟨w.heap.size+1+1+1,2,nO⟩ (U fs L.length fc)) ⟨vs,vc,vl⟩ fs fc L):=((FX.pic GX (λb hb=>⟨hb.1,hb.2.1⟩) aa).mono λb hb _=>aa).down aa;have HJX:Hid (aH jn x y=aV (aH jn x y).none ⟨vs,vc,vl⟩ L):=by
    show _=_;rw[HJP.out];have e1:=HL.out;have e2:=EV.out;rw[et1,et2] at e1;simp only[aV,roG,e2];rw[<-e1]
   have HJN:Hid ((aH jn x y).none=px.none):=by show _=_;rw[HJP.out]
   obtain⟨⟨y0,y1,y2⟩,yz,yf⟩:=id UR;obtain⟨⟨d0,d1,d2⟩,dz,df⟩:=id ZR;have f0:=df 0;have f1:=df 1;have f2:=df 2;clear df yf hch hcz FX GX et1 et2;go_wp2;refine bodyPost_ret (v:=Tu #[Ag #[Bb px.none,U vs vl.length vc,U fs L.length fc],I Y 0]) (by simp[results,results71,go_sem,d0,d1,d2]) rfl ⟨?_,BX⟩;exact⟨⟨vs,vc,vl⟩,fs,fc,L,HJX.out,by rw[HJN.out],HPX.out⟩
end
section
open Go.RowKit
attribute [local go_sem ↓] Go.wp_at_zero Go.wp_at_succ
theorem FE (V F:Int)(s:oA)(c:lI)(cap:Nat)(x:Pic)(vs1:oA)(vc1:Nat)(fs1:oA)(fc1:Nat)(y:Pic)(vs2:oA)(vc2:Nat)(fs2:oA)(fc2:Nat)(w:World)(hcd:CodeAt w s c)(hx:PicAt w x vs1 fs1)(h1:x.vq.length<=vc1/\vc1<=maxLen)(h2:x.fq.length<=fc1/\fc1<=maxLen)(hy:PicAt w y vs2 fs2)(h3:y.vq.length<=vc2/\vc2<=maxLen)(h4:y.fq.length<=fc2/\fc2<=maxLen):
  Calls pG 51 #[pv V F s c cap,xv x vs1 vc1 fs1 fc1,xv y vs2 vc2 fs2 fc2] w λe w'=>e=Rt (Bb (if aU V F c [x,y]=0 then bJ x y else false))/\bl w w':=by
 have B0:=so;have HW:=ag (Ta V F s c cap x vs1 vc1 fs1 fc1 y vs2 vc2 fs2 fc2 (((w.alloc (Cc #[I Y V,I Y F,U s c.length cap] 24)).alloc (Cc #[Bb x.none,U vs1 x.vq.length vc1,U fs1 x.fq.length fc1] 28)).alloc (Cc #[Bb y.none,U vs2 y.vq.length vc2,U fs2 y.fq.length fc2] 28)) (hcd.below B0 (lR _)) (hx.below B0 (lR _)) h1 h2 (hy.below B0 (lR _)) h3 h4);clear hcd hx hy h1 h2 h3 h4;generalize (if aU V F c [x,y]=0 then bJ x y else false)=r at *;go_enter func51,ntmps51;go_wp2_with fail;refine HW.out.mono ?_;rintro e w1 ⟨rfl,hb1⟩;go_wp2;go_ret;exact p5
end
end Go.Proofs.YtmapdpcfanecdabGreatDoor
