import Derived.Test.YtmapdpcfanecdabGreatDoorQ14
import Derived.Lib.AppendZeros
import Derived.Laws.AppendOwn
open List renaming length→X,any_eq_false→J9,drop_eq_getElem_cons→x7,drop_eq_nil_of_le→x4,eq_nil_of_length_eq_zero→J6,flatten_cons→Q0,getD→z8,getElem?_eq_getElem→Q3,getElem_mem→gM,length→x9,length_append→j8,length_map→q8,length_take→x5,map→J8,map_append→z6,mem_append→J2,mem_flatten→J3,pairwise_cons→Q1,range→j9,take_length→J7,take_of_length_le→q7,take_succ_eq_append_getElem→x8
open Array renaming size→R
open Go.World renaming heap→M,setCell→Q2,size_alloc→zA
open Bool renaming and_eq_true→x6,false→d,true→W5
open Go.Ending renaming returned→Rt
open Go.IntKind renaming i64→Y
open Go.Obj renaming cells→A
open Go.Proofs.Tryz renaming prog→pG,prog→f
open Go.RowKit.Below renaming heap_setCell→hSe,refl→bR
open Go.Value renaming agg→Ag,int→I,pointer→Pp,slice→U,slice→q9,tuple→Tu,bool→O
open Nat renaming le_refl→lR,le_trans→lT,lt_of_lt_of_le→lL,zero_add→j7,zero_le→j6
open Option renaming none→E,some→G
open Go.RowKit renaming Below→n4
open Go renaming Value→mh,World→kl,World→C
set_option linter.all false
open Go.Proofs.Tryz
set_option maxHeartbeats 32000000
set_option maxRecDepth 100000
namespace Go.Proofs.YtmapdpcfanecdabGreatDoor
variable {T:Nat->Prop}(q n:Nat)(V F:Int)(H:Bool)(s:oA)(c:lI)(cap fh:Nat)(g:Gs)(w:C)(x y:Pic)(ss l vs ls:oA){r:St}(L vq a:List Gs)(lc z vc:Nat)(fs xh:oA)(fq:List (List Gs))(gc fc:Nat)(h:Gs)
variable {p:Prop}
section
open Go.RowKit
attribute [local go_sem ↓] Go.wp_at_zero Go.wp_at_succ
def a2j (B:Nat)(w':World)(e:Ending)(x:Pic):Prop:=∃v gs gc L,x=bh x.none v L/\e=Rt (Ag #[O x.none,U v.rs (X v.l) v.rc,U gs (X L) gc])/\a7e (λb=>B<=b) B w' v gs gc L
def pS (T:Bool)(F:List Gs)(fx:List (List Gs))(ah:oA)(z:Nat)(ad:oA)(j:Nat)(w:kl)(hx:a4r w ⟨T,F,fx⟩ ah ad)(c7:X F<=2199023255488)(y:X fx<=5864062014805)(hr:∀i (h:i < X fx),fx[i].length<=2199023255488)(b0:∀g∈F,X g.s<=17592186043904)(b2:∀i (h:i < X fx),∀g∈fx[i],X g.s<=17592186043904):
  Calls f 29 #[xv ⟨T,F,fx⟩ ah z ad j] w λe w'=>a2j (R (M w)) w' e ⟨T,F,fx⟩/\bl w w':=by
 obtain⟨ti,hi,bz,bv,bt⟩:=lH;obtain⟨tk,hk,cv,c3,cf⟩:=rq;have HO:=ag λ(g:Gs) (ss:oA) (gc:Nat) (wx:kl) (D:yv wx ss g.s) (o:X g.s<=17592186043904)=>Uj g ss gc wx D o;have HR:=ag hr;have cs:=ag b0;have cl:=ag b2;have HX:=cX;clear hr b0 b2 hx;have bs:n4 (R (M w)) w (((w.alloc (A #[O T,U ah (X F) z,U ad (X fx) j] 28)).alloc (A #[O d,U E 0 0,U E 0 0] 28)).alloc (A #[O T,U E 0 0,U E 0 0] 28)):=ai;have A0:=(XAt.new w ⟨T,F,fx⟩ ah z ad j).call (w':=(((w.alloc (A #[O T,U ah (X F) z,U ad (X fx) j] 28)).alloc (A #[O d,U E 0 0,U E 0 0] 28)).alloc (A #[O T,U E 0 0,U E 0 0] 28))) ai;have C0:=(X3.new (w.alloc (A #[O T,U ah (X F) z,U ad (X fx) j] 28)) 28 (O d) (U E 0 0) (U E 0 0)).call (w':=(((w.alloc (A #[O T,U ah (X F) z,U ad (X fx) j] 28)).alloc (A #[O d,U E 0 0,U E 0 0] 28)).alloc (A #[O T,U E 0 0,U E 0 0] 28))) ai;have D0:=X3.new ((w.alloc (A #[O T,U ah (X F) z,U ad (X fx) j] 28)).alloc (A #[O d,U E 0 0,U E 0 0] 28)) 28 (O T) (U E 0 0) (U E 0 0);have z0:R (M w)+1+1+1<=R (M (((w.alloc (A #[O T,U ah (X F) z,U ad (X fx) j] 28)).alloc (A #[O d,U E 0 0,U E 0 0] 28)).alloc (A #[O T,U E 0 0,U E 0 0] 28))):=ae;rw[zA] at C0;rw[zA,zA] at D0;(try simp only at A0);go_enter func29,ntmps29;go_upto_region 3 with fail
 generalize (((w.alloc _).alloc _).alloc _)=w1 at *;go_wp2;go_loopw [5] (λi wr=>∃(k:Nat) (vs:oA) (vc:Nat) (l:List Gc),k<=X F/\i=I Y k/\XAt wr (R (M w)) ⟨T,F,fx⟩ ah z ad j/\X3 wr (R (M w)+1) (O d) (U E 0 0) (U E 0 0)/\X3 wr (R (M w)+1+1) (O T) (U vs (X l) vc) (U E 0 0)/\a8i wr (R (M w)+1+1+1) (U vs (X l) vc) l/\Hid (l.map Gc.g=F.take k)/\bl w wr/\R (M w)+1+1+1<=R (M wr)) (λi _=>X F - (intOf i).toNat)
 case atStart=>exact⟨0,E,0,[],j6 _,rfl,A0,C0,D0,a8i.nil _ _,rfl,bs,z0⟩
 case round=>
  obtain⟨k,vs,vc,l,c6,rfl,AR,CR,ZR,SR,HL,LR,zr⟩:=hrel;clear A0 C0 D0 bs z0;have LL:Hid (X l=k):=by
   show _=_;have D:=ki;rw[q8,x5] at D;omega
  by_cases a5:k < X F
  .have n0:=cQ
   have n1:(k:Int) < (X F:Int):=aa;obtain⟨b1,o1,e1,ay,g1,G1,I1,_⟩:=(HX.out.1.below LR (lR _)) k a5;subst e1;have a9:=cs.out _ (gM a5);(try simp only at G1 I1);have c5:=sD (HX.out.1) k a5;obtain⟨⟨H,a1,a2⟩,az,-⟩:=id AR;obtain⟨⟨y0,y1,y2⟩,yz,-⟩:=id ZR;have a3:Hid (∀wx,n4 (R (M w)+1+1+1) wr wx->wx.cell? ⟨R (M w)+1+1,1,E⟩=G (U vs (X l) vc)/\(wx.cell? ⟨R (M w),1,E⟩=G (U (G ⟨b1,o1,E⟩) (X F) z)/\(wx.cell? ⟨b1,o1+k * 7,E⟩=G (O F[k].n)/\wx.cell? ⟨b1,o1+k * 7+1,E⟩=G (O F[k].sp.n)/\wx.cell? ⟨b1,o1+k * 7+2,E⟩=G (I Y F[k].sp.lo)/\wx.cell? ⟨b1,o1+k * 7+3,E⟩=G (I Y F[k].sp.hi)/\wx.cell? ⟨b1,o1+k * 7+4,E⟩=G (O F[k].t)/\wx.cell? ⟨b1,o1+k * 7+5,E⟩=G (O F[k].f)/\wx.cell? ⟨b1,o1+k * 7+6,E⟩=G (U ay F[k].s.length g1)))):=λwx hx=>⟨by rw[hx.cell (by simp only;omega)];exact y1,⟨by rw[hx.cell (by simp only;omega)];exact a1,(G1.low hx aa).1⟩⟩;have HD:=dS;go_wp2;clear a1 a2 y0 y1 y2;refine XK [12] ac a3.out (HD.mono zr) (λal=> ?_);refine QQ ?_;refine av (i:=8) rfl ac (λK hK=> ?_);go_simp;go_at_call 68;go_call HO.out F[k] ay g1 _ (I1.call HD) a9 as e w5 ⟨⟨js,jc,rfl,ap,bc,ba,ao⟩,xw⟩;have zW:=m9;have b3:=zW.mono zr;go_wp2_with fail;refine hK.out _ _ (a3.out _ b3) (λal=> ?_);clear hK K;refine sm ?_;refine av (i:=9) rfl ac (λK hK=> ?_);go_simp;have a7:bl wr (w5.alloc (A #[O F[k].n,O F[k].sp.n,I Y F[k].sp.lo,I Y F[k].sp.hi,O F[k].t,O F[k].f,U js F[k].s.length jc] 91)):=zW.alloc zW.size _;have bf:=a7.mono zr;refine hK.out _ _ (a3.out _ bf) (λal=> ?_);clear hK K;refine sm ?_;refine av (i:=10) rfl ac (λK hK=> ?_);have S6:=SR.call a7;have GX:cK (λb=>R (M w)+1+1+1<=b/\(q9 vs (X l) vc).ownBlock≠G b) (w5.alloc (A #[O F[k].n,O F[k].sp.n,I Y F[k].sp.lo,I Y F[k].sp.hi,O F[k].t,O F[k].f,U js F[k].s.length jc] 91)) ⟨F[k],js,jc⟩:=l8 ap bc ba ao zr (λe=>(aU SR.1 e).1) ai (HD.size);refine fe _ rfl _ _ 25 rfl (R (M w)+1+1+1) 91 ti (Ag #[O d,O d,I Y 0,I Y 0,O d,O d,U E 0 0]) 7 64 underlying25 hi bz bv bt rfl an _ _ _ rfl S6.1 (G ⟨R (M w5),0,E⟩) 1 1 (bJ ⟨F[k],js,jc⟩) rfl rfl (λh=>bU) (rG w5 ⟨F[k],js,jc⟩ #[O F[k].n,O F[k].sp.n,I Y F[k].sp.lo,I Y F[k].sp.hi,O F[k].t,O F[k].f,U js F[k].s.length jc] _ rfl) (eE _) AU AN lX ?_;intro v' w7 af ab xY;have S7:=S6.grown (x:=⟨F[k],js,jc⟩) GX af ab xY;have xF:n4 (R (M w)+1+1+1) wr w7:=bf.grown ab lX (λk hk=>(aU S6.1 hk).2);obtain⟨ar,a4,rfl,-,-,-⟩:=S7.in;refine hK.out _ _ (a3.out _ xF) (λal=> ?_);clear hK K af ab xY S6 GX bf a7 b3 zW ap ao;refine sm ?_;refine QN 11 ?_;refine aM (i:=12) rfl ac ac (λK hK=> ?_);have Z7:X3 w7 (R (M w)+1+1) (O T) (U vs (X l) vc) (U E 0 0):=ZR.same (xF.block _ aa) xF.size;obtain⟨⟨y0,y1,y2⟩,yz,yf⟩:=id Z7;have cz:=yf 1;clear yf;go_simp;refine hK.out _ _ ?_;clear hK K;refine sm ?_;refine aB ac ?_ _;clear y0 y1 y2 cz;have A7:XAt w7 (R (M w)) ⟨T,F,fx⟩ _ z ad j:=AR.same (xF.block _ aa) xF.size;have C7:X3 w7 (R (M w)+1) (O d) (U E 0 0) (U E 0 0):=CR.same (xF.block _ aa) xF.size;have L7:=wM;have z7:=lT zr xF.size;have e7:∀b,b≠R (M w)+1+1->(w7.setCell ⟨R (M w)+1+1,1,E⟩ (U ar (X (l++[(⟨F[k],js,jc⟩:Gc)])) a4)).heap[b]? =w7.heap[b]? :=λb hb=>hSe _ _ _ _ hb;have s7:R (M w7)<=R (M (w7.setCell ⟨R (M w)+1+1,1,E⟩ (U ar (X (l++[(⟨F[k],js,jc⟩:Gc)])) a4))):=bI;clear AR CR ZR SR LR zr a3;go_wp2;go_roundw
   case rel=>exact⟨k+1,ar,a4,l++[⟨F[k],js,jc⟩],aa,aJ,Vd,Vi,by first|exact Z7.put1 _|(simpa using Z7.put1 (U ar (X (l++[(⟨F[k],js,jc⟩:Gc)])) a4)),UT,by show _=_;rw[z6,HL.out,x8 a5];rfl,by first|exact L7.setCell (by simp only;omega) _|(simpa using L7.setCell (p:=⟨R (M w)+1+1,1,E⟩) (by simp only;omega) (U ar (X (l++[(⟨F[k],js,jc⟩:Gc)])) a4)),Br⟩
   case measure=>exact aK
  .have c8:¬(k:Int) < (X F:Int):=by omega
   have ak:F.take k=F:=q7 aa;have cr:Hid (l.map Gc.g=F):=by show _=_;rw[HL.out,ak]
   have GV:a8q (λb=>R (M w)+1+1+1<=b/\b < R (M wr)) wr (R (M w)+1+1+1) (U vs (X l) vc) l:=SR.vrow.mono λb D o=>⟨D,o⟩;clear SR LL HL ak;have zn:R (M w)+1+1+1<=R (M wr):=zr;obtain⟨⟨H,a1,a2⟩,az,-⟩:=id AR;generalize hN:R (M wr)=N at *;have HNN:=ag hN;clear hN;go_wp2;clear a1 a2;go_loopw [6] (λi wr=>∃(k:Nat) (fs:oA) (fc:Nat) (L:List Ro),k<=X fx/\i=I Y k/\XAt wr (R (M w)) ⟨T,F,fx⟩ ah z ad j/\X3 wr (R (M w)+1) (O d) (U E 0 0) (U E 0 0)/\X3 wr (R (M w)+1+1) (O T) (U vs (X l) vc) (U fs (X L) fc)/\a8j wr N (U fs (X L) fc) L/\Hid (L.map roG=fx.take k)/\a8q (λb=>R (M w)+1+1+1<=b/\b < N) wr (R (M w)+1+1+1) (U vs (X l) vc) l/\bl w wr/\N<=R (M wr)) (λi _=>X fx - (intOf i).toNat)
   case atStart=>exact⟨0,E,0,[],j6 _,rfl,AR,CR,ZR,a8j.nil _ _,rfl,GV,LR,KE⟩
   case round=>
    clear AR CR ZR GV LR zr HNN;obtain⟨k2,fs,fc,L,db,rfl,AR,CR,ZR,FR,HL,GV,LR,zr⟩:=hrel;generalize wr=w6 at *;clear wr;have LL:Hid (X L=k2):=by
     show _=_;have D:=ki;rw[q8,x5] at D;omega
    obtain⟨⟨H,a1,a2⟩,az,-⟩:=id AR;by_cases am:k2 < X fx
    .have n0:=uR
     have co:(k2:Int) < (X fx:Int):=aa;go_wp2;clear a1 a2;go_loopw [7,8] (λr i2 wo=>∃(m:Nat) (rs:oA) (rc:Nat) (lr:List Gc),m<=fx[k2].length/\r=U rs (X lr) rc/\i2=I Y m/\bl w6 wo/\a8i wo (R (M w6)) (U rs (X lr) rc) lr/\Hid (lr.map Gc.g=fx[k2].take m)) (λ_ i2 _=>fx[k2].length - (intOf i2).toNat)
     case atStart=>exact⟨0,E,0,[],j6 _,rfl,rfl,bR _ _,a8i.nil _ _,rfl⟩
     case round=>
      obtain⟨m,rs,rc,lr,hm,rfl,rfl,xL,SR,HM⟩:=hrel;have W:=HR.out k2 am;have LM:Hid (X lr=m):=by
       show _=_;have D:=congrArg x9 HM.out;rw[q8,x5] at D;omega
      obtain⟨⟨H,a1,a2⟩,az,-⟩:=id (AR.call xL);obtain⟨p1,q1,e1,zp1,r1,rc1,C1,V,m1,J1⟩:=HX.out.2 k2 am;have qM:=LR.trans (xL.mono LR.size);have D1:=PW;subst e1;clear C1;by_cases ax:m < fx[k2].length
      .have m0:(0:Int)<=(m:Int):=by omega
       have c0:(m:Int) < (fx[k2].length:Int):=aa;obtain⟨b1,o1,e1,ay,g1,G1,I1,_⟩:=(J1.below qM (lR _)) m ax;subst e1;have a9:=cl.out k2 am _ (gM ax);obtain⟨⟨b4,cg,ct,b7,b6,cm,cp⟩,cc⟩:=id G1;go_wp2_with fail;go_call HO.out fx[k2][m] ay g1 _ I1 a9 as e w7 ⟨⟨js,jc,rfl,ap,bc,ba,ao⟩,a6⟩;clear b4 cg ct b7 b6 cm cp G1 a1 a2 D1;have be:bl wr (w7.alloc (A #[O fx[k2][m].n,O fx[k2][m].sp.n,I Y fx[k2][m].sp.lo,I Y fx[k2][m].sp.hi,O fx[k2][m].t,O fx[k2][m].f,U js fx[k2][m].s.length jc] 91)):=a6.alloc a6.size _;have S8:=SR.call be;have ca:=xL.size;have GX:cK (λb=>R (M w6)<=b/\(q9 rs (X lr) rc).ownBlock≠G b) (w7.alloc (A #[O fx[k2][m].n,O fx[k2][m].sp.n,I Y fx[k2][m].sp.lo,I Y fx[k2][m].sp.hi,O fx[k2][m].t,O fx[k2][m].f,U js fx[k2][m].s.length jc] 91)) ⟨fx[k2][m],js,jc⟩:=l8 ap bc ba ao ca (λe=>(aU SR.1 e).1) ai (lR _);go_wp2_with (at_builtin;refine bn _ rfl _ _ 25 rfl (R (M w6)) 91 ti (Ag #[O d,O d,I Y 0,I Y 0,O d,O d,U E 0 0]) 7 64 underlying25 hi bz bv bt rfl an _ _ _ rfl S8.1 (G ⟨R (M w7),0,E⟩) 1 1 (bJ ⟨fx[k2][m],js,jc⟩) rfl rfl (λh=>bU) ?qc2 (eE _) ?qc4 ?qc5 ?qc6 ?_);(try (case qc2=>exact rG w7 ⟨fx[k2][m],js,jc⟩ #[O fx[k2][m].n,O fx[k2][m].sp.n,I Y fx[k2][m].sp.lo,I Y fx[k2][m].sp.hi,O fx[k2][m].t,O fx[k2][m].f,U js fx[k2][m].s.length jc] _ rfl))
       case qc4=>unfold maxLen;have:=LM.out;omega
       case qc5=>have:=LM.out;omega
       (try (case qc6=>have:=a6.size;first|omega|(rw[zA];omega)|(simp;omega)|simp));intro v' w9 af ab xY;have S9:=S8.grown (x:=⟨fx[k2][m],js,jc⟩) GX af ab iB;have c2:bl w6 w9:=(xL.trans (be.mono xL.size)).grown ab (by rw[zA];have:=a6.size;omega) (λk hk=>(aU S8.1 hk).2)
       obtain⟨b5,ch,rfl,-,-,-⟩:=S9.in;clear SR xL af ab xY S8 GX be ap ao;go_wp2;go_roundw
       case rel=>exact⟨m+1,b5,ch,lr++[⟨fx[k2][m],js,jc⟩],aa,sZ,aJ,c2,S9,by show _=_;rw[z6,HM.out,x8 ax];rfl⟩
       case measure=>exact aK
      .have c0:¬(m:Int) < (fx[k2].length:Int):=by omega
       have ak:fx[k2].take m=fx[k2]:=q7 aa;have c1:Hid (roG ⟨rs,rc,lr⟩=fx[k2]):=by show lr.map Gc.g=_;rw[HM.out,ak]
       have A9:=AR.call xL;have C9:=CR.call xL;have Z9:=ZR.call xL;have V9:=GV.call xL;have L9:=qM;have z9:=Fk;have c4:=zr;clear AR CR ZR GV LR zr LM HM qM ak;generalize wr=w9 at *;clear wr;obtain⟨⟨y0,y1,y2⟩,yz,yf⟩:=id Z9;have a8:bl w6 (w9.alloc (A #[U rs (X lr) rc] 25)):=xL.alloc xL.size _;have bm:=FR.call a8;have VX:a8q (λb=>R (M w6)<=b) (w9.alloc (A #[U rs (X lr) rc] 25)) (R (M w6)) (roV ⟨rs,rc,lr⟩) lr:=SR.vrow.call ai;go_wp2_with (at_builtin;refine bn _ rfl _ _ 26 rfl N 25 tk (U E 0 0) 1 24 underlying26 hk cv c3 cf rfl an _ _ _ rfl bm.own (G ⟨R (M w9),0,E⟩) 1 1 [U rs (X lr) rc] rfl rfl (λh=>bU) ?qc2 s8 ?qc4 ?qc5 ?qc6 ?_);(try (case qc2=>exact Hp w9 _ _))
       case qc4=>unfold maxLen;have:=LL.out;omega
       case qc5=>have:=LL.out;omega
       (try (case qc6=>first|omega|(rw[zA];omega)|(simp;omega)|simp));intro v' xM af ab xY;have bx:=FR.grown a8 c4 (x:=⟨rs,rc,lr⟩) VX af ab iB;have xN:n4 N w9 xM:=((bR _ w9).alloc z9 _).grown ab au (λk hk=>(aU bm.own hk).2);obtain⟨b8,ce,rfl⟩:=bx.form;clear af ab xY bm FR SR xL a8 VX y0 y1 y2 yf a1 a2 D1;have A4:XAt xM (R (M w)) ⟨T,F,fx⟩ _ z _ j:=A9.same (xN.block _ aa) xN.size;have C4:X3 xM (R (M w)+1) (O d) (U E 0 0) (U E 0 0):=C9.same (xN.block _ aa) xN.size;have Z4:X3 xM (R (M w)+1+1) (O T) (U vs (X l) vc) (U fs (X L) fc):=Z9.same (xN.block _ aa) xN.size;have V4:a8q (λb=>R (M w)+1+1+1<=b/\b < N) xM (R (M w)+1+1+1) (U vs (X l) vc) l:=V9.same (λb hS _=>xN.block b hS.2) xN.size;have L4:=L9.trans (xN.mono aa);have z4:=Ds;clear A9 C9 Z9 V9 L9 z9 xN;obtain⟨⟨y0,y1,y2⟩,yz,yf⟩:=id Z4;have c9:=yf 2;clear yf;have e7:∀(x:mh) b,b≠R (M w)+1+1->(xM.setCell ⟨R (M w)+1+1,2,E⟩ x).heap[b]? =xM.heap[b]? :=λx b hb=>hSe _ _ _ _ hb;have s7:∀(x:mh),R (M xM)<=R (M (xM.setCell ⟨R (M w)+1+1,2,E⟩ x)):=λx=>bI;have E7:=ag e7;have S7:=ag s7;clear e7 s7;go_wp2;go_roundw
       case rel=>exact⟨k2+1,b8,ce,L++[⟨rs,rc,lr⟩],aa,aJ,A4.same (E7.out _ _ aa) (S7.out _),C4.same (E7.out _ _ aa) (S7.out _),by first|exact Z4.put2 _|(rw[j8];exact Z4.put2 _),bx.olden (λb hb _=>E7.out _ b aa) (S7.out _),by show _=_;rw[z6,HL.out,x8 am,List.map_cons,c1.out];rfl,V4.same (λb hS _=>E7.out _ b aa) (S7.out _),L4.setCell aw _,AQ⟩
       case measure=>exact aK
    .have co:¬(k2:Int) < (X fx:Int):=by omega
     have ak:fx.take k2=fx:=q7 aa;have bb:∀b,b≠R (M w)+1->(((w6.setCell ⟨R (M w)+1,0,E⟩ (O T)).setCell ⟨R (M w)+1,1,E⟩ (U vs (X l) vc)).setCell ⟨R (M w)+1,2,E⟩ (U fs (X L) fc)).heap[b]? =w6.heap[b]? :=λb hb=>sG;have bg:R (M w6)<=R (M (((w6.setCell ⟨R (M w)+1,0,E⟩ (O T)).setCell ⟨R (M w)+1,1,E⟩ (U vs (X l) vc)).setCell ⟨R (M w)+1,2,E⟩ (U fs (X L) fc))):=bI;have FX:=FR.olden (w':=(((w6.setCell ⟨R (M w)+1,0,E⟩ (O T)).setCell ⟨R (M w)+1,1,E⟩ (U vs (X l) vc)).setCell ⟨R (M w)+1,2,E⟩ (U fs (X L) fc))) (λb hb _=>bb b aa) bg;have GX:=GV.same (w':=(((w6.setCell ⟨R (M w)+1,0,E⟩ (O T)).setCell ⟨R (M w)+1,1,E⟩ (U vs (X l) vc)).setCell ⟨R (M w)+1,2,E⟩ (U fs (X L) fc))) (λb hS _=>bb b aa) bg;have BX:bl w (((w6.setCell ⟨R (M w)+1,0,E⟩ (O T)).setCell ⟨R (M w)+1,1,E⟩ (U vs (X l) vc)).setCell ⟨R (M w)+1,2,E⟩ (U fs (X L) fc)):=((LR.setCell aw _).setCell aw _).setCell aw _;have PX:=((FX.pic GX (λb h=>h) zn).mono (T':=λb=>R (M w)<=b) λb hb _=>aa).down (C:=R (M w)) aa;have cb:Hid (a2j (R (M w)) (((w6.setCell ⟨R (M w)+1,0,E⟩ (O T)).setCell ⟨R (M w)+1,1,E⟩ (U vs (X l) vc)).setCell ⟨R (M w)+1,2,E⟩ (U fs (X L) fc)) (Rt (Ag #[O T,U vs (X l) vc,U fs (X L) fc])) ⟨T,F,fx⟩):=⟨⟨vs,vc,l⟩,fs,fc,L,by unfold bh;rw[show roG ⟨vs,vc,l⟩=F from cr.out,HL.out,ak],rfl,PX⟩;obtain⟨⟨y0,y1,y2⟩,yz,yf⟩:=id ZR;obtain⟨⟨d0,d1,d2⟩,dz,df⟩:=id CR;have f0:=df 0;have f1:=df 1;have f2:=df 2;clear df yf bb bg FX GX ak PX;go_wp2;refine bodyPost_ret (v:=Ag #[O T,U vs (X l) vc,U fs (X L) fc]) (by simp[results,results29,go_sem,d0,d1,d2]) rfl ⟨cb.out,BX⟩
end
section
open Go.RowKit Go
def OnS (S:Nat->Prop)(w:World)(p:World->Prop):Prop:=∀w2:World,(∀b,S b->b < R (M w)->w2.heap[b]? =w.heap[b]?)->R (M w)<=R (M w2)->p w2
section
variable {S S':Nat->Prop} {w w':World} {p:World->Prop}
section
variable (h:OnS S w p)
def OnS.mono(hs:∀b,S b->b < R (M w)->S' b):OnS S' w p:=λs o H=>h s (λb W D=>o b (hs b W D) D) H
def OnS.same(hs:∀b,S b->b < R (M w)->w'.heap[b]? =w.heap[b]?)(H:R (M w)<=R (M w')):OnS S w' p:=λs o c=>h s (λb W D=>by rw[o b W (by omega),hs b W D]) (lT H c)
def OnS.call(W:bl w w'):OnS S w' p:=h.same (λb _ D=>W.block b D) W.size
end
end
structure R3 (N:Nat) (wD:World) (q:Nat->Value->World->Prop) (Z:Nat->List Value) (n:Nat) (p:Nat->Option Nat) (v u:Nat->Value) (wx:World):Prop where
 lo:Below N wD wx
 sz:N<=wx.heap.size
 cp:∀i,i < n->OnS (λb=>N<=b/\∀j,p j≠G b) wx (q i (v i))
 bx:∀j b,p j=G b->u j=Pp (G ⟨b,0,E⟩)/\N<=b/\sT wx b (Z j)
 ne:∀j k b,p j=G b->p k=G b->j=k
section
variable {N n:Nat} {wD wx:World} {q:Nat->Value->World->Prop} {Z:Nat->List Value} {p:Nat->Option Nat} {v u:Nat->Value}
section
variable (h:R3 N wD q Z n p v u wx)
def R3.call{w':C}{t:mh}(W:bl wx w')(hq:OnS (λb=>R (M wx)<=b) w' (q n t)):R3 N wD q Z (n+1) p (λi=>if i=n then t else v i) u w':=by
 refine⟨h.lo.trans (W.mono h.sz),lT h.sz W.size,λi hi=> ?_,λj b s=>⟨(h.bx j b s).1,(h.bx j b s).2.1,(h.bx j b s).2.2.call W⟩,h.ne⟩;by_cases e:i=n
 .subst e
  rw[if_pos rfl];exact hq.mono λb W _=>⟨lT h.sz W,λj s=>by have:=(h.bx j b s).2.2.2.1;omega⟩
 .rw[if_neg e]
  exact(h.cp i aa).call W
def R3.new(j:Nat)(s:p j=E)(t:TypeId):R3 N wD q Z n (λk=>if k=j then G (R (M wx)) else p k) v (λk=>if k=j then Pp (G ⟨R (M wx),0,E⟩) else u k) (wx.alloc (A (Z j).toArray t)):=by
 have W:n4 (R (M wx)) wx (wx.alloc (A (Z j).toArray t)):=ai;have g:∀k b,p k=G b->b < R (M wx):=λk b o=>(h.bx k b o).2.2.2.1;refine⟨h.lo.trans (W.mono h.sz),lT h.sz W.size,λi hi=> ?_,λk b o=> ?_,λk l b o H=> ?_⟩
 .refine((h.cp i hi).mono (S':=λb=>N<=b/\∀k,(if k=j then G (R (M wx)) else p k)≠G b) λb c D=>⟨c.1,λk e=> ?_⟩).call W
  split at e
  .cases e;omega
  .exact c.2 k e
 .by_cases e:k=j
  .rw[if_pos e] at o |-
   cases o;rw[e];exact⟨rfl,h.sz,sT.new wx t (Z j)⟩
  .rw[if_neg e] at o |-
   exact⟨(h.bx k b o).1,(h.bx k b o).2.1,(h.bx k b o).2.2.call W⟩
 .by_cases e:k=j
  .by_cases m:l=j
   .rw[e,m]
   .rw[if_pos e] at o;rw[if_neg m] at H
    cases o;have:=g l _ H;omega
  .rw[if_neg e] at o
   by_cases m:l=j
   .rw[if_pos m] at H
    cases H;have:=g k _ o;omega
   .rw[if_neg m] at H
    exact h.ne k l b o H
end
end
def tR (x:Pic)(t:Value)(w:World):Prop:=∃us uc gs gc,t=xv x us uc gs gc/\(X x.vq<=uc/\uc<=maxLen)/\(X x.fq<=gc/\gc<=maxLen)/\a4r w x us gs
def Oi (r:St)(t:Value)(w:World):Prop:=∃vs vc ts tc ls lc,t=dA r vs vc ts tc ls lc/\a7s w r vs ts ls
def Wp (x:Pic):Prop:=X x.vq<=2199023255488/\X x.fq<=5864062014805/\(∀i (h:i < X x.fq),X x.fq[i]<=2199023255488)/\(∀g∈x.vq,X g.s<=17592186043904)/\∀i (h:i < X x.fq),∀g∈x.fq[i],X g.s<=17592186043904
def a3p(w:C)(m:a4r w x vs fs)(W:Wp x):
  Calls f 29 #[xv x vs vc fs fc] w λe w'=>∃t,e=Rt t/\OnS (λb=>R (M w)<=b) w' (tR x t)/\bl w w':=by
 obtain⟨T,F,h⟩:=x;obtain⟨D,o,i,k,j⟩:=W;go_call pS T F h vs vc fs fc w m D o i k j as e w' ⟨⟨v,gs,gc,L,m,rfl,c⟩,W⟩;simp only at m;have K:X F=X v.l:=by have:=congrArg (λz:Pic=>X z.vq) m;simpa[bh,roG] using this
 have V:X h=X L:=by have:=congrArg (λz:Pic=>X z.fq) m;simpa[bh] using this
 refine⟨_,rfl,λs o H=>⟨v.rs,v.rc,gs,gc,?_,?_,?_,?_⟩,W⟩
 .simp only[xv,K,V]
 .have:=c.vcap T;rw[<-m] at this;exact this
 .have:=c.fcap' T;rw[<-m] at this;exact this
 .have:=(c.same (w':=s) (λb W g=>o b (by rcases W with W|W<;>exact W) g) H).at T
  rw[<-m] at this;exact this
def rY (n:Nat)(p:Nat->Option Nat):Array Bool:=#[true,decide (1<=n),true,decide (2<=n),true,decide (3<=n),(p 0).isSome,(p 1).isSome,(p 2).isSome,false,false,false]
def W8 (n:Nat)(p:Nat->Option Nat):List Nat:=(if n < 3 then [2 * n+1] else [])++(if (p 0).isSome then [] else [6])++(if (p 1).isSome then [] else [7])++(if (p 2).isSome then [] else [8])++(if 3<=n/\(p 0).isSome/\(p 1).isSome/\(p 2).isSome then [9] else [])
def AI (n:Nat)(p:Nat->Option Nat):Nat:=(3 - n)+(if (p 0).isSome then 0 else 1)+(if (p 1).isSome then 0 else 1)+(if (p 2).isSome then 0 else 1)
section
variable {P:Program} {xg:Array Oper} {Q:Exit->Act->World->Prop} {S:World->Prop} {zs:List Nat} {N:Nat} {wD:World} {q:Nat->Value->World->Prop} {Z:Nat->List Value} {ty:Nat->TypeId}
def a6H (o:(Nat->mh)->(Nat->mh)->Act)(y:∀n p,n<=3->Region.ready .any xg (rY n p)=W8 n p)(c:∀wx,n4 N wD wx->S wx)
  (s:∀n,n < 3->∀v u wx,n4 N wD wx->∀K,(∀t w',bl wx w'->OnS (λb=>wx.heap.size<=b) w' (q n t)->K (o (λi=>if i=n then t else v i) u) w')->wpOp P xg Q (2 * n+1) K (o v u) wx)
  (x:∀j,j < 3->∀v u wx K,K (o v (λk=>if k=j then Pp (G ⟨wx.heap.size,0,E⟩) else u k)) (wx.alloc (A (Z j).toArray (ty j)))->wpOp P xg Q (6+j) K (o v u) wx)
  (z:∀p v u wx,R3 N wD q Z 3 p v u wx->(∀j,j < 3->(p j).isSome=W5)->cH P .any xg Q S zs 3 #[W5,W5,W5,W5,W5,W5,W5,W5,W5,d,d,d] (o v u) wx):
  ∀(m n:Nat) (p:Nat->Option Nat) (v u:Nat->mh) (wx:C),AI n p=m->n<=3->R3 N wD q Z n p v u wx->cH P .any xg Q S zs (m+3) (rY n p) (o v u) wx:=by
 intro m;induction m with
 |zero=>
  intro n p v u wx hm T h;unfold AI at hm;have e3:n=3:=aa;have F:(p 0).isSome=true:=by cases r:(p 0).isSome<;>simp[r] at hm |-
  have e1:(p 1).isSome=true:=by cases r:(p 1).isSome<;>simp[r] at hm |-
  have V:(p 2).isSome=true:=by cases r:(p 2).isSome<;>simp[r] at hm |-
  subst e3;have:=z p v u wx h λj hj=>by
   match j,hj with
   |0,_=>exact F
   |1,_=>exact e1
   |2,_=>exact V
  unfold rY;rw[F,e1,V];exact this
 |succ m ih=>
  intro n p v u wx hm T h;have call:n < 3->wpOp P xg Q (2 * n+1) (λa' w'=>(2 * n+1∉zs->S wx->S w')/\cH P .any xg Q S zs (m+3) ((rY n p).setIfInBounds (2 * n+1) W5) a' w') (o v u) wx:=λD=>by
   refine s n D v u wx h.lo _ λt w' W hq=>⟨λ_ _=>c w' (h.lo.trans (W.mono h.sz)),?_⟩;have l:=ih (n+1) p _ u w' (by unfold AI at hm |-;omega) aa (h.call W hq);have e:(rY n p).setIfInBounds (2 * n+1) W5=rY (n+1) p:=by
    match n,D with
    |0,_=>rfl
    |1,_=>rfl
    |2,_=>rfl
   rw[e];exact l
  have new:∀j,j < 3->(p j).isSome=d->wpOp P xg Q (6+j) (λa' w'=>(6+j∉zs->S wx->S w')/\cH P .any xg Q S zs (m+3) ((rY n p).setIfInBounds (6+j) W5) a' w') (o v u) wx:=λj hj g=>by
   have R:=h.new j (by simpa using g) (ty j);refine x j hj v u wx _ ⟨λ_ _=>c _ R.lo,?_⟩;have e:(rY n p).setIfInBounds (6+j) W5=rY n (λk=>if k=j then G wx.heap.size else p k):=by
    match j,hj with
    |0,_=>rfl
    |1,_=>rfl
    |2,_=>rfl
   rw[e];refine ih n _ v _ _ ?_ T R
   match j,hj with
   |0,_=>unfold AI at hm |-;simp[g] at hm |-;omega
   |1,_=>unfold AI at hm |-;simp[g] at hm |-;omega
   |2,_=>unfold AI at hm |-;simp[g] at hm |-;omega
  refine⟨λr=> ?_,λj hj=> ?_⟩
  .rw[y n p T] at r
   unfold W8 at r;unfold AI at hm;exfalso;cases F:(p 0).isSome<;>cases e1:(p 1).isSome<;>cases V:(p 2).isSome<;>simp[F,e1,V] at r hm<;>omega
  .rw[y n p T] at hj
   unfold W8 at hj;simp only[J2] at hj;rcases hj with(((hj|hj)|hj)|hj)|hj
   .split at hj
    .rename_i D
     obtain rfl:j=2 * n+1:=td;exact call D
    .cases hj
   .cases F:(p 0).isSome
    .rw[F] at hj
     obtain rfl:j=6:=td;exact new 0 aa F
    .rw[F] at hj;simp at hj
   .cases F:(p 1).isSome
    .rw[F] at hj
     obtain rfl:j=7:=td;exact new 1 aa F
    .rw[F] at hj;simp at hj
   .cases F:(p 2).isSome
    .rw[F] at hj
     obtain rfl:j=8:=td;exact new 2 aa F
    .rw[F] at hj;simp at hj
   .split at hj
    .rename_i hd
     obtain⟨af,ad,ab,H⟩:=hd;unfold AI at hm;rw[ad,ab,H] at hm;simp at hm;omega
    .cases hj
end
def YJ {x:Pic}{c g gs h:oA}{b i gc j:Nat}(e:xv x c b gs gc=xv x g i h j):g=c/\h=gs:=by
 simp[xv] at e;exact⟨e.1.1.symm,e.2.1.symm⟩
def a2a{vs b k h ls g:oA}{vc c l i lc j:Nat}(e:dA r vs vc k l ls lc=dA r b c h i g j):b=vs/\h=k/\g=ls:=by
 simp[dA] at e;exact⟨e.1.1.symm,e.2.1.1.symm,e.2.2.1.symm⟩
def a1C {p:Act->Prop}{a:Act}(h:∀H,H=a->p H):p a:=h a rfl
end
section
open Go.RowKit
attribute [local go_sem ↓] Go.wp_at_zero Go.wp_at_succ
section
variable (g:oA)(j:Nat)(r:oA)(t:Nat)(s:oA)(K:Nat)(w:C)
def Ck(T:x.none=W5):
  Calls f 70 #[xv x l z g j,xv y r t s K,O H] w λe w'=>e=Rt (xv y r t s K)/\bl w w':=by
 obtain⟨i,F,h⟩:=x;obtain⟨W,b,c⟩:=y;simp only at T;subst T;go_enter func70,ntmps70;go_wp2;refine bodyPost_ret (v:=Ag #[O W,U r (X b) t,U s (X c) K]) (by simp[results,results70,go_sem]) rfl ⟨rfl,?_⟩;go_grown
def Ay(m:x.none=d)(T:y.none=W5):
  Calls f 70 #[xv x l z g j,xv y r t s K,O H] w λe w'=>e=Rt (xv x l z g j)/\bl w w':=by
 obtain⟨i,F,h⟩:=x;obtain⟨W,b,c⟩:=y;simp only at T m;subst T m;go_enter func70,ntmps70;go_wp2;refine bodyPost_ret (v:=Ag #[O d,U l (X F) z,U g (X h) j]) (by simp[results,results70,go_sem]) rfl ⟨rfl,?_⟩;go_grown
end
def iH {V F:Int}{c:lI}{x:Pic}(h:aO V F c x=0)(T:x.none=d):(X x.vq:Int)=V/\X x.fq=X c/\(∀r∈x.fq,(X r:Int)=F)/\(∀g∈x.vq,aH c g=0)/\∀r∈x.fq,∀g∈r,aH c g=0:=by
 unfold aO at h;split at h
 .cases h
 .rename_i h1
  split at h
  .contradiction
  .rename_i h2
   have i:cG c (cj x)=0:=mK;have e:=AB i;have K:bW V F c x=true:=iA;unfold bW at K;rw[T] at K;simp only[Bool.false_eq_true,if_false,x6,decide_eq_true_eq,Bool.not_eq_true',J9] at K;refine⟨K.1,K.2.1,λr y=>by have:=K.2.2 r y;simpa using this,λg b=>e g ?_,λr y g b=>e g ?_⟩
   .unfold cj;exact List.mem_append_left _ b
   .unfold cj;exact List.mem_append_right _ (J3.2 ⟨r,y,b⟩)
def lk {V F:Int}{c:lI}{g h:Gs}(r:aA V F c=0)(b:aH c g=0)(i:aH c h=0):aY V F c [g,h]=0:=by
 unfold aY;rw[if_pos r];unfold cG;rw[if_pos b];unfold cG;rw[if_pos i];rfl
def IE (c:lI)(g h:Gs):Prop:=aH c g=0/\aH c h=0
def GG(h:p:=by
 rintro e w' ⟨v,rfl,xK,hb⟩;obtain⟨js,jc,rfl,hi,k1,k2,hf⟩:=kv;rw[<-oV g h hg.1 hh.1] at hi k1 |-;exact⟨js,jc,rfl,hi,k1,k2,hf,hb⟩):=h
section
variable {V F:Int}{c:lI}
def Fe(r:aA V F c=0):Mw d (dy bw) (IE c):=by
 intro g l gc h T z wx hs y j;have i:=lk r j.1 j.2;obtain⟨hg,hh⟩:=kD i;have t:=dJ hg.2 hg.1;have s:=dJ hh.2 hh.1;refine(Lb g l gc h T z wx hs aa y aa).mono ?_;exact GG
def a2b(r:aA V F c=0):Mw W5 (dy bH) (IE c):=by
 intro g l gc h T z wx hs y j;have i:=lk r j.1 j.2;obtain⟨hg,hh⟩:=kD i;have t:=dJ hg.2 hg.1;have s:=dJ hh.2 hh.1;refine(Kj g l gc h T z wx hs aa y aa).mono ?_;exact GG
def rA(H:Bool)(j:Gs->Gs->Gs)(hJ:Mw H j (IE c))(x y:Pic)(l:oA)(z:Nat)(g:oA)(ab:Nat)(r:oA)(t:Nat)(s:oA)(K:Nat)(w:C)(S:Nat->Prop)(m:a7d S w x l g)(hy:a7d S w y r s)(p1:X x.vq<=z/\z<=maxLen)(p2:X x.fq<=ab/\ab<=maxLen)(q1:X y.vq<=t/\t<=maxLen)(q2:X y.fq<=K/\K<=maxLen)(h0:aA V F c=0)(D:aO V F c x=0)(o:aO V F c y=0):
  Calls f 70 #[xv x l z g ab,xv y r t s K,O H] w λe w'=>(∃us uc gs gc,e=Rt (Ag #[O (aI j x y).none,U us (X (aI j x y).vq) uc,U gs (X (aI j x y).fq) gc])/\a7d (λb=>S b\/R (M w)<=b) w' (aI j x y) us gs/\(X (aI j x y).vq<=uc/\uc<=maxLen)/\(X (aI j x y).fq<=gc/\gc<=maxLen))/\bl w w':=by
 obtain⟨⟨ap,am⟩,⟨ak,al⟩,ao⟩:=fX;unfold aI;by_cases T:x.none=W5
 .rw[if_pos T]
  go_call Ck H x y l z g ab r t s K w T as e w' ⟨rfl,W⟩;exact⟨⟨r,t,s,K,rfl,(hy.call W).mono λb h _=>.inl h,q1,q2⟩,W⟩
 .have ad:x.none=false:=by simpa using T
  rw[if_neg T];by_cases hm:y.none=W5
  .rw[if_pos hm]
   go_call Ay H x y l z g ab r t s K w ad hm as e w' ⟨rfl,W⟩;exact⟨⟨l,z,g,ab,rfl,(m.call W).mono λb h _=>.inl h,p1,p2⟩,W⟩
  .have af:y.none=false:=by simpa using hm
   rw[if_neg hm];obtain⟨a1,a2,a3,a4,a5⟩:=iH D ad;obtain⟨b1,b2,b3,b4,b5⟩:=iH o af;obtain⟨xn,vx,fx⟩:=x;obtain⟨yn,vy,fy⟩:=y;simp only at ad af a1 a2 a3 a4 a5 b1 b2 b3 b4 b5;subst ad af;refine(Dg H j (IE c) hJ vx vy fx fy l z g ab r t s K w m.at hy.at aa aa aa aa
    (λi h h'=>VJ)
    (λi h h'=>⟨a4 _ (gM h),b4 _ (gM h')⟩)
    (λi h h' k hk ah=>⟨a5 _ (gM h) _ (gM hk),b5 _ (gM h') _ (gM ah)⟩)).mono ?_
   rintro e w' ⟨⟨us,uc,gs,gc,he,D,r1,r2⟩,o⟩;exact⟨⟨us,uc,gs,gc,he,D.mono λb h _=>.inr h,r1,r2⟩,o⟩
end
def WN(b:List Gs)(k:Nat)(h:k < X a)(l:k < X b):ix (a.drop k) (b.drop k)=(dX a[k] b[k]&&ix (a.drop (k+1)) (b.drop (k+1))):=by
 unfold ix;rw[x7 h,x7 l];rfl
def a5y (a b:List (List Gs)):Bool:=(List.zipWith ix a b).all id
def Ar:Calls f 77 #[] w λe w'=>e=Rt (Ag #[O d,O W5,I Y 0,I Y 0,O d,O d,U E 0 0])/\bl w w':=by
 go_enter func77,ntmps77;go_wp2;refine bodyPost_ret (v:=Ag #[O d,O W5,I Y 0,I Y 0,O d,O d,U E 0 0]) (by simp[results,results77,go_sem]) rfl ⟨rfl,ai⟩
def W9 (a b:List Int)(ss:oA)(gc:Nat)(T:oA)(z:Nat)(w:C)(y:X a<=maxLen)(W:X b<=maxLen)(D:yv w ss a)(o:yv w T b):
  Calls f 216 #[U ss (X a) gc,U T (X b) z] w λe w'=>e=Rt (O (decide (a=b)))/\bl w w':=by
 have m:=iT;rcases D with rfl|⟨l,c,rfl,g,i⟩
 .refine(Tryz.slices_Equal_int_empty ss T gc (X b) z w aa).mono ?_
  rintro e w' ⟨rfl,rfl⟩;refine⟨bF ?_,bR _ _⟩;cases b<;>simp
 .rcases o with rfl|⟨t,H,rfl,x,k⟩
  .by_cases r:X a=0
   .have F:=J6 r
    subst F;go_call Tryz.slices_Equal_int_empty (G ⟨l,c,E⟩) T gc 0 z w aa as e w' ⟨rfl,rfl⟩;exact pW
   .have K:decide (a=[])=false:=by
     have:a≠[]:=λe=>r (by rw[e];rfl);simpa using this
    rw[K];have V:((X a:Int)!=0)=true:=by simp;exact λe=>r (by rw[e];rfl)
    clear K r i g;go_enter func216,ntmps216;go_wp2;go_ret;exact pW
  .refine(Tryz.slices_Equal_int l c (X a) gc t H (X b) z a b w (lR _) (lR _) aa aa (λj s=>by rw[i j s];simp[z8,s]) (λj s=>by rw[k j s];simp[z8,s])).mono ?_
   rintro e w' ⟨rfl,q,rfl⟩;refine⟨bF ?_,below_drewN (bR _ _) q⟩;rw[J7,J7];by_cases h:a=b
   .simp[h]
   .simp[h]
def kP(h:p:=by
 go_enter func178,ntmps178;go_wp2;go_ret;exact⟨bF HQ.out.symm,ai⟩):=h
def yl(st:oA)(hc:Nat)(w:C)(hs:yv w ss g.s)(y:yv w st h.s)(D:X g.s<=maxLen)(o:X h.s<=maxLen):
  Calls pG 178 #[gv g ss gc,gv h st hc] w λe w'=>e=Rt (O (fD g h))/\bl w w':=by
 have B0:=wS;have s:=ag (W9 _ _ ss gc st hc _ D o (hs.below B0 (lR _)) (y.below B0 (lR _)));have T:Hid (fD g h=(g.n==h.n&&(@decide _ (g.sp.dq h.sp)&&(g.t==h.t&&(g.f==h.f&&decide (g.s=h.s)))))):=rfl;generalize fD g h=r at T |-;generalize decide (g.s=h.s)=q at T s;clear hs y;by_cases K:g.n=h.n
 .by_cases V:g.sp=h.sp
  .by_cases i:g.t=h.t
   .by_cases m:g.f=h.f
    .have HQ:Hid (r=q):=by show _=_;rw[T.out,K,V,i,m];simp
     clear T;obtain⟨n,sp,t,f,H⟩:=g;obtain⟨F,c,x,W,b⟩:=h;simp only at K V i m s D o;subst K V i m;go_enter func178,ntmps178;go_wp2_with fail;go_call s.out as e l ⟨rfl,ah⟩;go_wp2;go_ret;exact⟨bF HQ.out.symm,Below.trans ai (ah.mono au)⟩
    .have HQ:Hid (r=d):=by show _=_;rw[T.out,K,V,i];simp[m]
     have d4:(g.f==h.f)=false:=by simpa using m
     clear T s m;obtain⟨n,sp,t,f,H⟩:=g;obtain⟨F,c,x,W,b⟩:=h;simp only at K V i d4 D o;subst K V i;exact kP
   .have HQ:Hid (r=d):=by show _=_;rw[T.out,K,V];simp[i]
    have d3:(g.t==h.t)=false:=by simpa using i
    clear T s i;obtain⟨n,sp,t,f,H⟩:=g;obtain⟨F,c,x,W,b⟩:=h;simp only at K V d3 D o;subst K V;exact kP
  .have HQ:Hid (r=d):=by show _=_;rw[T.out,K];simp[V]
   clear T s;obtain⟨n,⟨sn,lo,hi⟩,t,f,H⟩:=g;obtain⟨F,⟨af,ad,ab⟩,x,W,b⟩:=h;simp only at K V D o;subst K;by_cases z:sn=af
   .subst z
    by_cases k:lo=ad
    .subst k
     have a3:¬hi=ab:=λe=>V mH;clear V;exact kP
    .clear V
     exact kP
   .clear V
    exact kP
 .have HQ:Hid (r=d):=by show _=_;rw[T.out];simp[K]
  have j:(g.n==h.n)=false:=by simpa using K
  clear T s K;obtain⟨n,sp,t,f,H⟩:=g;obtain⟨F,c,x,W,b⟩:=h;simp only at j D o;exact kP

def rP(w:C)(hs:yv w ss g.s)(D:X g.s<=maxLen):
  Calls f 139 #[gv g ss gc] w λe w'=>e=Rt (O (dE g))/\bl w w':=by
 have y:n4 (R (M w)) w (w.alloc (A #[O g.n,O g.sp.n,I Y g.sp.lo,I Y g.sp.hi,O g.t,O g.f,U ss (X g.s) gc] 91)):=ai;have F:=a7b.new w g ss gc;have H:=hs.below y (lR _);have V:=ag Ar;have W:=ag λwx (m:yv wx ss g.s)=>yl g ss gc a4q E 0 wx m (.inl rfl) D (j6 _);have T:Hid (dE g= !fD g a4q):=rfl;generalize dE g=r at T |-;generalize fD g a4q=q at T W;clear hs;go_enter func139,ntmps139;go_upto_region 1 with fail
 generalize w.alloc _=w1 at *;have k:Hid (∀wx,bl w1 wx->(wx.cell? ⟨R (M w),0,E⟩=G (O g.n)/\wx.cell? ⟨R (M w),0+1,E⟩=G (O g.sp.n)/\wx.cell? ⟨R (M w),0+2,E⟩=G (I Y g.sp.lo)/\wx.cell? ⟨R (M w),0+3,E⟩=G (I Y g.sp.hi)/\wx.cell? ⟨R (M w),0+4,E⟩=G (O g.t)/\wx.cell? ⟨R (M w),0+5,E⟩=G (O g.f)/\wx.cell? ⟨R (M w),0+6,E⟩=G (U ss (X g.s) gc))):=λwx m=>(F.call m).1;have o:=iO;refine XK [] ac k.out o (λb=> ?_);refine QN 0 ?_;refine av (i:=1) rfl ac (λK t=> ?_);go_simp;go_at_call 77;go_call V.out _ as e s ⟨rfl,x⟩;have j:=o.trans (x.mono o.size);go_wp2_with fail;refine t.out _ _ (k.out _ j) (λb=> ?_);clear t K;refine sm ?_;refine av (i:=2) rfl ac (λK t=> ?_);go_simp;go_at_call 178;go_call W.out _ (H.below j (lR _)) as e w3 ⟨rfl,l⟩;have z:=j.trans (l.mono j.size);go_wp2_with fail;refine t.out _ _ (k.out _ z) (λb=> ?_);clear t K;refine sm ?_;refine QN 3 ?_;refine QN 4 ?_;refine aB ac ?_ _;go_wp2;go_ret;exact⟨bF T.out.symm,y.trans (z.mono y.size)⟩
def a2o(T:n<=1000):
  Calls f 223 #[U E 0 0,I Y (n:Int)] w λe w'=>(∃rs j,e=Rt (U rs 0 j)/\w'.ownsRow (R (M w)) 91 7 (U rs 0 j) 0 [])/\bl w w':=by
 obtain⟨i,hi,c,b,qt⟩:=lH;cases n with
 |zero=>
  go_enter func223,ntmps223;go_wp2;go_ret;exact⟨⟨E,0,rfl,rfl,.inl ⟨rfl,rfl⟩⟩,bR _ _⟩
 |succ m=>
  have l:=Lib.run_append_nil_zeros (P:=f) w 25 3 25 91 i (Ag #[O d,O d,I Y 0,I Y 0,O d,O d,U E 0 0]) .i64 .i64 underlying25 underlying3 hi c (m+1) aa (by rw[b];omega) aa Bl;have t:=grownCap_ge w (m+1) 0 91;have k:=grownCap_le_maxLen w (m+1) 0 91 cL;have r:=ag l;have s:Hid (∀g,m+1<=g->g<=maxLen->(w.drew.alloc (A (Builtin.zeroCells (Value.cells (Ag #[O d,O d,I Y 0,I Y 0,O d,O d,U E 0 0])) (m+1)++Builtin.zeroCells (Value.cells (Ag #[O d,O d,I Y 0,I Y 0,O d,O d,U E 0 0])) (g - (m+1))) 91)).ownsRow (R (M w)) 91 7 (U (G ⟨R (M w),0,E⟩) 0 g) 0 []):=λg D o=>by
   refine World.ownsRow_made w.drew _ g (lR _) o ?_;rw[Array.size_append,size_zeroCells,size_zeroCells];have:(Value.cells (Ag #[O d,O d,I Y 0,I Y 0,O d,O d,U E 0 0])).size=7:=rfl;rw[this,<-Nat.add_mul];congr 1;omega
  have F:(0:Int) < ((m+1:Nat):Int):=aa;have x:¬((m+1:Nat):Int) < 0:=aa;generalize grownCap w (m+1) 0 91=y at *;clear l;generalize hN:m+1=N at *;clear hN;go_enter func223,ntmps223;go_wp2_with (at_builtin;refine Lib.wpList_append_run _ rfl _ _ _ _ rfl _ _ rfl rfl _ _ r.out ?_);go_wp2;go_ret;refine⟨⟨_,_,rfl,s.out y t k⟩,?_⟩;exact((bR _ w).drew).alloc ae _

def DS (w':World)(e:Ending)(l:List Gs):Prop:=∃rs rc,e=Rt (U rs (X l) rc)/\a7r w' rs l/\X l<=rc/\rc<=maxLen
def Gk(L:List (List Gs))(w:C)(h:a8m w ls L)(H:X L<=1000)(y:X L.flatten<=1000):
  Calls f 192 #[U ls (X L) lc] w λe w'=>DS w' e L.flatten/\bl w w':=by
 obtain⟨ti,hi,bc,a7,c⟩:=lH;have HG:=ag a2o;obtain⟨N,eN⟩:∃N,N=X L.flatten:=⟨_,rfl⟩;have a2:Hid (∀k,(L.take k).flatten.length<=1000):=λk=>by
  have D:L.flatten=(L.take k).flatten++(L.drop k).flatten:=by rw[<-List.flatten_append,List.take_append_drop]
  have o:=congrArg x9 D;rw[j8] at o;omega
 rw[<-eN] at y;have EN:=ag eN;clear eN;go_enter func192,ntmps192;go_wp2;go_loopw [3,11] (λz i wr=>∃k:Nat,k<=X L/\i=I Y k/\z=I Y ((L.take k).flatten.length:Int)/\wr=w) (λ_ i _=>X L - (intOf i).toNat)
 case atStart=>exact⟨0,j6 _,rfl,ae,rfl⟩
 case round=>
  obtain⟨k,hk,rfl,rfl,az⟩:=hrel;rw[az];clear az;by_cases a6:k < X L
  .have n0:=cQ
   have W:=il;obtain⟨b,a1,rfl,zb,T,j,C1,V,t,J1⟩:=h k a6;have HF:=ag (Ap L k a6);have ay:=a2.out (k+1);rw[HF.out,j8] at ay;obtain⟨z0,e0⟩:∃z0,z0=(L.take k).flatten.length:=⟨_,rfl⟩;obtain⟨z1,K⟩:∃z1,z1=L[k].length:=⟨_,rfl⟩;rw[<-e0,<-K] at ay;rw[<-K] at C1;rw[<-e0];have E0:=ag e0;have E1:=ag K;clear e0 K J1;have bv:¬((z0:Int)+(z1:Int)) < 0:=aa;go_wp2;go_roundw
   case rel=>exact⟨k+1,aa,aJ,by rw[HF.out,j8,<-E0.out,<-E1.out];first|rfl|go_num|(simp;omega),by first|rfl|trivial⟩
   case measure=>exact aK
  .have W:=Ee
   have et:L.take k=L:=q7 aa;rw[et,<-EN.out];go_wp2_with fail;go_call HG.out _ w y as e w1 ⟨⟨a4,al,rfl,O1⟩,ax⟩;have C1:a9r w1 (R (M w)) (U a4 0 al) []:=⟨O1,λx m=>by simp at m⟩;clear O1 HG et;go_wp2;go_loopw [6,27] (λv i wy=>∃(k:Nat) (T:oA) (j:Nat) (l:List Gc),k<=X L/\i=I Y k/\v=U T (X l) j/\bl w wy/\Hid (l.map Gc.g=(L.take k).flatten)/\a9r wy (R (M w)) (U T (X l) j) l) (λ_ i _=>X L - (intOf i).toNat)
   case atStart=>exact⟨0,a4,al,[],j6 _,rfl,rfl,ax,rfl,C1⟩
   case round=>
    clear C1 ax;obtain⟨k2,T,j,l,bt,rfl,rfl,ad,s,CL⟩:=hrel;have LL:Hid (X l=(L.take k2).flatten.length):=by show _=_;rw[<-s.out,q8]
    by_cases g:k2 < X L
    .have n0:=uR
     have n2:(k2:Int) < (X L:Int):=aa;obtain⟨b,a1,rfl,zb,r1,a3,D1,V,t,J1⟩:=h k2 g;obtain⟨r,ak,ar,ah,ao,a0⟩:=J1.gcsTo ad
     have a9:wr.cell? ⟨b,a1+k2,E⟩=G (U r1 L[k2].length a3):=by rw[ad.cell (by simp only;exact zb)];exact D1
     have bs:X l+L[k2].length<=1000:=by have D:=a2.out (k2+1);rw[Ap L k2 g,j8] at D;have:=LL.out;omega
     have bm:Hid (X r=L[k2].length):=by show _=_;rw[<-ak,q8]
     have am:=ag ar;have ba:=ag ak;clear D1 J1 ar ak;go_wp2_with (at_builtin;refine bn _ rfl _ _ 25 rfl (R (M w)) 91 ti (Ag #[O d,O d,I Y 0,I Y 0,O d,O d,U E 0 0]) 7 64 underlying25 hi bc a7 c rfl an _ _ _ rfl CL.1 r1 L[k2].length a3 (aZ r) rfl a0 ah ?qb2 (NU _) ?qb4 ?qb5 ?qb6 ?_);(try (case qb2=>exact am.out))
     case qb4=>unfold maxLen;omega
     case qb5=>omega
     (try (case qb6=>exact ad.size));intro v1 w5 af ab ap;have bb:bl w w5:=ad.grown ab ad.size (λk hk=>(aU CL.1 hk).2);have a5:=CL.grown ao (by rw[bm.out];exact af) ab;obtain⟨a8,be,rfl,-,-,-,-⟩:=a5.at;clear af ab ap am ah ao a0 a9 CL;go_wp2;go_roundw
     case rel=>exact⟨k2+1,a8,be,l++r,aa,aJ,by first|rfl|(rw[j8]),bb,by show _=_;rw[z6,s.out,ba.out,Ap _ _ g],a5⟩
     case measure=>exact aK
    .have n2:¬(k2:Int) < (X L:Int):=by omega
     have et:L.take k2=L:=q7 aa;obtain⟨ra,F,e0,bf,bg,GA,-⟩:=CL.at;cases e0;rw[s.out,et] at GA;have LF:Hid (X l=X L.flatten):=by show _=_;rw[LL.out,et]
     go_wp2;go_ret;refine⟨⟨T,j,by show Ending.returned (U T (X l) j)=_;rw[LF.out],GA,by rw[<-LF.out];exact bf,bg⟩,ad⟩

def a2u{vs rs:oA}{vc j:Nat}{a b:List Gs}(D:a7r w vs a)(V:X a<=vc)(t:vc<=maxLen)(o:a7r w rs b)(g:X b<=j)(c:j<=maxLen):
  a8m (w.alloc (A #[U vs (X a) vc,U rs (X b) j] 25)) (G ⟨R (M w),0,E⟩) [a,b]:=by
 intro i hi
 match i,hi with
 |0,_=>exact⟨R (M w),0,rfl,ae,vs,vc,aE,V,t,D.alloc _⟩
 |1,_=>exact⟨R (M w),0,rfl,ae,rs,j,aE,g,c,o.alloc _⟩
 |i+2,h=>simp at h;omega
def DP(w:C)(h:a4r w x vs fs)(ap:X x.vq<=vc)(T:vc<=maxLen)(H:X x.fq<=1000)(r:X (cj x)<=1000):
  Calls f 138 #[xv x vs vc fs fc] w λe w'=>DS w' e (cj x)/\bl w w':=by
 have y:n4 (R (M w)) w (w.alloc (A #[O x.none,U vs (X x.vq) vc,U fs (X x.fq) fc] 28)):=ai;have A0:=XAt.new w x vs vc fs fc;have PV:=h.1.below y (lR _);have PF:=h.2.below y (lR _);have hf:X x.fq.flatten<=1000:=by unfold cj at r;rw[j8] at r;omega
 obtain⟨fl,ad⟩:∃fl,fl=x.fq.flatten:=⟨_,rfl⟩;have ak:Hid (∀wx,a8m wx fs x.fq->Calls f 192 #[U fs (X x.fq) fc] wx λe w'=>DS w' e fl/\bl wx w'):=λwx m=>by rw[ad];exact Gk fs fc _ wx m H hf
 have EA:[x.vq,fl].flatten=cj x:=by unfold cj;rw[ad];simp
 have ao:Hid (∀wx a,a8m wx (G a) [x.vq,fl]->Calls f 192 #[U (G a) 2 2] wx λe w'=>DS w' e (cj x)/\bl wx w'):=λwx a m=>by rw[<-EA];exact Gk (G a) 2 [x.vq,fl] wx m (by simp) (by rw[EA];exact r)
 clear ad EA hf;clear h r;go_enter func138,ntmps138;go_upto_region 1 with fail
 generalize w.alloc _=w1 at *;obtain⟨⟨a0,z,a2⟩,D,-⟩:=id A0;have k:Hid (∀wx,bl w1 wx->wx.cell? ⟨R (M w),1,E⟩=G (U vs (X x.vq) vc)/\wx.cell? ⟨R (M w),2,E⟩=G (U fs (X x.fq) fc)):=λwx m=>⟨by rw[m.cell (by simp only;exact D)];exact z,by rw[m.cell (by simp only;exact D)];exact a2⟩;have HD:=iO;clear z a2 D;refine XK [] ac k.out HD (λb=> ?_);refine QN 0 ?_;refine QN 1 ?_;refine QN 2 ?_;refine QN 3 ?_;refine av (i:=4) rfl ac (λK t=> ?_);go_simp;go_at_call 192;go_call ak.out _ (PF.below HD (lR _)) as e s ⟨⟨rs,j,rfl,GF,V,g⟩,am⟩;have ab:=HD.trans (am.mono HD.size);go_wp2_with fail;refine t.out _ _ (k.out _ ab) (λb=> ?_);clear t K;refine sm ?_;refine av (i:=5) rfl ac (λK t=> ?_);go_simp;have al:n4 (R (M s)) s (s.alloc (A #[U vs (X x.vq) vc,U rs (X fl) j] 25)):=ai;have af:=ab.trans (al.mono ab.size);refine t.out _ _ (k.out _ af) (λb=> ?_);clear t K;refine sm ?_;have RR:=a2u s (PV.below ab (lR _)) ap T GF V g;refine av (i:=6) rfl ac (λK t=> ?_);go_simp;go_at_call 192;go_call ao.out _ _ RR as e l ⟨⟨o,F,rfl,GA,j1,j2⟩,W⟩;have ah:=af.trans (W.mono af.size);go_wp2_with fail;refine t.out _ _ (k.out _ ah) (λb=> ?_);clear t K;refine sm ?_;refine QN 7 ?_;refine aB ac ?_ _;go_wp2;go_ret;exact⟨⟨o,F,rfl,GA,j1,j2⟩,y.trans (ah.mono y.size)⟩
def SN (l:List Gs)(rs:oA)(j q:Nat)(V F:Int)(s:oA)(c:lI)(cap:Nat)(w:C)(g:a7w w q V F s c cap):
  Calls f 190 #[U rs (X l) j,Pp (G ⟨q,0,E⟩)] w λe w'=>e=Rt (O ((λr:List Gs=> !decide ((X r:Int)=F)) l))/\bl w w':=by
 obtain⟨⟨k,z,W⟩,y⟩:=id g;by_cases h:(X l:Int)=F
 .have K:((X l:Int)!=F)=false:=by simpa using h
  have er:(λr:List Gs=> !decide ((X r:Int)=F)) l=false:=pm;rw[er];clear er h;go_enter func190,ntmps190;go_wp2;go_ret;exact cP
 .have K:((X l:Int)!=F)=true:=by simpa using h
  have er:(λr:List Gs=> !decide ((X r:Int)=F)) l=true:=pm;rw[er];clear er h;go_enter func190,ntmps190;go_wp2;go_ret;exact cP
section
variable (L:List (List Gs))(w:C)(H:X L<=9223372036854775807)(h:a8m w fs L)(g:a7w w q V F s c cap)
def LT:
  Calls f 222 #[U fs (X L) fc,.func (.func 190) #[] #[Pp (G ⟨q,0,E⟩)]] w λe w'=>∃n:Int,e=Rt (I Y n)/\decide (0<=n)=L.any (λr:List Gs=> !decide ((X r:Int)=F))/\bl w w':=by
 have HF:=ag λ(l:List Gs) (T:oA) (j:Nat) (wx:C) (m:a7w wx q V F s c cap)=>SN l T j q V F s c _ wx m;generalize hpp:(λr:List Gs=> !decide ((X r:Int)=F))=pp at *;clear hpp;go_enter func222,ntmps222;go_wp2;go_loopw [8] (λi wr=>∃k:Nat,k<=X L/\i=I Y k/\bl w wr/\Hid (L.any pp=(L.drop k).any pp)) (λi _=>X L - (intOf i).toNat)
 case atStart=>exact⟨0,j6 _,rfl,bR _ _,rfl⟩
 case round=>
  obtain⟨k,o,rfl,xA,HA⟩:=hrel;by_cases D:k < X L
  .obtain⟨b,x,rfl,zb,T,j,y,k1,t,-⟩:=h k D
   have z:=bG;have W:=il;have s0:=xA.size;have c0:wr.cell? ⟨b,x+k,E⟩=G (U T L[k].length j):=by rw[xA.cell (by simp only;exact zb)];exact y
   have K:Hid ((L.drop k).any pp=(pp L[k]||(L.drop (k+1)).any pp)):=sY L pp k D;clear y h;go_wp2_with fail;go_call HF.out L[k] _ _ _ (g.call xA) as e w1 ⟨rfl,vZ⟩;cases hpk:pp L[k] with
   |true=>
    have HT:Hid (L.any pp=W5):=by show _=_;rw[HA.out,K.out,hpk];rfl
    clear K HA;go_wp2;go_ret;exact lG
   |false=>
    have HT:Hid (L.any pp=(L.drop (k+1)).any pp):=by show _=_;rw[HA.out,K.out,hpk];rfl
    clear K HA;go_wp2;go_roundw
    case rel=>exact⟨k+1,aa,aJ,xA.trans (vZ.mono s0),HT⟩
    case measure=>exact aK
  .go_wp2
   go_ret;exact lD
def Ew:
  Calls f 191 #[U fs (X L) fc,.func (.func 190) #[] #[Pp (G ⟨q,0,E⟩)]] w λe w'=>e=Rt (O (L.any (λr:List Gs=> !decide ((X r:Int)=F))))/\bl w w':=by
 have W:=ag (LT q V F s c _ fs fc L w H h g);generalize L.any (λr:List Gs=> !decide ((X r:Int)=F))=res at *;go_enter func191,ntmps191;go_wp2_with fail;go_call W.out as e l ⟨n,rfl,T,vZ⟩;subst T;go_wp2;go_ret;exact io
end
def mF(h:p:=by
 go_enter func137,ntmps137;go_wp2;go_ret;exact⟨rfl,ai⟩):=h
section
variable (vs:oA)(vc:Nat)(fs:oA)(fc:Nat)(w:C)
def L8:
  Calls f 137 #[pv V F s c cap,xv ⟨W5,vq,fq⟩ vs vc fs fc] w λe w'=>e=Rt (O (decide (X vq=0)&&decide (X fq=0)))/\bl w w':=by
 cases vq with
 |nil=>
  cases fq with
  |nil=>
   exact mF
  |cons r fq=>
   exact mF
 |cons g vq=>
  exact mF
def LG(h:¬(X vq:Int)=V):
  Calls f 137 #[pv V F s c cap,xv ⟨d,vq,fq⟩ vs vc fs fc] w λe w'=>e=Rt (O d)/\bl w w':=by
 have b:=tP;have W:((X vq:Int)==V)=false:=cn;clear h;exact mF
end
def Ml (V F:Int)(s:oA)(c:lI)(cap:Nat)(vq:List Gs)(fq:List (List Gs))(vs:oA)(vc:Nat)(fs:oA)(fc:Nat)(w:C)(h:¬X fq=X c):
  Calls f 137 #[pv (X vq:Int) F s c cap,xv ⟨d,vq,fq⟩ vs vc fs fc] w λe w'=>e=Rt (O d)/\bl w w':=by
 have b:=tP;have W:((X fq:Int)==(X c:Int))=false:=au;clear h;exact mF
def LP (V F:Int)(s:oA)(c:lI)(cap:Nat)(vq:List Gs)(fq:List (List Gs))(vs:oA)(vc:Nat)(fs:oA)(fc:Nat)(w:C)(j:a8m w fs fq)(h:X fq=X c)(y:X c<=60):
  Calls f 137 #[pv (X vq:Int) F s c cap,xv ⟨d,vq,fq⟩ vs vc fs fc] w λe w'=>e=Rt (O (!(fq.any (λr:List Gs=> !decide ((X r:Int)=F)))))/\bl w w':=by
 have b:=tP;have W:((X fq:Int)==(X c:Int))=true:=au;have H:X fq<=9223372036854775807:=aa;have B0:n4 (R (M w)) w ((w.alloc (A #[I Y (X vq:Int),I Y F,U s (X c) cap] 24)).alloc (A #[O d,U vs (X vq) vc,U fs (X fq) fc] 28)):=ai;have m:=(a7w.new w (X vq:Int) F s c cap).call (w':=((w.alloc (A #[I Y (X vq:Int),I Y F,U s (X c) cap] 24)).alloc (A #[O d,U vs (X vq) vc,U fs (X fq) fc] 28))) ai;have t:=ag (Ew _ _ F s c _ fs fc fq _ H (j.below B0 (lR _)) m);generalize fq.any (λr:List Gs=> !decide ((X r:Int)=F))=q at *;clear j h m;go_enter func137,ntmps137;go_wp2_with fail;go_call t.out as e l ⟨rfl,vZ⟩;go_wp2;go_ret;exact wT

def Aj(w:C)(j:a4r w x vs fs)(y:X c<=60):
  Calls f 137 #[pv V F s c cap,xv x vs vc fs fc] w λe w'=>e=Rt (O (bW V F c x))/\bl w w':=by
 obtain⟨n,vq,fq⟩:=x;cases n with
 |true=>exact L8 V F s c _ vq fq vs vc fs fc w
 |false=>
  by_cases D:(X vq:Int)=V
  .by_cases o:X fq=X c
   .have K:bW V F c ⟨d,vq,fq⟩= !(fq.any (λr:List Gs=> !decide ((X r:Int)=F))):=by
     unfold bW;simp[D,o]
    rw[K];have h:=LP V F s c cap vq fq vs vc fs fc w j.2 o y;rw[D] at h;exact h
   .have K:bW V F c ⟨d,vq,fq⟩=false:=by
     unfold bW;simp[o]
    rw[K];have h:=Ml V F s c cap vq fq vs vc fs fc w o;rw[D] at h;exact h
  .have K:bW V F c ⟨d,vq,fq⟩=false:=by
    unfold bW;simp[D]
   rw[K];exact LG V F s c _ vq fq vs vc fs fc w D
section
variable (w:C)(H:X L<=9223372036854775807)(g:a7r w ls L)
def Mj:
  Calls f 193 #[U ls (X L) lc,.func (.func 139) #[] #[]] w λe w'=>∃n:Int,e=Rt (I Y n)/\decide (0<=n)=L.any dE/\bl w w':=by
 have r:=ag rP;generalize dE=p at *;go_enter func193,ntmps193;go_wp2;go_loopw [8] (λi wr=>∃k:Nat,k<=X L/\i=I Y k/\a7r wr ls L/\bl w wr/\Hid (L.any p=(L.drop k).any p)) (λi _=>X L - (intOf i).toNat)
 case atStart=>exact⟨0,j6 _,rfl,g,bR _ _,rfl⟩
 case round=>
  obtain⟨k,o,rfl,j,xA,HA⟩:=hrel;by_cases D:k < X L
  .obtain⟨b,x,rfl,l,gc,K,T,t,s⟩:=j k D
   obtain⟨⟨F,c,m,g3,V,g5,g6⟩,gz⟩:=id K;have z:=bG;have W:=il;have s0:=xA.size;have HN:Hid ((L.drop k).any p=(p L[k]||(L.drop (k+1)).any p)):=sY L p k D;go_wp2_with fail;go_call r.out L[k] l gc _ T (lT t s) as e w1 ⟨rfl,vZ⟩;cases hp:p L[k] with
   |true=>
    have HT:Hid (L.any p=W5):=pB;clear HN HA;go_wp2;go_ret;exact lG
   |false=>
    have HT:Hid (L.any p=(L.drop (k+1)).any p):=pB;have y:=j.call vZ;clear HN HA;go_wp2;go_roundw
    case rel=>exact⟨k+1,aa,aJ,y,xA.trans (vZ.mono s0),HT⟩
    case measure=>exact aK
  .go_wp2
   go_ret;exact lD
def DU:
  Calls f 141 #[U ls (X L) lc,.func (.func 139) #[] #[]] w λe w'=>e=Rt (O (L.any dE))/\bl w w':=by
 have W:=ag (Mj ls L lc w H g);generalize L.any dE=res at *;go_enter func141,ntmps141;go_wp2_with fail;go_call W.out as e l ⟨n,rfl,T,vZ⟩;subst T;go_wp2;go_ret;exact io
end
def nY {V F:Int}{c:lI}{x:Pic}(h0:aA V F c=0)(h:bW V F c x=W5):X (cj x)<=1000/\X x.fq<=X c:=by
 obtain⟨⟨i,g⟩,⟨b,e⟩,y⟩:=fX;unfold bW at h;unfold cj;cases hn:x.none with
 |true=>
  rw[hn] at h;simp only[if_true,x6,decide_eq_true_eq] at h;have K:=J6 h.1;have k:=J6 h.2;rw[K,k];simp
 |false=>
  rw[hn] at h;simp only[Bool.false_eq_true,if_false,x6,decide_eq_true_eq,Bool.not_eq_true',J9] at h;obtain⟨f,rfl⟩:=Int.eq_ofNat_of_zero_le b;have j:∀r∈x.fq,X r=f:=λr j=>by have:=h.2.2 r j;simp at this;omega
  rw[j8,yh j];have:X x.fq * f<=60 * 3:=Nat.mul_le_mul aa aa;omega
def Wj {V F:Int}{c:lI}{g:Gs}(r:aA V F c=0):aY V F c [g]=aH c g:=by
 unfold aY;rw[if_pos r];unfold cG;split
 .rename_i h;rw[h];rfl
 .rfl
def a0M {c:lI}{k:Nat}(h:k < X c):cJ c (k:Int)=decide (c[k].k=11):=by
 unfold cJ;simp[h,z8]
def Hs(w:C)(z:a2r w s c)(j:a4r w x vs fs)(l:X x.vq<=vc)(T:vc<=maxLen)(h0:aA V F c=0)(K:bW V F c x=d):
  Calls f 80 #[pv V F s c cap,xv x vs vc fs fc] w λe w'=>e=Rt (I Y (aO V F c x))/\bl w w':=by
 obtain⟨-,-,y⟩:=fX;have B0:=ni;have W:=ag (Aj V F s c cap x vs vc fs fc _ (j.below B0 (lR _)) y);have er:aO V F c x=1:=by unfold aO;rw[if_pos K]
 rw[er];rw[K] at W;clear j z er K;go_enter func80,ntmps80;go_wp2_with fail;go_call W.out as e b ⟨rfl,vZ⟩;go_wp2;go_ret;exact wT

section
variable (w:C)(z:a2r w s c)(j:a4r w x vs fs)(l:X x.vq<=vc)(T:vc<=maxLen)
def Kh(h0:aA V F c=0)(K:bW V F c x=W5):
  Calls f 80 #[pv V F s c cap,xv x vs vc fs fc] w λe w'=>e=Rt (I Y (aO V F c x))/\bl w w':=by
 obtain⟨-,-,y⟩:=fX;obtain⟨a7,bs⟩:=nY h0 K;have B0:=ni;have P0:=(a7w.new w V F s c cap).call (w':=((w.alloc (A #[I Y V,I Y F,U s (X c) cap] 24)).alloc (A #[O x.none,U vs (X x.vq) vc,U fs (X x.fq) fc] 28))) ai;have A0:=XAt.new (w.alloc (A #[I Y V,I Y F,U s (X c) cap] 24)) x vs vc fs fc;rw[zA] at A0;have PX:=j.below B0 (lR _);have HI:=ag (Aj V F s c cap x vs vc fs fc _ PX y);rw[K] at HI;have HA:=ag λwx (m:a4r wx x vs fs)=>DP x vs vc fs fc wx m l T aa a7;have HS:=ag rP;have HG:Hid (∀g ss gc wx,a2r wx s c->yv wx ss g.s->X g.s<=gc->gc<=maxLen->Calls f 140 #[pv V F s c cap,gv g ss gc] wx λe w'=>e=Rt (I Y (aH c g))/\bl wx w'):=λg ss gc wx h1 o W h4=>by rw[<-Wj (V:=V) (F:=F) h0];exact Yq V F s c _ g ss gc wx h1 o W h4
 have ba:=ag DU;obtain⟨bc,HR,a3⟩:∃r,Hid (r=if cG c (cj x)≠0 then cG c (cj x) else if fG c dE 0 x.fq then 4 else 0)/\aO V F c x=r:=⟨_,rfl,by rw[Yf,K];rfl⟩;rw[a3];have HC:=ag (z.below B0 (lR _));clear a3 j z K l T;obtain⟨all,ar⟩:∃all,all=cj x:=⟨_,rfl⟩;rw[<-ar] at HR HA a7;clear ar;go_enter func80,ntmps80;go_wp2_with fail;generalize ((w.alloc _).alloc _)=w1 at *;go_call HI.out as e w2 ⟨rfl,xj⟩;clear HI;obtain⟨⟨a0,a1,a2⟩,az,-⟩:=id (A0.call xj);go_wp2_with fail;go_call HA.out _ (PX.call xj) as e w3 ⟨⟨rs,rc,rfl,GA,k1,k2⟩,xp⟩;clear HA a0 a1 a2;have ab:=vU;have P3:=P0.call ab;have A3:=A0.call ab;have C3:=HC.out.call ab;have R3:=PX.2.below ab (lR _);have B3:=B0.trans (ab.mono B0.size);clear P0 A0 PX HC ab xj xp B0;go_wp2;go_loopw [17] (λi wr=>∃k:Nat,k<=X all/\i=I Y k/\bl w3 wr/\Hid (cG c all=cG c (all.drop k))) (λi _=>X all - (intOf i).toNat)
 case atStart=>exact⟨0,j6 _,rfl,bR _ _,rfl⟩
 case round=>
  obtain⟨k,hk,rfl,ad,HK⟩:=hrel;by_cases D:k < X all
  .have n0:=cQ
   have n1:(k:Int) < (X all:Int):=aa;obtain⟨b,bt,rfl,ss,gc,GR,IR,g1,g2⟩:=GA.below ad (lR _) k D;have HD:=ag (Gg c all k D);obtain⟨⟨q0,q1,q2,q3,q4,q5,q6⟩,qz⟩:=id GR;have G4:=a7b.new wr all[k] ss gc;have ao:n4 (R (M wr)) wr (wr.alloc (A #[O all[k].n,O all[k].sp.n,I Y all[k].sp.lo,I Y all[k].sp.hi,O all[k].t,O all[k].f,U ss all[k].s.length gc] 91)):=ai;have I4:=IR.call ao;go_wp2_with fail;generalize wr.alloc _=w4 at *;go_call HS.out all[k] ss gc _ I4 (lT g1 g2) as e w5 ⟨rfl,al⟩;clear q0 q1 q2 q3 q4 q5 q6 GR IR;have G5:=G4.call al;have I5:=I4.call al;have ak:=ao.trans (al.mono ao.size);have af:=ad.trans (ak.mono ad.size);clear ao al G4 I4;rcases (show dE all[k]=d\/dE all[k]=W5 by cases dE all[k]<;>simp) with hs|hs<;>have ap:=ag hs<;>rw[hs]<;>clear hs
   .have HZ:Hid (aH c all[k]=0):=by
     show _=_;have h1:=ap.out;unfold dE at h1;have o:fD all[k] a4q=true:=iA;rw[sameGs_iff.1 o];rfl
    go_wp2;go_roundw
    case rel=>exact⟨k+1,aa,aJ,af,by show _=_;rw[HK.out,HD.out,if_pos HZ.out]⟩
    case measure=>exact aK
   .obtain⟨⟨p0,p1,p2⟩,pz⟩:=id (P3.call af)
    obtain⟨⟨q0,q1,q2,q3,q4,q5,q6⟩,qz⟩:=id G5;simp only[j7] at q0 q1 q2 q3 q4 q5 q6;go_wp2_with fail;go_call HG.out all[k] ss gc _ (C3.call af) I5 g1 g2 as e w6 ⟨rfl,be⟩;have ay:=af.trans (be.mono af.size);clear p0 p1 p2 q0 q1 q2 q3 q4 q5 q6;generalize aH c all[k]=ce at *;by_cases H:ce=0
    .have e1:(ce !=0)=false:=by simpa using H
     go_wp2;go_roundw
     case rel=>exact⟨k+1,aa,aJ,ay,by show _=_;rw[HK.out,HD.out,if_pos H]⟩
     case measure=>exact aK
    .have e1:(ce !=0)=true:=by simpa using H
     go_wp2;go_ret;refine⟨bE ?_,B3.trans (ay.mono B3.size)⟩;rw[HR.out,HK.out,HD.out,if_neg H,if_pos H]
  .have n1:¬(k:Int) < (X all:Int):=by omega
   have HZ:Hid (cG c all=0):=by show _=_;rw[HK.out,x4 (by omega)];rfl
   have a6:Hid (bc=if fG c dE 0 x.fq then 4 else 0):=by show _=_;rw[HR.out,HZ.out];rfl
   have P4:=P3.call ad;have A4:=A3.call ad;have C4:=C3.call ad;have R4:=R3.below ad (lR _);have B4:=B3.trans (ad.mono B3.size);generalize wr=w4 at *;clear wr P3 A3 C3 R3 B3 HK HR HZ GA ad;obtain⟨⟨a0,a1,a2⟩,az,-⟩:=id A4;go_wp2;clear a0 a1 a2;go_loopw [34] (λi wr=>∃k:Nat,k<=X x.fq/\i=I Y k/\bl w4 wr/\Hid (fG c dE 0 x.fq=fG c dE k (x.fq.drop k))) (λi _=>X x.fq - (intOf i).toNat)
   case atStart=>exact⟨0,j6 _,rfl,bR _ _,rfl⟩
   case round=>
    obtain⟨k2,bv,rfl,ah,HT⟩:=hrel;by_cases ax:k2 < X x.fq
    .have n0:=uR
     have n2:(k2:Int) < (X x.fq:Int):=aa;have a4:k2 < X c:=aa;have n3:(k2:Int) < (X c:Int):=aa;have HU:=ag (Sq c dE x.fq k2 ax);obtain⟨⟨p0,bg,p2⟩,pz⟩:=id (P4.call ah);obtain⟨p1,q1,e1,bm,r1,bf,D1,l1,l2,J1⟩:=(R4.below ah (lR _)) k2 ax;obtain⟨cb,co,e2,zc,a8⟩:=(C4.call ah).get k2 a4;subst e1 e2;obtain⟨i0,-⟩:=a8 k2 a4;have a5:=ag (a0M a4);have a9:x.fq[k2].length<=9223372036854775807:=by unfold maxLen at l2;omega
     clear a8;by_cases am:c[k2].k=11
     .have bb:(c[k2].k !=11)=false:=by simpa using am
      go_wp2;go_roundw
      case rel=>exact⟨k2+1,aa,aJ,ah,by show _=_;rw[HT.out,HU.out,a5.out,decide_eq_true am];rfl⟩
      case measure=>exact aK
     .have bb:(c[k2].k !=11)=true:=by simpa using am
      go_wp2_with fail;go_call ba.out r1 x.fq[k2] bf _ a9 J1 as e w5 ⟨rfl,al⟩;have ak:=ah.trans (al.mono ah.size);rcases (show x.fq[k2].any dE=d\/x.fq[k2].any dE=W5 by cases x.fq[k2].any dE<;>simp) with hs|hs<;>have ap:=ag hs<;>rw[hs]<;>clear hs
      .go_wp2
       go_roundw
       case rel=>exact⟨k2+1,aa,aJ,ak,by show _=_;rw[HT.out,HU.out,ap.out];simp⟩
       case measure=>exact aK
      .go_wp2
       go_ret;refine⟨bE ?_,B4.trans (ak.mono B4.size)⟩;rw[a6.out,HT.out,HU.out,ap.out,a5.out,decide_eq_false am];rfl
    .have n2:¬(k2:Int) < (X x.fq:Int):=by omega
     go_wp2;go_ret;refine⟨bE ?_,B4.trans (ah.mono B4.size)⟩;rw[a6.out,HT.out,x4 aa];rfl

def Ha(r:aA V F c=0):
  Calls f 80 #[pv V F s c cap,xv x vs vc fs fc] w λe w'=>e=Rt (I Y (aO V F c x))/\bl w w':=by
 rcases (show bW V F c x=d\/bW V F c x=W5 by cases bW V F c x<;>simp) with K|K
 .exact Hs V F s c _ x vs vc fs fc w z j l T r K
 .exact Kh V F s c _ x vs vc fs fc w z j l T r K
end
def a8k.new1(j:a4r w x vs fs)(D:X x.vq<=vc/\vc<=maxLen)(o:X x.fq<=fc/\fc<=maxLen):
  a8k (w.alloc (A #[O x.none,U vs (X x.vq) vc,U fs (X x.fq) fc] 28)) (G ⟨R (M w),0,E⟩) [x]:=by
 intro i hi;obtain rfl:i=0:=Bs;exact⟨R (M w),0,rfl,ae,vs,vc,fs,fc,aE,j.call ai,D,o⟩
def a8k.new2(y:Pic)(c:oA)(b:Nat)(gs:oA)(gc:Nat)(j:a4r w x vs fs)(D:X x.vq<=vc/\vc<=maxLen)(o:X x.fq<=fc/\fc<=maxLen)(g:a4r w y c gs)(W:X y.vq<=b/\b<=maxLen)(k:X y.fq<=gc/\gc<=maxLen):
  a8k (w.alloc (A #[O x.none,U vs (X x.vq) vc,U fs (X x.fq) fc,O y.none,U c (X y.vq) b,U gs (X y.fq) gc] 28)) (G ⟨R (M w),0,E⟩) [x,y]:=by
 intro i hi;by_cases e:i=0
 .subst e;exact⟨R (M w),0,rfl,ae,vs,vc,fs,fc,aE,j.call ai,D,o⟩
 .obtain rfl:i=1:=by simp at hi;omega
  exact⟨R (M w),0,rfl,ae,c,b,gs,gc,aE,g.call ai,W,k⟩
def lB(L:List Pic)(lc:Nat)(w:C)(z:a2r w s c)(g:a8k w ls L)(H:X L<=9223372036854775807):
  Calls f 43 #[pv V F s c cap,U ls (X L) lc] w λe w'=>e=Rt (I Y (aF V F c L))/\bl w w':=by
 have P0:=nz;have B0:=mY;have C0:=z.below B0 (lR _);have L0:=g.below B0 (lR _);have t:=ag (fY V F s cap c _ C0);clear z g;by_cases h0:aA V F c=0
 .have er:aF V F c L=cN V F c L:=by unfold aF;rw[if_pos h0]
  obtain⟨ah,T,y⟩:∃r,Hid (r=cN V F c L)/\aF V F c L=r:=⟨_,rfl,er⟩;rw[y];rw[h0] at t;have H0:=ag h0;clear er y h0;go_enter func43,ntmps43;go_wp2_with fail;go_call t.out as e w1 ⟨rfl,vZ⟩;have P1:=gF;have C1:=C0.call vZ;have L1:=L0.below vZ (lR _);have B1:=it;clear vZ P0 C0 L0 B0 t;go_wp2;go_loopw [16] (λi wr=>∃k:Nat,k<=X L/\i=I Y k/\bl w1 wr/\Hid (ah=cN V F c (L.drop k))) (λi _=>X L - (intOf i).toNat)
  case atStart=>exact⟨0,j6 _,rfl,bR _ _,T⟩
  case round=>
   obtain⟨k,o,rfl,m,HK⟩:=hrel;by_cases D:k < X L
   .have n0:=cQ
    have n1:=il;have HS:=ag (Ue V F c L k D);obtain⟨b,ak,rfl,zb,vs,vc,fs,fc,⟨g0,g1,g2⟩,j,hv,K⟩:=(L1.below m (lR _)) k D;have X2:=XAt.new wr L[k] vs vc fs fc;have x:=PN;have ab:=m.trans (x.mono m.size);have P2:=P1.call ab;have af:=j.call x;go_upto_region 7 with fail
    generalize wr.alloc _=w2 at *;clear g0 g1 g2;obtain⟨⟨p0,p1,W⟩,pz⟩:=id P2;obtain⟨⟨x0,x1,x2⟩,xz,-⟩:=id X2;go_wp2_with fail;go_call Ha V F s c cap _ vs vc fs fc _ (C1.call ab) af hv.1 hv.2 H0.out as e w3 ⟨rfl,ad⟩;have l:=ab.trans (ad.mono ab.size);clear p0 p1 W x0 x1 x2;generalize aO V F c L[k]=ce at *;by_cases hz:ce=0
    .have e1:(ce !=0)=false:=by simpa using hz
     go_wp2;go_roundw
     case rel=>exact⟨k+1,aa,aJ,l,by show _=_;rw[HK.out,HS.out,if_pos hz]⟩
     case measure=>exact aK
    .have e1:(ce !=0)=true:=by simpa using hz
     go_wp2;go_ret;exact⟨bE (by rw[HK.out,HS.out,if_neg hz]),B1.trans (l.mono B1.size)⟩
   .have n1:=Ee
    go_wp2;go_ret;refine⟨bE ?_,B1.trans (m.mono B1.size)⟩;rw[HK.out,x4 aa];rfl
 .have er:aF V F c L=aA V F c:=by unfold aF;rw[if_neg h0]
  rw[er];have e1:(aA V F c !=0)=true:=kG;generalize aA V F c=ce at *;clear er h0;go_enter func43,ntmps43;go_wp2_with fail;go_call t.out as e w1 ⟨rfl,vZ⟩;go_wp2;go_ret;exact wT

def uW(w:C)(z:a2r w s c)(j:a4r w x vs fs)(D:X x.vq<=vc/\vc<=maxLen)(o:X x.fq<=fc/\fc<=maxLen):
  Calls f 41 #[pv V F s c cap,xv x vs vc fs fc] w λe w'=>e=Rt (I Y (aF V F c [x]))/\bl w w':=by
 have K:n4 (R (M w)) w (((w.alloc (A #[I Y V,I Y F,U s (X c) cap] 24)).alloc (A #[O x.none,U vs (X x.vq) vc,U fs (X x.fq) fc] 28)).alloc (A #[O x.none,U vs (X x.vq) vc,U fs (X x.fq) fc] 28)):=ai;have t:=ag (lB V F s c cap (G ⟨R (M ((w.alloc (A #[I Y V,I Y F,U s (X c) cap] 24)).alloc (A #[O x.none,U vs (X x.vq) vc,U fs (X x.fq) fc] 28))),0,E⟩) [x] 1 (((w.alloc (A #[I Y V,I Y F,U s (X c) cap] 24)).alloc (A #[O x.none,U vs (X x.vq) vc,U fs (X x.fq) fc] 28)).alloc (A #[O x.none,U vs (X x.vq) vc,U fs (X x.fq) fc] 28)) (z.below K (lR _)) (a8k.new1 _ x vs vc fs fc (j.below (B:=R (M w)) ai (lR _)) D o) ae);simp only[zA] at t;go_enter func41,ntmps41;go_wp2_with fail;go_call t.out as e l ⟨rfl,g⟩;go_wp2;go_ret;exact⟨rfl,K.trans (g.mono (by first|omega|exact K.size))⟩
def a0k {c:lI}{g:Gs}(h:aH c g=0):dX g g=true:=by
 have hs:cY g.sp=0:=by
  unfold aH at h;split at h
  .exact h
  .rename_i h1;simpa using h1
 have b:=ckSp_ok.1 hs;obtain⟨n,⟨e,lo,hi⟩,t,f,s⟩:=g;have k:=b.2.2.2;simp only at k;unfold dX gP Sp.has;cases n<;>cases t<;>cases f<;>cases e<;>simp<;>omega
def y7 {a b x y:List Gs}(h:X a=X b):ix (a++x) (b++y)=(ix a b&&ix x y):=by
 unfold ix;rw[List.zipWith_append h,List.all_append]
def CM:∀{a b:List (List Gs)},X a=X b->(∀i (h:i < X a) (l:i < X b),X a[i]=X b[i])->ix a.flatten b.flatten=a5y a b
 |[],[],_,_=>rfl
 |[],_::_,h,_=>fk
 |_::_,[],h,_=>fk
 |r::a,q::b,h,hr=>by
  have h0:=hr 0 ae ae;rw[Q0,Q0,y7 kG,CM cn λi h1 h2=>by
   have:=hr (i+1) iA mK;simpa using this]
  rfl
def WT {V F:Int}{c:lI}{x y:Pic}(D:aO V F c x=0)(o:aO V F c y=0)(T:x.none=d)(m:y.none=d):ix (cj x) (cj y)=bu x y/\X (cj x)=X (cj y)/\(∀g∈cj x,aH c g=0)/\∀g∈cj y,aH c g=0:=by
 obtain⟨z,k,a3,e,s⟩:=iH D T;obtain⟨l,j,b3,W,b5⟩:=iH o m;have t:X x.vq=X y.vq:=aa;have H:X x.fq=X y.fq:=aa;have hr:∀i (h:i < X x.fq) (h':i < X y.fq),X x.fq[i]=X y.fq[i]:=λi h h'=>VJ;refine⟨?_,?_,λg b=> ?_,λg b=> ?_⟩
 .unfold cj bu
  rw[y7 t,CM H hr,T,m];rfl
 .unfold cj
  rw[j8,j8,t];congr 1;have K:∀r∈x.fq,X r=F.toNat:=λr hr=>by have:=a3 r hr;omega
  have e2:∀r∈y.fq,X r=F.toNat:=λr hr=>by have:=b3 r hr;omega
  rw[yh K,yh e2,H]
 .unfold cj at b
  rcases J2.1 b with b|b
  .exact e g b
  .obtain⟨r,hr,b⟩:=J3.1 b
   exact s r hr g b
 .unfold cj at b
  rcases J2.1 b with b|b
  .exact W g b
  .obtain⟨r,hr,b⟩:=J3.1 b
   exact b5 r hr g b
def Ot(T:oA)(z:Nat)(w:C)(xC:a2r w s c)(hs:yv w ss g.s)(D:X g.s<=gc)(o:gc<=maxLen)(y:yv w T h.s)(W:X h.s<=z)(k:z<=maxLen)(r:aA V F c=0)(b:aH c g=0)(i:aH c h=0):
  Calls f 166 #[pv V F s c cap,gv g ss gc,gv h T z] w λe w'=>e=Rt (O (dX g h))/\bl w w':=by
 have B0:n4 (R (M w)) w (((w.alloc (A #[I Y V,I Y F,U s (X c) cap] 24)).alloc (A #[O g.n,O g.sp.n,I Y g.sp.lo,I Y g.sp.hi,O g.t,O g.f,U ss (X g.s) gc] 91)).alloc (A #[O h.n,O h.sp.n,I Y h.sp.lo,I Y h.sp.hi,O h.t,O h.f,U T (X h.s) z] 91)):=ai;have m:=(a7w.new w V F s c cap).call (w':=(((w.alloc (A #[I Y V,I Y F,U s (X c) cap] 24)).alloc (A #[O g.n,O g.sp.n,I Y g.sp.lo,I Y g.sp.hi,O g.t,O g.f,U ss (X g.s) gc] 91)).alloc (A #[O h.n,O h.sp.n,I Y h.sp.lo,I Y h.sp.hi,O h.t,O h.f,U T (X h.s) z] 91))) ai;have G0:=(a7b.new (w.alloc (A #[I Y V,I Y F,U s (X c) cap] 24)) g ss gc).call (w':=(((w.alloc (A #[I Y V,I Y F,U s (X c) cap] 24)).alloc (A #[O g.n,O g.sp.n,I Y g.sp.lo,I Y g.sp.hi,O g.t,O g.f,U ss (X g.s) gc] 91)).alloc (A #[O h.n,O h.sp.n,I Y h.sp.lo,I Y h.sp.hi,O h.t,O h.f,U T (X h.s) z] 91))) ai;have H0:=a7b.new ((w.alloc (A #[I Y V,I Y F,U s (X c) cap] 24)).alloc (A #[O g.n,O g.sp.n,I Y g.sp.lo,I Y g.sp.hi,O g.t,O g.f,U ss (X g.s) gc] 91)) h T z;rw[zA] at G0;rw[zA,zA] at H0;have C0:=iw;have I0:=hs.below B0 (lR _);have J0:=y.below B0 (lR _);have HS:=ag (yl g ss gc h T z _ I0 J0 (lT D o) (lT W k));have HW:Hid (∀wx,a2r wx s c->yv wx ss g.s->yv wx T h.s->Calls f 161 #[pv V F s c cap,gv g ss gc,gv h T z] wx λe w'=>e=Rt (Tu #[O (dX g h),I Y 0])/\bl wx w'):=λwx x1 x2 x3=>by
  have hk:=lk r b i;have:=a3P V F s c cap g ss gc h T z wx x1 x2 D o x3 W k;rw[hk,if_pos rfl] at this;exact this
 have HQ:Hid (fD g h=W5->dX g h=W5):=λe=>by rw[<-sameGs_iff.1 e];exact a0k b
 clear xC hs y;go_enter func166,ntmps166;go_wp2_with fail;generalize (((w.alloc _).alloc _).alloc _)=w1 at *;go_call HS.out as e w2 ⟨rfl,x⟩;rcases (show fD g h=d\/fD g h=W5 by cases fD g h<;>simp) with hq|hq<;>have ad:=ag hq<;>rw[hq]<;>clear hq
 .obtain⟨⟨p0,p1,p2⟩,pz⟩:=id (m.call x)
  obtain⟨⟨j,l,t,q3,q4,q5,q6⟩,H⟩:=id (G0.call x);obtain⟨⟨r0,K,r2,r3,r4,r5,r6⟩,rz⟩:=id (H0.call x);simp only[j7] at j l t q3 q4 q5 q6 r0 K r2 r3 r4 r5 r6;go_wp2_with fail;go_call HW.out _ (C0.call x) (I0.call x) (J0.call x) as e w3 ⟨rfl,ab⟩;go_wp2;go_ret;exact⟨rfl,B0.trans ((x.trans (ab.mono x.size)).mono B0.size)⟩
 .go_wp2
  go_ret;exact⟨bF (HQ.out ad.out).symm,B0.trans (x.mono B0.size)⟩

section
variable (xf:Nat)(xk:oA)(xi:Nat)(y:Pic)(xq:oA)(xm:Nat)(xr:oA)(xo:Nat)(w:C)(xC:a2r w s c)(hx:a4r w x xh xk)(h1:X x.vq<=xf/\xf<=maxLen)(h2:X x.fq<=xi/\xi<=maxLen)(hy:a4r w y xq xr)(h3:X y.vq<=xm/\xm<=maxLen)(h4:X y.fq<=xo/\xo<=maxLen)
def SO(h:aF V F c [x,y]≠0):
  Calls f 102 #[pv V F s c cap,xv x xh xf xk xi,xv y xq xm xr xo] w λe w'=>e=Rt (Tu #[O d,I Y (aF V F c [x,y])])/\bl w w':=by
 have B0:=wZ;have C0:=iw;have PX:=iN;have PY:=pK;have t:=DW;have b:=Dq;have i:=Ea;have j:(aF V F c [x,y]!=0)=true:=cn;have k:Hid (bl w ((((w.alloc (A #[I Y V,I Y F,U s (X c) cap] 24)).alloc (A #[O x.none,U xh (X x.vq) xf,U xk (X x.fq) xi] 28)).alloc (A #[O y.none,U xq (X y.vq) xm,U xr (X y.fq) xo] 28)).alloc (A #[O x.none,U xh (X x.vq) xf,U xk (X x.fq) xi,O y.none,U xq (X y.vq) xm,U xr (X y.fq) xo] 28))):=B0.trans (b.mono B0.size);generalize aF V F c [x,y]=ce at *;clear h hx hy xC PX PY C0 b;rw[i] at t;clear i;go_enter func102,ntmps102;go_wp2_with fail;go_call t.out as e l ⟨rfl,g⟩;go_wp2;refine bodyPost_ret (v:=Tu #[O d,I Y ce]) sJ rfl ⟨rfl,k.out.trans (g.mono (by first|omega|exact k.out.size))⟩

def Oj(h:aF V F c [x,y]=0)(hn:x.none=W5\/y.none=W5):
  Calls f 102 #[pv V F s c cap,xv x xh xf xk xi,xv y xq xm xr xo] w λe w'=>e=Rt (Tu #[O (bu x y),I Y 0])/\bl w w':=by
 have B0:=wZ;have X0:=CX;have o:=Ff;rw[zA] at X0;rw[zA,zA] at o;have C0:=iw;have PX:=iN;have PY:=pK;have t:=DW;have b:=Dq;have i:=Ea;have HB:=ag b;have er:bu x y=x.none:=by
  unfold bu;rcases hn with hn|hn
  .rw[hn];rfl
  .rw[hn];cases x.none<;>rfl
 rw[er];rw[h,i] at t;clear er h hx hy xC PX PY C0 b i;go_enter func102,ntmps102;go_wp2_with fail;go_call t.out as e w1 ⟨rfl,vZ⟩;have xQ:=Nr;obtain⟨⟨H,z,k⟩,D,-⟩:=id (X0.call xQ);obtain⟨⟨g,l,j⟩,r,-⟩:=id (o.call xQ);have K:=km;clear X0 o HB vZ xQ B0;obtain⟨T,vx,fx⟩:=x;obtain⟨W,vy,fy⟩:=y;simp only at H z k g l j hn;cases T with
 |true=>
  go_wp2;refine bodyPost_ret (v:=Tu #[O W5,I Y 0]) sJ rfl ⟨rfl,K⟩
 |false=>
  have hy:W=true:=mQ;subst hy;go_wp2;refine bodyPost_ret (v:=Tu #[O d,I Y 0]) sJ rfl ⟨rfl,K⟩
def MI(h:aF V F c [x,y]=0)(h0:aA V F c=0)(ah:aO V F c x=0)(am:aO V F c y=0)(T:x.none=d)(m:y.none=d):
  Calls f 102 #[pv V F s c cap,xv x xh xf xk xi,xv y xq xm xr xo] w λe w'=>e=Rt (Tu #[O (bu x y),I Y 0])/\bl w w':=by
 have B0:=wZ;have P0:=DK;have X0:=CX;have Y0:=Ff;rw[zA] at X0;rw[zA,zA] at Y0;have C0:=iw;have PX:=iN;have PY:=pK;have HC:=DW;have bg:=Dq;have e3:=Ea;have HB:=ag bg;obtain⟨ei,el,rx,ry⟩:=WT ah am T m;have bs:bW V F c x=true:=by
  unfold aO at ah;split at ah
  .cases ah
  .rename_i hq;simpa using hq
 have bm:bW V F c y=true:=by
  unfold aO at am;split at am
  .cases am
  .rename_i hq;simpa using hq
 obtain⟨lx,b7⟩:=nY h0 bs;obtain⟨ly,b4⟩:=nY h0 bm;obtain⟨-,-,ce⟩:=fX;have ba:=ag λwx (hx:a4r wx x xh xk)=>DP x xh xf xk xi wx hx h1.1 h1.2 aa lx;have bb:=ag λwx (hx:a4r wx y xq xr)=>DP y xq xm xr xo wx hx h3.1 h3.2 aa ly;have HW:=ag λ(g:Gs) (ss:oA) (gc:Nat) (h:Gs) (st:oA) (z:Nat) (wx:C) (a1:a2r wx s c) (a2:yv wx ss g.s) (a3:X g.s<=gc) (a4:gc<=maxLen) (a5:yv wx st h.s) (a6:X h.s<=z) (a7:z<=maxLen) (a8:aH c g=0) (a9:aH c h=0)=>Ot V F s c cap g ss gc h st z wx a1 a2 a3 a4 a5 a6 a7 h0 a8 a9;rw[<-ei];obtain⟨ax,bt⟩:∃ax,ax=cj x:=⟨_,rfl⟩;obtain⟨ay,be⟩:∃ay,ay=cj y:=⟨_,rfl⟩;rw[<-bt] at ba rx el lx |-;rw[<-be] at bb ry el ly |-;obtain⟨b5,HR,ap⟩:∃r,Hid (r=ix ax ay)/\ix ax ay=r:=⟨_,rfl,rfl⟩;rw[ap];have bf:=ag T;have bc:=ag m;have EL:=ag el;have RX:=ag rx;have RY:=ag ry;rw[h,e3] at HC;clear T m h ei el rx ry bt be ap ah am bs bm b7 b4 h0 hx hy xC bg e3;go_enter func102,ntmps102;go_wp2_with fail;go_call HC.out as e w1 ⟨rfl,vZ⟩;have xQ:=Nr;have X1:=X0.call xQ;have Y1:=Y0.call xQ;have P1:=P0.call xQ;have C1:=C0.call xQ;have QX:=PX.call xQ;have QY:=PY.call xQ;have B1:=km;clear X0 Y0 P0 C0 PX PY HB vZ xQ B0 HC;have T:=bf.out;have m:=bc.out;clear bf bc;obtain⟨xn,vx,fx⟩:=x;obtain⟨yn,vy,fy⟩:=y;simp only at T m;subst T m;obtain⟨⟨H,a1,a2⟩,az,-⟩:=id X1;obtain⟨⟨b0,b1,j⟩,bz,-⟩:=id Y1;go_wp2_with fail;go_call bb.out _ QY as e w2 ⟨⟨ca,cc,rfl,GY,cb,cg⟩,xj⟩;clear H a1 a2 b0 b1 j;obtain⟨⟨H,a1,a2⟩,az,-⟩:=id (X1.call xj);go_wp2_with fail;go_call ba.out _ (QX.call xj) as e w3 ⟨⟨cf,ch,rfl,GX,cl,cm⟩,xp⟩;clear H a1 a2 ba bb;have ad:=vU;have P3:=P1.call ad;have C4:=C1.call ad;have b6:=GY.call xp;have B3:=B1.trans (ad.mono B1.size);clear P1 C1 X1 Y1 QX QY GY xj xp ad B1;go_wp2;go_loopw [33] (λi wr=>∃k:Nat,k<=X ax/\i=I Y k/\bl w3 wr/\Hid (b5=ix (ax.drop k) (ay.drop k))) (λi _=>X ax - (intOf i).toNat)
 case atStart=>exact⟨0,j6 _,rfl,bR _ _,HR⟩
 case round=>
  obtain⟨k,o,rfl,al,HK⟩:=hrel;by_cases D:k < X ax
  .have n0:=cQ
   have n1:(k:Int) < (X ax:Int):=aa;have ak:k < X ay:=by have:=EL.out;omega
   have n2:(k:Int) < (X ay:Int):=aa;obtain⟨b1,o1,e1,af,g1,G1,I1,k1,m1⟩:=(GX.below al (lR _)) k D;obtain⟨j,o2,e2,ar,g2,G2,J1,k2,m2⟩:=(b6.below al (lR _)) k ak;subst e1 e2;have b3:=RX.out _ (gM D);have b8:=RY.out _ (gM ak);have HS:=ag (WN ax ay k D ak);obtain⟨⟨q0,l,q2,q3,q4,q5,q6⟩,qz⟩:=id G1;have Q4:=a7b.new wr ax[k] af g1;have W:n4 (R (M wr)) wr (wr.alloc (A #[O ax[k].n,O ax[k].sp.n,I Y ax[k].sp.lo,I Y ax[k].sp.hi,O ax[k].t,O ax[k].f,U af ax[k].s.length g1] 91)):=ai;have I4:=I1.call W;have J4:=J1.call W;have G4:=G2.call W;have ab:=al.trans (W.mono al.size);go_upto_region 10 with fail
   generalize wr.alloc _=w4 at *;generalize (R (M wr))=qb at *;clear q0 l q2 q3 q4 q5 q6 G1 G2 I1 J1;have bx:Hid (∀wx,bl w4 wx->(wx.cell? ⟨R (M w),0,E⟩=G (I Y V)/\wx.cell? ⟨R (M w),1,E⟩=G (I Y F)/\wx.cell? ⟨R (M w),2,E⟩=G (U s (X c) cap))/\(wx.cell? ⟨qb,0,E⟩=G (O ax[k].n)/\wx.cell? ⟨qb,0+1,E⟩=G (O ax[k].sp.n)/\wx.cell? ⟨qb,0+2,E⟩=G (I Y ax[k].sp.lo)/\wx.cell? ⟨qb,0+3,E⟩=G (I Y ax[k].sp.hi)/\wx.cell? ⟨qb,0+4,E⟩=G (O ax[k].t)/\wx.cell? ⟨qb,0+5,E⟩=G (O ax[k].f)/\wx.cell? ⟨qb,0+6,E⟩=G (U af ax[k].s.length g1))/\(wx.cell? ⟨j,o2+k * 7,E⟩=G (O ay[k].n)/\wx.cell? ⟨j,o2+k * 7+1,E⟩=G (O ay[k].sp.n)/\wx.cell? ⟨j,o2+k * 7+2,E⟩=G (I Y ay[k].sp.lo)/\wx.cell? ⟨j,o2+k * 7+3,E⟩=G (I Y ay[k].sp.hi)/\wx.cell? ⟨j,o2+k * 7+4,E⟩=G (O ay[k].t)/\wx.cell? ⟨j,o2+k * 7+5,E⟩=G (O ay[k].f)/\wx.cell? ⟨j,o2+k * 7+6,E⟩=G (U ar ay[k].s.length g2))):=λwx hx=>⟨((P3.call ab).call hx).1,(Q4.call hx).1,(G4.call hx).1⟩;have HD:=nr;refine XK [] ac bx.out HD (λb=> ?_);refine QU ?_;refine QN 5 ?_;refine av (i:=6) rfl ac (λK hK=> ?_);go_simp;go_at_call 166;go_call HW.out ax[k] af g1 ay[k] ar g2 _ (C4.call (ab.trans (HD.mono ab.size))) (I4.call HD) k1 m1 (J4.call HD) k2 m2 b3 b8 as e w5 ⟨rfl,xw⟩;have bv:=vi;go_wp2_with fail;refine hK.out _ _ (bx.out _ bv) (λb=> ?_);clear hK K;refine sm ?_;refine QN 7 ?_;refine aB ac ?_ _;have ao:=ab.trans (bv.mono ab.size);rcases (show dX ax[k] ay[k]=d\/dX ax[k] ay[k]=W5 by cases dX ax[k] ay[k]<;>simp) with hs|hs<;>have HSG:=ag hs<;>rw[hs]<;>clear hs
   .go_wp2
    refine bodyPost_ret (v:=Tu #[O d,I Y 0]) sJ rfl ⟨?_,B3.trans (ao.mono B3.size)⟩;rw[HK.out,HS.out,HSG.out];rfl
   .go_wp2
    go_roundw
    case rel=>exact⟨k+1,aa,aJ,ao,KJ⟩
    case measure=>exact aK
  .have n1:¬(k:Int) < (X ax:Int):=by omega
   go_wp2;refine bodyPost_ret (v:=Tu #[O W5,I Y 0]) sJ rfl ⟨?_,B3.trans (al.mono B3.size)⟩;rw[HK.out,x4 aa];rfl
end
def a3a(g:oA)(j:Nat)(y:Pic)(ab:oA)(t:Nat)(ad:oA)(K:Nat)(w:C)(b:a2r w s c)(m:a4r w x l g)(D:X x.vq<=z/\z<=maxLen)(o:X x.fq<=j/\j<=maxLen)(i:a4r w y ab ad)(W:X y.vq<=t/\t<=maxLen)(k:X y.fq<=K/\K<=maxLen):
  Calls f 102 #[pv V F s c cap,xv x l z g j,xv y ab t ad K] w λe w'=>e=Rt (Tu #[O (if aF V F c [x,y]=0 then bu x y else d),I Y (aF V F c [x,y])])/\bl w w':=by
 by_cases h:aF V F c [x,y]=0
 .rw[h,if_pos rfl]
  have r:aA V F c=0:=by
   unfold aF at h;split at h
   .assumption
   .exact h
  have H:cN V F c [x,y]=0:=by
   unfold aF at h;rw[if_pos r] at h;exact h
  have af:aO V F c x=0:=by
   unfold cN at H;split at H
   .assumption
   .exact H
  have ah:aO V F c y=0:=by
   unfold cN at H;rw[if_pos af] at H;unfold cN at H;split at H
   .assumption
   .exact H
  by_cases T:x.none=W5\/y.none=W5
  .exact Oj V F s c _ x l z g j y ab t ad K w b m D o i W k h T
  .exact MI V F s c _ x l z g j y ab t ad K w b m D o i W k h r af ah (by cases hq:x.none<;>simp_all) (by cases hq:y.none<;>simp_all)
 .rw[if_neg h]
  exact SO V F s c _ x l z g j y ab t ad K w b m D o i W k h
def Cp:∀{l:List Int},dQ l=W5->l.Pairwise (· < ·)
 |[],_=>List.Pairwise.nil
 |[a],_=>List.pairwise_singleton _ _
 |a::b::r,h=>by
  unfold dQ at h;simp only[x6,decide_eq_true_eq] at h;have c:=Cp h.2;rw[Q1];refine⟨λx m=> ?_,c⟩;rw[Q1] at c;rcases List.mem_cons.1 m with rfl|m
  .exact h.1
  .have:=c.1 x m
   omega
def VV {c:lI}{g:Gs}(y:X c<=60)(h:aH c g=0):dd [g,g]=g.s:=by
 obtain⟨D,o⟩:=dY y h;rw[oV g g D D];refine wK _ _ (y6 _ _ _) (Cp o) λx=> ?_;rw[FV];constructor
 .rintro ⟨-,h|h⟩<;>exact h
 .intro m
  exact⟨D x m,.inl m⟩
def MZ {c:lI}{g:Gs}{e:Sp->Sp->Sp}(b:∀s,e s s=s)(y:X c<=60)(h:aH c g=0):dy e g g=g:=by
 unfold dy;rw[VV y h,b];simp
def TS (s:Sp):bw s s=s:=by
 obtain⟨n,lo,hi⟩:=s;unfold bw;cases n<;>simp
def TN (s:Sp):bH s s=s:=by
 obtain⟨n,lo,hi⟩:=s;unfold bH;cases n<;>simp
def Lo {w w':C}{js:oA}{l:List Int}{N:Nat}(h:yv w js l)(K:∀a,js=G a->N<=a.block/\Thw w a.block)(hs:∀b,N<=b->w'.heap[b]? =w.heap[b]?)(H:R (M w)<=R (M w')):yv w' js l/\∀a,js=G a->N<=a.block/\Thw w' a.block:=by
 refine⟨?_,λa r=>⟨(K a r).1,(K a r).2.same (hs _ (K a r).1)⟩⟩;rcases h with h|⟨b,x,e,W,z⟩
 .exact cA
 .have T:=(K _ e).1
  exact .inr ⟨b,x,e,lL W H,λk o=>by rw[World.cell?_of_block (a:=⟨b,x+k,E⟩) (hs b T)];exact z k o⟩
def a7b.put6 {w:C}{b:Nat}{g:Gs}{ss js:oA}{gc jc:Nat}(h:a7b w b 0 g ss gc):a7b (w.setCell ⟨b,6,E⟩ (U js (X g.s) jc)) b 0 g js jc:=by
 obtain⟨⟨r,D,o,W,k,j,l⟩,H⟩:=h;simp only[j7] at r D o W k j l;have c:∀i,i≠6->(w.setCell ⟨b,6,E⟩ (U js (X g.s) jc)).cell? ⟨b,i,E⟩=w.cell? ⟨b,i,E⟩:=λi hi=>World.cell?_setCell_other _ _ _ _ (by intro e;cases e;exact hi rfl);simp only[a7b,j7];exact⟨⟨(c _ aa).trans r,(c _ aa).trans D,(c _ aa).trans o,(c _ aa).trans W,(c _ aa).trans k,(c _ aa).trans j,World.cell?_setCell_same _ _ _ l⟩,by simpa[Q2] using H⟩
def WI(cap:Nat)(l:List Int)(w:C)(H:X l<=1000000)(hs:yv w ss l):
  Calls f 179 #[U ss (X l) cap] w λe w'=>(∃js jc,e=Rt (U js (X l) jc)/\yv w' js l/\X l<=jc/\jc<=maxLen/\∀a,js=G a->R (M w)<=a.block/\Thw w' a.block)/\bl w w':=by
 have i:Calls f 179 #[U ss (X l) cap] w λe w'=>∃v,e=Rt v/\w'.ownsRow (R (M w)) 3 1 v (X l) (l.map (.int .i64))/\bl w w':=by
  cases ss with
  |none=>
   have r:l=[]:=by
    rcases hs with h|⟨_,_,h,_⟩
    .exact h
    .cases h
   subst r;go_call Tryz.slices_Clone_int_nil _ _ _ as e w' ⟨rfl,rfl⟩;exact⟨_,rfl,⟨rfl,.inl ⟨rfl,rfl⟩⟩,bR _ _⟩
  |some a=>
   by_cases r:l=[]
   .subst r
    go_call Tryz.slices_Clone_int_zero a cap w as e w' ⟨v,rfl,c,-,W⟩;exact⟨_,rfl,c,W⟩
   .obtain⟨b,x,e,W,z⟩:=hs.get 0 (List.length_pos_iff.2 r)
    cases e;refine(Tryz.slices_Clone_int b x (X l) cap l w (lR _) aa (λj s=> ?_)).mono ?_
    .rw[z j s]
     simp[z8,Q3 s]
    .rintro e w' ⟨v,rfl,c,-,qC⟩
     rw[J7] at c;exact⟨_,rfl,c,qC⟩
 go_call i as e w' ⟨v,rfl,c,W⟩;obtain⟨js,jc,rfl,hi,V,g,K⟩:=yv.own c;exact⟨⟨js,jc,rfl,hi,V,g,K⟩,W⟩
end
section
open Go.RowKit Go
attribute [local go_sem ↓] Go.wp_at_zero Go.wp_at_succ
def Iu(jn:Gs->Gs->Gs)(cz:∀args wx,Sem.run f (callFunc fh args) wx=.ok (.enter fh args) wx)(V F:Int)(s:oA)(c:lI)(cap:Nat)(a b:List Gs)(ra:oA)(cv:Nat)(rb:oA)(ce:Nat)(w:C)(b8:a2r w s c)(r:a7r w ra a)(W:a7r w rb b)(H:X a=X b)(c1:X a<=1000)(h0:aA V F c=0)(b4:∀g∈a,aH c g=0)(bt:∀g∈b,aH c g=0)(bz:∀g,aH c g=0->jn g g=g)(hJ:∀(g:Gs) (ss:oA) (gc:Nat) (h:Gs) (T:oA) (z:Nat) (wx:C),a2r wx s c->yv wx ss g.s->X g.s<=gc->gc<=maxLen->yv wx T h.s->X h.s<=z->z<=maxLen->aH c g=0->aH c h=0->Calls f fh #[pv V F s c cap,gv g ss gc,gv h T z] wx λe w'=>(∃js jc,e=Rt (Tu #[gv (jn g h) js jc,I Y 0])/\yv w' js (jn g h).s/\(jn g h).s.length<=jc/\jc<=maxLen/\∀a,js=G a->R (M wx)<=a.block/\Thw w' a.block)/\bl wx w'):
  Calls f 122 #[pv V F s c cap,U ra (X a) cv,U rb (X b) ce,.func (.func fh) #[] #[]] w λe w'=>Wg w w' e (aX jn a b)/\bl w w':=by
 obtain⟨ti,hi,b3,bx,bv⟩:=lH;obtain⟨-,-,y⟩:=fX;obtain⟨w1,jv⟩:=nameW (w.alloc (A #[I Y V,I Y F,U s (X c) cap] 24));have B0:n4 (R (M w)) w w1:=sC;have P0:=nz;have b6:R (M w)<=R (M w1):=by rw[jv.out];simp
 have HL:=ag H;have cf:=ag b4;have cp:=ag bt;have HA:=ag r;have HB:=ag W;have co:=ag b8;have HJ:=ag hJ;have cc:=ag bz;clear bz;have ct:=ag WI;clear H b4 bt r W b8 hJ h0;go_enter func122,ntmps122;go_upto_region 1 with fail
 simp only[<-jv.out] at *;clear jv;go_wp2;go_loopw [9,14] (λv i wr=>∃(k:Nat) (rs:oA) (rc:Nat) (l:List Gc),k<=X a/\i=I Y k/\v=U rs (X l) rc/\bl w1 wr/\a8i wr (R (M w1)) (U rs (X l) rc) l/\Hid (l.map Gc.g=aX jn (a.take k) (b.take k))) (λ_ i _=>X a - (intOf i).toNat)
 case atStart=>exact⟨0,E,0,[],j6 _,rfl,rfl,bR _ _,a8i.nil _ _,rfl⟩
 case round=>
  obtain⟨k,rs,rc,l,hk,rfl,rfl,xA,SR,HE⟩:=hrel;have LL:Hid (X l=k):=by
   show _=_;have D:=congrArg x9 HE.out;have o:=HL.out;unfold aX at D;rw[q8,List.length_zipWith,x5,x5] at D;omega
  have LR:=B0.trans (xA.mono B0.size);by_cases a4:k < X a
  .have n0:=cQ
   have n1:=vJ;have ak:k < X b:=sX;have n2:(k:Int) < (X b:Int):=aa;obtain⟨b1,o1,e1,ap,g1,G1,I1,k1,m1⟩:=(HA.out.below LR (lR _)) k a4;obtain⟨b2,o2,e2,ar,g2,G2,J1,k2,m2⟩:=(HB.out.below LR (lR _)) k ak;subst e1 e2;have c2:=sD HB.out k ak;have a2:=cf.out _ (gM a4);have cl:=cp.out _ (gM ak);obtain⟨⟨q0,q1,q2,q3,q4,q5,q6⟩,qz⟩:=id G1;have Q4:=a7b.new wr a[k] ap g1;obtain⟨w4,a0⟩:=nameW (wr.alloc (A #[O a[k].n,O a[k].sp.n,I Y a[k].sp.lo,I Y a[k].sp.hi,O a[k].t,O a[k].f,U ap a[k].s.length g1] 91));have F4:∀j,w4.frozen? ⟨R (M wr),j,E⟩=false:=by rw[a0.out];exact λj=>by simp[go_sem]
   have ax:n4 (R (M wr)) wr w4:=by rw[a0.out];go_grown
   have I4:=I1.call ax;have J4:=J1.call ax;have G4:=G2.call ax;have hq:R (M wr) < R (M w4):=by rw[a0.out];simp
   go_upto_region 5 with fail
   simp only[<-a0.out] at *;clear a0;have cg:∃qb,qb=R (M wr):=⟨_,rfl⟩;obtain⟨qb,a9⟩:=cg;rw[<-a9] at Q4 F4 hq |-;have EQB:=ag a9;clear q0 q1 q2 q3 q4 q5 q6 qz G1 G2 I1 J1 a9;have bs:Hid (∀wx,bl w4 wx->(wx.cell? ⟨qb,0,E⟩=G (O a[k].n)/\wx.cell? ⟨qb,0+1,E⟩=G (O a[k].sp.n)/\wx.cell? ⟨qb,0+2,E⟩=G (I Y a[k].sp.lo)/\wx.cell? ⟨qb,0+3,E⟩=G (I Y a[k].sp.hi)/\wx.cell? ⟨qb,0+4,E⟩=G (O a[k].t)/\wx.cell? ⟨qb,0+5,E⟩=G (O a[k].f)/\wx.cell? ⟨qb,0+6,E⟩=G (U ap a[k].s.length g1))/\(wx.cell? ⟨b2,o2+k * 7,E⟩=G (O b[k].n)/\wx.cell? ⟨b2,o2+k * 7+1,E⟩=G (O b[k].sp.n)/\wx.cell? ⟨b2,o2+k * 7+2,E⟩=G (I Y b[k].sp.lo)/\wx.cell? ⟨b2,o2+k * 7+3,E⟩=G (I Y b[k].sp.hi)/\wx.cell? ⟨b2,o2+k * 7+4,E⟩=G (O b[k].t)/\wx.cell? ⟨b2,o2+k * 7+5,E⟩=G (O b[k].f)/\wx.cell? ⟨b2,o2+k * 7+6,E⟩=G (U ar b[k].s.length g2))):=λwx m=>⟨(Q4.call m).1,(G4.call m).1⟩;have HD:=nr;refine XK [] ac bs.out HD (λab=> ?_);refine QU ?_;refine av (i:=5) rfl ac (λK hK=> ?_);go_simp;go_at_call 178;go_call yl a[k] ap g1 b[k] ar g2 _ (I4.call HD) (J4.call HD) (lT k1 m1) (lT k2 m2) as e w5 ⟨rfl,xw⟩;have al:=vi;go_wp2_with fail;refine hK.out _ _ (bs.out _ al) (λab=> ?_);clear hK K;refine sm ?_;refine aB ac ?_ _;have Q5:=Q4.call al;have F5:∀j,w5.frozen? ⟨qb,j,E⟩=false:=λj=>by rw[al.frozen (by simp only;exact hq)];exact F4 j
   have I5:=I4.call al;have J5:=J4.call al;have G5:=G4.call al;have af:=ax.trans (al.mono ax.size);have L5:=LR.trans (af.mono LR.size);have C5:=co.out.below L5 (lR _);have z5:=af.size;clear Q4 F4 I4 J4 G4 bs HD al ax;rcases (show fD a[k] b[k]=d\/fD a[k] b[k]=W5 by cases fD a[k] b[k]<;>simp) with hs|hs<;>have cs:=ag hs<;>rw[hs]<;>clear hs
   .have P5:=(P0.call (xA.trans (af.mono xA.size)))
    have ch:=P0.2;have a1:=lT xA.size z5;have a3:Hid (∀wx,n4 (R (M w1)) w5 wx->(wx.cell? ⟨R (M w),0,E⟩=G (I Y V)/\wx.cell? ⟨R (M w),1,E⟩=G (I Y F)/\wx.cell? ⟨R (M w),2,E⟩=G (U s (X c) cap))/\(wx.cell? ⟨b2,o2+k * 7,E⟩=G (O b[k].n)/\wx.cell? ⟨b2,o2+k * 7+1,E⟩=G (O b[k].sp.n)/\wx.cell? ⟨b2,o2+k * 7+2,E⟩=G (I Y b[k].sp.lo)/\wx.cell? ⟨b2,o2+k * 7+3,E⟩=G (I Y b[k].sp.hi)/\wx.cell? ⟨b2,o2+k * 7+4,E⟩=G (O b[k].t)/\wx.cell? ⟨b2,o2+k * 7+5,E⟩=G (O b[k].f)/\wx.cell? ⟨b2,o2+k * 7+6,E⟩=G (U ar b[k].s.length g2))):=λwx m=>⟨(P5.low m ch).1,(G5.low m aa).1⟩;have ao:bl w5 w5.drew:=(bR _ _).drew;go_wp2;refine XK [] ac a3.out (ao.mono a1) (λab=> ?_);refine XJ ?_;refine QN 4 ?_;refine QN 5 ?_;refine QN 6 ?_;refine av (i:=2) rfl ac (λK hK=> ?_);have Qd:=Q5.drew;obtain⟨⟨q0,q1,q2,q3,q4,q5,q6⟩,qz⟩:=id Qd;simp only[j7] at q0 q1 q2 q3 q4 q5 q6;go_simp;refine hK.out _ _ (a3.out _ (ao.mono a1)) (λab=> ?_);clear hK K q0 q1 q2 q3 q4 q5 q6 qz;refine sm ?_;refine av (i:=7) rfl ac (λK hK=> ?_);go_simp;go_call HJ.out a[k] ap g1 b[k] ar g2 _ (C5.call ao) (I5.call ao) k1 m1 (J5.call ao) k2 m2 a2 cl as e w6 ⟨⟨js,jc,rfl,bg,be,bc,a8⟩,ay⟩;have az:=ao.trans (ay.mono ao.size);go_wp2_with fail;refine hK.out _ _ (a3.out _ (az.mono a1)) (λab=> ?_);clear hK K;refine sm ?_;refine QV ?_;refine av (i:=11) rfl ac (λK hK=> ?_);have Q6:=Q5.call az;have F6:∀j,w6.frozen? ⟨qb,j,E⟩=false:=λj=>by rw[az.frozen (by simp only;exact Q5.2)];exact F5 j
    obtain⟨⟨q0,q1,q2,q3,q4,q5,q6⟩,qz⟩:=id Q6;simp only[j7] at q0 q1 q2 q3 q4 q5 q6;have f6:=F6 6;go_simp;have b0:n4 (R (M w1)) w5 (((((((w6.setCell ⟨qb,0,E⟩ (O (jn a[k] b[k]).n)).setCell ⟨qb,1,E⟩ (O (jn a[k] b[k]).sp.n)).setCell ⟨qb,2,E⟩ (I Y (jn a[k] b[k]).sp.lo)).setCell ⟨qb,3,E⟩ (I Y (jn a[k] b[k]).sp.hi)).setCell ⟨qb,4,E⟩ (O (jn a[k] b[k]).t)).setCell ⟨qb,5,E⟩ (O (jn a[k] b[k]).f)).setCell ⟨qb,6,E⟩ (U js (jn a[k] b[k]).s.length jc)):=((((((((az.mono a1)).setCell nu _).setCell nu _).setCell nu _).setCell nu _).setCell nu _).setCell nu _).setCell nu _;refine hK.out _ _ (a3.out _ b0) (λab=> ?_);clear hK K b0;refine sm ?_;refine aB ac ?_ _;have b5:∀bb,bb≠qb->(((((((w6.setCell ⟨qb,0,E⟩ (O (jn a[k] b[k]).n)).setCell ⟨qb,1,E⟩ (O (jn a[k] b[k]).sp.n)).setCell ⟨qb,2,E⟩ (I Y (jn a[k] b[k]).sp.lo)).setCell ⟨qb,3,E⟩ (I Y (jn a[k] b[k]).sp.hi)).setCell ⟨qb,4,E⟩ (O (jn a[k] b[k]).t)).setCell ⟨qb,5,E⟩ (O (jn a[k] b[k]).f)).setCell ⟨qb,6,E⟩ (U js (jn a[k] b[k]).s.length jc)).heap[bb]? =w6.heap[bb]? :=λbb ad=>by rw[hSe _ _ _ _ ad,hSe _ _ _ _ ad,hSe _ _ _ _ ad,hSe _ _ _ _ ad,hSe _ _ _ _ ad,hSe _ _ _ _ ad,hSe _ _ _ _ ad]
    have ca:R (M w6)<=R (M (((((((w6.setCell ⟨qb,0,E⟩ (O (jn a[k] b[k]).n)).setCell ⟨qb,1,E⟩ (O (jn a[k] b[k]).sp.n)).setCell ⟨qb,2,E⟩ (I Y (jn a[k] b[k]).sp.lo)).setCell ⟨qb,3,E⟩ (I Y (jn a[k] b[k]).sp.hi)).setCell ⟨qb,4,E⟩ (O (jn a[k] b[k]).t)).setCell ⟨qb,5,E⟩ (O (jn a[k] b[k]).f)).setCell ⟨qb,6,E⟩ (U js (jn a[k] b[k]).s.length jc))):=bI;have G7:a7b (((((((w6.setCell ⟨qb,0,E⟩ (O (jn a[k] b[k]).n)).setCell ⟨qb,1,E⟩ (O (jn a[k] b[k]).sp.n)).setCell ⟨qb,2,E⟩ (I Y (jn a[k] b[k]).sp.lo)).setCell ⟨qb,3,E⟩ (I Y (jn a[k] b[k]).sp.hi)).setCell ⟨qb,4,E⟩ (O (jn a[k] b[k]).t)).setCell ⟨qb,5,E⟩ (O (jn a[k] b[k]).f)).setCell ⟨qb,6,E⟩ (U js (jn a[k] b[k]).s.length jc)) qb 0 (jn a[k] b[k]) js jc:=by
     refine⟨?_,by simpa[Q2] using qz⟩;simp[go_sem,q0,q1,q2,q3,q4,q5,q6]
    have xF:bl wr (((((((w6.setCell ⟨qb,0,E⟩ (O (jn a[k] b[k]).n)).setCell ⟨qb,1,E⟩ (O (jn a[k] b[k]).sp.n)).setCell ⟨qb,2,E⟩ (I Y (jn a[k] b[k]).sp.lo)).setCell ⟨qb,3,E⟩ (I Y (jn a[k] b[k]).sp.hi)).setCell ⟨qb,4,E⟩ (O (jn a[k] b[k]).t)).setCell ⟨qb,5,E⟩ (O (jn a[k] b[k]).f)).setCell ⟨qb,6,E⟩ (U js (jn a[k] b[k]).s.length jc)):=(((((((af.trans (az.mono z5)).setCell lZ _).setCell lZ _).setCell lZ _).setCell lZ _).setCell lZ _).setCell lZ _).setCell lZ _;have cm:=Q5.2;obtain⟨a6,bf⟩:=Lo (w':=(((((((w6.setCell ⟨qb,0,E⟩ (O (jn a[k] b[k]).n)).setCell ⟨qb,1,E⟩ (O (jn a[k] b[k]).sp.n)).setCell ⟨qb,2,E⟩ (I Y (jn a[k] b[k]).sp.lo)).setCell ⟨qb,3,E⟩ (I Y (jn a[k] b[k]).sp.hi)).setCell ⟨qb,4,E⟩ (O (jn a[k] b[k]).t)).setCell ⟨qb,5,E⟩ (O (jn a[k] b[k]).f)).setCell ⟨qb,6,E⟩ (U js (jn a[k] b[k]).s.length jc))) bg a8 (λbb ad=>b5 bb (by have h9:R (M w5.drew)=R (M w5):=rfl;omega)) ca;have ba:R (M wr)<=R (M w5.drew):=z5;clear q0 q1 q2 q3 q4 q5 q6 qz f6 F6 Q6 b5 ca;generalize (((((((w6.setCell _ _).setCell _ _).setCell _ _).setCell _ _).setCell _ _).setCell _ _).setCell _ _)=w7 at *;have S7:=SR.call xF;obtain⟨⟨q0,q1,q2,q3,q4,q5,q6⟩,qz⟩:=id G7;simp only[j7] at q0 q1 q2 q3 q4 q5 q6;have am:n4 (R (M w7)) w7 (w7.alloc (A #[O (jn a[k] b[k]).n,O (jn a[k] b[k]).sp.n,I Y (jn a[k] b[k]).sp.lo,I Y (jn a[k] b[k]).sp.hi,O (jn a[k] b[k]).t,O (jn a[k] b[k]).f,U js (jn a[k] b[k]).s.length jc] 91)):=ai;have S8:=S7.call am;have z17:=lT xA.size xF.size;have GX:cK (λb=>R (M w1)<=b/\(q9 rs (X l) rc).ownBlock≠G b) (w7.alloc (A #[O (jn a[k] b[k]).n,O (jn a[k] b[k]).sp.n,I Y (jn a[k] b[k]).sp.lo,I Y (jn a[k] b[k]).sp.hi,O (jn a[k] b[k]).t,O (jn a[k] b[k]).f,U js (jn a[k] b[k]).s.length jc] 91)) ⟨(jn a[k] b[k]),js,jc⟩:=l8 a6 be bc bf xA.size (λe=>(aU SR.1 e).1) am ba;go_wp2_with (at_builtin;refine bn _ rfl _ _ 25 rfl (R (M w1)) 91 ti (Ag #[O d,O d,I Y 0,I Y 0,O d,O d,U E 0 0]) 7 64 underlying25 hi b3 bx bv rfl an _ _ _ rfl S8.1 (G ⟨R (M w7),0,E⟩) 1 1 (bJ ⟨(jn a[k] b[k]),js,jc⟩) rfl rfl (λh=>bU) ?qa2 (eE _) ?qa4 ?qa5 ?qa6 ?_);(try (case qa2=>exact rG w7 ⟨(jn a[k] b[k]),js,jc⟩ #[O (jn a[k] b[k]).n,O (jn a[k] b[k]).sp.n,I Y (jn a[k] b[k]).sp.lo,I Y (jn a[k] b[k]).sp.hi,O (jn a[k] b[k]).t,O (jn a[k] b[k]).f,U js (jn a[k] b[k]).s.length jc] _ rfl))
    case qa4=>unfold maxLen;have:=LL.out;omega
    case qa5=>have:=LL.out;omega
    (try (case qa6=>first|omega|(rw[zA];omega)|(simp;omega)|simp));intro v' w9 ah xJ xY;have S9:=S8.grown (x:=⟨(jn a[k] b[k]),js,jc⟩) GX ah xJ iB;have bm:=R8;obtain⟨a5,a7,rfl,-,-,-⟩:=S9.in;clear ah xJ xY S8 S7 GX q0 q1 q2 q3 q4 q5 q6 qz am;go_wp2;go_roundw
    case rel=>exact⟨k+1,a5,a7,l++[⟨(jn a[k] b[k]),js,jc⟩],aa,aJ,sZ,bm,S9,by show _=_;rw[z6,HE.out,mq _ a b k a4 ak];rfl⟩
    case measure=>exact aK
   .have ES:Hid ((jn a[k] b[k])=a[k]):=by
     show _=_;rw[<-sameGs_iff.1 cs.out];exact cc.out _ a2
    obtain⟨⟨q0,q1,q2,q3,q4,q5,q6⟩,qz⟩:=id Q5;simp only[j7] at q0 q1 q2 q3 q4 q5 q6;have c0:=dJ (dY y a2).2 (dY y a2).1;go_wp2_with fail;go_call ct.out ap g1 a[k].s _ aa I5 as e w6 ⟨⟨js,jc,rfl,bg,be,bc,a8⟩,ay⟩;clear q0 q1 q2 q3 q4 q5 q6 qz;have Q6:=Q5.call ay;obtain⟨⟨q0,q1,q2,q3,q4,q5,q6⟩,qz⟩:=id Q6;simp only[j7] at q0 q1 q2 q3 q4 q5 q6;have f6:w6.frozen? ⟨qb,6,E⟩=false:=by rw[ay.frozen (by simp only;exact Q5.2)];exact F5 6
    have G7:=Q6.put6 (js:=js) (jc:=jc);have xF:bl wr (w6.setCell ⟨qb,6,E⟩ (U js a[k].s.length jc)):=(af.trans (ay.mono z5)).setCell lZ _;have cm:=Q5.2;obtain⟨a6,bf⟩:=Lo (w':=(w6.setCell ⟨qb,6,E⟩ (U js a[k].s.length jc))) bg a8 (λbb ad=>hSe _ _ _ _ aw) bI;have ba:R (M wr)<=R (M w5):=z5;go_upto_region 8 with fail
    clear q0 q1 q2 q3 q4 q5 q6 qz f6;generalize w6.setCell _ _=w7 at *;have S7:=SR.call xF;obtain⟨⟨q0,q1,q2,q3,q4,q5,q6⟩,qz⟩:=id G7;simp only[j7] at q0 q1 q2 q3 q4 q5 q6;have am:n4 (R (M w7)) w7 (w7.alloc (A #[O a[k].n,O a[k].sp.n,I Y a[k].sp.lo,I Y a[k].sp.hi,O a[k].t,O a[k].f,U js a[k].s.length jc] 91)):=ai;have S8:=S7.call am;have z17:=lT xA.size xF.size;have GX:cK (λb=>R (M w1)<=b/\(q9 rs (X l) rc).ownBlock≠G b) (w7.alloc (A #[O a[k].n,O a[k].sp.n,I Y a[k].sp.lo,I Y a[k].sp.hi,O a[k].t,O a[k].f,U js a[k].s.length jc] 91)) ⟨a[k],js,jc⟩:=l8 a6 be bc bf xA.size (λe=>(aU SR.1 e).1) am ba;go_wp2_with (at_builtin;refine bn _ rfl _ _ 25 rfl (R (M w1)) 91 ti (Ag #[O d,O d,I Y 0,I Y 0,O d,O d,U E 0 0]) 7 64 underlying25 hi b3 bx bv rfl an _ _ _ rfl S8.1 (G ⟨R (M w7),0,E⟩) 1 1 (bJ ⟨a[k],js,jc⟩) rfl rfl (λh=>bU) ?qa2 (eE _) ?qa4 ?qa5 ?qa6 ?_);(try (case qa2=>exact rG w7 ⟨a[k],js,jc⟩ #[O a[k].n,O a[k].sp.n,I Y a[k].sp.lo,I Y a[k].sp.hi,O a[k].t,O a[k].f,U js a[k].s.length jc] _ rfl))
    case qa4=>unfold maxLen;have:=LL.out;omega
    case qa5=>have:=LL.out;omega
    (try (case qa6=>first|omega|(rw[zA];omega)|(simp;omega)|simp));intro v' w9 ah xJ xY;have S9:=S8.grown (x:=⟨a[k],js,jc⟩) GX ah xJ iB;have bm:=R8;obtain⟨a5,a7,rfl,-,-,-⟩:=S9.in;clear ah xJ xY S8 S7 GX q0 q1 q2 q3 q4 q5 q6 qz am;go_wp2;go_roundw
    case rel=>exact⟨k+1,a5,a7,l++[⟨a[k],js,jc⟩],aa,aJ,sZ,bm,S9,by show _=_;rw[z6,HE.out,mq _ a b k a4 ak];rw[ES.out];rfl⟩
    case measure=>exact aK
  .have n1:=wf
   have cb:a.take k=a:=q7 aa;have b7:b.take k=b:=q7 sX;have cr:Hid (l.map Gc.g=aX jn a b):=by show _=_;rw[HE.out,cb,b7]
   clear HE cb b7;go_wp2;go_ret;exact⟨⟨rs,rc,l,rfl,cr,⟨fP SR.1 b6,λx m=>⟨(SR.2 x m).1.mono λb W _=>⟨lT b6 W.1,W.2⟩,(SR.2 x m).2⟩⟩⟩,LR⟩
end
section
open Go.RowKit
attribute [local go_sem ↓] Go.wp_at_zero Go.wp_at_succ
def nW(xf:Nat)(xk:oA)(xi:Nat)(y:Pic)(xq:oA)(xm:Nat)(xr:oA)(xo:Nat)(w:C)(b:a2r w s c)(m:a4r w x xh xk)(D:X x.vq<=xf/\xf<=maxLen)(o:X x.fq<=xi/\xi<=maxLen)(i:a4r w y xq xr)(W:X y.vq<=xm/\xm<=maxLen)(k:X y.fq<=xo/\xo<=maxLen):
  Calls f 51 #[pv V F s c cap,xv x xh xf xk xi,xv y xq xm xr xo] w λe w'=>e=Rt (O (if aF V F c [x,y]=0 then bu x y else d))/\bl w w':=by
 have B0:=wZ;have g:=ag (a3a V F s c cap x xh xf xk xi y xq xm xr xo _ (b.below B0 (lR _)) (m.below B0 (lR _)) D o (i.below B0 (lR _)) W k);clear b m i D o W k;generalize (if aF V F c [x,y]=0 then bu x y else d)=r at *;go_enter func51,ntmps51;go_wp2_with fail;go_call g.out as e l ⟨rfl,vZ⟩;go_wp2;go_ret;exact wT
def hU (V F:Int)(c:lI):List Pic->Int
 |[]=>0
 |x::r=>if aF V F c [x]=0 then hU V F c r else aF V F c [x]
def TZ {V F:Int}{c:lI}{L:List Pic}{k:Nat}(h:k < X L):hU V F c (L.drop k)=if aF V F c [L[k]]=0 then hU V F c (L.drop (k+1)) else aF V F c [L[k]]:=by
 rw[x7 h];rfl
def Mm(L:List Pic)(lc:Nat)(w:C)(z:a2r w s c)(g:a8k w ls L)(H:X L<=maxLen)(ar:X c<=60):
  Calls f 50 #[pv V F s c cap,U ls (X L) lc] w λe w'=>e=Rt (I Y (if X L=X c+1 then hU V F c L else 1))/\bl w w':=by
 have m:=iT;have P0:=nz;have B0:=mY;have am:=ag λwx x vs vc fs fc (l:a2r wx s c) (t:a4r wx x vs fs) (q3:X x.vq<=vc/\vc<=maxLen) (q4:X x.fq<=fc/\fc<=maxLen)=>uW V F s c cap x vs vc fs fc wx l t q3 q4;have C0:=z.below B0 (lR _);have X0:=g.below B0 (lR _);clear z g;obtain⟨⟨p0,p1,W⟩,pz⟩:=id P0;by_cases T:X L=X c+1;rotate_left
 .have K:((X L:Int)!=(X c:Int)+1)=true:=by simpa using λh=>T aa
  rw[if_neg T];clear T;have w1:IntKind.i64.wrap ((X c:Int)+1)=(X c:Int)+1:=pt;go_enter func50,ntmps50;go_wp2;go_ret;exact⟨rfl,B0⟩
 have K:((X L:Int)!=(X c:Int)+1)=false:=by rw[T];simp
 rw[if_pos T];clear T;have w1:IntKind.i64.wrap ((X c:Int)+1)=(X c:Int)+1:=pt;go_enter func50,ntmps50;go_upto_region 1 with fail
 generalize w.alloc _=w0 at *;go_wp2;clear p0 p1 W pz K;go_loopw [17] (λi wr=>∃k:Nat,k<=X L/\i=I Y k/\Hid (hU V F c (L.drop k)=hU V F c L)/\bl w0 wr) (λi _=>X L - (intOf i).toNat)
 case atStart=>exact⟨0,j6 _,rfl,rfl,bR _ _⟩
 case round=>
  obtain⟨k,o,rfl,HE,ab⟩:=hrel;have P1:=P0.call ab;have C1:=C0.call ab;by_cases D:k < X L
  .have n0:=cQ
   have n1:=il;obtain⟨b,ax,rfl,zb,vs,vc,fs,fc,⟨q0,l,t⟩,j,al,ap⟩:=X0.below ab (lR _) k D;have ad:=PN;obtain⟨⟨p0,p1,W⟩,pz⟩:=id P1;go_wp2_with fail;go_call am.out _ L[k] vs vc fs fc (C1.call ad) (j.call ad) al ap as e w2 ⟨rfl,af⟩;have ah:=ad.trans (af.mono ad.size);have ak:=ab.trans (ah.mono ab.size);have ao:=B0.trans (ak.mono B0.size);have HD:=ag (TZ (V:=V) (F:=F) (c:=c) D);generalize aF V F c [L[k]]=r at *;clear p0 p1 W pz q0 l t j ad af ah;by_cases y:r=0
   .have f1:(r !=0)=false:=by simpa using y
    have HR:=ag y;clear y;go_wp2;go_roundw
    case rel=>exact⟨k+1,aa,aJ,by show _=_;rw[<-HE.out,HD.out,if_pos HR.out],ak⟩
    case measure=>exact aK
   .have f1:(r !=0)=true:=by simpa using y
    have HR:=ag y;clear y;go_wp2;go_ret;exact⟨bE (by rw[<-HE.out,HD.out,if_neg HR.out]),ao⟩
  .have n1:=Ee
   go_wp2;go_ret;exact⟨bE (by rw[<-HE.out,x4 (by omega)];rfl),B0.trans (ab.mono B0.size)⟩
def rJ {V F:Int}{c:lI}{i:Ins}{at_:Int}(x:Pic)(vs:oA)(vc:Nat)(fs:oA)(fc:Nat)(w:C)(m:a4r w x vs fs)(K:a7l V F c x vc fc i at_):
  Calls f 29 #[xv x vs vc fs fc] w λe w'=>a2j (R (M w)) w' e x/\bl w w':=by
 have h:=K.lens;have j:=K.kx;have hs:∀{g:Gs},aH c g=0->X g.s<=17592186043904:=λb=>by
  have:=dJ (ckGs_iff.1 b).2.2 (dY h.2.1 b).1;omega
 obtain⟨T,l,r⟩:=x;exact pS T l r vs vc fs fc w m (by simp only at h;omega) (by simp only at h;omega) (λk o=>by have:=j.row k o;simp only at this;omega) (λg b=>hs (j.gv g b)) (λk o g b=>hs (j.gf k o g b))
structure a8x (T:Nat->Prop) (V F:Int) (s:oA) (c:lI) (cap:Nat) (at_:Int) (i:Ins) (x:Pic) (vs:oA) (vc:Nat) (fs:oA) (fc:Nat) (w wp:World) (ib yb ob ab bb tb:Nat) (wY:World) (v:Ro) (gs:oA) (gc:Nat) (L:List Ro) (ga:Gs) (sa:oA) (ca:Nat) (gb:Gs) (sb:oA) (cb:Nat):Prop where
 low:bl w wp
 prg:sT wp w.heap.size [I Y V,I Y F,U s c.length cap]
 pic:sT wp (w.heap.size+1) [O false,U vs x.vq.length vc,U fs x.fq.length fc]
 ins:sT wp ib [I Y i.k,I Y i.tgt,I Y i.a,I Y i.b,I Y i.n,I Y i.g]
 y:sT wp yb [O false,U v.rs v.l.length v.rc,U gs L.length gc]
 on:sT wp ob [I Y (at_+1),O false,U v.rs v.l.length v.rc,U gs L.length gc]
 va:sT wp ab [O ga.n,O ga.sp.n,I Y ga.sp.lo,I Y ga.sp.hi,O ga.t,O ga.f,U sa ga.s.length ca]
 vb:sT wp bb [O gb.n,O gb.sp.n,I Y gb.sp.lo,I Y gb.sp.hi,O gb.t,O gb.f,U sb gb.s.length cb]
 tg:sT wp tb [O false,O true,I Y 0,I Y 0,O false,O false,U E 0 0]
 ga:a7c T w sa ga.s/\ga.s.length<=ca/\ca<=maxLen
 gb:a7c T w sb gb.s/\gb.s.length<=cb/\cb<=maxLen
 own:a7e (λb=>w.heap.size<=b) (w.heap.size+1+1+1) wY v gs gc L
 yw:bl wY wp
 yb:yb=wY.heap.size
 pv:x=bh false v L
 ord:ib=w.heap.size+1+1/\w.heap.size+1+1+1<=wY.heap.size/\wY.heap.size < ob/\ob < ab/\ab < bb/\bb < tb
section
variable {S T':Nat->Prop} {w:World} {ob B:Nat} {to_:Int} {v:Ro} {gs:oA} {gc:Nat} {L:List Ro} {x':Pic}
def mI (e:sT w ob [I Y to_,O d,U v.rs (X v.l) v.rc,U gs (X L) gc])(c:S ob)(j:a7e T' B w v gs gc L)(k:∀b,T' b->S b)(g:∀b,B<=b->S b)(m:x'=bh d v L):a8e S w (G ⟨ob,0,E⟩) [⟨to_,x'⟩]:=by
 intro i hi;have r:i=0:=Bs;subst r;subst m;have t:X (bh d v L).vq=X v.l:=by simp[bh,roG]
 have s:X (bh d v L).fq=X L:=by simp[bh]
 refine⟨ob,0,rfl,c,e.2.1,v.rs,v.rc,gs,gc,?_,(j.on d).mono λb W _=>W.elim (k b) (g b),j.vcap d,j.fcap' d⟩;simp only[List.getElem_cons_zero,t,s,Nat.zero_mul,Nat.add_zero,j7];exact⟨e.1 0 _ rfl,e.1 1 _ rfl,e.1 2 _ rfl,e.1 3 _ rfl⟩
end
def a4B{n B:Nat}{i wx:C}{v:Ro}{gs:oA}{gc:Nat}{L:List Ro}{y:Gc}(c:a7e (λb=>n<=b) B i v gs gc L)(g:n<=B)(j:n<=R (M i))(h:a7c (λb=>(T b/\b < n)\/R (M i)<=b) wx y.ss y.g.s)(D:X y.g.s<=y.cap)(o:y.cap<=maxLen):cK (λb=>(T b\/n<=b)/\Off v (q9 gs (X L) gc).ownBlock L b) wx y:=by
 refine⟨h.mono λb W _=> ?_,D,o⟩;have m:∀q,roB v=G q->q < R (M i)/\B<=q:=λq hq=>c.vq.lt hq;have l:∀q,(q9 gs (X L) gc).ownBlock=G q->q < R (M i)/\B<=q:=λq hq=>aU c.fq hq;have k:∀r∈L,∀q,roB r=G q->q < R (M i)/\B<=q:=λr s q hq=>(c.rows r s).lt hq;rcases W with⟨W,t⟩|W
 .exact⟨.inl W,λe=>by have:=m b e;omega,λe=>by have:=l b e;omega,λr s e=>by have:=k r s b e;omega⟩
 .exact⟨.inr (lT j W),λe=>by have:=m b e;omega,λe=>by have:=l b e;omega,λr s e=>by have:=k r s b e;omega⟩
def Yl:Nat->Option Code->Option Code
 |0,o=>o
 |n+1,G (.seq _ b)=>Yl n (G b)
 |_+1,_=>E
def SwT (R:Ending->World->Prop)(m:Nat)(w w3 w4 w7 xl wp:World):Prop:=∀(z0 z2 z4:Value) (tl:List Value),X tl=322->∃c,Yl 10 Tryz.f59.body=G c/\c.wp f (bodyPost f Tryz.f59 R) ⟨(z0::I Y (m:Int)::z2::Pp (G ⟨w.heap.size,0,E⟩)::z4::Pp (G ⟨w.heap.size+1,0,E⟩)::U E 0 0::O false::O false::Pp (G ⟨w.heap.size+1+1,0,E⟩)::Pp (G ⟨w3.heap.size,0,E⟩)::U (G ⟨w4.heap.size,0,E⟩) 1 1::Pp (G ⟨w7.heap.size,0,E⟩)::Pp (G ⟨w7.heap.size+1,0,E⟩)::Pp (G ⟨xl.heap.size,0,E⟩)::O false::tl).toArray,[]⟩ wp
def mD (l:List mh)(n:Nat)(h:X l=n):∃u:Nat->mh,l=(j9 n).map u:=⟨λk=>l.getD k (O d),by
 refine List.ext_getElem pm λk D o=> ?_;simp[z8,D]⟩
def kd {R:Ending->C->Prop}{m:Nat}{w w3 l j k g:C}{c:Code}(z:Yl 10 Tryz.f59.body=G c)(h:∀(z0 D z4:mh) (u:Nat->mh),c.wp f (bodyPost f Tryz.f59 R) ⟨(z0::I Y (m:Int)::D::Pp (G ⟨w.heap.size,0,E⟩)::z4::Pp (G ⟨w.heap.size+1,0,E⟩)::U E 0 0::O d::O d::Pp (G ⟨w.heap.size+1+1,0,E⟩)::Pp (G ⟨w3.heap.size,0,E⟩)::U (G ⟨l.heap.size,0,E⟩) 1 1::Pp (G ⟨j.heap.size,0,E⟩)::Pp (G ⟨j.heap.size+1,0,E⟩)::Pp (G ⟨k.heap.size,0,E⟩)::O d::(j9 322).map u).toArray,[]⟩ g):SwT R m w w3 l j k g:=λz0 D z4 b H=>by
 obtain⟨u,rfl⟩:=mD b _ H;exact⟨c,z,h z0 D z4 u⟩
section
variable {P:Program} {Q:Exit->Act->World->Prop} {a:Act} {w:World}
def KQ {o:Option Code}{c:Code}(h:o=G c)(b:∃c,o=G c/\c.wp P Q a w):c.wp P Q a w:=by
 obtain⟨g,e,b⟩:=b;cases h.symm.trans e;exact b
end
def uC(h:p:=by
 have h:=sT.new (w7.alloc (A #[O false,O true,I Y 0,I Y 0,O false,O false,U E 0 0] 91)) 91 [O false,O true,I Y 0,I Y 0,O false,O false,U E 0 0];rw[zA] at h;exact h):=h
def vr(h:p:=by
 have h:=rJ x vs vc fs fc wx ((hx.at).below hb (lR _)) K;rw[jj] at h;refine h.mono ?_;rintro e w' ⟨⟨v,gs,gc,L,h1,h2,h3⟩,h4⟩;rw[hn] at h1 h2;exact⟨⟨v,gs,gc,L,h1,h2,h3⟩,h4⟩):=h
def wX(h:p:=by
 have h:=sT.new (w.alloc (A #[I Y V,I Y F,U s (X c) cap] 24)) 28 [O false,U vs (X x.vq) vc,U fs (X x.fq) fc];rw[zA] at h;exact h):=h
def yk(h:p:=by
 have h1:=xp.size;have h2:=jN.out;have h3:=Z4.out;have h4:=zI.size;have h5:=ql.size;have h6:=O5.2.1;exact⟨aa,aa,aa⟩):=h
def wR(h:p:=by
 show a7e _ _ _ _ _ _ _;rw[<-jN.out];exact PG.mono λb hb _=>by have:=jN.out;omega):=h
section
variable {V F:Int}{s:oA}{c:lI}{cap m:Nat}{i:Ins}{x:Pic}{vs:oA}{vc:Nat}{fs:oA}{fc:Nat}{w:C}(hc:a2r w s c)(hx:a7d T w x vs fs)(K:a7l V F c x vc fc i (m:Int))
def iS(jz:nA i.k=d)(jU:nB i.k=d)(H:∀(w3 w4 w7 xl g:C) (v:Ro) (gs:oA) (gc:Nat) (L:List Ro),Hid (a8x T V F s c cap (m:Int) i x vs vc fs fc w g (R (M w)+1+1) (R (M w3)) (R (M w4)) (R (M w7)) (R (M w7)+1) (R (M xl)) w3 v gs gc L a4q E 0 a4q E 0)->SwT (λe w'=>cC (λb=>T b\/R (M w)<=b) w' e (aD i (m:Int) x)/\bl w w') m w w3 w4 w7 xl g):
  Calls f 59 #[pv V F s c cap,I Y (m:Int),xv x vs vc fs fc] w λe w'=>cC (λb=>T b\/R (M w)<=b) w' e (aD i (m:Int) x)/\bl w w':=by
 have HH:=ag H;clear H;have hn:=K.kx.none;have ba:=K.a1;have hm:=dn;have af:c[m]=i:=Kt;have y:=K.lens.2.1;have jj:=uJ;rw[jj];have a0:Hid (∀wx,bl w wx->Calls f 29 #[Ag #[O d,U vs (X x.vq) vc,U fs (X x.fq) fc]] wx λe w'=>(∃v gs gc L,x=bh d v L/\e=Rt (Ag #[O d,U v.rs (X v.l) v.rc,U gs (X L) gc])/\a7e (λb=>R (M wx)<=b) (R (M wx)) w' v gs gc L)/\bl wx w'):=λwx hb=>by
  exact vr
 have vZ:=EU;have P1:=EK;have X1:sT ((w.alloc (A #[I Y V,I Y F,U s (X c) cap] 24)).alloc (A #[O d,U vs (X x.vq) vc,U fs (X x.fq) fc] 28)) (R (M w)+1) [O d,U vs (X x.vq) vc,U fs (X x.fq) fc]:=by
  exact wX
 have qk:=Ej;obtain⟨a7,co,es,a9,a2⟩:=DF;obtain⟨j0,j1,j2,j3,j4,j5⟩:=a2 m hm;rw[af] at j0 j1 j2 j3 j4 j5;have a8:Hid (s=G ⟨a7,co,E⟩):=es;clear es;have n0:=kk;have a1:Hid (∀wx,Calls f 107 #[I Y i.k] wx λe w'=>e=Rt (O d)/\w'=wx):=λwx=>UZ;have al:=Nb
 skip
 skip
 skip
 skip
 skip
 skip
 clear hc hx K hn jj a2 af;clear jz jU;have bc:=dF;go_enter func59,ntmps59;go_upto_region 3 with fail
 generalize ((w.alloc _).alloc _)=w1 at *;have W:=P1.1 2 _ rfl;rw[a8.out] at W;go_upto_region 4 with fail
 clear W j0 j1 j2 j3 j4 j5;have xj:=E6;have I2:=DJ;have jN:=Dr;rw[qk.out] at I2;rw[qk.out];generalize w1.alloc _=w2 at *;have P2:=P1.call xj;have X2:=X1.call xj;have B2:=lK;obtain⟨x0,x1,x2⟩:=X2.c3;clear P1 X1 vZ xj qk;go_wp2_with fail;go_call a0.out w2 B2 as e w3 ⟨⟨v,gs,gc,L,ax,rfl,PG⟩,xp⟩;have EX:=ag ax;clear ax x0 x1 x2 a0;have z:=tz;go_upto_region 5 with fail
 have xD:=Df;have Y4:=Dv;have Z4:=Ei;generalize w3.alloc _=w4 at *;obtain⟨y0,y1,y2⟩:=Y4.c3;go_upto_region 6 with fail
 clear y0 y1 y2;have xw:=DH;have O5:=Ex;generalize w4.alloc _=w5 at *;go_wp2_with fail;go_call z.out w5 as e w6 ⟨rfl,zI⟩;go_wp2_with fail;go_call z.out w6 as e w7 ⟨rfl,ql⟩;go_upto_region 7 with fail
 have zJ:=Ev;have k:=Da;have E8:sT ((w7.alloc (A #[O d,O W5,I Y 0,I Y 0,O d,O d,U E 0 0] 91)).alloc (A #[O d,O W5,I Y 0,I Y 0,O d,O d,U E 0 0] 91)) (R (M w7)+1) [O d,O W5,I Y 0,I Y 0,O d,O d,U E 0 0]:=by
  exact uC
 generalize (w7.alloc _).alloc _=w8 at *;have qO:=DD;have D:=CY;have ab:=Dj;have O8:=DE;have P8:=P2.call D;have X8:=X2.call D;have I8:=I2.call D;have Y8:=Y4.call qO;have B8:=B2.trans (D.mono B2.size);have r:Hid (R (M w)+1+1+1<=R (M w3)/\R (M w3) < R (M w4)/\R (M w4) < R (M w7)):=by
  exact yk
 have a5:Hid (a7e (λb=>R (M w)<=b) (R (M w)+1+1+1) w3 v gs gc L):=by
  exact wR
 have a4:=ag ab;clear PG xp xD xw zI ql zJ qO D ab P2 X2 I2 Y4 O5 B2 Z4 jN;have i0:=I8.1 0 _ rfl;go_wp2_with fail;go_call a1.out w8 as e wz ⟨rfl,ew⟩;rw[ew];clear ew wz;have A9:=k;have E9:=E8;have P9:=P8;have X9:=X8;have I9:=I8;have Y9:=Y8;have O9:=O8;have B9:=B8;have ay:=a4;clear k E8 P8 X8 I8 Y8 O8 B8 a4;generalize w8=w9 at *;go_wp2_with fail;go_call al.out w9 as e wz ⟨rfl,ew⟩;rw[ew];clear ew wz;have ao:=A9;have ah:=E9;have a3:=P9;have ak:=X9;have ar:=I9;have az:=Y9;have ap:=O9;have ad:=B9;have l:=ay;clear A9 E9 P9 X9 I9 Y9 O9 B9 ay;generalize w9=xM at *;go_wp2_with fail;go_call z.out xM as e xl ⟨rfl,qP⟩;clear i0;go_upto_region 12 with fail
 have Qu:=Dd;have am:=DI;have j:=De;generalize xl.alloc _=g at *;have t:Hid (a8x T V F s c cap (m:Int) i x vs vc fs fc w g (R (M w)+1+1) (R (M w3)) (R (M w4)) (R (M w7)) (R (M w7)+1) (R (M xl)) w3 v gs gc L a4q E 0 a4q E 0):=by
  have o:=r.out;have o2:=ah.2.1;have o3:=qP.size;exact⟨ad.trans (j.mono ad.size),a3.call j,ak.call j,ar.call j,az.call j,ap.call j,ao.call j,ah.call j,am,⟨.inl rfl,lR _,j6 _⟩,⟨.inl rfl,lR _,j6 _⟩,a5.out,l.out.trans (j.mono l.out.size),rfl,EX.out,rfl,aa,aa,aa,aa,aa⟩
 clear ao ad a3 ak ar az ap ah am a5 l qP Qu j EX r z a1 al;refine wp_region_lit ?_;refine tL (O d) ?_;refine sm ?_;refine wpList_nil ?_;rename_i K9 hK9;refine hK9 _ _ (KQ rfl (HH.out w3 w4 w7 xl g v gs gc L t _ _ _ _ bL))
def mg(jz:nA i.k=W5)(jU:nB i.k=d)(H:∀(w3 w4 w7 xl g:C) (v:Ro) (gs:oA) (gc:Nat) (L:List Ro) (ka:Nat) (z:oA) (r:Nat) (k:ka < X x.vq) (_:i.a=(ka:Int)),Hid (a8x T V F s c cap (m:Int) i x vs vc fs fc w g (R (M w)+1+1) (R (M w3)) (R (M w4)) (R (M w7)) (R (M w7)+1) (R (M xl)) w3 v gs gc L x.vq[ka] z r a4q E 0)->SwT (λe w'=>cC (λb=>T b\/R (M w)<=b) w' e (aD i (m:Int) x)/\bl w w') m w w3 w4 w7 xl g):
  Calls pG 59 #[pv V F s c cap,I Y (m:Int),xv x vs vc fs fc] w λe w'=>cC (λb=>T b\/R (M w)<=b) w' e (aD i (m:Int) x)/\bl w w':=by
 have HH:=ag H;clear H;have hn:=K.kx.none;have b5:=K.a1;have hm:=dn;have ao:c[m]=i:=Kt;have y:=K.lens.2.1;have ar:=ag hx.in;have jj:=uJ;rw[jj];have a9:Hid (∀wx,bl w wx->Calls pG 29 #[Ag #[O d,U vs (X x.vq) vc,U fs (X x.fq) fc]] wx λe w'=>(∃v gs gc L,x=bh d v L/\e=Rt (Ag #[O d,U v.rs (X v.l) v.rc,U gs (X L) gc])/\a7e (λb=>R (M wx)<=b) (R (M wx)) w' v gs gc L)/\bl wx w'):=λwx hb=>by
  exact vr
 have vZ:=EU;have P1:=EK;have X1:sT ((w.alloc (A #[I Y V,I Y F,U s (X c) cap] 24)).alloc (A #[O d,U vs (X x.vq) vc,U fs (X x.fq) fc] 28)) (R (M w)+1) [O d,U vs (X x.vq) vc,U fs (X x.fq) fc]:=by
  exact wX
 have qk:=Ej;obtain⟨b0,co,es,b3,bb⟩:=DF;obtain⟨j0,j1,j2,j3,j4,j5⟩:=bb m hm;rw[ao] at j0 j1 j2 j3 j4 j5;have b1:Hid (s=G ⟨b0,co,E⟩):=es;clear es;have n0:=kk;have ba:=NL;have ay:=Nb;obtain⟨ka,xR,k⟩:=K.varA jz;have al:=fI
 skip
 skip
 clear xR
 skip
 clear hc hx K hn jj bb ao;clear jz jU;have ca:=dF;go_enter func59,ntmps59;go_upto_region 3 with fail
 generalize ((w.alloc _).alloc _)=w1 at *;have W:=P1.1 2 _ rfl;rw[b1.out] at W;go_upto_region 4 with fail
 clear W j0 j1 j2 j3 j4 j5;have xj:=E6;have I2:=DJ;have jN:=Dr;rw[qk.out] at I2;rw[qk.out];generalize w1.alloc _=w2 at *;have P2:=P1.call xj;have X2:=X1.call xj;have B2:=lK;obtain⟨x0,x1,x2⟩:=X2.c3;clear P1 X1 vZ xj qk;go_wp2_with fail;go_call a9.out w2 B2 as e w3 ⟨⟨v,gs,gc,L,a6,rfl,PG⟩,xp⟩;have EX:=ag a6;clear a6 x0 x1 x2 a9;have af:=tz;go_upto_region 5 with fail
 have xD:=Df;have Y4:=Dv;have Z4:=Ei;generalize w3.alloc _=w4 at *;obtain⟨y0,y1,y2⟩:=Y4.c3;go_upto_region 6 with fail
 clear y0 y1 y2;have xw:=DH;have O5:=Ex;generalize w4.alloc _=w5 at *;go_wp2_with fail;go_call af.out w5 as e w6 ⟨rfl,zI⟩;go_wp2_with fail;go_call af.out w6 as e w7 ⟨rfl,ql⟩;go_upto_region 7 with fail
 have zJ:=Ev;have A8:=Da;have E8:sT ((w7.alloc (A #[O d,O W5,I Y 0,I Y 0,O d,O d,U E 0 0] 91)).alloc (A #[O d,O W5,I Y 0,I Y 0,O d,O d,U E 0 0] 91)) (R (M w7)+1) [O d,O W5,I Y 0,I Y 0,O d,O d,U E 0 0]:=by
  exact uC
 generalize (w7.alloc _).alloc _=w8 at *;have qO:=DD;have D:=CY;have ak:=Dj;have O8:=DE;have P8:=P2.call D;have X8:=X2.call D;have I8:=I2.call D;have Y8:=Y4.call qO;have B8:=B2.trans (D.mono B2.size);have ab:Hid (R (M w)+1+1+1<=R (M w3)/\R (M w3) < R (M w4)/\R (M w4) < R (M w7)):=by
  exact yk
 have bf:Hid (a7e (λb=>R (M w)<=b) (R (M w)+1+1+1) w3 v gs gc L):=by
  exact wR
 have be:=ag ak;clear PG xp xD xw zI ql zJ qO D ak P2 X2 I2 Y4 O5 B2 Z4 jN;have i0:=I8.1 0 _ rfl;go_wp2_with fail;go_call ba.out w8 as e wz ⟨rfl,ew⟩;rw[ew];clear ew wz i0;have x1:=X8.1 1 _ rfl;have i2:=I8.1 2 _ rfl;rw[al.out] at i2;obtain⟨b4,b7,xR,b8,z,r,bm,a1,a4,az⟩:=ar.out.1 ka k;rw[xR] at x1;clear xR;obtain⟨⟨u0,u1,u2,u3,u4,u5,u6⟩,uz⟩:=bm.below B8 (lR _);have r0:=A8.1 0 _ rfl;have bv:=A8.2.2 0;have r1:=A8.1 1 _ rfl;have bx:=A8.2.2 1;have r2:=A8.1 2 _ rfl;have bz:=A8.2.2 2;have r3:=A8.1 3 _ rfl;have bg:=A8.2.2 3;have r4:=A8.1 4 _ rfl;have b2:=A8.2.2 4;have r5:=A8.1 5 _ rfl;have bt:=A8.2.2 5;have r6:=A8.1 6 _ rfl;have bs:=A8.2.2 6;have q0:=lE;have l:=Du;go_upto_region 9 with fail
 clear r0 bv r1 bx r2 bz r3 bg r4 b2 r5 bt r6 bs;obtain⟨w9,ah⟩:∃q,q=bd w8 (R (M w7)) 0 [O x.vq[ka].n,O x.vq[ka].sp.n,I Y x.vq[ka].sp.lo,I Y x.vq[ka].sp.hi,O x.vq[ka].t,O x.vq[ka].f,U z (X x.vq[ka].s) r]:=⟨_,rfl⟩;have PU:=bC A8 0 _ ah;simp only[bd] at ah;rw[<-ah];clear ah;have A9:=PU.cells;have o1:=ab.out;have P9:=PU.keep P8;have X9:=PU.keep X8;have I9:=PU.keep I8;have Y9:=PU.keep Y8;have O9:=PU.keep O8;have E9:=PU.keep E8;have B9:=PU.low aa B8;have a7:=ag (PU.low aa be.out);clear A8 E8 P8 X8 I8 Y8 O8 B8 be o1 x1 i2 u0 u1 u2 u3 u4 u5 u6 q0 l PU;have i0:=I9.1 0 _ rfl;go_wp2_with fail;go_call ay.out w9 as e wz ⟨rfl,ew⟩;rw[ew];clear ew wz;have a2:=A9;have ap:=E9;have bc:=P9;have ax:=X9;have a5:=I9;have a8:=Y9;have a3:=O9;have am:=B9;have ad:=a7;clear A9 E9 P9 X9 I9 Y9 O9 B9 a7;generalize w9=xM at *;go_wp2_with fail;go_call af.out xM as e xl ⟨rfl,qP⟩;clear i0;go_upto_region 12 with fail
 have Qu:=Dd;have a0:=DI;have j:=De;generalize xl.alloc _=g at *;have SP:Hid (a8x T V F s c cap (m:Int) i x vs vc fs fc w g (R (M w)+1+1) (R (M w3)) (R (M w4)) (R (M w7)) (R (M w7)+1) (R (M xl)) w3 v gs gc L x.vq[ka] z r a4q E 0):=by
  have o:=ab.out;have o2:=ap.2.1;have o3:=qP.size;exact⟨am.trans (j.mono am.size),bc.call j,ax.call j,a5.call j,a8.call j,a3.call j,a2.call j,ap.call j,a0,⟨a1,a4,az⟩,⟨.inl rfl,lR _,j6 _⟩,bf.out,ad.out.trans (j.mono ad.out.size),rfl,EX.out,rfl,aa,aa,aa,aa,aa⟩
 clear a2 am bc ax a5 a8 a3 ap a0 bf ad qP Qu j EX ab af ba ay ar;refine wp_region_lit ?_;refine tL (O d) ?_;refine sm ?_;refine wpList_nil ?_;rename_i K9 hK9;refine hK9 _ _ (KQ rfl (HH.out w3 w4 w7 xl g v gs gc L ka z r k al.out SP _ _ _ _ bL))
def Iv(jz:nA i.k=W5)(jU:nB i.k=W5)(H:∀(w3 w4 w7 xl g:C) (v:Ro) (gs:oA) (gc:Nat) (L:List Ro) (ka:Nat) (z:oA) (r:Nat) (k:ka < X x.vq) (_:i.a=(ka:Int)) (kb:Nat) (D:oA) (ad:Nat) (al:kb < X x.vq) (_:i.b=(kb:Int)),Hid (a8x T V F s c cap (m:Int) i x vs vc fs fc w g (R (M w)+1+1) (R (M w3)) (R (M w4)) (R (M w7)) (R (M w7)+1) (R (M xl)) w3 v gs gc L x.vq[ka] z r x.vq[kb] D ad)->SwT (λe w'=>cC (λb=>T b\/R (M w)<=b) w' e (aD i (m:Int) x)/\bl w w') m w w3 w4 w7 xl g):
  Calls pG 59 #[pv V F s c cap,I Y (m:Int),xv x vs vc fs fc] w λe w'=>cC (λb=>T b\/R (M w)<=b) w' e (aD i (m:Int) x)/\bl w w':=by
 have HH:=ag H;clear H;have hn:=K.kx.none;have cm:=K.a1;have hm:=dn;have a8:c[m]=i:=Kt;have y:=K.lens.2.1;have az:=ag hx.in;have jj:=uJ;rw[jj];have b1:Hid (∀wx,bl w wx->Calls pG 29 #[Ag #[O d,U vs (X x.vq) vc,U fs (X x.fq) fc]] wx λe w'=>(∃v gs gc L,x=bh d v L/\e=Rt (Ag #[O d,U v.rs (X v.l) v.rc,U gs (X L) gc])/\a7e (λb=>R (M wx)<=b) (R (M wx)) w' v gs gc L)/\bl wx w'):=λwx hb=>by
  exact vr
 have vZ:=EU;have P1:=EK;have X1:sT ((w.alloc (A #[I Y V,I Y F,U s (X c) cap] 24)).alloc (A #[O d,U vs (X x.vq) vc,U fs (X x.fq) fc] 28)) (R (M w)+1) [O d,U vs (X x.vq) vc,U fs (X x.fq) fc]:=by
  exact wX
 have qk:=Ej;obtain⟨cc,co,es,cf,b4⟩:=DF;obtain⟨j0,j1,j2,j3,j4,j5⟩:=b4 m hm;rw[a8] at j0 j1 j2 j3 j4 j5;have ce:Hid (s=G ⟨cc,co,E⟩):=es;clear es;have n0:=kk;have b3:=NL;have bb:Hid (∀wx,Calls pG 108 #[I Y i.k] wx λe w'=>e=Rt (O W5)/\w'=wx):=λwx=>Vh;obtain⟨ka,xR,k⟩:=K.varA jz;have ax:=fI;obtain⟨kb,ak,al⟩:=K.varB jU;have ay:=ag ak;clear xR;clear ak;clear hc hx K hn jj b4 a8;clear jz jU;have cz:=dF;go_enter func59,ntmps59;go_upto_region 3 with fail
 generalize ((w.alloc _).alloc _)=w1 at *;have W:=P1.1 2 _ rfl;rw[ce.out] at W;go_upto_region 4 with fail
 clear W j0 j1 j2 j3 j4 j5;have xj:=E6;have I2:=DJ;have jN:=Dr;rw[qk.out] at I2;rw[qk.out];generalize w1.alloc _=w2 at *;have P2:=P1.call xj;have X2:=X1.call xj;have B2:=lK;obtain⟨x0,x1,x2⟩:=X2.c3;clear P1 X1 vZ xj qk;go_wp2_with fail;go_call b1.out w2 B2 as e w3 ⟨⟨v,gs,gc,L,bx,rfl,PG⟩,xp⟩;have EX:=ag bx;clear bx x0 x1 x2 b1;have ao:=tz;go_upto_region 5 with fail
 have xD:=Df;have Y4:=Dv;have Z4:=Ei;generalize w3.alloc _=w4 at *;obtain⟨y0,y1,y2⟩:=Y4.c3;go_upto_region 6 with fail
 clear y0 y1 y2;have xw:=DH;have O5:=Ex;generalize w4.alloc _=w5 at *;go_wp2_with fail;go_call ao.out w5 as e w6 ⟨rfl,zI⟩;go_wp2_with fail;go_call ao.out w6 as e w7 ⟨rfl,ql⟩;go_upto_region 7 with fail
 have zJ:=Ev;have A8:=Da;have E8:sT ((w7.alloc (A #[O d,O W5,I Y 0,I Y 0,O d,O d,U E 0 0] 91)).alloc (A #[O d,O W5,I Y 0,I Y 0,O d,O d,U E 0 0] 91)) (R (M w7)+1) [O d,O W5,I Y 0,I Y 0,O d,O d,U E 0 0]:=by
  exact uC
 generalize (w7.alloc _).alloc _=w8 at *;have qO:=DD;have ab:=CY;have ar:=Dj;have O8:=DE;have P8:=P2.call ab;have X8:=X2.call ab;have I8:=I2.call ab;have Y8:=Y4.call qO;have B8:=B2.trans (ab.mono B2.size);have af:Hid (R (M w)+1+1+1<=R (M w3)/\R (M w3) < R (M w4)/\R (M w4) < R (M w7)):=by
  exact yk
 have b8:Hid (a7e (λb=>R (M w)<=b) (R (M w)+1+1+1) w3 v gs gc L):=by
  exact wR
 have b7:=ag ar;clear PG xp xD xw zI ql zJ qO ab ar P2 X2 I2 Y4 O5 B2 Z4 jN;have i0:=I8.1 0 _ rfl;go_wp2_with fail;go_call b3.out w8 as e wz ⟨rfl,ew⟩;rw[ew];clear ew wz i0;have x1:=X8.1 1 _ rfl;have i2:=I8.1 2 _ rfl;rw[ax.out] at i2;obtain⟨cg,cr,xR,cv,z,r,ca,bf,bt,bc⟩:=az.out.1 ka k;rw[xR] at x1;clear xR;obtain⟨⟨u0,u1,u2,u3,u4,u5,u6⟩,uz⟩:=ca.below B8 (lR _);have r0:=A8.1 0 _ rfl;have a3:=A8.2.2 0;have r1:=A8.1 1 _ rfl;have a5:=A8.2.2 1;have r2:=A8.1 2 _ rfl;have a6:=A8.2.2 2;have r3:=A8.1 3 _ rfl;have a0:=A8.2.2 3;have r4:=A8.1 4 _ rfl;have a7:=A8.2.2 4;have r5:=A8.1 5 _ rfl;have a2:=A8.2.2 5;have r6:=A8.1 6 _ rfl;have a1:=A8.2.2 6;have q0:=lE;have l:=Du;go_upto_region 9 with fail
 clear r0 a3 r1 a5 r2 a6 r3 a0 r4 a7 r5 a2 r6 a1;obtain⟨w9,ap⟩:∃q,q=bd w8 (R (M w7)) 0 [O x.vq[ka].n,O x.vq[ka].sp.n,I Y x.vq[ka].sp.lo,I Y x.vq[ka].sp.hi,O x.vq[ka].t,O x.vq[ka].f,U z (X x.vq[ka].s) r]:=⟨_,rfl⟩;have PU:=bC A8 0 _ ap;simp only[bd] at ap;rw[<-ap];clear ap;have A9:=PU.cells;have o1:=af.out;have P9:=PU.keep P8;have X9:=PU.keep X8;have I9:=PU.keep I8;have Y9:=PU.keep Y8;have O9:=PU.keep O8;have E9:=PU.keep E8;have B9:=PU.low aa B8;have bz:=ag (PU.low aa b7.out);clear A8 E8 P8 X8 I8 Y8 O8 B8 b7 o1 x1 i2 u0 u1 u2 u3 u4 u5 u6 q0 l PU;have i0:=I9.1 0 _ rfl;go_wp2_with fail;go_call bb.out w9 as e wz ⟨rfl,ew⟩;rw[ew];clear ew wz;have x1:=X9.1 1 _ rfl;have i3:=I9.1 3 _ rfl;rw[ay.out] at i3;obtain⟨ch,ct,ak,cl,D,ad,cb,b2,bg,b6⟩:=az.out.1 kb al;rw[ak] at x1;clear ak;obtain⟨⟨u0,u1,u2,u3,u4,u5,u6⟩,uz⟩:=cb.below B9 (lR _);have r0:=E9.1 0 _ rfl;have a3:=E9.2.2 0;have r1:=E9.1 1 _ rfl;have a5:=E9.2.2 1;have r2:=E9.1 2 _ rfl;have a6:=E9.2.2 2;have r3:=E9.1 3 _ rfl;have a0:=E9.2.2 3;have r4:=E9.1 4 _ rfl;have a7:=E9.2.2 4;have r5:=E9.1 5 _ rfl;have a2:=E9.2.2 5;have r6:=E9.1 6 _ rfl;have a1:=E9.2.2 6;have q0:(0:Int)<=(kb:Int):=aa;have l:=Fd;go_upto_region 11 with fail
 clear r0 a3 r1 a5 r2 a6 r3 a0 r4 a7 r5 a2 r6 a1;obtain⟨xM,ah⟩:∃q,q=bd w9 ((R (M w7)+1)) 0 [O x.vq[kb].n,O x.vq[kb].sp.n,I Y x.vq[kb].sp.lo,I Y x.vq[kb].sp.hi,O x.vq[kb].t,O x.vq[kb].f,U D (X x.vq[kb].s) ad]:=⟨_,rfl⟩;have PU:=bC E9 0 _ ah;simp only[bd] at ah;rw[<-ah];clear ah;have a9:=PU.cells;have o1:=af.out;have b5:=PU.keep P9;have ba:=PU.keep X9;have bv:=PU.keep I9;have b0:=PU.keep Y9;have bs:=PU.keep O9;have bm:=PU.keep A9;have a4:=PU.low aa B9;have am:=ag (PU.low aa bz.out);clear A9 E9 P9 X9 I9 Y9 O9 B9 bz o1 x1 i3 u0 u1 u2 u3 u4 u5 u6 q0 l PU;go_wp2_with fail;go_call ao.out xM as e xl ⟨rfl,qP⟩;clear i0;go_upto_region 12 with fail
 have Qu:=Dd;have be:=DI;have j:=De;generalize xl.alloc _=g at *;have SP:Hid (a8x T V F s c cap (m:Int) i x vs vc fs fc w g (R (M w)+1+1) (R (M w3)) (R (M w4)) (R (M w7)) (R (M w7)+1) (R (M xl)) w3 v gs gc L x.vq[ka] z r x.vq[kb] D ad):=by
  have o:=af.out;have o2:=a9.2.1;have o3:=qP.size;exact⟨a4.trans (j.mono a4.size),b5.call j,ba.call j,bv.call j,b0.call j,bs.call j,bm.call j,a9.call j,be,⟨bf,bt,bc⟩,⟨b2,bg,b6⟩,b8.out,am.out.trans (j.mono am.out.size),rfl,EX.out,rfl,aa,aa,aa,aa,aa⟩
 clear bm a4 b5 ba bv b0 bs a9 be b8 am qP Qu j EX af ao b3 bb az;refine wp_region_lit ?_;refine tL (O d) ?_;refine sm ?_;refine wpList_nil ?_;rename_i K9 hK9;refine hK9 _ _ (KQ rfl (HH.out w3 w4 w7 xl g v gs gc L ka z r k ax.out kb D ad al ay.out SP _ _ _ _ bL))
end
section
variable {V F:Int}{s:oA}{c:lI}{cap m:Nat}{i:Ins}{x:Pic}{vs:oA}{vc:Nat}{fs:oA}{fc:Nat}{w w3 l j k g:C}{v:Ro}{gs:oA}{gc:Nat}{L:List Ro}
def a2D(hx:a7d T w x vs fs)(K:a7l V F c x vc fc i (m:Int))(o:i.k=18){ka:Nat}{z:oA}{r:Nat}(ak:ka < X x.vq)(xR:i.a=(ka:Int))(t:Hid (a8x T V F s c cap (m:Int) i x vs vc fs fc w g (R (M w)+1+1) (R (M w3)) (R (M l)) (R (M j)) (R (M j)+1) (R (M k)) w3 v gs gc L x.vq[ka] z r a4q E 0)):SwT (λe w'=>cC (λb=>T b\/R (M w)<=b) w' e (aD i (m:Int) x)/\bl w w') m w w3 l j k g:=by
 have xG:=ag o;clear o;have HK:=ag K;clear K hx xR;refine kd rfl λz0 z2 z4 u=> ?_;simp only[j9,j9.loop,J8];obtain⟨BP,PP,XP,IP,YP,OP,AP,EP,TP,al,am,af,YW,-,zE,-,H,o3,_⟩:=t.out;have ad:=eU;clear zE;have i0:=eH;rw[xG.out] at i0;have ab:Hid (aD i (m:Int) x=([⟨(m:Int)+1,x⟩],d,d)):=KM;have GP:=af.same (w':=g) (λb _ D=>YW.block b D) YW.size;go_wp2;refine bodyPost_ret (v:=Tu #[U (G ⟨R (M l),0,E⟩) 1 1,O d,O d]) fT rfl ⟨?_,BP⟩;rw[ab.out];exact⟨G ⟨R (M l),0,E⟩,1,rfl,mI (S:=(λb=>T b\/R (M w)<=b)) OP (.inr aa) (GP) (λb W=>.inr W) (λb W=>.inr aa) ad.out⟩
def a1O(hx:a7d T w x vs fs)(K:a7l V F c x vc fc i (m:Int))(o:i.k=19)(t:Hid (a8x T V F s c cap (m:Int) i x vs vc fs fc w g (R (M w)+1+1) (R (M w3)) (R (M l)) (R (M j)) (R (M j)+1) (R (M k)) w3 v gs gc L a4q E 0 a4q E 0)):SwT (λe w'=>cC (λb=>T b\/R (M w)<=b) w' e (aD i (m:Int) x)/\bl w w') m w w3 l j k g:=by
 have xG:=ag o;clear o;have HK:=ag K;clear K hx;refine kd rfl λz0 D z4 u=> ?_;simp only[j9,j9.loop,J8];obtain⟨BP,PP,XP,IP,YP,OP,AP,EP,TP,ab,ah,af,YW,-,zE,-,_⟩:=t.out;clear zE;have i0:=eH;rw[xG.out] at i0;have r:Hid (aD i (m:Int) x=([],d,d)):=KM;go_wp2;refine bodyPost_ret (v:=Tu #[U E 0 0,O d,O d]) fT rfl ⟨?_,BP⟩;rw[r.out];exact tB
def a2v(hx:a7d T w x vs fs)(K:a7l V F c x vc fc i (m:Int))(o:i.k=16)(t:Hid (a8x T V F s c cap (m:Int) i x vs vc fs fc w g (R (M w)+1+1) (R (M w3)) (R (M l)) (R (M j)) (R (M j)+1) (R (M k)) w3 v gs gc L a4q E 0 a4q E 0)):SwT (λe w'=>cC (λb=>T b\/R (M w)<=b) w' e (aD i (m:Int) x)/\bl w w') m w w3 l j k g:=by
 have xG:=ag o;clear o;have HK:=ag K;clear K hx;refine kd rfl λz0 z2 z4 u=> ?_;simp only[j9,j9.loop,J8];obtain⟨BP,PP,XP,IP,YP,OP,AP,EP,TP,ah,ak,af,YW,-,zE,-,H,o3,_⟩:=t.out;have ad:=eU;clear zE;have i0:=eH;rw[xG.out] at i0;have r:Hid (aD i (m:Int) x=([⟨i.g,x⟩],d,d)):=KM;have ab:bl w3 (g.setCell ⟨R (M l),0,E⟩ (I Y i.g)):=YW.setCell aw _;have GP:=af.same (λb _ D=>ab.block b D) ab.size;have i5:=IP.1 5 _ rfl;have q0:=OP.1 0 _ rfl;have f0:=OP.2.2 0;go_wp2;refine bodyPost_ret (v:=Tu #[U (G ⟨R (M l),0,E⟩) 1 1,O d,O d]) fT rfl ⟨?_,BP.setCell aw _⟩;rw[r.out];exact⟨G ⟨R (M l),0,E⟩,1,rfl,mI (S:=(λb=>T b\/R (M w)<=b)) (OP.put 0 ae _) (.inr aa) (GP) (λb W=>.inr W) (λb W=>.inr aa) ad.out⟩
end
def Tb(xf:Nat)(xk:oA)(xi:Nat)(r:St)(rv:oA)(zP:Nat)(rt:oA)(zF:Nat)(rl:oA)(zU:Nat)(w:C)(xC:a2r w s c)(hx:a4r w x xh xk)(h1:X x.vq<=xf/\xf<=maxLen)(h2:X x.fq<=xi/\xi<=maxLen)(hl:gY r)(hr:a7s w r rv rt rl)(h:aF V F c [x]=0)(h0:aA V F c=0)(a4:aO V F c x=0)(l:cu V F c r=0)(T:x.none=d)(ak:a8h V F c r)(ht:r.things=[])(hv:∀v∈r.vq,v.k=0):
  Calls f 13 #[pv V F s c cap,xv x xh xf xk xi,dA r rv zP rt zF rl zU] w λe w'=>e=Rt (Tu #[O (cq r x.vq r.vq),I Y 0])/\bl w w':=by
 have kx:=cO a4 T;obtain⟨⟨_,cg⟩,⟨cc,cb⟩,y⟩:=fX;have b5:=kx.vq;have bt:=ak.vq;have bb:Hid (∀wx,bl w wx->Calls f 44 #[pv V F s c cap,U xh (X x.vq) xf,U rv (X r.vq) zP,U rt (X r.things) zF] wx λe w'=>e=Rt (O (cq r x.vq r.vq))/\bl wx w'):=λwx W=>Mg V F s c cap r x.vq xh xf r.vq rv zP rt zF wx (xC.below W (lR _)) (hx.1.below W (lR _)) (hr.1.below W (lR _)) (hr.2.1.below W (lR _)) h0 kx.gv ak.vals aa aa hv;have HT:=ag ht;clear ht hv;generalize cq r x.vq r.vq=bz at bb |-;have B0:=vm;have P0:=yr;have X0:=tr;have R0:=uY;rw[zA] at X0;rw[zA,zA] at R0;have C0:=iw;have PX:=iN;have HC:=vT;have ba:=uU;have e3:=wI;have HB:=ag ba;rw[e3] at HC;unfold dA;have ax:=EQ;rw[h] at HC;rw[l] at ax;have a6:=ag T;clear h l xC hx hr PX C0 ba hl a4 kx ak b5 bt T;go_enter func13,ntmps13;go_wp2_with fail;refine HC.out.mono ?_;rintro e w1 ⟨rfl,vZ⟩;have xQ:=vQ;have B1:=km;have R1:=R0.call xQ;have X1:=X0.call xQ;have P1:=P0.call xQ;have z1:=Fj;clear HB vZ xQ R0 X0 P0 HC e3;obtain⟨⟨p0,z,p2⟩,pz⟩:=id P1;obtain⟨⟨r0,r1,r2,r3,r4,r5⟩,_⟩:=id R1;go_wp2_with fail;refine(ax.out w1 B1).mono ?_;rintro e w2 ⟨rfl,xj⟩;have R2:=R1.call xj;have X2:=X1.call xj;have P2:=P1.call xj;have B2:=fU;clear xj R1 X1 P1 B1 z1 p0 z p2 r0 r1 r2 r3 r4 r5 ax;obtain⟨⟨H,a1,a2⟩,az,-⟩:=id X2;obtain⟨⟨p0,z,p2⟩,pz⟩:=id P2;obtain⟨⟨r0,r1,r2,r3,r4,r5⟩,_⟩:=id R2;rw[a6.out] at H;go_wp2_with fail;refine(bb.out w2 B2).mono ?_;rintro e w3 ⟨rfl,xp⟩;have R3:=R2.call xp;have ay:=X2.call xp;have a9:=P2.call xp;have B3:=ir;clear xp R2 X2 P2 B2 p0 z p2 r0 r1 r2 r3 r4 r5 H a1 bb;obtain⟨⟨p0,z,p2⟩,pz⟩:=id a9;obtain⟨⟨r0,r1,r2,r3,r4,r5⟩,_⟩:=id R3;obtain⟨⟨H,a1,a2⟩,az,-⟩:=id ay;rw[a6.out] at H;cases bz
 .go_wp2
  refine bodyPost_ret (v:=Tu #[O d,I Y 0]) ph rfl ⟨rfl,B3⟩
 go_wp2;clear p0 z p2 r0 r1 r2 r3 r4 r5 H a1;go_loopw [41] (λi wr=>∃k:Nat,k<=X r.things/\i=I Y k/\bl w3 wr) (λi _=>X r.things - (intOf i).toNat)
 case atStart=>exact⟨0,j6 _,rfl,bR _ _⟩
 case round=>
  obtain⟨k,o,rfl,m⟩:=hrel;have LR:=B3.trans (m.mono B3.size);by_cases D:k < X r.things
  .exact absurd D (by rw[HT.out];simp)
  .have n1:¬(k:Int) < (X r.things:Int):=by omega
   go_wp2;refine bodyPost_ret (v:=Tu #[O W5,I Y 0]) ph rfl ⟨rfl,LR⟩
def Yh {V F:Int}{c:lI}{x:Pic}(h:aF V F c [x]=0):aA V F c=0/\aO V F c x=0:=by
 have r:aA V F c=0:=by
  unfold aF at h;split at h
  .assumption
  .exact h
 refine⟨r,?_⟩;unfold aF at h;rw[if_pos r] at h;unfold cN at h;split at h
 .assumption
 .exact h
