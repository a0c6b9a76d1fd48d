import Derived.Test.YtmapdpcfanecdabGreatDoorR14
open Go.Ending renaming returned→Rt
open Go.Obj renaming cells→Cc
open Go.Proofs.Tryz renaming prog→pG
open Go.RowKit.Below renaming heap_setCell→hSe,refl→bR
open Go.Value renaming agg→Ag,bool→Bb,int→I,pointer→Pp,slice→U,slice→j8,tuple→Tu
open Go.World renaming size_alloc→zA
open List renaming drop_eq_getElem_cons→x4,foldl_append→q9,getD→q8,getElem_mem→gM,length→z3,length_append→z5,length_map→q4,length_take→q7,map_append→q5,range→q6,range_succ→z6,take_length→x5,take_of_length_le→j7,take_succ_eq_append_getElem→j9,zipWith→q3,zipWith_append→z8
open Nat renaming le_refl→lR,le_trans→lT,lt_of_lt_of_le→lL,zero_le→j6
open Option renaming none→nO,some→sO
open Go.Proofs.Tryz
set_option linter.unusedSimpArgs false
set_option linter.unusedVariables false
set_option maxHeartbeats 32000000
set_option maxRecDepth 100000
namespace Go.Proofs.YtmapdpcfanecdabGreatDoor
section
open Go.RowKit
attribute [local go_sem ↓] Go.wp_at_zero Go.wp_at_succ
def Gv:Prop:=∀(V F:Int) (s:oA) (c:lI) (cap:Nat) (w:World),au V F c=0->Calls pG 69 #[pv V F s c cap] w λe w'=>(∃vs vc fs fc,e=Rt (Ag #[Bb (bM V F c).none,U vs (bM V F c).vq.length vc,U fs (bM V F c).fq.length fc])/\PicAt w' (bM V F c) vs fs/\((bM V F c).vq.length<=vc/\vc<=maxLen)/\((bM V F c).fq.length<=fc/\fc<=maxLen))/\bl w w'
structure BegAt (w1:World) (x:Pic) (vs:oA) (vc:Nat) (fs:oA) (fc k g cp:Nat) (W:World):Prop where
 pr:W.ownsRow w1.heap.size 28 3 (U (sO ⟨g,0,nO⟩) (k+1) cp) (k+1) (iO x vs vc fs fc k)
 lo:bl w1 W
theorem BegAt.new {w1:World}{x:Pic}{vs:oA}{vc:Nat}{fs:oA}{fc:Nat}:BegAt w1 x vs vc fs fc 0 w1.heap.size 1 (w1.alloc (Cc #[Bb x.none,U vs x.vq.length vc,U fs x.fq.length fc] 28)):=by
 refine⟨?_,am⟩;exact World.ownsRow_lit (base:=w1.heap.size) (e:=28) (size:=3) w1 #[Bb x.none,U vs x.vq.length vc,U fs x.fq.length fc] 1 ah ai rfl
theorem BegAt.grow {w1 W W4:World}{x:Pic}{vs:oA}{vc:Nat}{fs:oA}{fc k g cp:Nat}{O:Obj}{v':Value}(N:BegAt w1 x vs vc fs fc k g cp W)(hown:W4.ownsRow w1.heap.size 28 3 v' (k+1+1) (iO x vs vc fs fc k++npC))(hgrow:(W.alloc O).grownBy W4 (sO g)):
  ∃g' cp',v'=U (sO ⟨g',0,nO⟩) (k+1+1) cp'/\BegAt w1 x vs vc fs fc (k+1) g' cp' W4:=by
 obtain⟨n1,n2⟩:=N;have hg:=n1.lt g rfl;have hz:=pL;have lo4:bl w1 W4:=(n2.alloc (by have:=n2.size;omega) O).grown hgrow (by have:=n2.size;omega) (λk hk=>by cases hk;omega)
 rcases hown.2 with⟨_,h⟩|⟨g',cp',cur,rfl,-⟩
 ·omega
 rw[wl] at hown;exact⟨g',cp',rfl,hown,lo4⟩
structure DocAt (w:World) (V F:Int) (s:oA) (c:lI) (cap pb:Nat) (L:List Pic) (W:World):Prop where
 pr:PRow (λb=>b≠pb) W pb L
 pg:PrAt W w.heap.size V F s c cap
 lo:bl w W
theorem BegAt.doc {w w1 W:World}{V F:Int}{s:oA}{c:lI}{cap:Nat}{vs:oA}{vc:Nat}{fs:oA}{fc g cp:Nat}(h:BegAt w1 (bM V F c) vs vc fs fc c.length g cp W)(hx:PicAt w1 (bM V F c) vs fs)(h1:(bM V F c).vq.length<=vc/\vc<=maxLen)(h2:(bM V F c).fq.length<=fc/\fc<=maxLen)(hp:PrAt w1 w.heap.size V F s c cap)(hb:bl w w1)(hz:w.heap.size < w1.heap.size):DocAt w V F s c cap g (aI V F c 0) W/\w.heap.size < g:=by
 have hg:=h.pr.lt g rfl;exact⟨⟨(FO h.pr h.lo hx h1 h2).mono λb hb _=>aa,hp.low h.lo hz,hb.trans (h.lo.mono hb.size)⟩,aa⟩
def Me:Prop:=∀(T:Nat->Prop) (V F:Int) (s:oA) (c:lI) (cap:Nat) (at_:Int) (x:Pic) (vs:oA) (vc:Nat) (fs:oA) (fc:Nat) (w:World),CodeAt w s c->PicOn T w x vs fs->au V F c=0->aO V F c x=0->0<=at_->at_ < c.length->x.vq.length<=vc/\vc<=maxLen->x.fq.length<=fc/\fc<=maxLen->Calls pG 59 #[pv V F s c cap,I .i64 at_,xv x vs vc fs fc] w λe w'=>bY (λb=>T b\/w.heap.size<=b) w' e (aA (bL c at_) at_ x)/\bl w w'
def Nt:Prop:=∀(S:Nat->Prop) (V F:Int) (c:lI) (wide:Bool) (x y:Pic) (vs1:oA) (vc1:Nat) (fs1:oA) (fc1:Nat) (vs2:oA) (vc2:Nat) (fs2:oA) (fc2:Nat) (w:World),PicOn S w x vs1 fs1->PicOn S w y vs2 fs2->x.vq.length<=vc1/\vc1<=maxLen->x.fq.length<=fc1/\fc1<=maxLen->y.vq.length<=vc2/\vc2<=maxLen->y.fq.length<=fc2/\fc2<=maxLen->au V F c=0->aO V F c x=0->aO V F c y=0->Calls pG 70 #[xv x vs1 vc1 fs1 fc1,xv y vs2 vc2 fs2 fc2,Bb wide] w λe w'=>(∃us uc gs gc,e=Rt (Ag #[Bb (aH (aj wide) x y).none,U us (aH (aj wide) x y).vq.length uc,U gs (aH (aj wide) x y).fq.length gc])/\PicOn (λb=>S b\/w.heap.size<=b) w' (aH (aj wide) x y) us gs/\((aH (aj wide) x y).vq.length<=uc/\uc<=maxLen)/\((aH (aj wide) x y).fq.length<=gc/\gc<=maxLen))/\bl w w'
theorem DocAt.call {w W W':World}{V F:Int}{s:oA}{c:lI}{cap g:Nat}{L:List Pic}(h:DocAt w V F s c cap g L W)(hb:bl W W'):DocAt w V F s c cap g L W':=⟨h.pr.call hb,h.pg.call hb,h.lo.trans (hb.mono h.lo.size)⟩
structure JnAt (w:World) (g yb:Nat) (y:Pic) (us:oA) (uc:Nat) (gs:oA) (gc:Nat) (W:World):Prop where
 cell:Cells W yb [Bb y.none,U us y.vq.length uc,U gs y.fq.length gc]
 pic:PicOn (λb=>b≠g) W y us gs
 c1:y.vq.length<=uc/\uc<=maxLen
 c2:y.fq.length<=gc/\gc<=maxLen
 lo:bl w W
theorem LS {V F:Int}{c:lI}(h0:au V F c=0){n i:Int}{E:List Edg}(hE:∀e∈E,iP V F c e){L L':List Pic}{b b':Bool}(hL:XsOk V F c L)(q:Nat)(h:(E.take q).foldl (bV n i) (L,b)=(L',b')):XsOk V F c L':=by
 have:=(tE (n:=n) (i:=i) h0 (E:=E.take q) (s:=(L,b)) hL λe he=>hE e (List.mem_of_mem_take he)).1;rw[h] at this;exact this
theorem Lx {n i:Int}{E:List Edg}{s t:List Pic×Bool}{q:Nat}(hq:q < E.length)(h:(E.take q).foldl (bV n i) s=t):(E.take (q+1)).foldl (bV n i) s=bV n i t E[q]:=by
 rw[j9 hq,q9,h];rfl
theorem Ny {V F:Int}{c:lI}(h0:au V F c=0){n i:Int}{L:List Pic}{b:Bool}{t:Nat}{y z:Pic}(hz:bm L (t:Int)=z)(h1:aO V F c z=0)(h2:aO V F c y=0)(h:aH (aj (dt n i t)) z y=z):bV n i (L,b) ⟨(t:Int),y⟩=(L,b):=by
 unfold bV;rw[if_pos (by simp only[hz];exact(ol h0 h1 h2).1 h)]
theorem Sa {V F:Int}{c:lI}(h0:au V F c=0){n i:Int}{L:List Pic}{b:Bool}{t:Nat}{y z:Pic}(hz:bm L (t:Int)=z)(h1:aO V F c z=0)(h2:aO V F c y=0)(h:¬aH (aj (dt n i t)) z y=z):bV n i (L,b) ⟨(t:Int),y⟩=(L.set t (aH (aj (dt n i t)) z y),true):=by
 unfold bV;rw[if_neg (by simp only[hz];exact λk=>h ((ol h0 h1 h2).2 k))];simp only[hz,Int.toNat_natCast]
def Hc (V F:Int)(c:lI)(e:Ending)(w':World):Prop:=∃(m pb pc:Nat),SolvedAt V F c m/\m<=200000000000000/\e=Rt (Tu #[U (sO ⟨pb,0,nO⟩) (c.length+1) pc,I .i64 ((m+1:Nat):Int)])/\XsAt w' (sO ⟨pb,0,nO⟩) (aI V F c m)
def RndIs (V F:Int)(c:lI)(m:Nat)(b:Bool):Prop:=(b=true/\∀k,k < m->(du c ((k+1:Nat):Int) (aI V F c k)).2=true)\/(b=false/\∃m',m=m'+1/\SolvedAt V F c m')
theorem RndIs.next {V F:Int}{c:lI}{m:Nat}{L:List Pic}{b:Bool}(h:∀k,k < m->(du c ((k+1:Nat):Int) (aI V F c k)).2=true)(hr:du c ((m+1:Nat):Int) (aI V F c m)=(L,b)):RndIs V F c (m+1) b:=by
 cases b with
 |true=>exact .inl ⟨rfl,λk hk=>by
   by_cases e:k=m
   ·rw[e,hr]
   ·exact h k aa⟩
 |false=>exact .inr ⟨rfl,m,rfl,h,by rw[hr]⟩
theorem Lp {V F:Int}{c:lI}{m:Nat}(h0:au V F c=0)(h:SolvedAt V F c m):m<=200000000000000:=by
 have:=kB h0 h.1;omega
theorem AV {p:Prop}(h:p:=by
 refine vH 15 ?_ ?_;refine wpAnyH_ready (rs:=[16,17]) ae ah ?_;refine AllReadyH.cons rfl (λK hK=> ?_) (AllReadyH.cons rfl (λK hK=> ?_) AllReadyH.nil)
 ·go_simp
  refine(HJN.out _ w6 B6).mono ?_;rintro e w7 ⟨⟨Y,js,jc,ks,kc,HYE,rfl,JP,JC1,JC2⟩,hb7⟩;have B7:=B6.trans (hb7.mono (B6.size));have J7:PicOn (λb=>b≠g) w7 Y js ks:=JP.mono λb hb _=>by
   rcases hb with h|h
   ·exact h.1
   ·have:=B6.size;omega
  clear JP;refine hK.out _ _ (HKZ.out _ B7) (λhHeld7=> ?_);clear hK K hb7 B6;refine sm ?_;refine rH1 17 λK hK=> ?_;go_simp;have hb8:Below w7.heap.size w7 (w7.alloc (.cells #[.bool false,.slice none 0 0,.slice none 0 0] 28)):=am;have B8:=B7.trans (hb8.mono (B7.size));have A8:Cells (w7.alloc (.cells #[.bool false,.slice none 0 0,.slice none 0 0] 28)) w7.heap.size [.bool false,.slice none 0 0,.slice none 0 0]:=Cells.new w7 28 [.bool false,.slice none 0 0,.slice none 0 0];have zyb:wr.heap.size<=w7.heap.size:=B7.size;have J8:PicOn (λb=>b≠g/\b≠w7.heap.size) (w7.alloc (.cells #[.bool false,.slice none 0 0,.slice none 0 0] 28)) Y js ks:=(J7.mono λb hb hlt=>⟨hb,Nat.ne_of_lt hlt⟩).call hb8;clear J7;clear B7;refine hK.out _ _ (HKZ.out _ B8) (λhHeld8=> ?_);clear hK K hb8;refine sm ?_;generalize w7.alloc (.cells #[.bool false,.slice none 0 0,.slice none 0 0] 28)=w8 at *;generalize w7.heap.size=yb at *;refine rH1 18 λK hK=> ?_;have r0:=A8.1 0 _ rfl;have r1:=A8.1 1 _ rfl;have r2:=A8.1 2 _ rfl;have f0:=A8.2.2 0;have f1:=A8.2.2 1;have f2:=A8.2.2 2;go_simp;have A9:=KY;have B9:=GM;have hch:=KD;have hcz:=Ir;have J9:=KF;refine hK.out _ _ (HKZ.out _ B9) (λhHeld9=> ?_);clear hK K r0 r1 r2 f0 f1 f2 A8 B8 J8 hch hcz;refine sm ?_;generalize (((w8.setCell ⟨yb,0,none⟩ (.bool Y.none)).setCell ⟨yb,1,none⟩ (.slice js Y.vq.length jc)).setCell ⟨yb,2,none⟩ (.slice ks Y.fq.length kc))=w9 at *;refine wpAnyH_done ae ?_ _;first|refine hK1 _ _ (Met.intro (hJ1 _ _ ?_))|refine Met.intro (hJ1 _ _ ?_)|refine hJ1 _ _ ?_
  (repeat apply Exists.intro)
  refine⟨?_,rfl⟩;exact⟨yb,js,jc,ks,kc,rfl,Mp⟩
 ·go_simp
  have hb7:Below w6.heap.size w6 (w6.alloc (.cells #[.bool false,.slice none 0 0,.slice none 0 0] 28)):=am;have B7:=B6.trans (hb7.mono (B6.size));have A7:Cells (w6.alloc (.cells #[.bool false,.slice none 0 0,.slice none 0 0] 28)) w6.heap.size [.bool false,.slice none 0 0,.slice none 0 0]:=Cells.new w6 28 [.bool false,.slice none 0 0,.slice none 0 0];have zyb:wr.heap.size<=w6.heap.size:=B6.size;clear B6;refine hK.out _ _ (HKZ.out _ B7) (λhHeld7=> ?_);clear hK K hb7;refine sm ?_;generalize w6.alloc (.cells #[.bool false,.slice none 0 0,.slice none 0 0] 28)=w7 at *;generalize w6.heap.size=yb at *;refine rH1 16 λK hK=> ?_;go_simp;refine(HJN.out _ w7 B7).mono ?_;rintro e w8 ⟨⟨Y,js,jc,ks,kc,HYE,rfl,JP,JC1,JC2⟩,hb8⟩;have A8:=A7.call hb8;have B8:=B7.trans (hb8.mono (B7.size));have J8:PicOn (λb=>b≠g/\b≠yb) w8 Y js ks:=JP.mono λb hb _=>by
   rcases hb with h|h
   ·exact⟨h.1,aa⟩
   ·exact⟨by have:=B7.size;omega,by have:=A7.2.1;omega⟩
  clear JP;refine hK.out _ _ (HKZ.out _ B8) (λhHeld8=> ?_);clear hK K hb8 A7 B7;refine sm ?_;refine rH1 18 λK hK=> ?_;have r0:=A8.1 0 _ rfl;have r1:=A8.1 1 _ rfl;have r2:=A8.1 2 _ rfl;have f0:=A8.2.2 0;have f1:=A8.2.2 1;have f2:=A8.2.2 2;go_simp;have A9:=KY;have B9:=GM;have hch:=KD;have hcz:=Ir;have J9:=KF;refine hK.out _ _ (HKZ.out _ B9) (λhHeld9=> ?_);clear hK K r0 r1 r2 f0 f1 f2 A8 B8 J8 hch hcz;refine sm ?_;generalize (((w8.setCell ⟨yb,0,none⟩ (.bool Y.none)).setCell ⟨yb,1,none⟩ (.slice js Y.vq.length jc)).setCell ⟨yb,2,none⟩ (.slice ks Y.fq.length kc))=w9 at *;refine wpAnyH_done ae ?_ _;first|refine hK1 _ _ (Met.intro (hJ1 _ _ ?_))|refine Met.intro (hJ1 _ _ ?_)|refine hJ1 _ _ ?_
  (repeat apply Exists.intro)
  refine⟨?_,rfl⟩;exact⟨yb,js,jc,ks,kc,rfl,Mp⟩):p:=h
theorem NF (hF:Gv)(hS:Me)(hJ:Nt)(V F:Int)(s:oA)(c:lI)(cap:Nat)(w:World)(hc:CodeAt w s c)(h0:au V F c=0):
  Calls pG 31 #[pv V F s c cap] w λe w'=>Hc V F c e w'/\bl w w':=by
 obtain⟨⟨hV1,hV8⟩,⟨hF0,hF3⟩,h60⟩:=fZ;obtain⟨ti,hi,hz0,hz1,hz2⟩:=info_parts Tryz.info_pic;have P0:=mS;have B0:=ic;have z0:w.heap.size < (w.alloc (Cc #[I .i64 V,I .i64 F,U s c.length cap] 24)).heap.size:=ah;have HC:=ag hc;have HZ:=ag h0;have HF:=ag (λwx=>hF V F s c cap wx h0);have HSD:=ag hS;have HJD:=ag hJ;clear hc h0 hF hS hJ;go_enter func31,ntmps31;go_upto_region 1 with fail
 generalize w.alloc (Cc #[I .i64 V,I .i64 F,U s c.length cap] 24)=w0 at *;obtain⟨⟨p0,p1,p2⟩,pz⟩:=id P0;go_wp2_with fail;refine(HF.out w0).mono ?_;rintro e w1 ⟨⟨vs,vc,fs,fc,rfl,hx,hq1,hq2⟩,hb1⟩;have P1:=gk;have B1:=gO;have z1:w.heap.size < w1.heap.size:=lL z0 hb1.size;have HD:=ag (λ(g cp:Nat) (W:World) (h:BegAt w1 (bM V F c) vs vc fs fc c.length g cp W)=>h.doc hx hq1 hq2 P1 B1 z1);have HPG:=ag (λ(k g cp:Nat) (W:World) (h:BegAt w1 (bM V F c) vs vc fs fc k g cp W)=>(P1.low h.lo z1:PrAt W w.heap.size V F s c cap));obtain⟨x,ex⟩:∃x,x=(bM V F c):=⟨_,rfl⟩;rw[<-ex] at HD HPG |-;clear P0 B0 z0 hb1 HF p0 p1 p2 pz hx hq1 hq2 P1 B1 z1 ex;have N0:=BegAt.new (w1:=w1) (x:=x) (vs:=vs) (vc:=vc) (fs:=fs) (fc:=fc);go_upto_region 2 with fail
 generalize w1.alloc (Cc #[Bb x.none,U vs x.vq.length vc,U fs x.fq.length fc] 28)=w2 at *;obtain⟨g1,eg1⟩:∃g,g=w1.heap.size:=⟨_,rfl⟩;rw[<-eg1] at N0 |-;clear eg1;have zw1:w1.heap.size=w1.heap.size:=rfl;go_wp2;go_loopw [4,5] (λl i wr=>∃k g cp:Nat,k<=c.length/\i=I .i64 k/\l=U (sO ⟨g,0,nO⟩) (k+1) cp/\Hid (BegAt w1 x vs vc fs fc k g cp wr)) (λ_ i _=>c.length - (intOf i).toNat)
 case atStart=>exact⟨0,g1,1,j6 _,rfl,rfl,N0⟩
 case round=>
  clear N0;obtain⟨k,g,cp,hk1,rfl,rfl,HN⟩:=hrel;obtain⟨⟨p0,p1,p2⟩,pz⟩:=id (HPG.out k g cp wr HN.out);by_cases hlt:k < c.length
  ·have n0:=dk
   have n1:=gF;have S4:=Gk;have zw:=HN.out.lo.size;go_wp2_with (at_builtin;refine bh _ rfl _ _ 47 rfl w1.heap.size 28 ti (Ag #[Bb false,U nO 0 0,U nO 0 0]) 3 56 underlying47 hi hz0 hz1 hz2 rfl ai _ _ _ rfl S4 (sO ⟨wr.heap.size,0,nO⟩) 1 1 npC rfl rfl (λh=>aT) ?qa2 ?qa3 ?qa4 ?qa5 ?qa6 ?_)
   case qa2=>exact iY wr 28 npC
   case qa3=>intro u hu;simp[npC] at hu;rcases hu with rfl|rfl<;>rfl
   case qa4=>unfold maxLen;omega
   case qa5=>omega
   case qa6=>rw[zA];omega
   intro v' w4 hown hgrow hat;obtain⟨g',cp',rfl,N4⟩:=HN.out.grow hown hgrow;have HN4:=ag N4;clear hown hgrow hat S4 HN zw N4 p0 p1 p2 pz;go_wp2;go_roundw
   case rel=>exact⟨k+1,g',cp',aa,aF,rfl,HN4.out⟩
   case measure=>exact aK
  have n1:¬(k:Int) < (c.length:Int):=aa;have ek:=iS;subst ek;obtain⟨D0,hg⟩:=HD.out g cp wr HN.out;clear HN HD HPG hk1 hlt;go_wp2;clear p0 p1 p2 pz hi hz0 hz1 hz2;obtain⟨M,hM⟩:∃M:Nat,M=200000000000003:=⟨_,rfl⟩;have HM:=ag hM;clear hM;go_loopw [6,7] (λn ch wr=>∃(m:Nat) (b:Bool),n=I .i64 (m:Int)/\ch=Bb b/\Hid (DocAt w V F s c cap g (aI V F c m) wr)/\Hid (RndIs V F c m b)) (λn _ _=>M - (intOf n).toNat)
  case atStart=>exact⟨0,true,rfl,rfl,D0,.inl ⟨rfl,λk h=>absurd h aa⟩⟩
  case round=>
   clear D0;obtain⟨m,b,rfl,rfl,HW,HR⟩:=hrel;rcases HR.out with⟨rfl,hall⟩|⟨rfl,m',rfl,hS⟩;rotate_left
   ·have HA:Hid (Hc V F c (Rt (Tu #[U (sO ⟨g,0,nO⟩) (c.length+1) cp,I .i64 ((m'+1:Nat):Int)])) wr):=by
     refine⟨m',g,cp,hS,Lp HZ.out hS,rfl,?_⟩;rw[<-(vG HZ.out hS).1];exact HW.out.pr.xs
    have HL:=ag HW.out.lo;clear HW HR hS;go_wp2;refine bodyPost_ret (v:=Tu #[U (sO ⟨g,0,nO⟩) (c.length+1) cp,I .i64 ((m'+1:Nat):Int)]) (by simp[results,results31,go_sem]) rfl ?_;exact⟨HA.out,HL.out⟩
   have hfew:=kB HZ.out hall;have hmb:(m:Int)<=200000000000000:=aa;have HMB:Hid (m+2 < M):=by show _ < _;rw[HM.out];exact Nat.lt_of_le_of_lt (Nat.add_le_add_right (show m<=200000000000000 by omega) 2) (by decide)
   have HALL:=ag hall;have HOK:=ag (λ(k:Nat) (hk:k<=c.length)=>(tV (n:=((m+1:Nat):Int)) HZ.out hk (s:=(aI V F c m,false)) (d9 HZ.out m)).1);clear hfew hall HR;go_wp2;go_loopw [7,8] (λch i wr=>∃(k:Nat) (L:List Pic) (b:Bool),k<=c.length/\i=I .i64 k/\ch=Bb b/\Hid ((q6 k).foldl (dL c ((m+1:Nat):Int)) (aI V F c m,false)=(L,b))/\Hid (DocAt w V F s c cap g L wr)) (λ_ i _=>c.length - (intOf i).toNat)
   case atStart=>exact⟨0,_,_,j6 _,rfl,rfl,rfl,HW.out⟩
   case round=>
    clear HW;obtain⟨k,L,b,hk1,rfl,rfl,HK,HW⟩:=hrel;have hpg:=HW.out.pg;obtain⟨⟨p0,p1,p2⟩,pz⟩:=id hpg;by_cases hlt:k < c.length;rotate_left
    ·have n1:=lw
     have ek:=iS;subst ek;have HRD:Hid (du c ((m+1:Nat):Int) (aI V F c m)=(L,b)):=HK.out;have HRI:Hid (RndIs V F c (m+1) b):=RndIs.next HALL.out HRD.out;have HWN:Hid (DocAt w V F s c cap g (aI V F c (m+1)) wr):=by
      show DocAt _ _ _ _ _ _ _ _ _;rw[show aI V F c (m+1)=L from congrArg Prod.fst HRD.out];exact HW.out
     clear hpg HW HK HRD;go_wp2;go_roundw
     case rel=>exact⟨m+1,b,aF,rfl,HWN.out,HRI.out⟩
     case measure=>have:=HMB.out;simp[intOf];omega
    have hxs:XsOk V F c L:=by have h:=HOK.out k hk1;rw[HK.out] at h;exact h
    have hkL:k < L.length:=by have:=hxs.len;omega
    obtain⟨vs3,vc3,fs3,fc3,⟨q0,q1,q2⟩,hPx,hvx,hfx,zg,-⟩:=HW.out.pr.cell hkL;obtain⟨x3,ex⟩:∃x,x=L[k]:=⟨_,rfl⟩;have hckx:aO V F c x3=0:=by rw[ex];exact hxs.ck _ (gM hkL)
    have exa:bm L (k:Int)=x3:=by rw[ex];exact gZ hkL
    rw[<-ex] at q0 q1 q2 hPx hvx hfx;have hEd:=kG HZ.out hckx hlt;have hEl:=vF (bL c (k:Int)) (k:Int) x3;obtain⟨⟨E,f1,f2⟩,er⟩:∃r,r=aA (bL c (k:Int)) (k:Int) x3:=⟨_,rfl⟩;have HTN:Hid (∀t:List Pic×Bool,E.foldl (bV ((m+1:Nat):Int) (k:Int)) (L,b)=t->(q6 (k+1)).foldl (dL c ((m+1:Nat):Int)) (aI V F c m,false)=t):=λt h=>by
     rw[z6,q9,HK.out];show (cW c k (bm L k)).foldl _ _=t;rw[exa];unfold cW;rw[<-er];exact h
    have HE:Hid ((∀e∈E,iP V F c e)/\E.length<=10):=by
     unfold cW at hEd;rw[<-er] at hEd hEl;exact⟨hEd,lT hEl ai⟩
    have HST:Hid (∀wx,bl wr wx->Calls pG 59 #[pv V F s c cap,I .i64 (k:Int),xv x3 vs3 vc3 fs3 fc3] wx λe w'=>(∃es ec,e=Rt (Tu #[U es E.length ec,Bb f1,Bb f2])/\EdsOn (λb=>b≠g) w' es E)/\bl wx w'):=λwx hb=>by
     have h:=HSD.out (λb=>b≠g) V F s c cap (k:Int) x3 vs3 vc3 fs3 fc3 wx (HC.out.below (HW.out.lo.trans (hb.mono HW.out.lo.size)) (lR _)) (hPx.call hb) HZ.out hckx aa aa hvx hfx;rw[<-er] at h;refine h.mono ?_;rintro e w' ⟨⟨es,ec,rfl,hE⟩,hb'⟩;exact⟨⟨es,ec,rfl,hE.mono λb hb1 _=>by have:=hb.size;omega⟩,hb'⟩
    have HKZ:Hid (∀wx,bl wr wx->(wx.cell? ⟨w.heap.size,0,nO⟩=sO (I .i64 V)/\wx.cell? ⟨w.heap.size,1,nO⟩=sO (I .i64 F)/\wx.cell? ⟨w.heap.size,2,nO⟩=sO (U s c.length cap))/\(wx.cell? ⟨g,k * 3,nO⟩=sO (Bb x3.none)/\wx.cell? ⟨g,k * 3+1,nO⟩=sO (U vs3 x3.vq.length vc3)/\wx.cell? ⟨g,k * 3+2,nO⟩=sO (U fs3 x3.fq.length fc3))):=λwx hb=>by
     refine⟨(hpg.call hb).1,?_,?_,?_⟩
     ·rw[hb.cell (by simp only;exact zg)];exact q0
     ·rw[hb.cell (by simp only;exact zg)];exact q1
     ·rw[hb.cell (by simp only;exact zg)];exact q2
    have HXS:=ag hxs;have B34:=dB;have n0:=bA;have n1:=gF;have n2:(k:Int) < ((c.length+1:Nat):Int):=aa;have n3:=sD;clear er exa hckx hPx hvx hfx q0 q1 q2 hEd hEl hxs ex;go_upto_region 14 with fail
    refine aG (S:=(λwx=>(wx.cell? ⟨w.heap.size,0,nO⟩=sO (I .i64 V)/\wx.cell? ⟨w.heap.size,1,nO⟩=sO (I .i64 F)/\wx.cell? ⟨w.heap.size,2,nO⟩=sO (U s c.length cap))/\(wx.cell? ⟨g,k * 3,nO⟩=sO (Bb x3.none)/\wx.cell? ⟨g,k * 3+1,nO⟩=sO (U vs3 x3.vq.length vc3)/\wx.cell? ⟨g,k * 3+2,nO⟩=sO (U fs3 x3.fq.length fc3)))) [] ae (HKZ.out _ B34) (λhHeld=> ?_);generalize wr.drew=w4 at *;refine vZ 0 ?_ ?_;refine vZ 1 ?_ ?_;refine vZ 2 ?_ ?_;refine vZ 3 ?_ ?_;refine vZ 4 ?_ ?_;refine vZ 5 ?_ ?_;refine aB (i:=6) rfl ae (λK hK=> ?_);go_simp;go_at_call 59;refine(HST.out w4 B34).mono ?_;rintro e w5 ⟨⟨es,ec,rfl,hE5⟩,hb5⟩;have HE5:=ag hE5;clear hE5;go_wp2_with fail;refine hK.out _ _ (HKZ.out _ (B34.trans (hb5.mono B34.size))) (λhHeld=> ?_);clear hK K;refine sm ?_;refine vZ 7 ?_ ?_;refine vZ 8 ?_ ?_;refine vZ 9 ?_ ?_;refine vZ 10 ?_ ?_;refine vZ 11 ?_ ?_;refine vZ 12 ?_ ?_;refine vZ 13 ?_ ?_;refine aC ae ?_ _;have B5:=B34.trans (hb5.mono B34.size);have HW5:=ag (HW.out.call B5);clear hHeld HKZ HST B34 B5 hb5 HW hpg p0 p1 p2 pz;go_wp2;generalize w5=wA at *;clear w5;go_loopw [7,12] (λch j wr=>∃(q:Nat) (L':List Pic) (b':Bool),q<=E.length/\j=I .i64 q/\ch=Bb b'/\Hid ((E.take q).foldl (bV ((m+1:Nat):Int) (k:Int)) (L,b)=(L',b'))/\Hid (DocAt w V F s c cap g L' wr)/\Hid (EdsOn (λb=>b≠g) wr es E)) (λ_ j _=>E.length - (intOf j).toNat)
    case atStart=>exact⟨0,L,b,j6 _,rfl,rfl,rfl,HW5.out,HE5.out⟩
    case round=>
     clear HW5 HE5;obtain⟨q,L',b',hq1,rfl,rfl,HQ,HD,HS⟩:=hrel;have hx':XsOk V F c L':=LS HZ.out HE.out.1 HXS.out q HQ.out;have hEl:=HE.out.2;by_cases hlq:q < E.length;rotate_left
     ·have n3:¬(q:Int) < (E.length:Int):=by omega
      have HKN:=ag (HTN.out (L',b') (by have h:=HQ.out;rwa [j7 (by omega)] at h))
      clear HQ HS hx';go_wp2;go_roundw
      case rel=>exact⟨k+1,L',b',aa,aF,rfl,HKN.out,HD.out⟩
      case measure=>exact aK
     have m0:=kg;have m1:(q:Int) < (E.length:Int):=aa;obtain⟨b2,o2,rfl,hS2,hz2,us,uc,gs,gc,⟨d0,d1,d2,d3⟩,hPe,hve,hfe⟩:=HS.out q hlq;have heo:=HE.out.1 _ (gM hlq);have HNX:=ag (Lx hlq HQ.out);obtain⟨⟨tq,y⟩,ee⟩:∃e,e=E[q]:=⟨_,rfl⟩;rw[<-ee] at d0 d1 d2 d3 hPe hve hfe heo HNX;clear ee;obtain⟨hcy,t0,t1⟩:=heo;simp only at d0 d1 d2 d3 hPe hve hfe hcy t0 t1;obtain⟨t,rfl⟩:=Int.eq_ofNat_of_zero_le t0;have htL:t < L'.length:=by have:=hx'.len;omega
     obtain⟨vs4,vc4,fs4,fc4,⟨r0,r1,r2⟩,hPz,hvz,hfz,zg4,-⟩:=HD.out.pr.cell htL;obtain⟨z,ez⟩:∃z,z=L'[t]:=⟨_,rfl⟩;have hcz:aO V F c z=0:=by rw[ez];exact hx'.ck _ (gM htL)
     have HZA:Hid (bm L' (t:Int)=z):=by show _=_;rw[ez];exact gZ htL
     rw[<-ez] at r0 r1 r2 hPz hvz hfz;clear ez;have HJN:Hid (∀(wide:Bool) wx,bl wr wx->Calls pG 70 #[xv z vs4 vc4 fs4 fc4,xv y us uc gs gc,Bb wide] wx λe w'=>(∃Y js jc ks kc,Hid (Y=aH (aj wide) z y)/\e=Rt (Ag #[Bb Y.none,U js Y.vq.length jc,U ks Y.fq.length kc])/\PicOn (λb=>(b≠g/\b < wr.heap.size)\/wx.heap.size<=b) w' Y js ks/\(Y.vq.length<=jc/\jc<=maxLen)/\(Y.fq.length<=kc/\kc<=maxLen))/\bl wx w'):=λwide wx hb=>by
      refine(HJD.out (λb=>b≠g/\b < wr.heap.size) V F c wide z y vs4 vc4 fs4 fc4 us uc gs gc wx ((hPz.mono λb h hl=>⟨h,hl⟩).call hb) ((hPe.mono λb h hl=>⟨h,hl⟩).call hb) hvz hfz hve hfe HZ.out hcz hcy).mono ?_;rintro e w' ⟨⟨js,jc,ks,kc,rfl,h1,h2⟩,hb'⟩;exact⟨⟨_,js,jc,ks,kc,rfl,rfl,h1,h2⟩,hb'⟩
     have HKZ:Hid (∀wx,bl wr wx->(wx.cell? ⟨g,t * 3,nO⟩=sO (Bb z.none)/\wx.cell? ⟨g,t * 3+1,nO⟩=sO (U vs4 z.vq.length vc4)/\wx.cell? ⟨g,t * 3+2,nO⟩=sO (U fs4 z.fq.length fc4))/\(wx.cell? ⟨b2,o2+q * 4+1,nO⟩=sO (Bb y.none)/\wx.cell? ⟨b2,o2+q * 4+2,nO⟩=sO (U us y.vq.length uc)/\wx.cell? ⟨b2,o2+q * 4+3,nO⟩=sO (U gs y.fq.length gc))):=λwx hb=>by
      have c1:=λj=>hb.cell (p:=⟨g,j,nO⟩) (by simp only;exact zg4);have c2:=λj=>hb.cell (p:=⟨b2,j,nO⟩) (by simp only;exact hz2);exact⟨⟨(c1 _).trans r0,(c1 _).trans r1,(c1 _).trans r2⟩,(c2 _).trans d1,(c2 _).trans d2,(c2 _).trans d3⟩
     have HK4:=ag (λwx hb=>(HKZ.out wx hb).1);have HPZ:=ag (λwx (hb:bl wr wx)=>(hPz.call hb).at);have HCZ:=ag (And.intro hcz hcy);have m2:(0:Int)<=(t:Int):=aa;have m3:(t:Int) < ((c.length+1:Nat):Int):=aa;have m4:(t:Int) < (c.length:Int)+1:=aa;clear hPe hve hfe hcy hcz hPz hvz hfz d1 d2 d3 hx' t0 t1 r0 r1 r2;go_upto_region 19 with fail
     clear d0;go_cut [14] (λt14 wc=>∃(yb:Nat) (js:oA) (jc:Nat) (ks:oA) (kc:Nat),t14=Pp (sO ⟨yb,0,nO⟩)/\Hid (JnAt wr g yb (aH (aj (dt ((m+1:Nat):Int) (k:Int) (t:Int))) z y) js jc ks kc wc))
     case first=>
      rename_i J1 K1 hJ1 hK1;have B6:=dB;by_cases hm4:(4:Int)<=(m:Int)+1
      ·have HWD:Hid (dt ((m+1:Nat):Int) (k:Int) (t:Int)=decide ((t:Int)<=(k:Int))):=by show _=_;unfold dt;rw[decide_eq_true (by omega:(4:Int)<=((m+1:Nat):Int)),Bool.true_and]
       refine wp_region_held_drew (S:=(λwx=>(wx.cell? ⟨g,t * 3,nO⟩=sO (Bb z.none)/\wx.cell? ⟨g,t * 3+1,nO⟩=sO (U vs4 z.vq.length vc4)/\wx.cell? ⟨g,t * 3+2,nO⟩=sO (U fs4 z.fq.length fc4))/\(wx.cell? ⟨b2,o2+q * 4+1,nO⟩=sO (Bb y.none)/\wx.cell? ⟨b2,o2+q * 4+2,nO⟩=sO (U us y.vq.length uc)/\wx.cell? ⟨b2,o2+q * 4+3,nO⟩=sO (U gs y.fq.length gc)))) ae (HKZ.out _ B6) (λhHeld=> ?_);generalize wr.drew=w6 at *;refine vH 0 ?_ ?_;refine vH 1 ?_ ?_;refine vH 2 ?_ ?_;refine vH 3 ?_ ?_;refine vH 4 ?_ ?_;refine vH 5 ?_ ?_;refine vH 6 ?_ ?_;refine vH 7 ?_ ?_;refine vH 8 ?_ ?_;refine vH 9 ?_ ?_;refine vH 10 ?_ ?_;refine vH 11 ?_ ?_;refine vH 12 ?_ ?_;refine vH 13 ?_ ?_;refine vH 14 ?_ ?_;exact AV
      ·have HWD:Hid (dt ((m+1:Nat):Int) (k:Int) (t:Int)=false):=by show _=_;unfold dt;rw[decide_eq_false (by omega:¬(4:Int)<=((m+1:Nat):Int)),Bool.false_and]
       refine wp_region_held_drew (S:=(λwx=>(wx.cell? ⟨g,t * 3,nO⟩=sO (Bb z.none)/\wx.cell? ⟨g,t * 3+1,nO⟩=sO (U vs4 z.vq.length vc4)/\wx.cell? ⟨g,t * 3+2,nO⟩=sO (U fs4 z.fq.length fc4))/\(wx.cell? ⟨b2,o2+q * 4+1,nO⟩=sO (Bb y.none)/\wx.cell? ⟨b2,o2+q * 4+2,nO⟩=sO (U us y.vq.length uc)/\wx.cell? ⟨b2,o2+q * 4+3,nO⟩=sO (U gs y.fq.length gc)))) ae (HKZ.out _ B6) (λhHeld=> ?_);generalize wr.drew=w6 at *;refine vH 0 ?_ ?_;refine vH 1 ?_ ?_;refine vH 2 ?_ ?_;refine vH 3 ?_ ?_;refine vH 4 ?_ ?_;refine vH 5 ?_ ?_;refine vH 6 ?_ ?_;refine vH 7 ?_ ?_;refine vH 8 ?_ ?_;refine vH 9 ?_ ?_;refine vH 10 ?_ ?_;refine vH 11 ?_ ?_;refine uH 12 ?_;refine sm ?_;refine uH 13 ?_;refine sm ?_;refine uH 14 ?_;refine sm ?_;exact AV
     obtain⟨yb,js,jc,ks,kc,rfl,HY⟩:=hcut;have HYN:Hid (aH (aj (dt ((m+1:Nat):Int) (k:Int) (t:Int))) z y=z->(E.take (q+1)).foldl (bV ((m+1:Nat):Int) (k:Int)) (L,b)=(L',b')):=λh=>HNX.out.trans (Ny HZ.out HZA.out HCZ.out.1 HCZ.out.2 h);have HYP:Hid (¬aH (aj (dt ((m+1:Nat):Int) (k:Int) (t:Int))) z y=z->(E.take (q+1)).foldl (bV ((m+1:Nat):Int) (k:Int)) (L,b)=(L'.set t (aH (aj (dt ((m+1:Nat):Int) (k:Int) (t:Int))) z y),true)):=λh=>HNX.out.trans (Sa HZ.out HZA.out HCZ.out.1 HCZ.out.2 h);obtain⟨Y,eY⟩:∃Y,Y=aH (aj (dt ((m+1:Nat):Int) (k:Int) (t:Int))) z y:=⟨_,rfl⟩;rw[<-eY] at HY HYN HYP;clear eY HNX HJN HKZ HZA HCZ HQ;have HDC:=ag (HD.out.call HY.out.lo);have HSC:=ag (HS.out.call HY.out.lo);have HSM:Hid (∀wx,bl wc wx->Calls pG 34 #[xv Y js jc ks kc,xv z vs4 vc4 fs4 fc4] wx λe w'=>SameAns e (Y=z)/\bl wx w'):=λwx hb=>BG Y z js jc ks kc vs4 vc4 fs4 fc4 wx ⟨lT HY.out.c1.1 HY.out.c1.2,lT HY.out.c2.1 HY.out.c2.2⟩ (HY.out.pic.call hb).at (HPZ.out wx (HY.out.lo.trans (hb.mono HY.out.lo.size)));have HKZ:Hid (∀wx,bl wc wx->(wx.cell? ⟨yb,0,nO⟩=sO (Bb Y.none)/\wx.cell? ⟨yb,1,nO⟩=sO (U js Y.vq.length jc)/\wx.cell? ⟨yb,2,nO⟩=sO (U ks Y.fq.length kc))/\(wx.cell? ⟨g,t * 3,nO⟩=sO (Bb z.none)/\wx.cell? ⟨g,t * 3+1,nO⟩=sO (U vs4 z.vq.length vc4)/\wx.cell? ⟨g,t * 3+2,nO⟩=sO (U fs4 z.fq.length fc4))):=λwx hb=>by
      have a:=HY.out.cell.call hb;exact⟨⟨a.1 0 _ rfl,a.1 1 _ rfl,a.1 2 _ rfl⟩,HK4.out wx (HY.out.lo.trans (hb.mono HY.out.lo.size))⟩
     have B7:bl wc wc.drew:=(bR _ _).drew;clear HPZ;go_upto_region 20 with fail
     refine aG (S:=(λwx=>(wx.cell? ⟨yb,0,nO⟩=sO (Bb Y.none)/\wx.cell? ⟨yb,1,nO⟩=sO (U js Y.vq.length jc)/\wx.cell? ⟨yb,2,nO⟩=sO (U ks Y.fq.length kc))/\(wx.cell? ⟨g,t * 3,nO⟩=sO (Bb z.none)/\wx.cell? ⟨g,t * 3+1,nO⟩=sO (U vs4 z.vq.length vc4)/\wx.cell? ⟨g,t * 3+2,nO⟩=sO (U fs4 z.fq.length fc4)))) [] ae (HKZ.out _ B7) (λhHeld=> ?_);generalize wc.drew=w7 at *;refine vZ 0 ?_ ?_;refine vZ 1 ?_ ?_;refine vZ 2 ?_ ?_;refine vZ 3 ?_ ?_;refine vZ 4 ?_ ?_;refine aB (i:=5) rfl ae (λK hK=> ?_);go_simp;go_at_call 34;refine(HSM.out w7 B7).mono ?_;rintro e w8 ⟨⟨bb,rfl,HBB0⟩,hb8⟩;have HBB:=ag HBB0;clear HBB0;go_wp2_with fail;refine hK.out _ _ (HKZ.out _ (B7.trans (hb8.mono B7.size))) (λhHeld=> ?_);clear hK K;refine sm ?_;refine vZ 6 ?_ ?_;refine aC ae ?_ _;have B9:=B7.trans (hb8.mono B7.size);have HD9:=ag (HDC.out.call B9);have HS9:=ag (HSC.out.call B9);have HY9:Hid (Cells w8 yb [Bb Y.none,U js Y.vq.length jc,U ks Y.fq.length kc]/\PicOn (λb=>b≠g) w8 Y js ks):=⟨HY.out.cell.call B9,HY.out.pic.call B9⟩;have HYC:=ag (And.intro HY.out.c1 HY.out.c2);have HXC:=ag (HKZ.out w8 B9).2;clear HDC HSC HSM HKZ hHeld B7 hb8 HY HD HS B9 HK4;rcases Bool.eq_false_or_eq_true bb with e1|e1
     ·have HQN:=ag (HYN.out (HBB.out.1 e1))
      subst e1;clear HBB HYN HYP HY9 HXC HYC;go_wp2;go_roundw
      case rel=>exact⟨q+1,L',b',aa,aF,rfl,HQN.out,HD9.out,HS9.out⟩
      case measure=>exact aK
     ·have HQN:=ag (HYP.out (λh=>by rw[HBB.out.2 h] at e1;cases e1))
      subst e1;clear HBB HYN HYP;have a0:=HY9.out.1.1 0 _ rfl;have a1:=HY9.out.1.1 1 _ rfl;have a2:=HY9.out.1.1 2 _ rfl;obtain⟨r0,r1,r2⟩:=HXC.out;obtain⟨_,_,_,_,_,_,_,_,_,fz⟩:=HD9.out.pr.cell htL;have f0:=fz (t * 3);have f1':=fz (t * 3+1);have f2':=fz (t * 3+2);clear fz HXC;go_upto_region 22 with fail
      obtain⟨wq,ewq⟩:∃q',q'=bD w8 g (t * 3) [Bb Y.none,U js Y.vq.length jc,U ks Y.fq.length kc]:=⟨_,rfl⟩;have PT:=ag (HD9.out.pr.put (λb hb=>hb) htL HY9.out.2 HYC.out.1 HYC.out.2 ewq);simp only[bD] at ewq;rw[<-ewq];clear ewq a0 a1 a2 r0 r1 r2 f0 f1' f2';have HDN:Hid (DocAt w V F s c cap g (L'.set t Y) wq):=by
       obtain⟨T1,T2,T3,T4⟩:=PT.out;exact⟨T1,HD9.out.pg.low (T4 (lR g) (bR g w8)) hg,T4 (Nat.le_of_lt hg) HD9.out.lo⟩
      have HSN:=ag (HS9.out.same (λb hb _=>PT.out.2.1 b hb) PT.out.2.2.1);clear PT HD9 HS9 HY9 HYC;go_wp2;go_roundw
      case rel=>exact⟨q+1,L'.set t Y,true,aa,aF,rfl,HQN.out,HDN.out,HSN.out⟩
      case measure=>exact aK
end
section
open Go.RowKit
def dd (op:Sp->Sp->Sp)(g h:Gs):Gs:=⟨g.n||h.n,op g.sp h.sp,g.t||h.t,g.f||h.f,cI [g,h]⟩

theorem pN {V F:Int}{c:lI}{g h:Gs}(hk:ba V F c [g,h]=0):au V F c=0/\aE c g=0/\aE c h=0:=by
 unfold ba at hk;split at hk
 ·rename_i hp
  simp only[b9] at hk;split at hk
  ·rename_i hg
   split at hk
   ·rename_i hh
    exact⟨hp,hg,hh⟩
   ·contradiction
  ·contradiction
 ·contradiction

theorem ig {V F:Int}{c:lI}{g h:Gs}(hk:ba V F c [g,h]=0):((∀x∈g.s,0<=x/\x < 60)/\di g.s=true)/\((∀x∈h.s,0<=x/\x < 60)/\di h.s=true):=by
 obtain⟨a,b,d⟩:=pN hk;have hl:c.length<=60:=by
  unfold au at a;split at a
  ·contradiction
  ·split at a
   ·contradiction
   ·omega
 exact⟨dx hl b,dx hl d⟩

theorem U4 (V F:Int)(s:oA)(c:lI)(cap:Nat)(g:Gs)(ss:oA)(gc:Nat)(h:Gs)(st:oA)(hc:Nat)(w:World)(hcd:CodeAt w s c)(hs:IntsAt w ss g.s)(h1:g.s.length<=gc)(h2:gc<=maxLen)(ht:IntsAt w st h.s)(h3:h.s.length<=hc)(h4:hc<=maxLen):
  Calls pG 161 #[pv V F s c cap,gv g ss gc,gv h st hc] w λe w'=>e=Rt (Tu #[Bb (if ba V F c [g,h]=0 then dp g h else false),I .i64 (ba V F c [g,h])])/\bl w w':=by
 by_cases hck:ba V F c [g,h]=0
 ·refine(Az V F s c cap g ss gc h st hc w hcd hs h1 h2 ht h3 h4 hck).mono ?_
  rintro e w' ⟨rfl,hb⟩;exact⟨by rw[if_pos hck,hck],hb⟩
 ·refine(LW V F s c cap g ss gc h st hc w hcd hs h1 h2 ht h3 h4 hck).mono ?_
  rintro e w' ⟨rfl,hb⟩;exact⟨by rw[if_neg hck],hb⟩
end
section
open Go.RowKit
attribute [local go_sem ↓] Go.wp_at_zero Go.wp_at_succ
theorem km {w5 w6:World}{wd:World}{B N:Nat}{js:oA}{jc:Nat}{g:Gs}{v:Value}(hI:IntsAt w5 js g.s)(h1:g.s.length<=jc)(h2:jc<=maxLen)(hF:∀a,js=sO a->wd.heap.size<=a.block)(hB:B<=N)(hv:∀{k},v.ownBlock=sO k->k < N)(hb:bl w5 w6)(hN:N<=wd.heap.size):bS (λb=>B<=b/\v.ownBlock≠sO b) w6 ⟨g,js,jc⟩:=by
 refine⟨?_,h1,h2⟩;rcases hI with h|⟨b,off,e,hz,hc⟩
 ·exact .inl h
 ·have hbn:=hF _ e
  simp only at hbn;exact .inr ⟨b,off,e,⟨aa,λe'=>by have:=hv e';omega⟩,lL hz hb.size,λk hk=>by rw[hb.cell (by simp only;exact hz)];exact hc k hk⟩
theorem kO (j:Gs->Gs->Gs)(a b:List Gs)(k:Nat)(h:k < a.length)(h':k < b.length):aQ j (a.take (k+1)) (b.take (k+1))=aQ j (a.take k) (b.take k)++[j a[k] b[k]]:=by
 unfold aQ;rw[j9 h,j9 h',z8 ap];rfl
theorem s8 (j:Gs->Gs->Gs)(a b:List (List Gs))(k:Nat)(h:k < a.length)(h':k < b.length):q3 (aQ j) (a.take (k+1)) (b.take (k+1))=q3 (aQ j) (a.take k) (b.take k)++[aQ j a[k] b[k]]:=by
 rw[j9 h,j9 h',z8 ap];rfl
def FH (wide:Bool)(j:Gs->Gs->Gs)(RR:Gs->Gs->Prop):Prop:=∀(g:Gs) (ss:oA) (gc:Nat) (h:Gs) (st:oA) (hc:Nat) (wx:World),IntsAt wx ss g.s->IntsAt wx st h.s->RR g h->Calls pG 114 #[gv g ss gc,gv h st hc,Bb wide] wx λe w'=>∃js jc,e=Rt (gv (j g h) js jc)/\IntsAt w' js (j g h).s/\(j g h).s.length<=jc/\jc<=maxLen/\(∀a,js=sO a->wx.heap.size<=a.block)/\bl wx w'

theorem se {p:Prop}(h:p:=by
 rw[List.length_map,List.length_zipWith,List.length_take,List.length_take] at h1;omega):p:=h
theorem Am (wide:Bool)(j:Gs->Gs->Gs)(RR:Gs->Gs->Prop)(hJ:FH wide j RR)(vx vy:List Gs)(fx fy:List (List Gs))(vs1:oA)(vc1:Nat)(fs1:oA)(fc1:Nat)(vs2:oA)(vc2:Nat)(fs2:oA)(fc2:Nat)(w:World)(hx:PicAt w ⟨false,vx,fx⟩ vs1 fs1)(hy:PicAt w ⟨false,vy,fy⟩ vs2 fs2)(hv:vx.length=vy.length)(hv8:vx.length<=8)(hf:fx.length=fy.length)(h60:fx.length<=60)(hr:∀i (h:i < fx.length) (h':i < fy.length),fx[i].length=fy[i].length/\fx[i].length<=3)(hR1:∀i (h:i < vx.length) (h':i < vy.length),RR vx[i] vy[i])(hR2:∀i (h:i < fx.length) (h':i < fy.length) k (hk:k < fx[i].length) (hk':k < fy[i].length),RR fx[i][k] fy[i][k]):
  Calls pG 70 #[xv ⟨false,vx,fx⟩ vs1 vc1 fs1 fc1,xv ⟨false,vy,fy⟩ vs2 vc2 fs2 fc2,Bb wide] w λe w'=>UE w.heap.size w' e ⟨false,aQ j vx vy,q3 (aQ j) fx fy⟩/\bl w w':=by
 obtain⟨ti,hi,hz0,hz1,hz2⟩:=kd;obtain⟨tk,hk,hx0,hx1,hx2⟩:=mX;have HJ:Hid (∀(g:Gs) (ss:oA) (gc:Nat) (h:Gs) (st:oA) (hc:Nat) (wx:World),IntsAt wx ss g.s->IntsAt wx st h.s->RR g h->Calls pG 114 #[gv g ss gc,gv h st hc,Bb wide] wx λe w'=>∃js jc,e=Rt (gv (j g h) js jc)/\IntsAt w' js (j g h).s/\(j g h).s.length<=jc/\jc<=maxLen/\(∀a,js=sO a->wx.heap.size<=a.block)/\bl wx w'):=hJ;have HV:=ag hv;have HF:=ag hf;have HR:=ag hr;have HR1:=ag hR1;have HR2:=ag hR2;have HX:=cC;have HY:=ag hy;clear hJ hv hf hr hR1 hR2 hx hy;have hb0:Below w.heap.size w ((((w.alloc (Cc #[Bb false,U vs1 vx.length vc1,U fs1 fx.length fc1] 28)).alloc (Cc #[Bb false,U vs2 vy.length vc2,U fs2 fy.length fc2] 28)).alloc (Cc #[Bb false,U nO 0 0,U nO 0 0] 28)).alloc (Cc #[Bb false,U nO 0 0,U nO 0 0] 28)):=am;have A0:=(XAt.new w ⟨false,vx,fx⟩ vs1 vc1 fs1 fc1).call (w':=((((w.alloc (Cc #[Bb false,U vs1 vx.length vc1,U fs1 fx.length fc1] 28)).alloc (Cc #[Bb false,U vs2 vy.length vc2,U fs2 fy.length fc2] 28)).alloc (Cc #[Bb false,U nO 0 0,U nO 0 0] 28)).alloc (Cc #[Bb false,U nO 0 0,U nO 0 0] 28))) am;have B0:=(XAt.new (w.alloc (Cc #[Bb false,U vs1 vx.length vc1,U fs1 fx.length fc1] 28)) ⟨false,vy,fy⟩ vs2 vc2 fs2 fc2).call (w':=((((w.alloc (Cc #[Bb false,U vs1 vx.length vc1,U fs1 fx.length fc1] 28)).alloc (Cc #[Bb false,U vs2 vy.length vc2,U fs2 fy.length fc2] 28)).alloc (Cc #[Bb false,U nO 0 0,U nO 0 0] 28)).alloc (Cc #[Bb false,U nO 0 0,U nO 0 0] 28))) am;have C0:=(X3.new ((w.alloc (Cc #[Bb false,U vs1 vx.length vc1,U fs1 fx.length fc1] 28)).alloc (Cc #[Bb false,U vs2 vy.length vc2,U fs2 fy.length fc2] 28)) 28 (Bb false) (U nO 0 0) (U nO 0 0)).call (w':=((((w.alloc (Cc #[Bb false,U vs1 vx.length vc1,U fs1 fx.length fc1] 28)).alloc (Cc #[Bb false,U vs2 vy.length vc2,U fs2 fy.length fc2] 28)).alloc (Cc #[Bb false,U nO 0 0,U nO 0 0] 28)).alloc (Cc #[Bb false,U nO 0 0,U nO 0 0] 28))) am;have D0:=X3.new (((w.alloc (Cc #[Bb false,U vs1 vx.length vc1,U fs1 fx.length fc1] 28)).alloc (Cc #[Bb false,U vs2 vy.length vc2,U fs2 fy.length fc2] 28)).alloc (Cc #[Bb false,U nO 0 0,U nO 0 0] 28)) 28 (Bb false) (U nO 0 0) (U nO 0 0);have z0:w.heap.size+1+1+1+1<=((((w.alloc (Cc #[Bb false,U vs1 vx.length vc1,U fs1 fx.length fc1] 28)).alloc (Cc #[Bb false,U vs2 vy.length vc2,U fs2 fy.length fc2] 28)).alloc (Cc #[Bb false,U nO 0 0,U nO 0 0] 28)).alloc (Cc #[Bb false,U nO 0 0,U nO 0 0] 28)).heap.size:=ah;rw[zA] at B0;rw[zA,zA] at C0;rw[zA,zA,zA] at D0;(try simp only at A0 B0);go_enter func70,ntmps70;go_upto_region 6 with fail
 generalize ((((w.alloc (Cc #[Bb false,U vs1 vx.length vc1,U fs1 fx.length fc1] 28)).alloc (Cc #[Bb false,U vs2 vy.length vc2,U fs2 fy.length fc2] 28)).alloc (Cc #[Bb false,U nO 0 0,U nO 0 0] 28)).alloc (Cc #[Bb false,U nO 0 0,U nO 0 0] 28))=w1 at *;go_wp2;go_loopw [8] (λi wr=>∃(k:Nat) (vs:oA) (vc:Nat) (l:List Gc),k<=vx.length/\i=I .i64 k/\XAt wr w.heap.size ⟨false,vx,fx⟩ vs1 vc1 fs1 fc1/\XAt wr (w.heap.size+1) ⟨false,vy,fy⟩ vs2 vc2 fs2 fc2/\X3 wr (w.heap.size+1+1) (Bb false) (U nO 0 0) (U nO 0 0)/\X3 wr (w.heap.size+1+1+1) (Bb false) (U vs l.length vc) (U nO 0 0)/\SRow wr (w.heap.size+1+1+1+1) (U vs l.length vc) l/\Hid (l.map Gc.g=aQ j (vx.take k) (vy.take k))/\bl w wr/\w.heap.size+1+1+1+1<=wr.heap.size) (λi _=>vx.length - (intOf i).toNat)
 case atStart=>exact⟨0,nO,0,[],j6 _,rfl,A0,B0,C0,D0,SRow.nil _ _,rfl,hb0,z0⟩
 case round=>
  obtain⟨k,vs,vc,l,hk1,rfl,AR,BR,CR,ZR,SR,HL,LR,zr⟩:=hrel;clear A0 B0 C0 D0 hb0 z0;have LL:Hid (l.length=k):=by
   show _=_;have h1:=ij;have h2:=HV.out;unfold aQ at h1;exact se
  by_cases hlt:k < vx.length
  ·have n0:=dk
   have n1:(k:Int) < (vx.length:Int):=aa;have hlt':k < vy.length:=by have:=HV.out;omega
   have n2:(k:Int) < (vy.length:Int):=aa;obtain⟨b1,o1,e1,ss1,g1,G1,I1,k1,m1⟩:=(HX.out.1.below LR (lR _)) k hlt;obtain⟨b2,o2,e2,ss2,g2,G2,I2,k2,m2⟩:=(HY.out.1.below LR (lR _)) k hlt';subst e1 e2;have hRk:=HR1.out k hlt hlt';(try simp only at G1 G2 I1 I2);have zb1:b1 < w.heap.size:=oH (HX.out.1) k hlt;have zb2:b2 < w.heap.size:=oH (HY.out.1) k hlt';obtain⟨⟨a0,a1,a2⟩,az,-⟩:=id AR;obtain⟨⟨c0,c1,c2⟩,cz,-⟩:=id BR;obtain⟨⟨y0,y1,y2⟩,yz,-⟩:=id ZR;have HKZ:Hid (∀wx,Below (w.heap.size+1+1+1+1) wr wx->wx.cell? ⟨w.heap.size+1+1+1,1,nO⟩=sO (U vs l.length vc)/\(wx.cell? ⟨w.heap.size,1,nO⟩=sO (U (sO ⟨b1,o1,nO⟩) vx.length vc1)/\(wx.cell? ⟨b1,o1+k * 7,nO⟩=sO (Bb vx[k].n)/\wx.cell? ⟨b1,o1+k * 7+1,nO⟩=sO (Bb vx[k].sp.n)/\wx.cell? ⟨b1,o1+k * 7+2,nO⟩=sO (I .i64 vx[k].sp.lo)/\wx.cell? ⟨b1,o1+k * 7+3,nO⟩=sO (I .i64 vx[k].sp.hi)/\wx.cell? ⟨b1,o1+k * 7+4,nO⟩=sO (Bb vx[k].t)/\wx.cell? ⟨b1,o1+k * 7+5,nO⟩=sO (Bb vx[k].f)/\wx.cell? ⟨b1,o1+k * 7+6,nO⟩=sO (U ss1 vx[k].s.length g1)))/\(wx.cell? ⟨w.heap.size+1,1,nO⟩=sO (U (sO ⟨b2,o2,nO⟩) vy.length vc2)/\(wx.cell? ⟨b2,o2+k * 7,nO⟩=sO (Bb vy[k].n)/\wx.cell? ⟨b2,o2+k * 7+1,nO⟩=sO (Bb vy[k].sp.n)/\wx.cell? ⟨b2,o2+k * 7+2,nO⟩=sO (I .i64 vy[k].sp.lo)/\wx.cell? ⟨b2,o2+k * 7+3,nO⟩=sO (I .i64 vy[k].sp.hi)/\wx.cell? ⟨b2,o2+k * 7+4,nO⟩=sO (Bb vy[k].t)/\wx.cell? ⟨b2,o2+k * 7+5,nO⟩=sO (Bb vy[k].f)/\wx.cell? ⟨b2,o2+k * 7+6,nO⟩=sO (U ss2 vy[k].s.length g2)))):=λwx hx=>⟨by rw[hx.cell (by simp only;omega)];exact y1,⟨by rw[hx.cell (by simp only;omega)];exact a1,(G1.low hx aa).1⟩,by rw[hx.cell (by simp only;omega)];exact c1,(G2.low hx aa).1⟩;have HD:=dB;go_wp2;clear a0 a1 a2 az c0 c1 c2 cz y0 y1 y2 yz;refine aG (S:=(λwx=>wx.cell? ⟨w.heap.size+1+1+1,1,nO⟩=sO (U vs l.length vc)/\(wx.cell? ⟨w.heap.size,1,nO⟩=sO (U (sO ⟨b1,o1,nO⟩) vx.length vc1)/\(wx.cell? ⟨b1,o1+k * 7,nO⟩=sO (Bb vx[k].n)/\wx.cell? ⟨b1,o1+k * 7+1,nO⟩=sO (Bb vx[k].sp.n)/\wx.cell? ⟨b1,o1+k * 7+2,nO⟩=sO (I .i64 vx[k].sp.lo)/\wx.cell? ⟨b1,o1+k * 7+3,nO⟩=sO (I .i64 vx[k].sp.hi)/\wx.cell? ⟨b1,o1+k * 7+4,nO⟩=sO (Bb vx[k].t)/\wx.cell? ⟨b1,o1+k * 7+5,nO⟩=sO (Bb vx[k].f)/\wx.cell? ⟨b1,o1+k * 7+6,nO⟩=sO (U ss1 vx[k].s.length g1)))/\(wx.cell? ⟨w.heap.size+1,1,nO⟩=sO (U (sO ⟨b2,o2,nO⟩) vy.length vc2)/\(wx.cell? ⟨b2,o2+k * 7,nO⟩=sO (Bb vy[k].n)/\wx.cell? ⟨b2,o2+k * 7+1,nO⟩=sO (Bb vy[k].sp.n)/\wx.cell? ⟨b2,o2+k * 7+2,nO⟩=sO (I .i64 vy[k].sp.lo)/\wx.cell? ⟨b2,o2+k * 7+3,nO⟩=sO (I .i64 vy[k].sp.hi)/\wx.cell? ⟨b2,o2+k * 7+4,nO⟩=sO (Bb vy[k].t)/\wx.cell? ⟨b2,o2+k * 7+5,nO⟩=sO (Bb vy[k].f)/\wx.cell? ⟨b2,o2+k * 7+6,nO⟩=sO (U ss2 vy[k].s.length g2))))) [17] ae (HKZ.out _ (HD.mono zr)) (λhHeld=> ?_);refine vZ 0 ?_ ?_;refine vZ 1 ?_ ?_;refine vZ 2 ?_ ?_;refine vZ 3 ?_ ?_;refine vZ 4 ?_ ?_;refine vZ 5 ?_ ?_;refine vZ 6 ?_ ?_;refine vZ 7 ?_ ?_;refine vZ 8 ?_ ?_;refine vZ 9 ?_ ?_;refine vZ 10 ?_ ?_;refine vZ 11 ?_ ?_;refine vZ 12 ?_ ?_;refine aB (i:=13) rfl ae (λK hK=> ?_);go_simp;go_at_call 114;refine(HJ.out vx[k] ss1 g1 vy[k] ss2 g2 _ (I1.call HD) (I2.call HD) hRk).mono ?_;rintro e w5 ⟨js,jc,rfl,HI5,HJ1,HJ2,HF5,hb5⟩;have HW5:=nw;have HB5:Below (w.heap.size+1+1+1+1) wr w5:=HW5.mono zr;go_wp2_with fail;refine hK.out _ _ (HKZ.out _ HB5) (λhHeld=> ?_);clear hK K;refine sm ?_;refine aB (i:=14) rfl ae (λK hK=> ?_);go_simp;have HW6:bl wr (w5.alloc (Cc #[Bb (j vx[k] vy[k]).n,Bb (j vx[k] vy[k]).sp.n,I .i64 (j vx[k] vy[k]).sp.lo,I .i64 (j vx[k] vy[k]).sp.hi,Bb (j vx[k] vy[k]).t,Bb (j vx[k] vy[k]).f,U js (j vx[k] vy[k]).s.length jc] 91)):=HW5.alloc HW5.size _;have HB6:Below (w.heap.size+1+1+1+1) wr (w5.alloc (Cc #[Bb (j vx[k] vy[k]).n,Bb (j vx[k] vy[k]).sp.n,I .i64 (j vx[k] vy[k]).sp.lo,I .i64 (j vx[k] vy[k]).sp.hi,Bb (j vx[k] vy[k]).t,Bb (j vx[k] vy[k]).f,U js (j vx[k] vy[k]).s.length jc] 91)):=HW6.mono zr;refine hK.out _ _ (HKZ.out _ HB6) (λhHeld=> ?_);clear hK K;refine sm ?_;refine aB (i:=15) rfl ae (λK hK=> ?_);have S6:=SR.call HW6;have GX:bS (λb=>w.heap.size+1+1+1+1<=b/\(j8 vs l.length vc).ownBlock≠sO b) (w5.alloc (Cc #[Bb (j vx[k] vy[k]).n,Bb (j vx[k] vy[k]).sp.n,I .i64 (j vx[k] vy[k]).sp.lo,I .i64 (j vx[k] vy[k]).sp.hi,Bb (j vx[k] vy[k]).t,Bb (j vx[k] vy[k]).f,U js (j vx[k] vy[k]).s.length jc] 91)) ⟨j vx[k] vy[k],js,jc⟩:=km HI5 HJ1 HJ2 HF5 zr (λe=>(aR SR.1 e).1) am (HD.size);refine eK _ rfl _ _ 25 rfl (w.heap.size+1+1+1+1) 91 ti (Ag #[Bb false,Bb false,I .i64 0,I .i64 0,Bb false,Bb false,U nO 0 0]) 7 64 underlying25 hi hz0 hz1 hz2 rfl ai _ _ _ rfl S6.1 (sO ⟨w5.heap.size,0,nO⟩) 1 1 (br ⟨j vx[k] vy[k],js,jc⟩) rfl rfl (λh=>aT) (nV w5 ⟨j vx[k] vy[k],js,jc⟩ #[Bb (j vx[k] vy[k]).n,Bb (j vx[k] vy[k]).sp.n,I .i64 (j vx[k] vy[k]).sp.lo,I .i64 (j vx[k] vy[k]).sp.hi,Bb (j vx[k] vy[k]).t,Bb (j vx[k] vy[k]).f,U js (j vx[k] vy[k]).s.length jc] _ rfl) (dE _) uD uU kv ?_;intro v' w7 hown hgrow hat;have S7:=S6.grown (x:=⟨j vx[k] vy[k],js,jc⟩) GX hown hgrow hat;have HB7:Below (w.heap.size+1+1+1+1) wr w7:=HB6.grown hgrow kv (λk hk=>(aR S6.1 hk).2);obtain⟨vs',vc',rfl,-,-,-⟩:=S7.in;refine hK.out _ _ (HKZ.out _ HB7) (λhHeld=> ?_);clear hK K hown hgrow hat S6 GX HB6 HW6 HB5 HW5 HI5 HF5;refine sm ?_;refine vZ 16 ?_ ?_;refine bE (i:=17) rfl ae ae (λK hK=> ?_);have Z7:X3 w7 (w.heap.size+1+1+1) (Bb false) (U vs l.length vc) (U nO 0 0):=ZR.same (HB7.block _ aa) HB7.size;obtain⟨⟨y0,y1,y2⟩,yz,yf⟩:=id Z7;have yf1:=yf 1;clear yf;go_simp;refine hK.out _ _ ?_;clear hK K;refine sm ?_;refine aC ae ?_ _;clear y0 y1 y2 yz yf1;have A7:XAt w7 w.heap.size ⟨false,vx,fx⟩ _ vc1 fs1 fc1:=AR.same (HB7.block _ aa) HB7.size;have B7:XAt w7 (w.heap.size+1) ⟨false,vy,fy⟩ _ vc2 fs2 fc2:=BR.same (HB7.block _ aa) HB7.size;have C7:X3 w7 (w.heap.size+1+1) (Bb false) (U nO 0 0) (U nO 0 0):=CR.same (HB7.block _ aa) HB7.size;have L7:=pk;have z7:w.heap.size+1+1+1+1<=w7.heap.size:=lT zr HB7.size;have e7:∀b,b≠w.heap.size+1+1+1->(w7.setCell ⟨w.heap.size+1+1+1,1,nO⟩ (U vs' (l++[(⟨j vx[k] vy[k],js,jc⟩:Gc)]).length vc')).heap[b]? =w7.heap[b]? :=λb hb=>hSe _ _ _ _ hb;have s7:w7.heap.size<=(w7.setCell ⟨w.heap.size+1+1+1,1,nO⟩ (U vs' (l++[(⟨j vx[k] vy[k],js,jc⟩:Gc)]).length vc')).heap.size:=bH;clear AR BR CR ZR SR LR zr HKZ;go_wp2;go_roundw
   case rel=>exact⟨k+1,vs',vc',l++[⟨j vx[k] vy[k],js,jc⟩],aa,aF,Ns,by first|exact B7.same (e7 _ (by omega)) s7|(simpa using B7.same (e7 _ (by omega)) s7),Mz,by first|exact Z7.put1 _|(simpa using Z7.put1 (U vs' (l++[(⟨j vx[k] vy[k],js,jc⟩:Gc)]).length vc')),MG,by show _=_;rw[q5,HL.out,kO j vx vy k hlt hlt'];rfl,by first|exact L7.setCell (by simp only;omega) _|(simpa using L7.setCell (p:=⟨w.heap.size+1+1+1,1,nO⟩) (by simp only;omega) (U vs' (l++[(⟨j vx[k] vy[k],js,jc⟩:Gc)]).length vc')),uM⟩
   case measure=>exact aK
  ·have n1':¬(k:Int) < (vx.length:Int):=by omega
   obtain⟨vs0,vc0,e0,hk0,hk00,GV0⟩:=SR.in;cases e0;have ek:k=vx.length:=aa;have et1:vx.take k=vx:=j7 aa;have et2:vy.take k=vy:=j7 (by have:=HV.out;omega)
   have LV:Hid (l.length=(aQ j vx vy).length):=by
    show _=_;have h1:=ij;rw[et1,et2,q4] at h1;exact h1
   rw[HL.out,et1,et2] at GV0;have GV:GsIn (λb=>w.heap.size+1+1+1+1<=b/\b < wr.heap.size) wr vs (aQ j vx vy):=GV0.mono λb h1 h2=>⟨h1,h2⟩;have HVC:Hid (l.length<=vc/\vc<=maxLen):=⟨hk0,hk00⟩;clear GV0 SR LL HL hk0 hk00 et1 et2;have zn:w.heap.size+1+1+1+1<=wr.heap.size:=zr;obtain⟨⟨a0,a1,a2⟩,az,-⟩:=id AR;generalize hN:wr.heap.size=N at *;have HNN:=ag hN;clear hN;go_wp2;clear a0 a1 a2 az;go_loopw [9] (λi wr=>∃(k:Nat) (fs:oA) (fc:Nat) (L:List Rw),k<=fx.length/\i=I .i64 k/\XAt wr w.heap.size ⟨false,vx,fx⟩ vs1 vc1 fs1 fc1/\XAt wr (w.heap.size+1) ⟨false,vy,fy⟩ vs2 vc2 fs2 fc2/\X3 wr (w.heap.size+1+1) (Bb false) (U nO 0 0) (U nO 0 0)/\X3 wr (w.heap.size+1+1+1) (Bb false) (U vs l.length vc) (U fs L.length fc)/\FRow wr N (U fs L.length fc) L/\Hid (L.map Rw.l=q3 (aQ j) (fx.take k) (fy.take k))/\GsIn (λb=>w.heap.size+1+1+1+1<=b/\b < N) wr vs (aQ j vx vy)/\bl w wr/\N<=wr.heap.size) (λi _=>fx.length - (intOf i).toNat)
   case atStart=>exact⟨0,nO,0,[],j6 _,rfl,AR,BR,CR,ZR,FRow.nil _ _,rfl,GV,LR,Du⟩
   case round=>
    clear AR BR CR ZR GV LR zr HNN;obtain⟨k2,fs,fc,L,hk2,rfl,AR,BR,CR,ZR,FR,HL,GV,LR,zr⟩:=hrel;generalize wr=w6 at *;clear wr;have LL:Hid (L.length=k2):=by
     show _=_;have h1:=ij;have h2:=HF.out;exact se
    obtain⟨⟨a0,a1,a2⟩,az,-⟩:=id AR;by_cases hlt2:k2 < fx.length
    ·have n0:=sk
     have n2':(k2:Int) < (fx.length:Int):=aa;have hlt2':k2 < fy.length:=uI;have n3':(k2:Int) < (fy.length:Int):=aa;go_wp2;clear a0 a1 a2 az;go_loopw [10,11] (λr i2 wo=>∃(m:Nat) (rs:oA) (rc:Nat) (lr:List Gc),m<=fx[k2].length/\r=U rs lr.length rc/\i2=I .i64 m/\bl w6 wo/\SRow wo w6.heap.size (U rs lr.length rc) lr/\Hid (lr.map Gc.g=aQ j (fx[k2].take m) (fy[k2].take m))) (λ_ i2 _=>fx[k2].length - (intOf i2).toNat)
     case atStart=>exact⟨0,nO,0,[],j6 _,rfl,rfl,bR _ _,SRow.nil _ _,rfl⟩
     case round=>
      obtain⟨m,rs,rc,lr,hm,rfl,rfl,hbo,SR,HM⟩:=hrel;have hlen:=HR.out k2 hlt2 hlt2';have HEQ:=ag hlen.1;have h3:=hlen.2;clear hlen;have LM:Hid (lr.length=m):=by
       show _=_;have h1:=congrArg z3 HM.out;have h2:=HEQ.out;unfold aQ at h1;exact se
      obtain⟨⟨a0,a1,a2⟩,az,-⟩:=id (AR.call hbo);obtain⟨⟨c0,c1,c2⟩,cz,-⟩:=id (BR.call hbo);obtain⟨p1,q1,e1,zp1,r1,rc1,C1,k1,m1,J1⟩:=HX.out.2 k2 hlt2;obtain⟨p2,q2,e2,zp2,r2,rc2,C2,k2',m2,J2⟩:=HY.out.2 k2 hlt2';have hwo:=LR.trans (hbo.mono LR.size);have D1:=KB;have D2:wr.cell? ⟨p2,q2+k2,nO⟩=sO (U r2 fy[k2].length rc2):=by rw[hwo.cell (by simp only;exact zp2)];exact C2
      subst e1 e2;clear C1 C2;by_cases hltm:m < fx[k2].length
      ·have m0:(0:Int)<=(m:Int):=by omega
       have m1':(m:Int) < (fx[k2].length:Int):=aa;have hltm':m < fy[k2].length:=by have:=HEQ.out;omega
       have m2':(m:Int) < (fy[k2].length:Int):=aa;obtain⟨b1,o1,e1,ss1,g1,G1,I1,l1,l2⟩:=(J1.below hwo (lR _)) m hltm;obtain⟨b2,o2,e2,ss2,g2,G2,I2,l3,l4⟩:=(J2.below hwo (lR _)) m hltm';subst e1 e2;have zb1:b1 < w.heap.size:=oH J1 m hltm;have zb2:b2 < w.heap.size:=oH J2 m hltm';have hRk:=HR2.out k2 hlt2 hlt2' m hltm hltm';have zn6:w.heap.size+1+1+1+1<=w6.heap.size:=lT zn zr;have HKL:Hid (∀wx,Below w6.heap.size wr wx->(wx.cell? ⟨w.heap.size,2,nO⟩=sO (U (sO ⟨p1,q1,nO⟩) fx.length fc1)/\wx.cell? ⟨p1,q1+k2,nO⟩=sO (U (sO ⟨b1,o1,nO⟩) fx[k2].length rc1)/\(wx.cell? ⟨b1,o1+m * 7,nO⟩=sO (Bb fx[k2][m].n)/\wx.cell? ⟨b1,o1+m * 7+1,nO⟩=sO (Bb fx[k2][m].sp.n)/\wx.cell? ⟨b1,o1+m * 7+2,nO⟩=sO (I .i64 fx[k2][m].sp.lo)/\wx.cell? ⟨b1,o1+m * 7+3,nO⟩=sO (I .i64 fx[k2][m].sp.hi)/\wx.cell? ⟨b1,o1+m * 7+4,nO⟩=sO (Bb fx[k2][m].t)/\wx.cell? ⟨b1,o1+m * 7+5,nO⟩=sO (Bb fx[k2][m].f)/\wx.cell? ⟨b1,o1+m * 7+6,nO⟩=sO (U ss1 fx[k2][m].s.length g1)))/\(wx.cell? ⟨w.heap.size+1,2,nO⟩=sO (U (sO ⟨p2,q2,nO⟩) fy.length fc2)/\wx.cell? ⟨p2,q2+k2,nO⟩=sO (U (sO ⟨b2,o2,nO⟩) fy[k2].length rc2)/\(wx.cell? ⟨b2,o2+m * 7,nO⟩=sO (Bb fy[k2][m].n)/\wx.cell? ⟨b2,o2+m * 7+1,nO⟩=sO (Bb fy[k2][m].sp.n)/\wx.cell? ⟨b2,o2+m * 7+2,nO⟩=sO (I .i64 fy[k2][m].sp.lo)/\wx.cell? ⟨b2,o2+m * 7+3,nO⟩=sO (I .i64 fy[k2][m].sp.hi)/\wx.cell? ⟨b2,o2+m * 7+4,nO⟩=sO (Bb fy[k2][m].t)/\wx.cell? ⟨b2,o2+m * 7+5,nO⟩=sO (Bb fy[k2][m].f)/\wx.cell? ⟨b2,o2+m * 7+6,nO⟩=sO (U ss2 fy[k2][m].s.length g2)))):=λwx hx=>⟨⟨by rw[hx.cell (by simp only;omega)];exact a2,by rw[hx.cell (by simp only;omega)];exact D1,(G1.low hx aa).1⟩,by rw[hx.cell (by simp only;omega)];exact c2,by rw[hx.cell (by simp only;omega)];exact D2,(G2.low hx aa).1⟩;have HKZ:Hid (∀wx,bl wr wx->(wx.cell? ⟨w.heap.size,2,nO⟩=sO (U (sO ⟨p1,q1,nO⟩) fx.length fc1)/\wx.cell? ⟨p1,q1+k2,nO⟩=sO (U (sO ⟨b1,o1,nO⟩) fx[k2].length rc1)/\(wx.cell? ⟨b1,o1+m * 7,nO⟩=sO (Bb fx[k2][m].n)/\wx.cell? ⟨b1,o1+m * 7+1,nO⟩=sO (Bb fx[k2][m].sp.n)/\wx.cell? ⟨b1,o1+m * 7+2,nO⟩=sO (I .i64 fx[k2][m].sp.lo)/\wx.cell? ⟨b1,o1+m * 7+3,nO⟩=sO (I .i64 fx[k2][m].sp.hi)/\wx.cell? ⟨b1,o1+m * 7+4,nO⟩=sO (Bb fx[k2][m].t)/\wx.cell? ⟨b1,o1+m * 7+5,nO⟩=sO (Bb fx[k2][m].f)/\wx.cell? ⟨b1,o1+m * 7+6,nO⟩=sO (U ss1 fx[k2][m].s.length g1)))/\(wx.cell? ⟨w.heap.size+1,2,nO⟩=sO (U (sO ⟨p2,q2,nO⟩) fy.length fc2)/\wx.cell? ⟨p2,q2+k2,nO⟩=sO (U (sO ⟨b2,o2,nO⟩) fy[k2].length rc2)/\(wx.cell? ⟨b2,o2+m * 7,nO⟩=sO (Bb fy[k2][m].n)/\wx.cell? ⟨b2,o2+m * 7+1,nO⟩=sO (Bb fy[k2][m].sp.n)/\wx.cell? ⟨b2,o2+m * 7+2,nO⟩=sO (I .i64 fy[k2][m].sp.lo)/\wx.cell? ⟨b2,o2+m * 7+3,nO⟩=sO (I .i64 fy[k2][m].sp.hi)/\wx.cell? ⟨b2,o2+m * 7+4,nO⟩=sO (Bb fy[k2][m].t)/\wx.cell? ⟨b2,o2+m * 7+5,nO⟩=sO (Bb fy[k2][m].f)/\wx.cell? ⟨b2,o2+m * 7+6,nO⟩=sO (U ss2 fy[k2][m].s.length g2)))):=λwx hx=>HKL.out wx (hx.mono hbo.size);have HD:=dB;go_wp2;clear a0 a1 a2 az c0 c1 c2 cz D1 D2;refine aG (S:=(λwx=>(wx.cell? ⟨w.heap.size,2,nO⟩=sO (U (sO ⟨p1,q1,nO⟩) fx.length fc1)/\wx.cell? ⟨p1,q1+k2,nO⟩=sO (U (sO ⟨b1,o1,nO⟩) fx[k2].length rc1)/\(wx.cell? ⟨b1,o1+m * 7,nO⟩=sO (Bb fx[k2][m].n)/\wx.cell? ⟨b1,o1+m * 7+1,nO⟩=sO (Bb fx[k2][m].sp.n)/\wx.cell? ⟨b1,o1+m * 7+2,nO⟩=sO (I .i64 fx[k2][m].sp.lo)/\wx.cell? ⟨b1,o1+m * 7+3,nO⟩=sO (I .i64 fx[k2][m].sp.hi)/\wx.cell? ⟨b1,o1+m * 7+4,nO⟩=sO (Bb fx[k2][m].t)/\wx.cell? ⟨b1,o1+m * 7+5,nO⟩=sO (Bb fx[k2][m].f)/\wx.cell? ⟨b1,o1+m * 7+6,nO⟩=sO (U ss1 fx[k2][m].s.length g1)))/\(wx.cell? ⟨w.heap.size+1,2,nO⟩=sO (U (sO ⟨p2,q2,nO⟩) fy.length fc2)/\wx.cell? ⟨p2,q2+k2,nO⟩=sO (U (sO ⟨b2,o2,nO⟩) fy[k2].length rc2)/\(wx.cell? ⟨b2,o2+m * 7,nO⟩=sO (Bb fy[k2][m].n)/\wx.cell? ⟨b2,o2+m * 7+1,nO⟩=sO (Bb fy[k2][m].sp.n)/\wx.cell? ⟨b2,o2+m * 7+2,nO⟩=sO (I .i64 fy[k2][m].sp.lo)/\wx.cell? ⟨b2,o2+m * 7+3,nO⟩=sO (I .i64 fy[k2][m].sp.hi)/\wx.cell? ⟨b2,o2+m * 7+4,nO⟩=sO (Bb fy[k2][m].t)/\wx.cell? ⟨b2,o2+m * 7+5,nO⟩=sO (Bb fy[k2][m].f)/\wx.cell? ⟨b2,o2+m * 7+6,nO⟩=sO (U ss2 fy[k2][m].s.length g2))))) [] ae (HKZ.out _ HD) (λhHeld=> ?_);refine vZ 0 ?_ ?_;refine vZ 1 ?_ ?_;refine vZ 2 ?_ ?_;refine vZ 3 ?_ ?_;refine vZ 4 ?_ ?_;refine vZ 5 ?_ ?_;refine vZ 6 ?_ ?_;refine vZ 7 ?_ ?_;refine vZ 8 ?_ ?_;refine vZ 9 ?_ ?_;refine vZ 10 ?_ ?_;refine vZ 11 ?_ ?_;refine vZ 12 ?_ ?_;refine vZ 13 ?_ ?_;refine vZ 14 ?_ ?_;refine vZ 15 ?_ ?_;refine vZ 16 ?_ ?_;refine vZ 17 ?_ ?_;refine aB (i:=18) rfl ae (λK hK=> ?_);go_simp;go_at_call 114;refine(HJ.out fx[k2][m] ss1 g1 fy[k2][m] ss2 g2 _ (I1.call HD) (I2.call HD) hRk).mono ?_;rintro e w7 ⟨js,jc,rfl,HI5,HJ1,HJ2,HF5,hb7⟩;have HW7:bl wr w7:=HD.trans (hb7.mono HD.size);go_wp2_with fail;refine hK.out _ _ (HKZ.out _ HW7) (λhHeld=> ?_);clear hK K;refine sm ?_;refine aB (i:=19) rfl ae (λK hK=> ?_);go_simp;have HW8:bl wr (w7.alloc (Cc #[Bb (j fx[k2][m] fy[k2][m]).n,Bb (j fx[k2][m] fy[k2][m]).sp.n,I .i64 (j fx[k2][m] fy[k2][m]).sp.lo,I .i64 (j fx[k2][m] fy[k2][m]).sp.hi,Bb (j fx[k2][m] fy[k2][m]).t,Bb (j fx[k2][m] fy[k2][m]).f,U js (j fx[k2][m] fy[k2][m]).s.length jc] 91)):=HW7.alloc HW7.size _;refine hK.out _ _ (HKZ.out _ HW8) (λhHeld=> ?_);clear hK K;refine sm ?_;refine aB (i:=20) rfl ae (λK hK=> ?_);have S8:=SR.call HW8;have z67:w6.heap.size<=wr.heap.size:=hbo.size;have GX:bS (λb=>w6.heap.size<=b/\(j8 rs lr.length rc).ownBlock≠sO b) (w7.alloc (Cc #[Bb (j fx[k2][m] fy[k2][m]).n,Bb (j fx[k2][m] fy[k2][m]).sp.n,I .i64 (j fx[k2][m] fy[k2][m]).sp.lo,I .i64 (j fx[k2][m] fy[k2][m]).sp.hi,Bb (j fx[k2][m] fy[k2][m]).t,Bb (j fx[k2][m] fy[k2][m]).f,U js (j fx[k2][m] fy[k2][m]).s.length jc] 91)) ⟨j fx[k2][m] fy[k2][m],js,jc⟩:=km HI5 HJ1 HJ2 HF5 z67 (λe=>(aR SR.1 e).1) am (HD.size);refine eK _ rfl _ _ 25 rfl w6.heap.size 91 ti (Ag #[Bb false,Bb false,I .i64 0,I .i64 0,Bb false,Bb false,U nO 0 0]) 7 64 underlying25 hi hz0 hz1 hz2 rfl ai _ _ _ rfl S8.1 (sO ⟨w7.heap.size,0,nO⟩) 1 1 (br ⟨j fx[k2][m] fy[k2][m],js,jc⟩) rfl rfl (λh=>aT) (nV w7 ⟨j fx[k2][m] fy[k2][m],js,jc⟩ #[Bb (j fx[k2][m] fy[k2][m]).n,Bb (j fx[k2][m] fy[k2][m]).sp.n,I .i64 (j fx[k2][m] fy[k2][m]).sp.lo,I .i64 (j fx[k2][m] fy[k2][m]).sp.hi,Bb (j fx[k2][m] fy[k2][m]).t,Bb (j fx[k2][m] fy[k2][m]).f,U js (j fx[k2][m] fy[k2][m]).s.length jc] _ rfl) (dE _) (by unfold maxLen;have:=LM.out;omega) (by have:=LM.out;omega) Ei ?_;intro v' w9 hown hgrow hat;have S9:=S8.grown (x:=⟨j fx[k2][m] fy[k2][m],js,jc⟩) GX hown hgrow hat;have hb9:bl w6 w9:=(hbo.trans (HW8.mono hbo.size)).grown hgrow Ei (λk hk=>(aR S8.1 hk).2);have HB9:Below w6.heap.size wr w9:=(HW8.mono hbo.size).grown hgrow Ei (λk hk=>(aR S8.1 hk).2);obtain⟨rs',rc',rfl,-,-,-⟩:=S9.in;refine hK.out _ _ (HKL.out _ HB9) (λhHeld=> ?_);clear hK K hown hgrow hat S8 GX HW8 HW7 HI5 HF5;refine sm ?_;refine vZ 21 ?_ ?_;refine aC ae ?_ _;clear SR hbo HKZ HKL HB9;go_wp2;go_roundw
       case rel=>exact⟨m+1,rs',rc',lr++[⟨j fx[k2][m] fy[k2][m],js,jc⟩],aa,oD,aF,hb9,S9,by show _=_;rw[q5,HM.out,kO j fx[k2] fy[k2] m hltm hltm'];rfl⟩
       case measure=>exact aK
      ·have m1':¬(m:Int) < (fx[k2].length:Int):=by omega
       have et1:fx[k2].take m=fx[k2]:=j7 aa;have et2:fy[k2].take m=fy[k2]:=j7 (by have:=HEQ.out;omega)
       obtain⟨rs0,rc0,e0,hk0,hk00,GR⟩:=SR.in;cases e0;have HLF:Hid (lr.length=(aQ j fx[k2] fy[k2]).length):=by
        show _=_;have h1:=congrArg z3 HM.out;rw[et1,et2,q4] at h1;exact h1
       rw[HM.out,et1,et2] at GR;have A9:=AR.call hbo;have B9:=BR.call hbo;have C9:=CR.call hbo;have Z9:=ZR.call hbo;have F9:=FR.call hbo;have V9:=GV.call hbo;have L9:=hwo;have z9:=y9;have RX:uh (λb=>N<=b/\(j8 fs L.length fc).ownBlock≠sO b) wr ⟨rs,rc,aQ j fx[k2] fy[k2]⟩:=⟨GR.mono λb h1 _=>⟨lT zr h1,λe=>by have:=(aR FR.1 e).1;omega⟩,by rw[HLF.out] at hk0;exact hk0,hk00⟩
       clear AR BR CR ZR FR GV LR SR GR hbo zr hk0 hk00 LM HM hwo et1 et2;generalize wr=w9 at *;clear wr;obtain⟨⟨y0,y1,y2⟩,yz,yf⟩:=id Z9;have F10:=F9.call (w':=w9.alloc (Cc #[U rs lr.length rc] 25)) am;have R10:uh (λb=>N<=b/\(j8 fs L.length fc).ownBlock≠sO b) (w9.alloc (Cc #[U rs lr.length rc] 25)) ⟨rs,rc,aQ j fx[k2] fy[k2]⟩:=⟨RX.1.call am,RX.2⟩;go_wp2_with (at_builtin;refine bh _ rfl _ _ 26 rfl N 25 tk (U nO 0 0) 1 24 underlying26 hk hx0 hx1 hx2 rfl ai _ _ _ rfl F10.1 (sO ⟨w9.heap.size,0,nO⟩) 1 1 [U rs lr.length rc] rfl rfl (λh=>aT) ?qc2 oC ?qc4 ?qc5 ?qc6 ?_);(try (case qc2=>exact BI w9 _ _))
       case qc4=>unfold maxLen;have:=LL.out;omega
       case qc5=>have:=LL.out;omega
       (try (case qc6=>first|omega|(rw[zA];omega)|(simp;omega)|simp));intro v' w10 hown hgrow hat;rw[HLF.out] at hown;have F11:=F10.grown (x:=⟨rs,rc,aQ j fx[k2] fy[k2]⟩) R10 hown hgrow gx;have hb10:=G8;obtain⟨fs',fc',rfl,-,-,-⟩:=F11.rows;clear hown hgrow hat F10 F9 R10 RX y0 y1 y2 yz yf a0 a1 a2 az c0 c1 c2 cz D1 D2;have A4:XAt w10 w.heap.size ⟨false,vx,fx⟩ _ vc1 _ fc1:=A9.same (hb10.block _ aa) hb10.size;have B4:XAt w10 (w.heap.size+1) ⟨false,vy,fy⟩ _ vc2 _ fc2:=B9.same (hb10.block _ aa) hb10.size;have C4:X3 w10 (w.heap.size+1+1) (Bb false) (U nO 0 0) (U nO 0 0):=C9.same (hb10.block _ aa) hb10.size;have Z4:X3 w10 (w.heap.size+1+1+1) (Bb false) (U vs l.length vc) (U fs L.length fc):=Z9.same (hb10.block _ aa) hb10.size;have V4:GsIn (λb=>w.heap.size+1+1+1+1<=b/\b < N) w10 vs (aQ j vx vy):=V9.same (λb hS _=>hb10.block b hS.2) hb10.size;have L4:=L9.trans (hb10.mono aa);have z4:=Ao;clear A9 B9 C9 Z9 V9 L9 z9 hb10;obtain⟨⟨y0,y1,y2⟩,yz,yf⟩:=id Z4;have yf2:=yf 2;clear yf;have e7:∀(x:Value) b,b≠w.heap.size+1+1+1->(w10.setCell ⟨w.heap.size+1+1+1,2,nO⟩ x).heap[b]? =w10.heap[b]? :=λx b hb=>hSe _ _ _ _ hb;have s7:∀(x:Value),w10.heap.size<=(w10.setCell ⟨w.heap.size+1+1+1,2,nO⟩ x).heap.size:=λx=>bH;have E7:=ag e7;have S7:=ag s7;clear e7 s7;go_wp2;go_roundw
       case rel=>exact⟨k2+1,fs',fc',L++[⟨rs,rc,aQ j fx[k2] fy[k2]⟩],aa,aF,A4.same (E7.out _ _ aa) (S7.out _),B4.same (E7.out _ _ aa) (S7.out _),C4.same (E7.out _ _ aa) (S7.out _),by rw[z5];exact Z4.put2 _,F11.old (λb hb=>E7.out _ b aa) (S7.out _),by show _=_;rw[q5,HL.out,s8 j fx fy k2 hlt2 hlt2'];rfl,V4.same (λb hS _=>E7.out _ b aa) (S7.out _),L4.setCell aw _,uv⟩
       case measure=>exact aK
    ·have n2':¬(k2:Int) < (fx.length:Int):=by omega
     have et1:fx.take k2=fx:=j7 aa;have et2:fy.take k2=fy:=j7 uI;have ELL:Hid (L.length=(q3 (aQ j) fx fy).length):=by
      show _=_;have h1:=ij;rw[et1,et2,q4] at h1;exact h1
     have HFC:Hid (L.length<=fc/\fc<=maxLen):=by
      obtain⟨fs0,fc0,e0,hk0,hk00,-⟩:=FR.rows;cases e0;exact⟨hk0,hk00⟩
     have hch:∀b,b≠w.heap.size+1+1->(((w6.setCell ⟨w.heap.size+1+1,0,nO⟩ (Bb false)).setCell ⟨w.heap.size+1+1,1,nO⟩ (U vs l.length vc)).setCell ⟨w.heap.size+1+1,2,nO⟩ (U fs L.length fc)).heap[b]? =w6.heap[b]? :=λb hb=>oX;have hcz:w6.heap.size<=(((w6.setCell ⟨w.heap.size+1+1,0,nO⟩ (Bb false)).setCell ⟨w.heap.size+1+1,1,nO⟩ (U vs l.length vc)).setCell ⟨w.heap.size+1+1,2,nO⟩ (U fs L.length fc)).heap.size:=bH;have FX:=FR.old (w':=(((w6.setCell ⟨w.heap.size+1+1,0,nO⟩ (Bb false)).setCell ⟨w.heap.size+1+1,1,nO⟩ (U vs l.length vc)).setCell ⟨w.heap.size+1+1,2,nO⟩ (U fs L.length fc))) (λb hb=>hch b aa) hcz;have GX:=GV.same (w':=(((w6.setCell ⟨w.heap.size+1+1,0,nO⟩ (Bb false)).setCell ⟨w.heap.size+1+1,1,nO⟩ (U vs l.length vc)).setCell ⟨w.heap.size+1+1,2,nO⟩ (U fs L.length fc))) (λb hS _=>hch b aa) hcz;have BX:bl w (((w6.setCell ⟨w.heap.size+1+1,0,nO⟩ (Bb false)).setCell ⟨w.heap.size+1+1,1,nO⟩ (U vs l.length vc)).setCell ⟨w.heap.size+1+1,2,nO⟩ (U fs L.length fc)):=((LR.setCell aw _).setCell aw _).setCell aw _;have HFX:Hid (∀wz:World,(∀b,w.heap.size<=b->b < (((w6.setCell ⟨w.heap.size+1+1,0,nO⟩ (Bb false)).setCell ⟨w.heap.size+1+1,1,nO⟩ (U vs l.length vc)).setCell ⟨w.heap.size+1+1,2,nO⟩ (U fs L.length fc)).heap.size->wz.heap[b]? =(((w6.setCell ⟨w.heap.size+1+1,0,nO⟩ (Bb false)).setCell ⟨w.heap.size+1+1,1,nO⟩ (U vs l.length vc)).setCell ⟨w.heap.size+1+1,2,nO⟩ (U fs L.length fc)).heap[b]?)->(((w6.setCell ⟨w.heap.size+1+1,0,nO⟩ (Bb false)).setCell ⟨w.heap.size+1+1,1,nO⟩ (U vs l.length vc)).setCell ⟨w.heap.size+1+1,2,nO⟩ (U fs L.length fc)).heap.size<=wz.heap.size->GsAt wz vs (aQ j vx vy)/\RowsAt wz fs (q3 (aQ j) fx fy)):=λwz hs hz=>by
      obtain⟨fs0,fc0,e0,hk0,hk00,RW0⟩:=wC;cases e0;rw[HL.out,et1,et2] at RW0;exact ym
     obtain⟨⟨y0,y1,y2⟩,yz,yf⟩:=id ZR;obtain⟨⟨d0,d1,d2⟩,dz,df⟩:=id CR;have f0:=df 0;have f1:=df 1;have f2:=df 2;clear df yf hch hcz FX GX et1 et2;go_wp2;refine bodyPost_ret (v:=Ag #[Bb false,U vs l.length vc,U fs L.length fc]) (by simp[results,results70,go_sem,d0,d1,d2]) rfl ⟨⟨vs,vc,fs,fc,?_,(λwz hs hz=>HFX.out wz hs hz),?_,?_⟩,BX⟩
     ·rw[LV.out,ELL.out]
     ·rw[<-LV.out]
      exact HVC.out
     ·rw[<-ELL.out]
      exact HFC.out
theorem vj (wide:Bool)(x y:Pic)(vs1:oA)(vc1:Nat)(fs1:oA)(fc1:Nat)(vs2:oA)(vc2:Nat)(fs2:oA)(fc2:Nat)(w:World)(hn:x.none=true):
  Calls pG 70 #[xv x vs1 vc1 fs1 fc1,xv y vs2 vc2 fs2 fc2,Bb wide] w λe w'=>e=Rt (xv y vs2 vc2 fs2 fc2)/\bl w w':=by
 obtain⟨xn,vx,fx⟩:=x;obtain⟨yn,vy,fy⟩:=y;simp only at hn;subst hn;go_enter func70,ntmps70;go_wp2;refine bodyPost_ret (v:=Ag #[Bb yn,U vs2 vy.length vc2,U fs2 fy.length fc2]) (by simp[results,results70,go_sem]) rfl ⟨rfl,?_⟩;go_grown
theorem tF (wide:Bool)(x y:Pic)(vs1:oA)(vc1:Nat)(fs1:oA)(fc1:Nat)(vs2:oA)(vc2:Nat)(fs2:oA)(fc2:Nat)(w:World)(hm:x.none=false)(hn:y.none=true):
  Calls pG 70 #[xv x vs1 vc1 fs1 fc1,xv y vs2 vc2 fs2 fc2,Bb wide] w λe w'=>e=Rt (xv x vs1 vc1 fs1 fc1)/\bl w w':=by
 obtain⟨xn,vx,fx⟩:=x;obtain⟨yn,vy,fy⟩:=y;simp only at hn hm;subst hn hm;go_enter func70,ntmps70;go_wp2;refine bodyPost_ret (v:=Ag #[Bb false,U vs1 vx.length vc1,U fs1 fx.length fc1]) (by simp[results,results70,go_sem]) rfl ⟨rfl,?_⟩;go_grown
theorem iH {V F:Int}{c:lI}{x:Pic}(h:aO V F c x=0)(hn:x.none=false):(x.vq.length:Int)=V/\x.fq.length=c.length/\(∀r∈x.fq,(r.length:Int)=F)/\(∀g∈x.vq,aE c g=0)/\∀r∈x.fq,∀g∈r,aE c g=0:=by
 unfold aO at h;split at h
 ·cases h
 ·rename_i h1
  split at h
  ·contradiction
  ·rename_i h2
   have h2':b9 c (bP x)=0:=kX;have hall:=tJ h2';have hf:bK V F c x=true:=gT;unfold bK at hf;rw[hn] at hf;simp only[Bool.false_eq_true,if_false,Bool.and_eq_true,decide_eq_true_eq,Bool.not_eq_true',List.any_eq_false] at hf;refine⟨hf.1,hf.2.1,λr hr=>by have:=hf.2.2 r hr;simpa using this,λg hg=>hall g ?_,λr hr g hg=>hall g ?_⟩
   ·unfold bP;exact List.mem_append_left _ hg
   ·unfold bP;exact List.mem_append_right _ (List.mem_flatten.2 ⟨r,hr,hg⟩)
theorem iN {V F:Int}{c:lI}{g h:Gs}(h0:au V F c=0)(hg:aE c g=0)(hh:aE c h=0):ba V F c [g,h]=0:=by
 unfold ba;rw[if_pos h0];unfold b9;rw[if_pos hg];unfold b9;rw[if_pos hh];rfl
def AQ (c:lI)(g h:Gs):Prop:=aE c g=0/\aE c h=0
theorem AM {p:Prop}(h:p:=by
 rintro e w' ⟨v,rfl,hown,hb⟩;obtain⟨js,jc,rfl,hi,k1,k2,hf⟩:=ip;rw[<-mC g h hg.1 hh.1] at hi k1 |-;exact⟨js,jc,rfl,hi,k1,k2,hf,hb⟩):p:=h
theorem yd {V F:Int}{c:lI}(h0:au V F c=0):FH false (dd bj) (AQ c):=by
 intro g ss gc h st hc wx hs ht hR;have hck:=iN h0 hR.1 hR.2;obtain⟨hg,hh⟩:=ig hck;have l1:=da hg.2 hg.1;have l2:=da hh.2 hh.1;refine(Dy g ss gc h st hc wx hs aa ht aa).mono ?_;exact AM
theorem Ua {V F:Int}{c:lI}(h0:au V F c=0):FH true (dd bp) (AQ c):=by
 intro g ss gc h st hc wx hs ht hR;have hck:=iN h0 hR.1 hR.2;obtain⟨hg,hh⟩:=ig hck;have l1:=da hg.2 hg.1;have l2:=da hh.2 hh.1;refine(DW g ss gc h st hc wx hs aa ht aa).mono ?_;exact AM
theorem nX {V F:Int}{c:lI}(wide:Bool)(j:Gs->Gs->Gs)(hJ:FH wide j (AQ c))(x y:Pic)(vs1:oA)(vc1:Nat)(fs1:oA)(fc1:Nat)(vs2:oA)(vc2:Nat)(fs2:oA)(fc2:Nat)(w:World)(S:Nat->Prop)(hx:PicOn S w x vs1 fs1)(hy:PicOn S w y vs2 fs2)(p1:x.vq.length<=vc1/\vc1<=maxLen)(p2:x.fq.length<=fc1/\fc1<=maxLen)(q1:y.vq.length<=vc2/\vc2<=maxLen)(q2:y.fq.length<=fc2/\fc2<=maxLen)(h0:au V F c=0)(h1:aO V F c x=0)(h2:aO V F c y=0):
  Calls pG 70 #[xv x vs1 vc1 fs1 fc1,xv y vs2 vc2 fs2 fc2,Bb wide] w λe w'=>(∃us uc gs gc,e=Rt (Ag #[Bb (aH j x y).none,U us (aH j x y).vq.length uc,U gs (aH j x y).fq.length gc])/\PicOn (λb=>S b\/w.heap.size<=b) w' (aH j x y) us gs/\((aH j x y).vq.length<=uc/\uc<=maxLen)/\((aH j x y).fq.length<=gc/\gc<=maxLen))/\bl w w':=by
 obtain⟨⟨hV1,hV8⟩,⟨hF0,hF3⟩,h60⟩:=fZ;unfold aH;by_cases hn:x.none=true
 ·rw[if_pos hn]
  refine(vj wide x y vs1 vc1 fs1 fc1 vs2 vc2 fs2 fc2 w hn).mono ?_;rintro e w' ⟨rfl,hb⟩;exact⟨⟨vs2,vc2,fs2,fc2,rfl,(hy.call hb).mono λb h _=>.inl h,q1,q2⟩,hb⟩
 ·have hn':x.none=false:=by simpa using hn
  rw[if_neg hn];by_cases hm:y.none=true
  ·rw[if_pos hm]
   refine(tF wide x y vs1 vc1 fs1 fc1 vs2 vc2 fs2 fc2 w hn' hm).mono ?_;rintro e w' ⟨rfl,hb⟩;exact⟨⟨vs1,vc1,fs1,fc1,rfl,(hx.call hb).mono λb h _=>.inl h,p1,p2⟩,hb⟩
  ·have hm':y.none=false:=by simpa using hm
   rw[if_neg hm];obtain⟨a1,a2,a3,a4,a5⟩:=iH h1 hn';obtain⟨b1,b2,b3,b4,b5⟩:=iH h2 hm';obtain⟨xn,vx,fx⟩:=x;obtain⟨yn,vy,fy⟩:=y;simp only at hn' hm' a1 a2 a3 a4 a5 b1 b2 b3 b4 b5;subst hn' hm';refine(Am wide j (AQ c) hJ vx vy fx fy vs1 vc1 fs1 fc1 vs2 vc2 fs2 fc2 w hx.at hy.at aa aa aa aa
    (λi h h'=>Nm)
    (λi h h'=>⟨a4 _ (gM h),b4 _ (gM h')⟩)
    (λi h h' k hk hk'=>⟨a5 _ (gM h) _ (gM hk),b5 _ (gM h') _ (gM hk')⟩)).mono ?_
   rintro e w' ⟨⟨us,uc,gs,gc,he,h1,r1,r2⟩,h2⟩;exact⟨⟨us,uc,gs,gc,he,h1.mono λb h _=>.inr h,r1,r2⟩,h2⟩
def Uf (B:Nat)(w':World)(e:Ending)(x:Pic):Prop:=∃v gs gc L,x=aV x.none v L/\e=Rt (Ag #[Bb x.none,U v.rs v.l.length v.rc,U gs L.length gc])/\PicG (λb=>B<=b) B w' v gs gc L
theorem yp (xn:Bool)(vx:List Gs)(fx:List (List Gs))(vs1:oA)(vc1:Nat)(fs1:oA)(fc1:Nat)(w:World)(hx:PicAt w ⟨xn,vx,fx⟩ vs1 fs1)(hv8:vx.length<=1000000)(h60:fx.length<=1000000)(hr:∀i (h:i < fx.length),fx[i].length<=1000000)(hR1:∀g∈vx,g.s.length<=1000000)(hR2:∀i (h:i < fx.length),∀g∈fx[i],g.s.length<=1000000):
  Calls pG 29 #[xv ⟨xn,vx,fx⟩ vs1 vc1 fs1 fc1] w λe w'=>Uf w.heap.size w' e ⟨xn,vx,fx⟩/\bl w w':=by
 obtain⟨ti,hi,hz0,hz1,hz2⟩:=kd;obtain⟨tk,hk,hx0,hx1,hx2⟩:=mX;have HO:Hid (∀(g:Gs) (ss:oA) (gc:Nat) (wx:World),IntsAt wx ss g.s->g.s.length<=1000000->Calls pG 68 #[gv g ss gc] wx λe w'=>(∃js jc,e=Rt (gv g js jc)/\IntsAt w' js g.s/\g.s.length<=jc/\jc<=maxLen/\∀a,js=sO a->wx.heap.size<=a.block)/\bl wx w'):=λg ss gc wx h1 h2=>Lr g ss gc wx h1 h2;have HR:=ag hr;have HR1:=ag hR1;have HR2:=ag hR2;have HX:=cC;clear hr hR1 hR2 hx;have hb0:Below w.heap.size w (((w.alloc (Cc #[Bb xn,U vs1 vx.length vc1,U fs1 fx.length fc1] 28)).alloc (Cc #[Bb false,U nO 0 0,U nO 0 0] 28)).alloc (Cc #[Bb xn,U nO 0 0,U nO 0 0] 28)):=am;have A0:=(XAt.new w ⟨xn,vx,fx⟩ vs1 vc1 fs1 fc1).call (w':=(((w.alloc (Cc #[Bb xn,U vs1 vx.length vc1,U fs1 fx.length fc1] 28)).alloc (Cc #[Bb false,U nO 0 0,U nO 0 0] 28)).alloc (Cc #[Bb xn,U nO 0 0,U nO 0 0] 28))) am;have C0:=(X3.new (w.alloc (Cc #[Bb xn,U vs1 vx.length vc1,U fs1 fx.length fc1] 28)) 28 (Bb false) (U nO 0 0) (U nO 0 0)).call (w':=(((w.alloc (Cc #[Bb xn,U vs1 vx.length vc1,U fs1 fx.length fc1] 28)).alloc (Cc #[Bb false,U nO 0 0,U nO 0 0] 28)).alloc (Cc #[Bb xn,U nO 0 0,U nO 0 0] 28))) am;have D0:=X3.new ((w.alloc (Cc #[Bb xn,U vs1 vx.length vc1,U fs1 fx.length fc1] 28)).alloc (Cc #[Bb false,U nO 0 0,U nO 0 0] 28)) 28 (Bb xn) (U nO 0 0) (U nO 0 0);have z0:w.heap.size+1+1+1<=(((w.alloc (Cc #[Bb xn,U vs1 vx.length vc1,U fs1 fx.length fc1] 28)).alloc (Cc #[Bb false,U nO 0 0,U nO 0 0] 28)).alloc (Cc #[Bb xn,U nO 0 0,U nO 0 0] 28)).heap.size:=ah;rw[zA] at C0;rw[zA,zA] at D0;(try simp only at A0);go_enter func29,ntmps29;go_upto_region 3 with fail
 generalize (((w.alloc (Cc #[Bb xn,U vs1 vx.length vc1,U fs1 fx.length fc1] 28)).alloc (Cc #[Bb false,U nO 0 0,U nO 0 0] 28)).alloc (Cc #[Bb xn,U nO 0 0,U nO 0 0] 28))=w1 at *;go_wp2;go_loopw [5] (λi wr=>∃(k:Nat) (vs:oA) (vc:Nat) (l:List Gc),k<=vx.length/\i=I .i64 k/\XAt wr w.heap.size ⟨xn,vx,fx⟩ vs1 vc1 fs1 fc1/\X3 wr (w.heap.size+1) (Bb false) (U nO 0 0) (U nO 0 0)/\X3 wr (w.heap.size+1+1) (Bb xn) (U vs l.length vc) (U nO 0 0)/\SRow wr (w.heap.size+1+1+1) (U vs l.length vc) l/\Hid (l.map Gc.g=vx.take k)/\bl w wr/\w.heap.size+1+1+1<=wr.heap.size) (λi _=>vx.length - (intOf i).toNat)
 case atStart=>exact⟨0,nO,0,[],j6 _,rfl,A0,C0,D0,SRow.nil _ _,rfl,hb0,z0⟩
 case round=>
  obtain⟨k,vs,vc,l,hk1,rfl,AR,CR,ZR,SR,HL,LR,zr⟩:=hrel;clear A0 C0 D0 hb0 z0;have LL:Hid (l.length=k):=by
   show _=_;have h1:=ij;rw[q4,q7] at h1;omega
  by_cases hlt:k < vx.length
  ·have n0:=dk
   have n1:(k:Int) < (vx.length:Int):=aa;obtain⟨b1,o1,e1,ss1,g1,G1,I1,k1,m1⟩:=(HX.out.1.below LR (lR _)) k hlt;subst e1;have hlk:=HR1.out _ (gM hlt);(try simp only at G1 I1);have zb1:b1 < w.heap.size:=oH (HX.out.1) k hlt;obtain⟨⟨a0,a1,a2⟩,az,-⟩:=id AR;obtain⟨⟨y0,y1,y2⟩,yz,-⟩:=id ZR;have HKZ:Hid (∀wx,Below (w.heap.size+1+1+1) wr wx->wx.cell? ⟨w.heap.size+1+1,1,nO⟩=sO (U vs l.length vc)/\(wx.cell? ⟨w.heap.size,1,nO⟩=sO (U (sO ⟨b1,o1,nO⟩) vx.length vc1)/\(wx.cell? ⟨b1,o1+k * 7,nO⟩=sO (Bb vx[k].n)/\wx.cell? ⟨b1,o1+k * 7+1,nO⟩=sO (Bb vx[k].sp.n)/\wx.cell? ⟨b1,o1+k * 7+2,nO⟩=sO (I .i64 vx[k].sp.lo)/\wx.cell? ⟨b1,o1+k * 7+3,nO⟩=sO (I .i64 vx[k].sp.hi)/\wx.cell? ⟨b1,o1+k * 7+4,nO⟩=sO (Bb vx[k].t)/\wx.cell? ⟨b1,o1+k * 7+5,nO⟩=sO (Bb vx[k].f)/\wx.cell? ⟨b1,o1+k * 7+6,nO⟩=sO (U ss1 vx[k].s.length g1)))):=λwx hx=>⟨by rw[hx.cell (by simp only;omega)];exact y1,⟨by rw[hx.cell (by simp only;omega)];exact a1,(G1.low hx aa).1⟩⟩;have HD:=dB;go_wp2;clear a0 a1 a2 az y0 y1 y2 yz;refine aG (S:=(λwx=>wx.cell? ⟨w.heap.size+1+1,1,nO⟩=sO (U vs l.length vc)/\(wx.cell? ⟨w.heap.size,1,nO⟩=sO (U (sO ⟨b1,o1,nO⟩) vx.length vc1)/\(wx.cell? ⟨b1,o1+k * 7,nO⟩=sO (Bb vx[k].n)/\wx.cell? ⟨b1,o1+k * 7+1,nO⟩=sO (Bb vx[k].sp.n)/\wx.cell? ⟨b1,o1+k * 7+2,nO⟩=sO (I .i64 vx[k].sp.lo)/\wx.cell? ⟨b1,o1+k * 7+3,nO⟩=sO (I .i64 vx[k].sp.hi)/\wx.cell? ⟨b1,o1+k * 7+4,nO⟩=sO (Bb vx[k].t)/\wx.cell? ⟨b1,o1+k * 7+5,nO⟩=sO (Bb vx[k].f)/\wx.cell? ⟨b1,o1+k * 7+6,nO⟩=sO (U ss1 vx[k].s.length g1))))) [12] ae (HKZ.out _ (HD.mono zr)) (λhHeld=> ?_);refine vZ 0 ?_ ?_;refine vZ 1 ?_ ?_;refine vZ 2 ?_ ?_;refine vZ 3 ?_ ?_;refine vZ 4 ?_ ?_;refine vZ 5 ?_ ?_;refine vZ 6 ?_ ?_;refine vZ 7 ?_ ?_;refine aB (i:=8) rfl ae (λK hK=> ?_);go_simp;go_at_call 68;refine(HO.out vx[k] ss1 g1 _ (I1.call HD) hlk).mono ?_;rintro e w5 ⟨⟨js,jc,rfl,HI5,HJ1,HJ2,HF5⟩,hb5⟩;have HW5:=nw;have HB5:Below (w.heap.size+1+1+1) wr w5:=HW5.mono zr;go_wp2_with fail;refine hK.out _ _ (HKZ.out _ HB5) (λhHeld=> ?_);clear hK K;refine sm ?_;refine aB (i:=9) rfl ae (λK hK=> ?_);go_simp;have HW6:bl wr (w5.alloc (Cc #[Bb vx[k].n,Bb vx[k].sp.n,I .i64 vx[k].sp.lo,I .i64 vx[k].sp.hi,Bb vx[k].t,Bb vx[k].f,U js vx[k].s.length jc] 91)):=HW5.alloc HW5.size _;have HB6:Below (w.heap.size+1+1+1) wr (w5.alloc (Cc #[Bb vx[k].n,Bb vx[k].sp.n,I .i64 vx[k].sp.lo,I .i64 vx[k].sp.hi,Bb vx[k].t,Bb vx[k].f,U js vx[k].s.length jc] 91)):=HW6.mono zr;refine hK.out _ _ (HKZ.out _ HB6) (λhHeld=> ?_);clear hK K;refine sm ?_;refine aB (i:=10) rfl ae (λK hK=> ?_);have S6:=SR.call HW6;have GX:bS (λb=>w.heap.size+1+1+1<=b/\(j8 vs l.length vc).ownBlock≠sO b) (w5.alloc (Cc #[Bb vx[k].n,Bb vx[k].sp.n,I .i64 vx[k].sp.lo,I .i64 vx[k].sp.hi,Bb vx[k].t,Bb vx[k].f,U js vx[k].s.length jc] 91)) ⟨vx[k],js,jc⟩:=km HI5 HJ1 HJ2 HF5 zr (λe=>(aR SR.1 e).1) am (HD.size);refine eK _ rfl _ _ 25 rfl (w.heap.size+1+1+1) 91 ti (Ag #[Bb false,Bb false,I .i64 0,I .i64 0,Bb false,Bb false,U nO 0 0]) 7 64 underlying25 hi hz0 hz1 hz2 rfl ai _ _ _ rfl S6.1 (sO ⟨w5.heap.size,0,nO⟩) 1 1 (br ⟨vx[k],js,jc⟩) rfl rfl (λh=>aT) (nV w5 ⟨vx[k],js,jc⟩ #[Bb vx[k].n,Bb vx[k].sp.n,I .i64 vx[k].sp.lo,I .i64 vx[k].sp.hi,Bb vx[k].t,Bb vx[k].f,U js vx[k].s.length jc] _ rfl) (dE _) uD uU kv ?_;intro v' w7 hown hgrow hat;have S7:=S6.grown (x:=⟨vx[k],js,jc⟩) GX hown hgrow hat;have HB7:Below (w.heap.size+1+1+1) wr w7:=HB6.grown hgrow kv (λk hk=>(aR S6.1 hk).2);obtain⟨vs',vc',rfl,-,-,-⟩:=S7.in;refine hK.out _ _ (HKZ.out _ HB7) (λhHeld=> ?_);clear hK K hown hgrow hat S6 GX HB6 HW6 HB5 HW5 HI5 HF5;refine sm ?_;refine vZ 11 ?_ ?_;refine bE (i:=12) rfl ae ae (λK hK=> ?_);have Z7:X3 w7 (w.heap.size+1+1) (Bb xn) (U vs l.length vc) (U nO 0 0):=ZR.same (HB7.block _ aa) HB7.size;obtain⟨⟨y0,y1,y2⟩,yz,yf⟩:=id Z7;have yf1:=yf 1;clear yf;go_simp;refine hK.out _ _ ?_;clear hK K;refine sm ?_;refine aC ae ?_ _;clear y0 y1 y2 yz yf1;have A7:XAt w7 w.heap.size ⟨xn,vx,fx⟩ _ vc1 fs1 fc1:=AR.same (HB7.block _ aa) HB7.size;have C7:X3 w7 (w.heap.size+1) (Bb false) (U nO 0 0) (U nO 0 0):=CR.same (HB7.block _ aa) HB7.size;have L7:=pk;have z7:w.heap.size+1+1+1<=w7.heap.size:=lT zr HB7.size;have e7:∀b,b≠w.heap.size+1+1->(w7.setCell ⟨w.heap.size+1+1,1,nO⟩ (U vs' (l++[(⟨vx[k],js,jc⟩:Gc)]).length vc')).heap[b]? =w7.heap[b]? :=λb hb=>hSe _ _ _ _ hb;have s7:w7.heap.size<=(w7.setCell ⟨w.heap.size+1+1,1,nO⟩ (U vs' (l++[(⟨vx[k],js,jc⟩:Gc)]).length vc')).heap.size:=bH;clear AR CR ZR SR LR zr HKZ;go_wp2;go_roundw
   case rel=>exact⟨k+1,vs',vc',l++[⟨vx[k],js,jc⟩],aa,aF,Ns,Mz,by first|exact Z7.put1 _|(simpa using Z7.put1 (U vs' (l++[(⟨vx[k],js,jc⟩:Gc)]).length vc')),MG,by show _=_;rw[q5,HL.out,j9 hlt];rfl,by first|exact L7.setCell (by simp only;omega) _|(simpa using L7.setCell (p:=⟨w.heap.size+1+1,1,nO⟩) (by simp only;omega) (U vs' (l++[(⟨vx[k],js,jc⟩:Gc)]).length vc')),uM⟩
   case measure=>exact aK
  ·have n1':¬(k:Int) < (vx.length:Int):=by omega
   have et1:vx.take k=vx:=j7 aa;have HLV:Hid (l.map Gc.g=vx):=by show _=_;rw[HL.out,et1]
   have GV:VRow (λb=>w.heap.size+1+1+1<=b/\b < wr.heap.size) wr (w.heap.size+1+1+1) (U vs l.length vc) l:=SR.vrow.mono λb h1 h2=>⟨h1,h2⟩;clear SR LL HL et1;have zn:w.heap.size+1+1+1<=wr.heap.size:=zr;obtain⟨⟨a0,a1,a2⟩,az,-⟩:=id AR;generalize hN:wr.heap.size=N at *;have HNN:=ag hN;clear hN;go_wp2;clear a0 a1 a2 az;go_loopw [6] (λi wr=>∃(k:Nat) (fs:oA) (fc:Nat) (L:List Ro),k<=fx.length/\i=I .i64 k/\XAt wr w.heap.size ⟨xn,vx,fx⟩ vs1 vc1 fs1 fc1/\X3 wr (w.heap.size+1) (Bb false) (U nO 0 0) (U nO 0 0)/\X3 wr (w.heap.size+1+1) (Bb xn) (U vs l.length vc) (U fs L.length fc)/\FRowS wr N (U fs L.length fc) L/\Hid (L.map roG=fx.take k)/\VRow (λb=>w.heap.size+1+1+1<=b/\b < N) wr (w.heap.size+1+1+1) (U vs l.length vc) l/\bl w wr/\N<=wr.heap.size) (λi _=>fx.length - (intOf i).toNat)
   case atStart=>exact⟨0,nO,0,[],j6 _,rfl,AR,CR,ZR,FRowS.nil _ _,rfl,GV,LR,Du⟩
   case round=>
    clear AR CR ZR GV LR zr HNN;obtain⟨k2,fs,fc,L,hk2,rfl,AR,CR,ZR,FR,HL,GV,LR,zr⟩:=hrel;generalize wr=w6 at *;clear wr;have LL:Hid (L.length=k2):=by
     show _=_;have h1:=ij;rw[q4,q7] at h1;omega
    obtain⟨⟨a0,a1,a2⟩,az,-⟩:=id AR;by_cases hlt2:k2 < fx.length
    ·have n0:=sk
     have n2':(k2:Int) < (fx.length:Int):=aa;go_wp2;clear a0 a1 a2 az;go_loopw [7,8] (λr i2 wo=>∃(m:Nat) (rs:oA) (rc:Nat) (lr:List Gc),m<=fx[k2].length/\r=U rs lr.length rc/\i2=I .i64 m/\bl w6 wo/\SRow wo w6.heap.size (U rs lr.length rc) lr/\Hid (lr.map Gc.g=fx[k2].take m)) (λ_ i2 _=>fx[k2].length - (intOf i2).toNat)
     case atStart=>exact⟨0,nO,0,[],j6 _,rfl,rfl,bR _ _,SRow.nil _ _,rfl⟩
     case round=>
      obtain⟨m,rs,rc,lr,hm,rfl,rfl,hbo,SR,HM⟩:=hrel;have h3:=HR.out k2 hlt2;have LM:Hid (lr.length=m):=by
       show _=_;have h1:=congrArg z3 HM.out;rw[q4,q7] at h1;omega
      obtain⟨⟨a0,a1,a2⟩,az,-⟩:=id (AR.call hbo);obtain⟨p1,q1,e1,zp1,r1,rc1,C1,k1,m1,J1⟩:=HX.out.2 k2 hlt2;have hwo:=LR.trans (hbo.mono LR.size);have D1:=KB;subst e1;clear C1;by_cases hltm:m < fx[k2].length
      ·have m0:(0:Int)<=(m:Int):=by omega
       have m1':(m:Int) < (fx[k2].length:Int):=aa;obtain⟨b1,o1,e1,ss1,g1,G1,I1,l1,l2⟩:=(J1.below hwo (lR _)) m hltm;subst e1;have hlk:=HR2.out k2 hlt2 _ (gM hltm);obtain⟨⟨q0',q1',q2',q3',q4',q5',q6'⟩,qz'⟩:=id G1;go_wp2_with fail;refine(HO.out fx[k2][m] ss1 g1 _ I1 hlk).mono ?_;rintro e w7 ⟨⟨js,jc,rfl,HI5,HJ1,HJ2,HF5⟩,hb7⟩;clear q0' q1' q2' q3' q4' q5' q6' qz' G1 a0 a1 a2 az D1;have HW8:bl wr (w7.alloc (Cc #[Bb fx[k2][m].n,Bb fx[k2][m].sp.n,I .i64 fx[k2][m].sp.lo,I .i64 fx[k2][m].sp.hi,Bb fx[k2][m].t,Bb fx[k2][m].f,U js fx[k2][m].s.length jc] 91)):=hb7.alloc hb7.size _;have S8:=SR.call HW8;have z67:w6.heap.size<=wr.heap.size:=hbo.size;have GX:bS (λb=>w6.heap.size<=b/\(j8 rs lr.length rc).ownBlock≠sO b) (w7.alloc (Cc #[Bb fx[k2][m].n,Bb fx[k2][m].sp.n,I .i64 fx[k2][m].sp.lo,I .i64 fx[k2][m].sp.hi,Bb fx[k2][m].t,Bb fx[k2][m].f,U js fx[k2][m].s.length jc] 91)) ⟨fx[k2][m],js,jc⟩:=km HI5 HJ1 HJ2 HF5 z67 (λe=>(aR SR.1 e).1) am (lR _);go_wp2_with (at_builtin;refine bh _ rfl _ _ 25 rfl w6.heap.size 91 ti (Ag #[Bb false,Bb false,I .i64 0,I .i64 0,Bb false,Bb false,U nO 0 0]) 7 64 underlying25 hi hz0 hz1 hz2 rfl ai _ _ _ rfl S8.1 (sO ⟨w7.heap.size,0,nO⟩) 1 1 (br ⟨fx[k2][m],js,jc⟩) rfl rfl (λh=>aT) ?qc2 (dE _) ?qc4 ?qc5 ?qc6 ?_);(try (case qc2=>exact nV w7 ⟨fx[k2][m],js,jc⟩ #[Bb fx[k2][m].n,Bb fx[k2][m].sp.n,I .i64 fx[k2][m].sp.lo,I .i64 fx[k2][m].sp.hi,Bb fx[k2][m].t,Bb fx[k2][m].f,U js fx[k2][m].s.length jc] _ rfl))
       case qc4=>unfold maxLen;have:=LM.out;omega
       case qc5=>have:=LM.out;omega
       (try (case qc6=>have:=hb7.size;first|omega|(rw[zA];omega)|(simp;omega)|simp));intro v' w9 hown hgrow hat;have S9:=S8.grown (x:=⟨fx[k2][m],js,jc⟩) GX hown hgrow gx;have hb9:bl w6 w9:=(hbo.trans (HW8.mono hbo.size)).grown hgrow (by rw[zA];have:=hb7.size;omega) (λk hk=>(aR S8.1 hk).2)
       obtain⟨rs',rc',rfl,-,-,-⟩:=S9.in;clear SR hbo hown hgrow hat S8 GX HW8 HI5 HF5;go_wp2;go_roundw
       case rel=>exact⟨m+1,rs',rc',lr++[⟨fx[k2][m],js,jc⟩],aa,oD,aF,hb9,S9,by show _=_;rw[q5,HM.out,j9 hltm];rfl⟩
       case measure=>exact aK
      ·have m1':¬(m:Int) < (fx[k2].length:Int):=by omega
       have et1:fx[k2].take m=fx[k2]:=j7 aa;have HRL:Hid (roG ⟨rs,rc,lr⟩=fx[k2]):=by show lr.map Gc.g=_;rw[HM.out,et1]
       have A9:=AR.call hbo;have C9:=CR.call hbo;have Z9:=ZR.call hbo;have F9:=FR.call hbo;have V9:=GV.call hbo;have L9:=hwo;have z9:=y9;have z69:=zr;clear AR CR ZR GV LR zr LM HM hwo et1;generalize wr=w9 at *;clear wr;obtain⟨⟨y0,y1,y2⟩,yz,yf⟩:=id Z9;have hba:bl w6 (w9.alloc (Cc #[U rs lr.length rc] 25)):=hbo.alloc hbo.size _;have F10:=FR.call hba;have VX:VRow (λb=>w6.heap.size<=b) (w9.alloc (Cc #[U rs lr.length rc] 25)) w6.heap.size (roV ⟨rs,rc,lr⟩) lr:=SR.vrow.call am;go_wp2_with (at_builtin;refine bh _ rfl _ _ 26 rfl N 25 tk (U nO 0 0) 1 24 underlying26 hk hx0 hx1 hx2 rfl ai _ _ _ rfl F10.own (sO ⟨w9.heap.size,0,nO⟩) 1 1 [U rs lr.length rc] rfl rfl (λh=>aT) ?qc2 oC ?qc4 ?qc5 ?qc6 ?_);(try (case qc2=>exact BI w9 _ _))
       case qc4=>unfold maxLen;have:=LL.out;omega
       case qc5=>have:=LL.out;omega
       (try (case qc6=>first|omega|(rw[zA];omega)|(simp;omega)|simp));intro v' w10 hown hgrow hat;have F11:=FR.grown hba z69 (x:=⟨rs,rc,lr⟩) VX hown hgrow gx;have hb10:Below N w9 w10:=((bR _ w9).alloc z9 _).grown hgrow ap (λk hk=>(aR F10.own hk).2);obtain⟨fs',fc',rfl⟩:=F11.form;clear hown hgrow hat F10 F9 FR SR hbo hba VX y0 y1 y2 yz yf a0 a1 a2 az D1;have A4:XAt w10 w.heap.size ⟨xn,vx,fx⟩ _ vc1 _ fc1:=A9.same (hb10.block _ aa) hb10.size;have C4:X3 w10 (w.heap.size+1) (Bb false) (U nO 0 0) (U nO 0 0):=C9.same (hb10.block _ aa) hb10.size;have Z4:X3 w10 (w.heap.size+1+1) (Bb xn) (U vs l.length vc) (U fs L.length fc):=Z9.same (hb10.block _ aa) hb10.size;have V4:VRow (λb=>w.heap.size+1+1+1<=b/\b < N) w10 (w.heap.size+1+1+1) (U vs l.length vc) l:=V9.same (λb hS _=>hb10.block b hS.2) hb10.size;have L4:=L9.trans (hb10.mono aa);have z4:=Ao;clear A9 C9 Z9 V9 L9 z9 hb10;obtain⟨⟨y0,y1,y2⟩,yz,yf⟩:=id Z4;have yf2:=yf 2;clear yf;have e7:∀(x:Value) b,b≠w.heap.size+1+1->(w10.setCell ⟨w.heap.size+1+1,2,nO⟩ x).heap[b]? =w10.heap[b]? :=λx b hb=>hSe _ _ _ _ hb;have s7:∀(x:Value),w10.heap.size<=(w10.setCell ⟨w.heap.size+1+1,2,nO⟩ x).heap.size:=λx=>bH;have E7:=ag e7;have S7:=ag s7;clear e7 s7;go_wp2;go_roundw
       case rel=>exact⟨k2+1,fs',fc',L++[⟨rs,rc,lr⟩],aa,aF,A4.same (E7.out _ _ aa) (S7.out _),C4.same (E7.out _ _ aa) (S7.out _),by first|exact Z4.put2 _|(rw[z5];exact Z4.put2 _),F11.olden (λb hb _=>E7.out _ b aa) (S7.out _),by show _=_;rw[q5,HL.out,j9 hlt2,List.map_cons,HRL.out];rfl,V4.same (λb hS _=>E7.out _ b aa) (S7.out _),L4.setCell aw _,uv⟩
       case measure=>exact aK
    ·have n2':¬(k2:Int) < (fx.length:Int):=by omega
     have et1:fx.take k2=fx:=j7 aa;have hch:∀b,b≠w.heap.size+1->(((w6.setCell ⟨w.heap.size+1,0,nO⟩ (Bb xn)).setCell ⟨w.heap.size+1,1,nO⟩ (U vs l.length vc)).setCell ⟨w.heap.size+1,2,nO⟩ (U fs L.length fc)).heap[b]? =w6.heap[b]? :=λb hb=>oX;have hcz:w6.heap.size<=(((w6.setCell ⟨w.heap.size+1,0,nO⟩ (Bb xn)).setCell ⟨w.heap.size+1,1,nO⟩ (U vs l.length vc)).setCell ⟨w.heap.size+1,2,nO⟩ (U fs L.length fc)).heap.size:=bH;have FX:=FR.olden (w':=(((w6.setCell ⟨w.heap.size+1,0,nO⟩ (Bb xn)).setCell ⟨w.heap.size+1,1,nO⟩ (U vs l.length vc)).setCell ⟨w.heap.size+1,2,nO⟩ (U fs L.length fc))) (λb hb _=>hch b aa) hcz;have GX:=GV.same (w':=(((w6.setCell ⟨w.heap.size+1,0,nO⟩ (Bb xn)).setCell ⟨w.heap.size+1,1,nO⟩ (U vs l.length vc)).setCell ⟨w.heap.size+1,2,nO⟩ (U fs L.length fc))) (λb hS _=>hch b aa) hcz;have BX:bl w (((w6.setCell ⟨w.heap.size+1,0,nO⟩ (Bb xn)).setCell ⟨w.heap.size+1,1,nO⟩ (U vs l.length vc)).setCell ⟨w.heap.size+1,2,nO⟩ (U fs L.length fc)):=((LR.setCell aw _).setCell aw _).setCell aw _;have PX:=((FX.pic GX (λb h=>h) zn).mono (T':=λb=>w.heap.size<=b) λb hb _=>aa).down (C:=w.heap.size) aa;have HPX:Hid (Uf w.heap.size (((w6.setCell ⟨w.heap.size+1,0,nO⟩ (Bb xn)).setCell ⟨w.heap.size+1,1,nO⟩ (U vs l.length vc)).setCell ⟨w.heap.size+1,2,nO⟩ (U fs L.length fc)) (Rt (Ag #[Bb xn,U vs l.length vc,U fs L.length fc])) ⟨xn,vx,fx⟩):=⟨⟨vs,vc,l⟩,fs,fc,L,by unfold aV;rw[show roG ⟨vs,vc,l⟩=vx from HLV.out,HL.out,et1],rfl,PX⟩;obtain⟨⟨y0,y1,y2⟩,yz,yf⟩:=id ZR;obtain⟨⟨d0,d1,d2⟩,dz,df⟩:=id CR;have f0:=df 0;have f1:=df 1;have f2:=df 2;clear df yf hch hcz FX GX et1 PX;go_wp2;refine bodyPost_ret (v:=Ag #[Bb xn,U vs l.length vc,U fs L.length fc]) (by simp[results,results29,go_sem,d0,d1,d2]) rfl ⟨HPX.out,BX⟩
structure SCtx (V F:Int) (c:lI) (x:Pic) (vc fc:Nat) (i:Ins) (at_:Int):Prop where
 h0:au V F c=0
 kx:PicOk V F c x
 hi:i=bL c at_
 a0:0<=at_
 a1:at_ < c.length
 cv:x.vq.length<=vc/\vc<=maxLen
 cf:x.fq.length<=fc/\fc<=maxLen
section
variable {V F:Int} {c:lI} {x:Pic} {vc fc:Nat} {i:Ins} {at_:Int}
theorem SCtx.one (K:SCtx V F c x vc fc i at_):bn V F c.length i=0:=by rw[K.hi];exact(dC K.h0).each _ (t8 K.a0 K.a1)
theorem SCtx.lens (K:SCtx V F c x vc fc i at_):x.vq.length<=8/\c.length<=60/\x.fq.length=c.length/\0<=F/\F<=3/\0<=V:=by
 have hp:=dC K.h0;have:=hp.v1;have:=hp.v8;have:=hp.f0;have:=hp.f3;have:=hp.len;have:=K.kx.vq;have:=K.kx.fq;omega
theorem it {x:Pic}{k:Nat}(h:k < x.vq.length):gAt x (k:Int)=x.vq[k]:=by unfold gAt;simp[q8,List.getElem?_eq_getElem h]
theorem sG {p:Prop}(h:p:=by
 have hv:=K.kx.vq;obtain⟨k,hk⟩:=Int.eq_ofNat_of_zero_le this.1;exact⟨k,hk,aa⟩):p:=h
theorem SCtx.varA (K:SCtx V F c x vc fc i at_)(hA:nA i.k=true):∃k:Nat,i.a=k/\k < x.vq.length:=by
 have:=(cl K.one).2.2.1 hA;exact sG
theorem SCtx.varB (K:SCtx V F c x vc fc i at_)(hB:nB i.k=true):∃k:Nat,i.b=k/\k < x.vq.length:=by
 have:=(cl K.one).2.2.2.1 hB;exact sG
theorem SCtx.varTo (K:SCtx V F c x vc fc i at_)(hT:nTo i.k=true):∃k:Nat,i.tgt=k/\k < x.vq.length:=by
 have:=(cl K.one).2.1 hT;exact sG
theorem SCtx.uno (K:SCtx V F c x vc fc i at_){g:Gs}(hg:aE c g=0):ba V F c [g]=0:=by unfold ba;rw[if_pos K.h0];unfold b9;rw[if_pos hg];rfl
theorem SCtx.duo (K:SCtx V F c x vc fc i at_){g h:Gs}(hg:aE c g=0)(hh:aE c h=0):ba V F c [g,h]=0:=by unfold ba;rw[if_pos K.h0];unfold b9;rw[if_pos hg];unfold b9;rw[if_pos hh];rfl
end
theorem AL (sb:Nat)(i:Ins)(V F:Int)(s:oA)(c:lI)(cap:Nat)(at_:Int)(x:Pic)(vs:oA)(vc:Nat)(fs:oA)(fc:Nat)(ev:Value)(wr fl:Bool)(w:World)(hS:Cells w sb (aW i V F s c cap at_ x vs vc fs fc ev wr fl))(hc:CodeAt w s c)(hx:PicAt w x vs fs)(K:SCtx V F c x vc fc i at_)(hA:nA i.k=true):
  Calls pG 95 #[Pp (sO ⟨sb,0,nO⟩)] w λe w'=>e=Rt (Tu #[Bb (cd (gAt x i.a)),Bb (cQ (gAt x i.a))])/\bl w w':=by
 obtain⟨k,ek,hk⟩:=K.varA hA;have eg:gAt x i.a=x.vq[k]:=by rw[ek,it hk]
 rw[eg];have hgk:=K.kx.gv _ (gM hk);obtain⟨b1,o1,e1,ss1,g1,G1,I1,k1,m1⟩:=hx.1 k hk;subst e1;have n0:=bA;have n1:(k:Int) < (x.vq.length:Int):=aa;have HT:Hid (∀wx,bl w wx->Calls pG 160 #[pv V F s c cap,gv x.vq[k] ss1 g1] wx λe w'=>e=Rt (Tu #[Bb (cd x.vq[k]),Bb (cQ x.vq[k]),I .i64 0])/\bl wx w'):=λwx hb=>Rq V F s c cap x.vq[k] ss1 g1 wx (hc.call hb) (I1.call hb) k1 m1 (K.uno hgk);have HKZ:Hid (∀wx,bl w wx->(wx.cell? ⟨sb,6,nO⟩=sO (I .i64 V)/\wx.cell? ⟨sb,7,nO⟩=sO (I .i64 F)/\wx.cell? ⟨sb,8,nO⟩=sO (U s c.length cap))/\(wx.cell? ⟨sb,2,nO⟩=sO (I .i64 (k:Int))/\wx.cell? ⟨sb,11,nO⟩=sO (U (sO ⟨b1,o1,nO⟩) x.vq.length vc))/\(wx.cell? ⟨b1,o1+k * 7,nO⟩=sO (Bb x.vq[k].n)/\wx.cell? ⟨b1,o1+k * 7+1,nO⟩=sO (Bb x.vq[k].sp.n)/\wx.cell? ⟨b1,o1+k * 7+2,nO⟩=sO (I .i64 x.vq[k].sp.lo)/\wx.cell? ⟨b1,o1+k * 7+3,nO⟩=sO (I .i64 x.vq[k].sp.hi)/\wx.cell? ⟨b1,o1+k * 7+4,nO⟩=sO (Bb x.vq[k].t)/\wx.cell? ⟨b1,o1+k * 7+5,nO⟩=sO (Bb x.vq[k].f)/\wx.cell? ⟨b1,o1+k * 7+6,nO⟩=sO (U ss1 x.vq[k].s.length g1))):=λwx hb=>⟨⟨(hS.call hb).1 6 _ rfl,(hS.call hb).1 7 _ rfl,(hS.call hb).1 8 _ rfl⟩,⟨by rw[<-ek];exact(hS.call hb).1 2 _ rfl,(hS.call hb).1 11 _ rfl⟩,(G1.call hb).1⟩;clear hS hc hx eg ek hA;go_enter func95,ntmps95;go_upto_region 1 with fail
 have B1:=lB;refine wp_region_held_drew (S:=(λwx=>(wx.cell? ⟨sb,6,nO⟩=sO (I .i64 V)/\wx.cell? ⟨sb,7,nO⟩=sO (I .i64 F)/\wx.cell? ⟨sb,8,nO⟩=sO (U s c.length cap))/\(wx.cell? ⟨sb,2,nO⟩=sO (I .i64 (k:Int))/\wx.cell? ⟨sb,11,nO⟩=sO (U (sO ⟨b1,o1,nO⟩) x.vq.length vc))/\(wx.cell? ⟨b1,o1+k * 7,nO⟩=sO (Bb x.vq[k].n)/\wx.cell? ⟨b1,o1+k * 7+1,nO⟩=sO (Bb x.vq[k].sp.n)/\wx.cell? ⟨b1,o1+k * 7+2,nO⟩=sO (I .i64 x.vq[k].sp.lo)/\wx.cell? ⟨b1,o1+k * 7+3,nO⟩=sO (I .i64 x.vq[k].sp.hi)/\wx.cell? ⟨b1,o1+k * 7+4,nO⟩=sO (Bb x.vq[k].t)/\wx.cell? ⟨b1,o1+k * 7+5,nO⟩=sO (Bb x.vq[k].f)/\wx.cell? ⟨b1,o1+k * 7+6,nO⟩=sO (U ss1 x.vq[k].s.length g1)))) ae (HKZ.out _ B1) (λhHeld=> ?_);generalize w.drew=w1 at *;refine vH 0 ?_ ?_;refine vH 1 ?_ ?_;refine vH 2 ?_ ?_;refine vH 3 ?_ ?_;refine vH 4 ?_ ?_;refine vH 5 ?_ ?_;refine vH 6 ?_ ?_;refine vH 7 ?_ ?_;refine vH 8 ?_ ?_;refine vH 9 ?_ ?_;refine vH 10 ?_ ?_;refine vH 11 ?_ ?_;refine vH 12 ?_ ?_;refine vH 13 ?_ ?_;refine vH 14 ?_ ?_;refine vH 15 ?_ ?_;refine rH1 16 λK hK=> ?_;go_simp;refine(HT.out w1 B1).mono ?_;rintro e w2 ⟨rfl,hb2⟩;have B2:=rv;refine hK.out _ _ (HKZ.out _ B2) (λhHeld2=> ?_);clear hK K hb2 B1;refine sm ?_;refine vH 17 ?_ ?_;refine vH 18 ?_ ?_;refine vH 19 ?_ ?_;refine vH 20 ?_ ?_;refine vH 21 ?_ ?_;refine vH 22 ?_ ?_;refine vH 23 ?_ ?_;refine wpAnyH_done ae ?_ _;go_wp2;refine bodyPost_ret (v:=Tu #[Bb (cd x.vq[k]),Bb (cQ x.vq[k])]) (by simp[results,results95,go_sem]) rfl ⟨rfl,B2⟩
def ModS (sb:Nat)(w w':World):Prop:=Below sb w w'/\∀b,b < w.heap.size->b≠sb->w'.heap[b]? =w.heap[b]?
theorem ModS.of {sb:Nat}{w w':World}(h:bl w w')(hs:sb < w.heap.size):ModS sb w w':=⟨h.mono (Nat.le_of_lt hs),λb hb _=>h.block b hb⟩
theorem ModS.trans {sb:Nat}{w w1 w2:World}(h:ModS sb w w1)(h':ModS sb w1 w2):ModS sb w w2:=⟨h.1.trans h'.1,λb hb hne=>by rw[h'.2 b (lL hb h.1.size) hne,h.2 b hb hne]⟩
theorem ModS.put {sb:Nat}{w w1:World}(h:ModS sb w w1)(j:Nat)(u:Value):ModS sb w (w1.setCell ⟨sb,j,nO⟩ u):=⟨h.1.setCell (lR _) _,λb hb hne=>by rw[hSe _ _ _ _ hne];exact h.2 b hb hne⟩
theorem CC (sb:Nat)(i:Ins)(V F:Int)(s:oA)(c:lI)(cap:Nat)(at_:Int)(x:Pic)(vs:oA)(vc:Nat)(fs:oA)(fc:Nat)(ev:Value)(wr fl:Bool)(w0 w:World)(hS:Cells w sb (aW i V F s c cap at_ x vs vc fs fc ev wr fl))(hc0:CodeAt w0 s c)(hx0:PicAt w0 x vs fs)(hz0:w0.heap.size<=sb)(hB0:bl w0 w)(K:SCtx V F c x vc fc i at_)(hA:nA i.k=true):
  Calls pG 154 #[Pp (sO ⟨sb,0,nO⟩)] w λe w'=>(∃ss gc,e=Rt (U ss (gAt x i.a).s.length gc)/\IntsAt w0 ss (gAt x i.a).s/\(gAt x i.a).s.length<=gc/\gc<=maxLen)/\Cells w' sb (aW i V F s c cap at_ x vs vc fs fc ev (bN (gAt x i.a)) fl)/\ModS sb w w':=by
 have hx:=hx0;obtain⟨k,ek,hk⟩:=K.varA hA;have eg:gAt x i.a=x.vq[k]:=by rw[ek,it hk]
 rw[eg];have hgk:=K.kx.gv _ (gM hk);obtain⟨b1,o1,e1,ss1,g1,G1,I1,k1,m1⟩:=hx.1 k hk;subst e1;have n0:=bA;have n1:(k:Int) < (x.vq.length:Int):=aa;have I0:=I1;have HKZ:Hid (∀wx,bl w wx->(wx.cell? ⟨sb,2,nO⟩=sO (I .i64 (k:Int))/\wx.cell? ⟨sb,11,nO⟩=sO (U (sO ⟨b1,o1,nO⟩) x.vq.length vc))/\(wx.cell? ⟨b1,o1+k * 7,nO⟩=sO (Bb x.vq[k].n)/\wx.cell? ⟨b1,o1+k * 7+1,nO⟩=sO (Bb x.vq[k].sp.n)/\wx.cell? ⟨b1,o1+k * 7+2,nO⟩=sO (I .i64 x.vq[k].sp.lo)/\wx.cell? ⟨b1,o1+k * 7+3,nO⟩=sO (I .i64 x.vq[k].sp.hi)/\wx.cell? ⟨b1,o1+k * 7+4,nO⟩=sO (Bb x.vq[k].t)/\wx.cell? ⟨b1,o1+k * 7+5,nO⟩=sO (Bb x.vq[k].f)/\wx.cell? ⟨b1,o1+k * 7+6,nO⟩=sO (U ss1 x.vq[k].s.length g1))):=λwx hb=>⟨⟨by rw[<-ek];exact(hS.call hb).1 2 _ rfl,(hS.call hb).1 11 _ rfl⟩,((G1.call hB0).call hb).1⟩;have HSS:=ag hS;clear hS hc0 hx hx0 eg ek hA hgk G1;go_enter func154,ntmps154;go_upto_region 1 with fail
 go_cut [3] (λt3 wc=>∃ab,t3=Pp (sO ⟨ab,0,nO⟩)/\w.heap.size<=ab/\Cells wc ab [Bb x.vq[k].n,Bb x.vq[k].sp.n,I .i64 x.vq[k].sp.lo,I .i64 x.vq[k].sp.hi,Bb x.vq[k].t,Bb x.vq[k].f,U ss1 x.vq[k].s.length g1]/\bl w wc)
 case first=>
  rename_i J1 K1 hJ1 hK1;have B1:=lB;refine wp_region_held_drew (S:=(λwx=>(wx.cell? ⟨sb,2,nO⟩=sO (I .i64 (k:Int))/\wx.cell? ⟨sb,11,nO⟩=sO (U (sO ⟨b1,o1,nO⟩) x.vq.length vc))/\(wx.cell? ⟨b1,o1+k * 7,nO⟩=sO (Bb x.vq[k].n)/\wx.cell? ⟨b1,o1+k * 7+1,nO⟩=sO (Bb x.vq[k].sp.n)/\wx.cell? ⟨b1,o1+k * 7+2,nO⟩=sO (I .i64 x.vq[k].sp.lo)/\wx.cell? ⟨b1,o1+k * 7+3,nO⟩=sO (I .i64 x.vq[k].sp.hi)/\wx.cell? ⟨b1,o1+k * 7+4,nO⟩=sO (Bb x.vq[k].t)/\wx.cell? ⟨b1,o1+k * 7+5,nO⟩=sO (Bb x.vq[k].f)/\wx.cell? ⟨b1,o1+k * 7+6,nO⟩=sO (U ss1 x.vq[k].s.length g1)))) ae (HKZ.out _ B1) (λhHeld=> ?_);generalize w.drew=w1 at *;refine vH 0 ?_ ?_;refine vH 1 ?_ ?_;refine vH 2 ?_ ?_;refine vH 3 ?_ ?_;refine vH 4 ?_ ?_;refine vH 5 ?_ ?_;refine vH 6 ?_ ?_;refine vH 7 ?_ ?_;refine vH 8 ?_ ?_;refine vH 9 ?_ ?_;refine vH 10 ?_ ?_;refine vH 11 ?_ ?_;refine rH1 12 λK hK=> ?_;go_simp;have hb2:Below w1.heap.size w1 (w1.alloc (Cc #[Bb false,Bb false,I .i64 0,I .i64 0,Bb false,Bb false,U nO 0 0] 91)):=am;have B2:=rv;have A2:Cells (w1.alloc (Cc #[Bb false,Bb false,I .i64 0,I .i64 0,Bb false,Bb false,U nO 0 0] 91)) w1.heap.size [Bb false,Bb false,I .i64 0,I .i64 0,Bb false,Bb false,U nO 0 0]:=Cells.new w1 91 [Bb false,Bb false,I .i64 0,I .i64 0,Bb false,Bb false,U nO 0 0];have zab:=B1.size;clear B1;refine hK.out _ _ (HKZ.out _ B2) (λhHeld2=> ?_);clear hK K hb2;refine sm ?_;generalize w1.alloc (Cc #[Bb false,Bb false,I .i64 0,I .i64 0,Bb false,Bb false,U nO 0 0] 91)=w2 at *;generalize w1.heap.size=ab at *;refine rH1 13 λK hK=> ?_;have r0:=A2.1 0 _ rfl;have r1:=A2.1 1 _ rfl;have r2:=A2.1 2 _ rfl;have r3:=A2.1 3 _ rfl;have r4:=A2.1 4 _ rfl;have r5:=A2.1 5 _ rfl;have r6:=A2.1 6 _ rfl;have f0:=A2.2.2 0;have f1:=A2.2.2 1;have f2:=A2.2.2 2;have f3:=A2.2.2 3;have f4:=A2.2.2 4;have f5:=A2.2.2 5;have f6:=A2.2.2 6;go_simp;have A3:Cells (((((((w2.setCell ⟨ab,0,nO⟩ (Bb x.vq[k].n)).setCell ⟨ab,1,nO⟩ (Bb x.vq[k].sp.n)).setCell ⟨ab,2,nO⟩ (I .i64 x.vq[k].sp.lo)).setCell ⟨ab,3,nO⟩ (I .i64 x.vq[k].sp.hi)).setCell ⟨ab,4,nO⟩ (Bb x.vq[k].t)).setCell ⟨ab,5,nO⟩ (Bb x.vq[k].f)).setCell ⟨ab,6,nO⟩ (U ss1 x.vq[k].s.length g1)) ab [Bb x.vq[k].n,Bb x.vq[k].sp.n,I .i64 x.vq[k].sp.lo,I .i64 x.vq[k].sp.hi,Bb x.vq[k].t,Bb x.vq[k].f,U ss1 x.vq[k].s.length g1]:=(((((((A2.put 0 ah _).put 1 ah _).put 2 ah _).put 3 ah _).put 4 ah _).put 5 ah _).put 6 ah _);have B3:bl w (((((((w2.setCell ⟨ab,0,nO⟩ (Bb x.vq[k].n)).setCell ⟨ab,1,nO⟩ (Bb x.vq[k].sp.n)).setCell ⟨ab,2,nO⟩ (I .i64 x.vq[k].sp.lo)).setCell ⟨ab,3,nO⟩ (I .i64 x.vq[k].sp.hi)).setCell ⟨ab,4,nO⟩ (Bb x.vq[k].t)).setCell ⟨ab,5,nO⟩ (Bb x.vq[k].f)).setCell ⟨ab,6,nO⟩ (U ss1 x.vq[k].s.length g1)):=(((((((B2.setCell aw _).setCell aw _).setCell aw _).setCell aw _).setCell aw _).setCell aw _).setCell aw _);refine hK.out _ _ (HKZ.out _ B3) (λhHeld3=> ?_);clear hK K r0 f0 r1 f1 r2 f2 r3 f3 r4 f4 r5 f5 r6 f6 A2 B2;refine sm ?_;generalize (((((((w2.setCell ⟨ab,0,nO⟩ (Bb x.vq[k].n)).setCell ⟨ab,1,nO⟩ (Bb x.vq[k].sp.n)).setCell ⟨ab,2,nO⟩ (I .i64 x.vq[k].sp.lo)).setCell ⟨ab,3,nO⟩ (I .i64 x.vq[k].sp.hi)).setCell ⟨ab,4,nO⟩ (Bb x.vq[k].t)).setCell ⟨ab,5,nO⟩ (Bb x.vq[k].f)).setCell ⟨ab,6,nO⟩ (U ss1 x.vq[k].s.length g1))=w3 at *;refine wpAnyH_done ae ?_ _;first|refine hK1 _ _ (Met.intro (hJ1 _ _ ?_))|refine Met.intro (hJ1 _ _ ?_)|refine hJ1 _ _ ?_
  (repeat apply Exists.intro)
  refine⟨?_,rfl⟩;exact⟨ab,rfl,zab,A3,B3⟩
 obtain⟨ab,rfl,zab,A1,B1⟩:=hcut;have S1:=HSS.out.call B1;have M1:=ModS.of B1 HSS.out.2.1;have zsb:=HSS.out.2.1;have a0:=A1.1 0 _ rfl;have a1:=A1.1 1 _ rfl;have a4:=A1.1 4 _ rfl;have a5:=A1.1 5 _ rfl;have a6:=A1.1 6 _ rfl;have s14:=S1.1 14 _ rfl;have f14:=S1.2.2 14;cases hn:x.vq[k].n with
 |true=>
  rw[hn] at a0;go_wp2;go_ret;exact⟨⟨ss1,g1,rfl,I0,k1,m1⟩,by rw[show bN x.vq[k]=true by simp[bN,hn]];exact S1.put 14 (by simp[aW]) _,M1.put 14 _⟩
 |false=>
  rw[hn] at a0;cases hp:x.vq[k].sp.n with
  |false=>
   rw[hp] at a1;go_wp2;go_ret;exact⟨⟨ss1,g1,rfl,I0,k1,m1⟩,by rw[show bN x.vq[k]=true by simp[bN,hn,hp]];exact S1.put 14 (by simp[aW]) _,M1.put 14 _⟩
  |true=>
   rw[hp] at a1;cases ht:x.vq[k].t with
   |true=>
    rw[ht] at a4;go_wp2;go_ret;exact⟨⟨ss1,g1,rfl,I0,k1,m1⟩,by rw[show bN x.vq[k]=true by simp[bN,hn,hp,ht]];exact S1.put 14 (by simp[aW]) _,M1.put 14 _⟩
   |false=>
    rw[ht] at a4;cases hf:x.vq[k].f with
    |true=>
     rw[hf] at a5;go_wp2;go_ret;exact⟨⟨ss1,g1,rfl,I0,k1,m1⟩,by rw[show bN x.vq[k]=true by simp[bN,hn,hp,ht,hf]];exact S1.put 14 (by simp[aW]) _,M1.put 14 _⟩
    |false=>
     rw[hf] at a5;go_wp2;go_ret;exact⟨⟨ss1,g1,rfl,I0,k1,m1⟩,by rw[show bN x.vq[k]=false by simp[bN,hn,hp,ht,hf]];exact S1.put 14 (by simp[aW]) _,M1.put 14 _⟩
theorem nW {V F:Int}{c:lI}{i:Ins}{at_:Int}(x:Pic)(vs:oA)(vc:Nat)(fs:oA)(fc:Nat)(w:World)(hx:PicAt w x vs fs)(K:SCtx V F c x vc fc i at_):
  Calls pG 29 #[xv x vs vc fs fc] w λe w'=>Uf w.heap.size w' e x/\bl w w':=by
 have h:=K.lens;have kx:=K.kx;have hs:∀{g:Gs},aE c g=0->g.s.length<=1000000:=λhg=>by
  have:=da (ckGs_iff.1 hg).2.2 (dx h.2.1 hg).1;omega
 obtain⟨xn,vx,fx⟩:=x;exact yp xn vx fx vs vc fs fc w hx (by simp only at h;omega) (by simp only at h;omega) (λk hk=>by have:=kx.row k hk;simp only at this;omega) (λg hg=>hs (kx.gv g hg)) (λk hk g hg=>hs (kx.gf k hk g hg))
structure SPre (T:Nat->Prop) (V F:Int) (s:oA) (c:lI) (cap:Nat) (at_:Int) (i:Ins) (x:Pic) (vs:oA) (vc:Nat) (fs:oA) (fc:Nat) (w wp:World) (ib yb ob ab bb tb:Nat) (wY:World) (v:Ro) (gs:oA) (gc:Nat) (L:List Ro) (ga:Gs) (sa:oA) (ca:Nat) (gb:Gs) (sb:oA) (cb:Nat):Prop where
 low:bl w wp
 prg:Cells wp w.heap.size [I .i64 V,I .i64 F,U s c.length cap]
 pic:Cells wp (w.heap.size+1) [Bb false,U vs x.vq.length vc,U fs x.fq.length fc]
 ins:Cells wp ib [I .i64 i.k,I .i64 i.tgt,I .i64 i.a,I .i64 i.b,I .i64 i.n,I .i64 i.g]
 y:Cells wp yb [Bb false,U v.rs v.l.length v.rc,U gs L.length gc]
 on:Cells wp ob [I .i64 (at_+1),Bb false,U v.rs v.l.length v.rc,U gs L.length gc]
 va:Cells wp ab [Bb ga.n,Bb ga.sp.n,I .i64 ga.sp.lo,I .i64 ga.sp.hi,Bb ga.t,Bb ga.f,U sa ga.s.length ca]
 vb:Cells wp bb [Bb gb.n,Bb gb.sp.n,I .i64 gb.sp.lo,I .i64 gb.sp.hi,Bb gb.t,Bb gb.f,U sb gb.s.length cb]
 tg:Cells wp tb [Bb false,Bb true,I .i64 0,I .i64 0,Bb false,Bb false,U nO 0 0]
 ga:IntsIn T w sa ga.s/\ga.s.length<=ca/\ca<=maxLen
 gb:IntsIn T w sb gb.s/\gb.s.length<=cb/\cb<=maxLen
 own:PicG (λb=>w.heap.size<=b) (w.heap.size+1+1+1) wY v gs gc L
 yw:bl wY wp
 yb:yb=wY.heap.size
 pv:x=aV false v L
 ord:ib=w.heap.size+1+1/\w.heap.size+1+1+1<=wY.heap.size/\wY.heap.size < ob/\ob < ab/\ab < bb/\bb < tb
section
variable {S T':Nat->Prop} {w:World} {ob B:Nat} {to_:Int} {v:Ro} {gs:oA} {gc:Nat} {L:List Ro} {x':Pic}
theorem lh (hO:Cells w ob [I .i64 to_,Bb false,U v.rs v.l.length v.rc,U gs L.length gc])(hS:S ob)(hP:PicG T' B w v gs gc L)(hT:∀b,T' b->S b)(hB:∀b,B<=b->S b)(hx:x'=aV false v L):EdsOn S w (sO ⟨ob,0,nO⟩) [⟨to_,x'⟩]:=by
 intro i hi;have h0:i=0:=uN;subst h0;subst hx;have l1:(aV false v L).vq.length=v.l.length:=by simp[aV,roG]
 have l2:(aV false v L).fq.length=L.length:=by simp[aV]
 refine⟨ob,0,rfl,hS,hO.2.1,v.rs,v.rc,gs,gc,?_,(hP.on false).mono λb hb _=>hb.elim (hT b) (hB b),hP.vcap false,hP.fcap' false⟩;simp only[List.getElem_cons_zero,l1,l2,Nat.zero_mul,Nat.add_zero,Nat.zero_add];exact⟨hO.1 0 _ rfl,hO.1 1 _ rfl,hO.1 2 _ rfl,hO.1 3 _ rfl⟩
end
theorem VO {T:Nat->Prop}{n B:Nat}{wY wx:World}{v:Ro}{gs:oA}{gc:Nat}{L:List Ro}{y:Gc}(G:PicG (λb=>n<=b) B wY v gs gc L)(hB:n<=B)(hN:n<=wY.heap.size)(h:IntsIn (λb=>(T b/\b < n)\/wY.heap.size<=b) wx y.ss y.g.s)(h1:y.g.s.length<=y.cap)(h2:y.cap<=maxLen):bS (λb=>(T b\/n<=b)/\Off v (j8 gs L.length gc).ownBlock L b) wx y:=by
 have hz:=G.vq;refine⟨h.mono λb hb _=> ?_,h1,h2⟩;have rowlt:∀q,roB v=sO q->q < wY.heap.size/\B<=q:=λq hq=>G.vq.lt hq;have fldlt:∀q,(j8 gs L.length gc).ownBlock=sO q->q < wY.heap.size/\B<=q:=λq hq=>aR G.fq hq;have reslt:∀r∈L,∀q,roB r=sO q->q < wY.heap.size/\B<=q:=λr hr q hq=>(G.rows r hr).lt hq;rcases hb with⟨hb,hlt⟩|hb
 ·exact⟨.inl hb,λe=>by have:=rowlt b e;omega,λe=>by have:=fldlt b e;omega,λr hr e=>by have:=reslt r hr b e;omega⟩
 ·exact⟨.inr (lT hN hb),λe=>by have:=rowlt b e;omega,λe=>by have:=fldlt b e;omega,λr hr e=>by have:=reslt r hr b e;omega⟩
def Oi:Nat->Option Code->Option Code
 |0,o=>o
 |n+1,sO (.seq _ b)=>Oi n (sO b)
 |_+1,_=>nO
def SwT (R:Ending->World->Prop)(m:Nat)(w w3 w4 w7 w11 wp:World):Prop:=∀(z0 z2 z4:Value) (tl:List Value),tl.length=322->∃c,Oi 10 Tryz.f59.body=sO c/\c.wp pG (bodyPost pG Tryz.f59 R) ⟨(z0::I .i64 (m:Int)::z2::Pp (sO ⟨w.heap.size,0,nO⟩)::z4::Pp (sO ⟨w.heap.size+1,0,nO⟩)::U nO 0 0::Bb false::Bb false::Pp (sO ⟨w.heap.size+1+1,0,nO⟩)::Pp (sO ⟨w3.heap.size,0,nO⟩)::U (sO ⟨w4.heap.size,0,nO⟩) 1 1::Pp (sO ⟨w7.heap.size,0,nO⟩)::Pp (sO ⟨w7.heap.size+1,0,nO⟩)::Pp (sO ⟨w11.heap.size,0,nO⟩)::Bb false::tl).toArray,[]⟩ wp
theorem kA (l:List Value)(n:Nat)(h:l.length=n):∃u:Nat->Value,l=(q6 n).map u:=⟨λk=>l.getD k (Bb false),by
 refine List.ext_getElem (by simp[h]) λk h1 h2=> ?_;simp[q8,h1]⟩
theorem gX {R:Ending->World->Prop}{m:Nat}{w w3 w4 w7 w11 wp:World}{c:Code}(hc:Oi 10 Tryz.f59.body=sO c)(h:∀(z0 z2 z4:Value) (u:Nat->Value),c.wp pG (bodyPost pG Tryz.f59 R) ⟨(z0::I .i64 (m:Int)::z2::Pp (sO ⟨w.heap.size,0,nO⟩)::z4::Pp (sO ⟨w.heap.size+1,0,nO⟩)::U nO 0 0::Bb false::Bb false::Pp (sO ⟨w.heap.size+1+1,0,nO⟩)::Pp (sO ⟨w3.heap.size,0,nO⟩)::U (sO ⟨w4.heap.size,0,nO⟩) 1 1::Pp (sO ⟨w7.heap.size,0,nO⟩)::Pp (sO ⟨w7.heap.size+1,0,nO⟩)::Pp (sO ⟨w11.heap.size,0,nO⟩)::Bb false::(q6 322).map u).toArray,[]⟩ wp):SwT R m w w3 w4 w7 w11 wp:=λz0 z2 z4 tl hl=>by
 obtain⟨u,rfl⟩:=kA tl _ hl;exact⟨c,hc,h z0 z2 z4 u⟩
section
variable {P:Program} {Q:Exit->Act->World->Prop} {a:Act} {w:World}
theorem Eg {o:Option Code}{c:Code}(h:o=sO c)(hw:∃c,o=sO c/\c.wp P Q a w):c.wp P Q a w:=by
 obtain⟨d,hd,hw⟩:=hw;cases h.symm.trans hd;exact hw
end
theorem pt {p:Prop}(h:p:=by
 have h:=Cells.new (w7.alloc (.cells #[.bool false,.bool true,.int .i64 0,.int .i64 0,.bool false,.bool false,.slice none 0 0] 91)) 91 [.bool false,.bool true,.int .i64 0,.int .i64 0,.bool false,.bool false,.slice none 0 0];rw[World.size_alloc] at h;exact h):p:=h
theorem rK {p:Prop}(h:p:=by
 have h:=nW x vs vc fs fc wx ((hx.at).below hb (Nat.le_refl _)) K;rw[exv] at h;refine h.mono ?_;rintro e w' ⟨⟨v,gs,gc,L,h1,h2,h3⟩,h4⟩;rw[hn] at h1 h2;exact⟨⟨v,gs,gc,L,h1,h2,h3⟩,h4⟩):p:=h
theorem sF {p:Prop}(h:p:=by
 have h:=Cells.new (w.alloc (.cells #[.int .i64 V,.int .i64 F,.slice s c.length cap] 24)) 28 [.bool false,.slice vs x.vq.length vc,.slice fs x.fq.length fc];rw[World.size_alloc] at h;exact h):p:=h
theorem pJ {p:Prop}(h:p:=by
 have h1:=hb3.size;have h2:=HZ2.out;have h3:=Z4.out;have h4:=hb6.size;have h5:=hb7.size;have h6:=O5.2.1;exact⟨aa,aa,aa⟩):p:=h
theorem rH {p:Prop}(h:p:=by
 show PicG _ _ _ _ _ _ _;rw[<-HZ2.out];exact PG.mono λb hb _=>by have:=HZ2.out;omega):p:=h
theorem gK {T:Nat->Prop}{V F:Int}{s:oA}{c:lI}{cap m:Nat}{i:Ins}{x:Pic}{vs:oA}{vc:Nat}{fs:oA}{fc:Nat}{w:World}(hc:CodeAt w s c)(hx:PicOn T w x vs fs)(K:SCtx V F c x vc fc i (m:Int))(hnA:nA i.k=false)(hnB:nB i.k=false)(H:∀(w3 w4 w7 w11 wp:World) (v:Ro) (gs:oA) (gc:Nat) (L:List Ro),Hid (SPre T V F s c cap (m:Int) i x vs vc fs fc w wp (w.heap.size+1+1) w3.heap.size w4.heap.size w7.heap.size (w7.heap.size+1) w11.heap.size w3 v gs gc L noneG nO 0 noneG nO 0)->SwT (λe w'=>bY (λb=>T b\/w.heap.size<=b) w' e (aA i (m:Int) x)/\bl w w') m w w3 w4 w7 w11 wp):
  Calls pG 59 #[pv V F s c cap,I .i64 (m:Int),xv x vs vc fs fc] w λe w'=>bY (λb=>T b\/w.heap.size<=b) w' e (aA i (m:Int) x)/\bl w w':=by
 have HH:=ag H;clear H;have hn:=K.kx.none;have ha1:=K.a1;have hm:=cS;have hcm:c[m]=i:=DQ;have h60:=K.lens.2.1;have HIN:=ag hx.in;have exv:=rt;rw[exv];have HCP:Hid (∀wx,bl w wx->Calls pG 29 #[Ag #[Bb false,U vs x.vq.length vc,U fs x.fq.length fc]] wx λe w'=>(∃v gs gc L,x=aV false v L/\e=Rt (Ag #[Bb false,U v.rs v.l.length v.rc,U gs L.length gc])/\PicG (λb=>wx.heap.size<=b) wx.heap.size w' v gs gc L)/\bl wx w'):=λwx hb=>by
  exact rK
 have hb1:=Aj;have P1:=yt;have X1:Cells ((w.alloc (Cc #[I .i64 V,I .i64 F,U s c.length cap] 24)).alloc (Cc #[Bb false,U vs x.vq.length vc,U fs x.fq.length fc] 28)) (w.heap.size+1) [Bb false,U vs x.vq.length vc,U fs x.fq.length fc]:=by
  exact sF
 have HZ1:=wR;obtain⟨cb0,co,es,hcb,hci⟩:=wD;obtain⟨j0,j1,j2,j3,j4,j5⟩:=hci m hm;rw[hcm] at j0 j1 j2 j3 j4 j5;have HES:Hid (s=sO ⟨cb0,co,nO⟩):=es;clear es;have n0:=gj;have n1:=rP;have HNA:Hid (∀wx,Calls pG 107 #[I .i64 i.k] wx λe w'=>e=Rt (Bb false)/\w'=wx):=λwx=>MF;have HNB:=Gd
 skip
 skip
 skip
 skip
 skip
 skip
 have HK:=ag K;have HX:=cC;have HCM:=ag hcm;clear hc hx K hn exv hci hcm;clear hnA hnB;have w61:=c7;go_enter func59,ntmps59;go_upto_region 3 with fail
 generalize ((w.alloc (Cc #[I .i64 V,I .i64 F,U s c.length cap] 24)).alloc (Cc #[Bb false,U vs x.vq.length vc,U fs x.fq.length fc] 28))=w1 at *;have p2:=P1.1 2 _ rfl;rw[HES.out] at p2;go_upto_region 4 with fail
 clear p2 j0 j1 j2 j3 j4 j5;have hb2:=wQ;have I2:=yJ;have HZ2:=Ad;rw[HZ1.out] at I2;rw[HZ1.out];generalize w1.alloc (Cc #[I .i64 i.k,I .i64 i.tgt,I .i64 i.a,I .i64 i.b,I .i64 i.n,I .i64 i.g] 100)=w2 at *;have P2:=P1.call hb2;have X2:=X1.call hb2;have B2:=lE;have x0:=X2.1 0 _ rfl;have x1:=X2.1 1 _ rfl;have x2:=X2.1 2 _ rfl;clear P1 X1 hb1 hb2 HZ1;go_wp2_with fail;refine(HCP.out w2 B2).mono ?_;rintro e w3 ⟨⟨v,gs,gc,L,EX0,rfl,PG⟩,hb3⟩;have EX:=ag EX0;clear EX0 x0 x1 x2 HCP;have HNO:=pX;go_upto_region 5 with fail
 have hb4:=yG;have Y4:=yC;have Z4:=wP;generalize w3.alloc (Cc #[Bb false,U v.rs v.l.length v.rc,U gs L.length gc] 28)=w4 at *;have y0:=Y4.1 0 _ rfl;have y1:=Y4.1 1 _ rfl;have y2:=Y4.1 2 _ rfl;go_upto_region 6 with fail
 clear y0 y1 y2;have hb5:=Ab;have O5:=wW;generalize w4.alloc (Cc #[I .i64 ((m:Int)+1),Bb false,U v.rs v.l.length v.rc,U gs L.length gc] 45)=w5 at *;go_wp2_with fail;refine(HNO.out w5).mono ?_;rintro e w6 ⟨rfl,hb6⟩;go_wp2_with fail;refine(HNO.out w6).mono ?_;rintro e w7 ⟨rfl,hb7⟩;go_upto_region 7 with fail
 have hb8:=wM;have A8:=ye;have E8:Cells ((w7.alloc (Cc #[Bb false,Bb true,I .i64 0,I .i64 0,Bb false,Bb false,U nO 0 0] 91)).alloc (Cc #[Bb false,Bb true,I .i64 0,I .i64 0,Bb false,Bb false,U nO 0 0] 91)) (w7.heap.size+1) [Bb false,Bb true,I .i64 0,I .i64 0,Bb false,Bb false,U nO 0 0]:=by
  exact pt
 generalize (w7.alloc (Cc #[Bb false,Bb true,I .i64 0,I .i64 0,Bb false,Bb false,U nO 0 0] 91)).alloc (Cc #[Bb false,Bb true,I .i64 0,I .i64 0,Bb false,Bb false,U nO 0 0] 91)=w8 at *;have hb48:=wB;have hb28:=yA;have hb38:=Ap;have O8:=yk;have P8:=P2.call hb28;have X8:=X2.call hb28;have I8:=I2.call hb28;have Y8:=Y4.call hb48;have B8:=B2.trans (hb28.mono B2.size);have HORD:Hid (w.heap.size+1+1+1<=w3.heap.size/\w3.heap.size < w4.heap.size/\w4.heap.size < w7.heap.size):=by
  exact pJ
 have HPG:Hid (PicG (λb=>w.heap.size<=b) (w.heap.size+1+1+1) w3 v gs gc L):=by
  exact rH
 have HB8:=ag hb38;clear PG hb3 hb4 hb5 hb6 hb7 hb8 hb48 hb28 hb38 P2 X2 I2 Y4 O5 B2 Z4 HZ2;have i0:=I8.1 0 _ rfl;go_wp2_with fail;refine(HNA.out w8).mono ?_;rintro e wz ⟨rfl,ew⟩;rw[ew];clear ew wz;have A9:=A8;have E9:=E8;have P9:=P8;have X9:=X8;have I9:=I8;have Y9:=Y8;have O9:=O8;have B9:=B8;have HB9:=HB8;clear A8 E8 P8 X8 I8 Y8 O8 B8 HB8;generalize w8=w9 at *;go_wp2_with fail;refine(HNB.out w9).mono ?_;rintro e wz ⟨rfl,ew⟩;rw[ew];clear ew wz;have A10:=A9;have E10:=E9;have P10:=P9;have X10:=X9;have I10:=I9;have Y10:=Y9;have O10:=O9;have B10:=B9;have HB10:=HB9;clear A9 E9 P9 X9 I9 Y9 O9 B9 HB9;generalize w9=w10 at *;go_wp2_with fail;refine(HNO.out w10).mono ?_;rintro e w11 ⟨rfl,hb11⟩;clear i0;go_upto_region 12 with fail
 have hb12:=yL;have T12:=wL;have hb1012:=yU;generalize w11.alloc (Cc #[Bb false,Bb true,I .i64 0,I .i64 0,Bb false,Bb false,U nO 0 0] 91)=wp at *;have SP:Hid (SPre T V F s c cap (m:Int) i x vs vc fs fc w wp (w.heap.size+1+1) w3.heap.size w4.heap.size w7.heap.size (w7.heap.size+1) w11.heap.size w3 v gs gc L noneG nO 0 noneG nO 0):=by
  have o:=HORD.out;have o2:=E10.2.1;have o3:=hb11.size;exact⟨B10.trans (hb1012.mono B10.size),P10.call hb1012,X10.call hb1012,I10.call hb1012,Y10.call hb1012,O10.call hb1012,A10.call hb1012,E10.call hb1012,T12,⟨.inl rfl,lR _,j6 _⟩,⟨.inl rfl,lR _,j6 _⟩,HPG.out,HB10.out.trans (hb1012.mono HB10.out.size),rfl,EX.out,rfl,aa,aa,aa,aa,aa⟩
 clear A10 B10 P10 X10 I10 Y10 O10 E10 T12 HPG HB10 hb11 hb12 hb1012 EX HORD HNO HNA HNB HIN;refine wp_region_lit ?_;refine tL (Bb false) ?_;refine sm ?_;refine wpList_nil ?_;rename_i K9 hK9;refine hK9 _ _ (Eg rfl (HH.out w3 w4 w7 w11 wp v gs gc L SP _ _ _ _ bu))
theorem kE {T:Nat->Prop}{V F:Int}{s:oA}{c:lI}{cap m:Nat}{i:Ins}{x:Pic}{vs:oA}{vc:Nat}{fs:oA}{fc:Nat}{w:World}(hc:CodeAt w s c)(hx:PicOn T w x vs fs)(K:SCtx V F c x vc fc i (m:Int))(hnA:nA i.k=true)(hnB:nB i.k=false)(H:∀(w3 w4 w7 w11 wp:World) (v:Ro) (gs:oA) (gc:Nat) (L:List Ro) (ka:Nat) (sska:oA) (gcka:Nat) (hkax:ka < x.vq.length) (_:i.a=(ka:Int)),Hid (SPre T V F s c cap (m:Int) i x vs vc fs fc w wp (w.heap.size+1+1) w3.heap.size w4.heap.size w7.heap.size (w7.heap.size+1) w11.heap.size w3 v gs gc L x.vq[ka] sska gcka noneG nO 0)->SwT (λe w'=>bY (λb=>T b\/w.heap.size<=b) w' e (aA i (m:Int) x)/\bl w w') m w w3 w4 w7 w11 wp):
  Calls pG 59 #[pv V F s c cap,I .i64 (m:Int),xv x vs vc fs fc] w λe w'=>bY (λb=>T b\/w.heap.size<=b) w' e (aA i (m:Int) x)/\bl w w':=by
 have HH:=ag H;clear H;have hn:=K.kx.none;have ha1:=K.a1;have hm:=cS;have hcm:c[m]=i:=DQ;have h60:=K.lens.2.1;have HIN:=ag hx.in;have exv:=rt;rw[exv];have HCP:Hid (∀wx,bl w wx->Calls pG 29 #[Ag #[Bb false,U vs x.vq.length vc,U fs x.fq.length fc]] wx λe w'=>(∃v gs gc L,x=aV false v L/\e=Rt (Ag #[Bb false,U v.rs v.l.length v.rc,U gs L.length gc])/\PicG (λb=>wx.heap.size<=b) wx.heap.size w' v gs gc L)/\bl wx w'):=λwx hb=>by
  exact rK
 have hb1:=Aj;have P1:=yt;have X1:Cells ((w.alloc (Cc #[I .i64 V,I .i64 F,U s c.length cap] 24)).alloc (Cc #[Bb false,U vs x.vq.length vc,U fs x.fq.length fc] 28)) (w.heap.size+1) [Bb false,U vs x.vq.length vc,U fs x.fq.length fc]:=by
  exact sF
 have HZ1:=wR;obtain⟨cb0,co,es,hcb,hci⟩:=wD;obtain⟨j0,j1,j2,j3,j4,j5⟩:=hci m hm;rw[hcm] at j0 j1 j2 j3 j4 j5;have HES:Hid (s=sO ⟨cb0,co,nO⟩):=es;clear es;have n0:=gj;have n1:=rP;have HNA:=FT;have HNB:=Gd;obtain⟨ka,eka,hkax⟩:=K.varA hnA;have HKAV:=dS
 skip
 skip
 clear eka
 skip
 have HK:=ag K;have HX:=cC;have HCM:=ag hcm;clear hc hx K hn exv hci hcm;clear hnA hnB;have w61:=c7;go_enter func59,ntmps59;go_upto_region 3 with fail
 generalize ((w.alloc (Cc #[I .i64 V,I .i64 F,U s c.length cap] 24)).alloc (Cc #[Bb false,U vs x.vq.length vc,U fs x.fq.length fc] 28))=w1 at *;have p2:=P1.1 2 _ rfl;rw[HES.out] at p2;go_upto_region 4 with fail
 clear p2 j0 j1 j2 j3 j4 j5;have hb2:=wQ;have I2:=yJ;have HZ2:=Ad;rw[HZ1.out] at I2;rw[HZ1.out];generalize w1.alloc (Cc #[I .i64 i.k,I .i64 i.tgt,I .i64 i.a,I .i64 i.b,I .i64 i.n,I .i64 i.g] 100)=w2 at *;have P2:=P1.call hb2;have X2:=X1.call hb2;have B2:=lE;have x0:=X2.1 0 _ rfl;have x1:=X2.1 1 _ rfl;have x2:=X2.1 2 _ rfl;clear P1 X1 hb1 hb2 HZ1;go_wp2_with fail;refine(HCP.out w2 B2).mono ?_;rintro e w3 ⟨⟨v,gs,gc,L,EX0,rfl,PG⟩,hb3⟩;have EX:=ag EX0;clear EX0 x0 x1 x2 HCP;have HNO:=pX;go_upto_region 5 with fail
 have hb4:=yG;have Y4:=yC;have Z4:=wP;generalize w3.alloc (Cc #[Bb false,U v.rs v.l.length v.rc,U gs L.length gc] 28)=w4 at *;have y0:=Y4.1 0 _ rfl;have y1:=Y4.1 1 _ rfl;have y2:=Y4.1 2 _ rfl;go_upto_region 6 with fail
 clear y0 y1 y2;have hb5:=Ab;have O5:=wW;generalize w4.alloc (Cc #[I .i64 ((m:Int)+1),Bb false,U v.rs v.l.length v.rc,U gs L.length gc] 45)=w5 at *;go_wp2_with fail;refine(HNO.out w5).mono ?_;rintro e w6 ⟨rfl,hb6⟩;go_wp2_with fail;refine(HNO.out w6).mono ?_;rintro e w7 ⟨rfl,hb7⟩;go_upto_region 7 with fail
 have hb8:=wM;have A8:=ye;have E8:Cells ((w7.alloc (Cc #[Bb false,Bb true,I .i64 0,I .i64 0,Bb false,Bb false,U nO 0 0] 91)).alloc (Cc #[Bb false,Bb true,I .i64 0,I .i64 0,Bb false,Bb false,U nO 0 0] 91)) (w7.heap.size+1) [Bb false,Bb true,I .i64 0,I .i64 0,Bb false,Bb false,U nO 0 0]:=by
  exact pt
 generalize (w7.alloc (Cc #[Bb false,Bb true,I .i64 0,I .i64 0,Bb false,Bb false,U nO 0 0] 91)).alloc (Cc #[Bb false,Bb true,I .i64 0,I .i64 0,Bb false,Bb false,U nO 0 0] 91)=w8 at *;have hb48:=wB;have hb28:=yA;have hb38:=Ap;have O8:=yk;have P8:=P2.call hb28;have X8:=X2.call hb28;have I8:=I2.call hb28;have Y8:=Y4.call hb48;have B8:=B2.trans (hb28.mono B2.size);have HORD:Hid (w.heap.size+1+1+1<=w3.heap.size/\w3.heap.size < w4.heap.size/\w4.heap.size < w7.heap.size):=by
  exact pJ
 have HPG:Hid (PicG (λb=>w.heap.size<=b) (w.heap.size+1+1+1) w3 v gs gc L):=by
  exact rH
 have HB8:=ag hb38;clear PG hb3 hb4 hb5 hb6 hb7 hb8 hb48 hb28 hb38 P2 X2 I2 Y4 O5 B2 Z4 HZ2;have i0:=I8.1 0 _ rfl;go_wp2_with fail;refine(HNA.out w8).mono ?_;rintro e wz ⟨rfl,ew⟩;rw[ew];clear ew wz i0;have x1:=X8.1 1 _ rfl;have i2:=I8.1 2 _ rfl;rw[HKAV.out] at i2;obtain⟨bka,oka,eka,Ska,sska,gcka,Gka,IkaI,kka1,kka2⟩:=HIN.out.1 ka hkax;rw[eka] at x1;clear eka;obtain⟨⟨u0,u1,u2,u3,u4,u5,u6⟩,uz⟩:=Gka.below B8 (lR _);have r0:=A8.1 0 _ rfl;have fr0:=A8.2.2 0;have r1:=A8.1 1 _ rfl;have fr1:=A8.2.2 1;have r2:=A8.1 2 _ rfl;have fr2:=A8.2.2 2;have r3:=A8.1 3 _ rfl;have fr3:=A8.2.2 3;have r4:=A8.1 4 _ rfl;have fr4:=A8.2.2 4;have r5:=A8.1 5 _ rfl;have fr5:=A8.2.2 5;have r6:=A8.1 6 _ rfl;have fr6:=A8.2.2 6;have q0:=kf;have q1:=yW;go_upto_region 9 with fail
 clear r0 fr0 r1 fr1 r2 fr2 r3 fr3 r4 fr4 r5 fr5 r6 fr6;obtain⟨w9,ew9⟩:∃q,q=bD w8 (w7.heap.size) 0 [Bb x.vq[ka].n,Bb x.vq[ka].sp.n,I .i64 x.vq[ka].sp.lo,I .i64 x.vq[ka].sp.hi,Bb x.vq[ka].t,Bb x.vq[ka].f,U sska x.vq[ka].s.length gcka]:=⟨_,rfl⟩;have PU:=bO A8 0 _ ew9;simp only[bD] at ew9;rw[<-ew9];clear ew9;have A9:=PU.cells;have o1:=HORD.out;have P9:=PU.keep P8;have X9:=PU.keep X8;have I9:=PU.keep I8;have Y9:=PU.keep Y8;have O9:=PU.keep O8;have E9:=PU.keep E8;have B9:=PU.low aa B8;have HB9:=ag (PU.low aa HB8.out);clear A8 E8 P8 X8 I8 Y8 O8 B8 HB8 o1 x1 i2 u0 u1 u2 u3 u4 u5 u6 uz q0 q1 PU;have i0:=I9.1 0 _ rfl;go_wp2_with fail;refine(HNB.out w9).mono ?_;rintro e wz ⟨rfl,ew⟩;rw[ew];clear ew wz;have A10:=A9;have E10:=E9;have P10:=P9;have X10:=X9;have I10:=I9;have Y10:=Y9;have O10:=O9;have B10:=B9;have HB10:=HB9;clear A9 E9 P9 X9 I9 Y9 O9 B9 HB9;generalize w9=w10 at *;go_wp2_with fail;refine(HNO.out w10).mono ?_;rintro e w11 ⟨rfl,hb11⟩;clear i0;go_upto_region 12 with fail
 have hb12:=yL;have T12:=wL;have hb1012:=yU;generalize w11.alloc (Cc #[Bb false,Bb true,I .i64 0,I .i64 0,Bb false,Bb false,U nO 0 0] 91)=wp at *;have SP:Hid (SPre T V F s c cap (m:Int) i x vs vc fs fc w wp (w.heap.size+1+1) w3.heap.size w4.heap.size w7.heap.size (w7.heap.size+1) w11.heap.size w3 v gs gc L x.vq[ka] sska gcka noneG nO 0):=by
  have o:=HORD.out;have o2:=E10.2.1;have o3:=hb11.size;exact⟨B10.trans (hb1012.mono B10.size),P10.call hb1012,X10.call hb1012,I10.call hb1012,Y10.call hb1012,O10.call hb1012,A10.call hb1012,E10.call hb1012,T12,⟨IkaI,kka1,kka2⟩,⟨.inl rfl,lR _,j6 _⟩,HPG.out,HB10.out.trans (hb1012.mono HB10.out.size),rfl,EX.out,rfl,aa,aa,aa,aa,aa⟩
 clear A10 B10 P10 X10 I10 Y10 O10 E10 T12 HPG HB10 hb11 hb12 hb1012 EX HORD HNO HNA HNB HIN;refine wp_region_lit ?_;refine tL (Bb false) ?_;refine sm ?_;refine wpList_nil ?_;rename_i K9 hK9;refine hK9 _ _ (Eg rfl (HH.out w3 w4 w7 w11 wp v gs gc L ka sska gcka hkax HKAV.out SP _ _ _ _ bu))
theorem AF {T:Nat->Prop}{V F:Int}{s:oA}{c:lI}{cap m:Nat}{i:Ins}{x:Pic}{vs:oA}{vc:Nat}{fs:oA}{fc:Nat}{w:World}(hc:CodeAt w s c)(hx:PicOn T w x vs fs)(K:SCtx V F c x vc fc i (m:Int))(hnA:nA i.k=true)(hnB:nB i.k=true)(H:∀(w3 w4 w7 w11 wp:World) (v:Ro) (gs:oA) (gc:Nat) (L:List Ro) (ka:Nat) (sska:oA) (gcka:Nat) (hkax:ka < x.vq.length) (_:i.a=(ka:Int)) (kb:Nat) (sskb:oA) (gckb:Nat) (hkbx:kb < x.vq.length) (_:i.b=(kb:Int)),Hid (SPre T V F s c cap (m:Int) i x vs vc fs fc w wp (w.heap.size+1+1) w3.heap.size w4.heap.size w7.heap.size (w7.heap.size+1) w11.heap.size w3 v gs gc L x.vq[ka] sska gcka x.vq[kb] sskb gckb)->SwT (λe w'=>bY (λb=>T b\/w.heap.size<=b) w' e (aA i (m:Int) x)/\bl w w') m w w3 w4 w7 w11 wp):
  Calls pG 59 #[pv V F s c cap,I .i64 (m:Int),xv x vs vc fs fc] w λe w'=>bY (λb=>T b\/w.heap.size<=b) w' e (aA i (m:Int) x)/\bl w w':=by
 have HH:=ag H;clear H;have hn:=K.kx.none;have ha1:=K.a1;have hm:=cS;have hcm:c[m]=i:=DQ;have h60:=K.lens.2.1;have HIN:=ag hx.in;have exv:=rt;rw[exv];have HCP:Hid (∀wx,bl w wx->Calls pG 29 #[Ag #[Bb false,U vs x.vq.length vc,U fs x.fq.length fc]] wx λe w'=>(∃v gs gc L,x=aV false v L/\e=Rt (Ag #[Bb false,U v.rs v.l.length v.rc,U gs L.length gc])/\PicG (λb=>wx.heap.size<=b) wx.heap.size w' v gs gc L)/\bl wx w'):=λwx hb=>by
  exact rK
 have hb1:=Aj;have P1:=yt;have X1:Cells ((w.alloc (Cc #[I .i64 V,I .i64 F,U s c.length cap] 24)).alloc (Cc #[Bb false,U vs x.vq.length vc,U fs x.fq.length fc] 28)) (w.heap.size+1) [Bb false,U vs x.vq.length vc,U fs x.fq.length fc]:=by
  exact sF
 have HZ1:=wR;obtain⟨cb0,co,es,hcb,hci⟩:=wD;obtain⟨j0,j1,j2,j3,j4,j5⟩:=hci m hm;rw[hcm] at j0 j1 j2 j3 j4 j5;have HES:Hid (s=sO ⟨cb0,co,nO⟩):=es;clear es;have n0:=gj;have n1:=rP;have HNA:=FT;have HNB:Hid (∀wx,Calls pG 108 #[I .i64 i.k] wx λe w'=>e=Rt (Bb true)/\w'=wx):=λwx=>Nj;obtain⟨ka,eka,hkax⟩:=K.varA hnA;have HKAV:=dS;obtain⟨kb,ekb,hkbx⟩:=K.varB hnB;have HKBV:=ag ekb;clear eka;clear ekb;have HK:=ag K;have HX:=cC;have HCM:=ag hcm;clear hc hx K hn exv hci hcm;clear hnA hnB;have w61:=c7;go_enter func59,ntmps59;go_upto_region 3 with fail
 generalize ((w.alloc (Cc #[I .i64 V,I .i64 F,U s c.length cap] 24)).alloc (Cc #[Bb false,U vs x.vq.length vc,U fs x.fq.length fc] 28))=w1 at *;have p2:=P1.1 2 _ rfl;rw[HES.out] at p2;go_upto_region 4 with fail
 clear p2 j0 j1 j2 j3 j4 j5;have hb2:=wQ;have I2:=yJ;have HZ2:=Ad;rw[HZ1.out] at I2;rw[HZ1.out];generalize w1.alloc (Cc #[I .i64 i.k,I .i64 i.tgt,I .i64 i.a,I .i64 i.b,I .i64 i.n,I .i64 i.g] 100)=w2 at *;have P2:=P1.call hb2;have X2:=X1.call hb2;have B2:=lE;have x0:=X2.1 0 _ rfl;have x1:=X2.1 1 _ rfl;have x2:=X2.1 2 _ rfl;clear P1 X1 hb1 hb2 HZ1;go_wp2_with fail;refine(HCP.out w2 B2).mono ?_;rintro e w3 ⟨⟨v,gs,gc,L,EX0,rfl,PG⟩,hb3⟩;have EX:=ag EX0;clear EX0 x0 x1 x2 HCP;have HNO:=pX;go_upto_region 5 with fail
 have hb4:=yG;have Y4:=yC;have Z4:=wP;generalize w3.alloc (Cc #[Bb false,U v.rs v.l.length v.rc,U gs L.length gc] 28)=w4 at *;have y0:=Y4.1 0 _ rfl;have y1:=Y4.1 1 _ rfl;have y2:=Y4.1 2 _ rfl;go_upto_region 6 with fail
 clear y0 y1 y2;have hb5:=Ab;have O5:=wW;generalize w4.alloc (Cc #[I .i64 ((m:Int)+1),Bb false,U v.rs v.l.length v.rc,U gs L.length gc] 45)=w5 at *;go_wp2_with fail;refine(HNO.out w5).mono ?_;rintro e w6 ⟨rfl,hb6⟩;go_wp2_with fail;refine(HNO.out w6).mono ?_;rintro e w7 ⟨rfl,hb7⟩;go_upto_region 7 with fail
 have hb8:=wM;have A8:=ye;have E8:Cells ((w7.alloc (Cc #[Bb false,Bb true,I .i64 0,I .i64 0,Bb false,Bb false,U nO 0 0] 91)).alloc (Cc #[Bb false,Bb true,I .i64 0,I .i64 0,Bb false,Bb false,U nO 0 0] 91)) (w7.heap.size+1) [Bb false,Bb true,I .i64 0,I .i64 0,Bb false,Bb false,U nO 0 0]:=by
  exact pt
 generalize (w7.alloc (Cc #[Bb false,Bb true,I .i64 0,I .i64 0,Bb false,Bb false,U nO 0 0] 91)).alloc (Cc #[Bb false,Bb true,I .i64 0,I .i64 0,Bb false,Bb false,U nO 0 0] 91)=w8 at *;have hb48:=wB;have hb28:=yA;have hb38:=Ap;have O8:=yk;have P8:=P2.call hb28;have X8:=X2.call hb28;have I8:=I2.call hb28;have Y8:=Y4.call hb48;have B8:=B2.trans (hb28.mono B2.size);have HORD:Hid (w.heap.size+1+1+1<=w3.heap.size/\w3.heap.size < w4.heap.size/\w4.heap.size < w7.heap.size):=by
  exact pJ
 have HPG:Hid (PicG (λb=>w.heap.size<=b) (w.heap.size+1+1+1) w3 v gs gc L):=by
  exact rH
 have HB8:=ag hb38;clear PG hb3 hb4 hb5 hb6 hb7 hb8 hb48 hb28 hb38 P2 X2 I2 Y4 O5 B2 Z4 HZ2;have i0:=I8.1 0 _ rfl;go_wp2_with fail;refine(HNA.out w8).mono ?_;rintro e wz ⟨rfl,ew⟩;rw[ew];clear ew wz i0;have x1:=X8.1 1 _ rfl;have i2:=I8.1 2 _ rfl;rw[HKAV.out] at i2;obtain⟨bka,oka,eka,Ska,sska,gcka,Gka,IkaI,kka1,kka2⟩:=HIN.out.1 ka hkax;rw[eka] at x1;clear eka;obtain⟨⟨u0,u1,u2,u3,u4,u5,u6⟩,uz⟩:=Gka.below B8 (lR _);have r0:=A8.1 0 _ rfl;have fr0:=A8.2.2 0;have r1:=A8.1 1 _ rfl;have fr1:=A8.2.2 1;have r2:=A8.1 2 _ rfl;have fr2:=A8.2.2 2;have r3:=A8.1 3 _ rfl;have fr3:=A8.2.2 3;have r4:=A8.1 4 _ rfl;have fr4:=A8.2.2 4;have r5:=A8.1 5 _ rfl;have fr5:=A8.2.2 5;have r6:=A8.1 6 _ rfl;have fr6:=A8.2.2 6;have q0:=kf;have q1:=yW;go_upto_region 9 with fail
 clear r0 fr0 r1 fr1 r2 fr2 r3 fr3 r4 fr4 r5 fr5 r6 fr6;obtain⟨w9,ew9⟩:∃q,q=bD w8 (w7.heap.size) 0 [Bb x.vq[ka].n,Bb x.vq[ka].sp.n,I .i64 x.vq[ka].sp.lo,I .i64 x.vq[ka].sp.hi,Bb x.vq[ka].t,Bb x.vq[ka].f,U sska x.vq[ka].s.length gcka]:=⟨_,rfl⟩;have PU:=bO A8 0 _ ew9;simp only[bD] at ew9;rw[<-ew9];clear ew9;have A9:=PU.cells;have o1:=HORD.out;have P9:=PU.keep P8;have X9:=PU.keep X8;have I9:=PU.keep I8;have Y9:=PU.keep Y8;have O9:=PU.keep O8;have E9:=PU.keep E8;have B9:=PU.low aa B8;have HB9:=ag (PU.low aa HB8.out);clear A8 E8 P8 X8 I8 Y8 O8 B8 HB8 o1 x1 i2 u0 u1 u2 u3 u4 u5 u6 uz q0 q1 PU;have i0:=I9.1 0 _ rfl;go_wp2_with fail;refine(HNB.out w9).mono ?_;rintro e wz ⟨rfl,ew⟩;rw[ew];clear ew wz;have x1:=X9.1 1 _ rfl;have i3:=I9.1 3 _ rfl;rw[HKBV.out] at i3;obtain⟨bkb,okb,ekb,Skb,sskb,gckb,Gkb,IkbI,kkb1,kkb2⟩:=HIN.out.1 kb hkbx;rw[ekb] at x1;clear ekb;obtain⟨⟨u0,u1,u2,u3,u4,u5,u6⟩,uz⟩:=Gkb.below B9 (lR _);have r0:=E9.1 0 _ rfl;have fr0:=E9.2.2 0;have r1:=E9.1 1 _ rfl;have fr1:=E9.2.2 1;have r2:=E9.1 2 _ rfl;have fr2:=E9.2.2 2;have r3:=E9.1 3 _ rfl;have fr3:=E9.2.2 3;have r4:=E9.1 4 _ rfl;have fr4:=E9.2.2 4;have r5:=E9.1 5 _ rfl;have fr5:=E9.2.2 5;have r6:=E9.1 6 _ rfl;have fr6:=E9.2.2 6;have q0:(0:Int)<=(kb:Int):=aa;have q1:=Al;go_upto_region 11 with fail
 clear r0 fr0 r1 fr1 r2 fr2 r3 fr3 r4 fr4 r5 fr5 r6 fr6;obtain⟨w10,ew10⟩:∃q,q=bD w9 ((w7.heap.size+1)) 0 [Bb x.vq[kb].n,Bb x.vq[kb].sp.n,I .i64 x.vq[kb].sp.lo,I .i64 x.vq[kb].sp.hi,Bb x.vq[kb].t,Bb x.vq[kb].f,U sskb x.vq[kb].s.length gckb]:=⟨_,rfl⟩;have PU:=bO E9 0 _ ew10;simp only[bD] at ew10;rw[<-ew10];clear ew10;have E10:=PU.cells;have o1:=HORD.out;have P10:=PU.keep P9;have X10:=PU.keep X9;have I10:=PU.keep I9;have Y10:=PU.keep Y9;have O10:=PU.keep O9;have A10:=PU.keep A9;have B10:=PU.low aa B9;have HB10:=ag (PU.low aa HB9.out);clear A9 E9 P9 X9 I9 Y9 O9 B9 HB9 o1 x1 i3 u0 u1 u2 u3 u4 u5 u6 uz q0 q1 PU;go_wp2_with fail;refine(HNO.out w10).mono ?_;rintro e w11 ⟨rfl,hb11⟩;clear i0;go_upto_region 12 with fail
 have hb12:=yL;have T12:=wL;have hb1012:=yU;generalize w11.alloc (Cc #[Bb false,Bb true,I .i64 0,I .i64 0,Bb false,Bb false,U nO 0 0] 91)=wp at *;have SP:Hid (SPre T V F s c cap (m:Int) i x vs vc fs fc w wp (w.heap.size+1+1) w3.heap.size w4.heap.size w7.heap.size (w7.heap.size+1) w11.heap.size w3 v gs gc L x.vq[ka] sska gcka x.vq[kb] sskb gckb):=by
  have o:=HORD.out;have o2:=E10.2.1;have o3:=hb11.size;exact⟨B10.trans (hb1012.mono B10.size),P10.call hb1012,X10.call hb1012,I10.call hb1012,Y10.call hb1012,O10.call hb1012,A10.call hb1012,E10.call hb1012,T12,⟨IkaI,kka1,kka2⟩,⟨IkbI,kkb1,kkb2⟩,HPG.out,HB10.out.trans (hb1012.mono HB10.out.size),rfl,EX.out,rfl,aa,aa,aa,aa,aa⟩
 clear A10 B10 P10 X10 I10 Y10 O10 E10 T12 HPG HB10 hb11 hb12 hb1012 EX HORD HNO HNA HNB HIN;refine wp_region_lit ?_;refine tL (Bb false) ?_;refine sm ?_;refine wpList_nil ?_;rename_i K9 hK9;refine hK9 _ _ (Eg rfl (HH.out w3 w4 w7 w11 wp v gs gc L ka sska gcka hkax HKAV.out kb sskb gckb hkbx HKBV.out SP _ _ _ _ bu))
theorem Oj (a b:List Gs)(k:Nat)(h:k < a.length)(h':k < b.length):gp (a.drop k) (b.drop k)=(dp a[k] b[k]&&gp (a.drop (k+1)) (b.drop (k+1))):=by
 unfold gp;rw[x4 h,x4 h'];rfl
def Ws (a b:List (List Gs)):Bool:=(q3 gp a b).all id
theorem tf (w:World):Calls pG 77 #[] w λe w'=>e=Rt (Ag #[Bb false,Bb true,I .i64 0,I .i64 0,Bb false,Bb false,U nO 0 0])/\bl w w':=by
 go_enter func77,ntmps77;go_wp2;refine bodyPost_ret (v:=Ag #[Bb false,Bb true,I .i64 0,I .i64 0,Bb false,Bb false,U nO 0 0]) (by simp[results,results77,go_sem]) rfl ⟨rfl,am⟩
theorem Oq (a b:List Int)(ss:oA)(gc:Nat)(st:oA)(hc:Nat)(w:World)(ha:a.length<=maxLen)(hb:b.length<=maxLen)(h1:IntsAt w ss a)(h2:IntsAt w st b):
  Calls pG 216 #[U ss a.length gc,U st b.length hc] w λe w'=>e=Rt (Bb (decide (a=b)))/\bl w w':=by
 have hm:maxLen<=9223372036854775807:=ai;rcases h1 with rfl|⟨b1,o1,rfl,hb1,hc1⟩
 ·refine(Tryz.slices_Equal_int_empty ss st gc b.length hc w aa).mono ?_
  rintro e w' ⟨rfl,rfl⟩;refine⟨bF ?_,bR _ _⟩;cases b<;>simp
 ·rcases h2 with rfl|⟨b2,o2,rfl,hb2,hc2⟩
  ·by_cases h0:a.length=0
   ·have e0:a=[]:=List.eq_nil_of_length_eq_zero h0
    subst e0;refine(Tryz.slices_Equal_int_empty (sO ⟨b1,o1,nO⟩) st gc 0 hc w aa).mono ?_;rintro e w' ⟨rfl,rfl⟩;exact nD
   ·have e1:decide (a=[])=false:=by
     have:a≠[]:=λe=>h0 (by rw[e];rfl);simpa using this
    rw[e1];have e2:((a.length:Int)!=0)=true:=by simp;exact λe=>h0 (by rw[e];rfl)
    clear e1 h0 hc1 hb1;go_enter func216,ntmps216;go_wp2;go_ret;exact nD
  ·refine(Tryz.slices_Equal_int b1 o1 a.length gc b2 o2 b.length hc a b w (lR _) (lR _) aa aa (λj hj=>by rw[hc1 j hj];simp[q8,hj]) (λj hj=>by rw[hc2 j hj];simp[q8,hj])).mono ?_
   rintro e w' ⟨rfl,q,rfl⟩;refine⟨bF ?_,below_drewN (bR _ _) q⟩;rw[x5,x5];by_cases h:a=b
   ·simp[h]
   ·simp[h]
theorem iF {p:Prop}(h:p:=by
 go_enter func178,ntmps178;go_wp2;go_ret;exact⟨bF HQ.out.symm,am⟩):p:=h
theorem rG (g:Gs)(ss:oA)(gc:Nat)(h:Gs)(st:oA)(hc:Nat)(w:World)(hs:IntsAt w ss g.s)(ht:IntsAt w st h.s)(h1:g.s.length<=maxLen)(h2:h.s.length<=maxLen):
  Calls pG 178 #[gv g ss gc,gv h st hc] w λe w'=>e=Rt (Bb (dP g h))/\bl w w':=by
 have B0:=sy;have HE:=ag (Oq g.s h.s ss gc st hc ((w.alloc (Cc #[Bb g.n,Bb g.sp.n,I .i64 g.sp.lo,I .i64 g.sp.hi,Bb g.t,Bb g.f,U ss g.s.length gc] 91)).alloc (Cc #[Bb h.n,Bb h.sp.n,I .i64 h.sp.lo,I .i64 h.sp.hi,Bb h.t,Bb h.f,U st h.s.length hc] 91)) h1 h2 (hs.below B0 (lR _)) (ht.below B0 (lR _)));have HR:Hid (dP g h=(g.n==h.n&&(@decide _ (g.sp.dq h.sp)&&(g.t==h.t&&(g.f==h.f&&decide (g.s=h.s)))))):=rfl;generalize dP g h=r at HR |-;generalize decide (g.s=h.s)=q at HR HE;clear hs ht;by_cases e1:g.n=h.n
 ·by_cases e2:g.sp=h.sp
  ·by_cases e3:g.t=h.t
   ·by_cases e4:g.f=h.f
    ·have HQ:Hid (r=q):=by show _=_;rw[HR.out,e1,e2,e3,e4];simp
     clear HR;obtain⟨n,sp,t,f,sl⟩:=g;obtain⟨n',sp',t',f',sl'⟩:=h;simp only at e1 e2 e3 e4 HE h1 h2;subst e1 e2 e3 e4;go_enter func178,ntmps178;go_wp2_with fail;refine HE.out.mono ?_;rintro e w1 ⟨rfl,hb1⟩;go_wp2;go_ret;exact⟨bF HQ.out.symm,Below.trans am (hb1.mono ap)⟩
    ·have HQ:Hid (r=false):=by show _=_;rw[HR.out,e1,e2,e3];simp[e4]
     have d4:(g.f==h.f)=false:=by simpa using e4
     clear HR HE e4;obtain⟨n,sp,t,f,sl⟩:=g;obtain⟨n',sp',t',f',sl'⟩:=h;simp only at e1 e2 e3 d4 h1 h2;subst e1 e2 e3;exact iF
   ·have HQ:Hid (r=false):=by show _=_;rw[HR.out,e1,e2];simp[e3]
    have d3:(g.t==h.t)=false:=by simpa using e3
    clear HR HE e3;obtain⟨n,sp,t,f,sl⟩:=g;obtain⟨n',sp',t',f',sl'⟩:=h;simp only at e1 e2 d3 h1 h2;subst e1 e2;exact iF
  ·have HQ:Hid (r=false):=by show _=_;rw[HR.out,e1];simp[e2]
   clear HR HE;obtain⟨n,⟨sn,lo,hi⟩,t,f,sl⟩:=g;obtain⟨n',⟨sn',lo',hi'⟩,t',f',sl'⟩:=h;simp only at e1 e2 h1 h2;subst e1;by_cases a1:sn=sn'
   ·subst a1
    by_cases a2:lo=lo'
    ·subst a2
     have a3:¬hi=hi':=λe=>e2 (by rw[e]);clear e2;exact iF
    ·clear e2
     exact iF
   ·clear e2
    exact iF
 ·have HQ:Hid (r=false):=by show _=_;rw[HR.out];simp[e1]
  have d1:(g.n==h.n)=false:=by simpa using e1
  clear HR HE e1;obtain⟨n,sp,t,f,sl⟩:=g;obtain⟨n',sp',t',f',sl'⟩:=h;simp only at d1 h1 h2;exact iF

theorem nT (g:Gs)(ss:oA)(gc:Nat)(w:World)(hs:IntsAt w ss g.s)(h1:g.s.length<=maxLen):
  Calls pG 139 #[gv g ss gc] w λe w'=>e=Rt (Bb (cY g))/\bl w w':=by
 have B0:Below w.heap.size w (w.alloc (Cc #[Bb g.n,Bb g.sp.n,I .i64 g.sp.lo,I .i64 g.sp.hi,Bb g.t,Bb g.f,U ss g.s.length gc] 91)):=am;have G0:=GuAt.new w g ss gc;have I0:=hs.below B0 (lR _);have HN:=ag tf;have HI:Hid (∀wx,IntsAt wx ss g.s->Calls pG 178 #[gv g ss gc,Ag #[Bb false,Bb true,I .i64 0,I .i64 0,Bb false,Bb false,U nO 0 0]] wx λe w'=>e=Rt (Bb (dP g noneG))/\bl wx w'):=λwx hx=>rG g ss gc noneG nO 0 wx hx (.inl rfl) h1 (j6 _);have HR:Hid (cY g= !dP g noneG):=rfl;generalize cY g=r at HR |-;generalize dP g noneG=q at HR HI;clear hs;go_enter func139,ntmps139;go_upto_region 1 with fail
 generalize w.alloc (Cc #[Bb g.n,Bb g.sp.n,I .i64 g.sp.lo,I .i64 g.sp.hi,Bb g.t,Bb g.f,U ss g.s.length gc] 91)=w1 at *;have HKZ:Hid (∀wx,bl w1 wx->(wx.cell? ⟨w.heap.size,0,nO⟩=sO (Bb g.n)/\wx.cell? ⟨w.heap.size,0+1,nO⟩=sO (Bb g.sp.n)/\wx.cell? ⟨w.heap.size,0+2,nO⟩=sO (I .i64 g.sp.lo)/\wx.cell? ⟨w.heap.size,0+3,nO⟩=sO (I .i64 g.sp.hi)/\wx.cell? ⟨w.heap.size,0+4,nO⟩=sO (Bb g.t)/\wx.cell? ⟨w.heap.size,0+5,nO⟩=sO (Bb g.f)/\wx.cell? ⟨w.heap.size,0+6,nO⟩=sO (U ss g.s.length gc))):=λwx hx=>(G0.call hx).1;have HD:=go;refine aG (S:=(λwx=>(wx.cell? ⟨w.heap.size,0,nO⟩=sO (Bb g.n)/\wx.cell? ⟨w.heap.size,0+1,nO⟩=sO (Bb g.sp.n)/\wx.cell? ⟨w.heap.size,0+2,nO⟩=sO (I .i64 g.sp.lo)/\wx.cell? ⟨w.heap.size,0+3,nO⟩=sO (I .i64 g.sp.hi)/\wx.cell? ⟨w.heap.size,0+4,nO⟩=sO (Bb g.t)/\wx.cell? ⟨w.heap.size,0+5,nO⟩=sO (Bb g.f)/\wx.cell? ⟨w.heap.size,0+6,nO⟩=sO (U ss g.s.length gc)))) [] ae (HKZ.out _ HD) (λhHeld=> ?_);refine vZ 0 ?_ ?_;refine aB (i:=1) rfl ae (λK hK=> ?_);go_simp;go_at_call 77;refine(HN.out _).mono ?_;rintro e w2 ⟨rfl,hb2⟩;have HB2:bl w1 w2:=HD.trans (hb2.mono HD.size);go_wp2_with fail;refine hK.out _ _ (HKZ.out _ HB2) (λhHeld=> ?_);clear hK K;refine sm ?_;refine aB (i:=2) rfl ae (λK hK=> ?_);go_simp;go_at_call 178;refine(HI.out _ (I0.below HB2 (lR _))).mono ?_;rintro e w3 ⟨rfl,hb3⟩;have HB3:bl w1 w3:=HB2.trans (hb3.mono HB2.size);go_wp2_with fail;refine hK.out _ _ (HKZ.out _ HB3) (λhHeld=> ?_);clear hK K;refine sm ?_;refine vZ 3 ?_ ?_;refine vZ 4 ?_ ?_;refine aC ae ?_ _;go_wp2;go_ret;exact⟨bF HR.out.symm,B0.trans (HB3.mono B0.size)⟩
end
section
open Go.RowKit
def doE (u k:Int):Int:=if u=0 then(if k < 4\/10 < k then 6 else 0) else u

theorem sE {c:lI}{g:Gs}(hn:an g=true)(hk:aE c g=0):g=noneG:=by
 have ho:=ckSp_ok.mp (lF hk);clear hk;obtain⟨n,⟨sn,lo,hi⟩,t,f,s⟩:=g;cases s with
 |cons x r=>simp[an,aP] at hn
 |nil=>
  simp[an,aP] at hn;obtain⟨rfl,rfl,rfl,rfl⟩:=hn;obtain⟨l1,l2⟩:=ho.2.2.1 rfl;simp only at l1 l2;subst l1 l2;rfl
theorem Hp (g h:Gs):cK 4 g h=(g,false):=by simp[cK]
theorem Bc (g h:Gs):cK 10 g h=(⟨false,⟨true,0,0⟩,cQ g,cd g,[]⟩,false):=by simp[cK]
theorem oK {k:Int}{g h:Gs}(hk:k=5\/k=6\/k=7\/k=8\/k=9)(hn:(an g||an h)=true):cK k g h=(noneG,false):=by
 unfold cK;rw[if_neg aa,if_neg aa,if_pos hn]
theorem GB {k:Int}{g h:Gs}(hk:k=5\/k=6\/k=7)(hn:(an g||an h)=false):cK k g h=(⟨false,cu k g.sp h.sp,false,false,[]⟩,aP g||aP h):=by
 unfold cK;rw[if_neg aa,if_neg aa,if_neg (by rw[hn];simp),if_neg aa,if_neg aa]
theorem TA {g h:Gs}(hn:(an g||an h)=false):cK 8 g h=(⟨false,⟨true,0,0⟩,!(g.sp.n||h.sp.n)&&decide (g.sp.lo < h.sp.hi),!(g.sp.n||h.sp.n)&&decide (h.sp.lo<=g.sp.hi),[]⟩,aP g||aP h):=by
 unfold cK;rw[if_neg aa,if_neg aa,if_neg (by rw[hn];simp),if_neg aa,if_pos rfl]
theorem Tc {g h:Gs}(hn:(an g||an h)=false):cK 9 g h=(⟨false,⟨true,0,0⟩,(g.n&&h.n)||(!(aM g.sp h.sp).n||((g.t&&h.t)||((g.f&&h.f)||g.s.any λx=>h.s.contains x))),!cX g h,[]⟩,false):=by
 unfold cK;rw[if_neg aa,if_neg aa,if_neg (by rw[hn];simp),if_pos rfl]
theorem Ev {g:Gs}(h:an g=true):g.sp.n=true:=by
 unfold an at h;cases e:g.sp.n
 ·rw[e] at h;simp at h
 ·rfl
theorem Cv {g h:Gs}(hn:(an g||an h)=true):(g.sp.n||h.sp.n)=true:=by
 cases e:an g
 ·rw[e] at hn
  rw[Ev (g:=h) oT];simp
 ·rw[Ev e];rfl
theorem mL (f:Gs->Bool)(g h:Gs):[g,h].any f=(f g||f h):=ah
theorem VD {k:Int}{g h:Gs}(hk:k=5\/k=6\/k=7):cK k g h=(⟨false,cu k g.sp h.sp,false,false,[]⟩,[g,h].any aP&& ![g,h].any an):=by
 rw[mL,mL];cases hn:(an g||an h)
 ·rw[GB hk hn];simp
 ·rw[oK aa hn]
  have e:cu k g.sp h.sp=⟨true,0,0⟩:=by unfold cu;rw[if_pos (Cv hn)]
  rw[e];simp[noneG]
theorem WV {g h:Gs}:cK 8 g h=(⟨false,⟨true,0,0⟩,!(g.sp.n||h.sp.n)&&decide (g.sp.lo < h.sp.hi),!(g.sp.n||h.sp.n)&&decide (h.sp.lo<=g.sp.hi),[]⟩,[g,h].any aP&& ![g,h].any an):=by
 rw[mL,mL];cases hn:(an g||an h)
 ·rw[TA hn];simp
 ·rw[oK aa hn,Cv hn];simp[noneG]
theorem no_none:cQ noneG=false/\cd noneG=false:=ai

theorem sr {p:Prop}(h:p:=by
 rintro e w' ⟨rfl,hb⟩;exact⟨_,none,0,_,rfl,by rw[if_pos rfl,VD (by omega)],.inl rfl,Nat.zero_le _,Nat.zero_le _,(λa ha=>iJ),λhn=>absurd rfl hn,hb⟩):p:=h
theorem doU (V F:Int)(s:oA)(c:lI)(cap:Nat)(g:Gs)(ss:oA)(gc:Nat)(h:Gs)(st:oA)(hc:Nat)(k:Int)(w:World)(hcd:CodeAt w s c)(hs:IntsAt w ss g.s)(h1:g.s.length<=gc)(h2:gc<=maxLen)(ht:IntsAt w st h.s)(h3:h.s.length<=hc)(h4:hc<=maxLen):
  Calls pG 164 #[pv V F s c cap,I .i64 k,gv g ss gc,gv h st hc] w λe w'=>∃J js jc wr,e=Rt (Tu #[gv J js jc,Bb wr,I .i64 (doE (ba V F c [g,h]) k)])/\(J,wr)=(if doE (ba V F c [g,h]) k=0 then cK k g h else(bG,false))/\IntsAt w' js J.s/\J.s.length<=jc/\jc<=maxLen/\(∀a,js=sO a->w.heap.size<=a.block)/\(doE (ba V F c [g,h]) k≠0->js=nO/\jc=0)/\bl w w':=by
 by_cases hck:ba V F c [g,h]=0
 ·obtain⟨-,hg,hh⟩:=pN hck
  have ok1:=ckSp_ok.mp (lF hg);have ok2:=ckSp_ok.mp (lF hh);by_cases hk:k < 4\/10 < k
  ·have he:doE (ba V F c [g,h]) k=6:=by unfold doE;rw[if_pos hck,if_pos hk]
   rw[he];have hb0:∀j:Int,4<=j->j<=10->(k==j)=false:=λj a b=>ap;refine(TG V F s c cap g ss gc h st hc k w hcd hs h1 h2 ht h3 h4 hck (hb0 4 aa aa) (hb0 5 aa aa) (hb0 6 aa aa) (hb0 7 aa aa) (hb0 8 aa aa) (hb0 9 aa aa) (hb0 10 aa aa)).mono ?_;rintro e w' ⟨rfl,hb⟩;exact⟨bG,nO,0,false,rfl,by rw[if_neg (by omega)],.inl rfl,j6 _,j6 _,(λa ha=>iJ),λ_=>⟨rfl,rfl⟩,hb⟩
  ·have he:doE (ba V F c [g,h]) k=0:=by unfold doE;rw[if_pos hck,if_neg hk]
   rw[he];have h7:=Iq;rcases h7 with rfl|rfl|rfl|rfl|rfl|rfl|rfl
   ·have hl:=(ig hck).1
    have l1:=da hl.2 hl.1;refine(WQ V F s c cap g ss gc h st hc w hcd hs h1 h2 ht h3 h4 hck aa).mono ?_;rintro e w' ⟨v,rfl,hown,hb⟩;obtain⟨js,jc,rfl,hi,hjl,hm,hfa⟩:=ip;exact⟨g,js,jc,false,rfl,by rw[if_pos rfl,Hp],hi,hjl,hm,hfa,λhn=>absurd rfl hn,hb⟩
   ·refine(WG V F s c cap g ss gc h st hc w hcd hs h1 h2 ht h3 h4 hck).mono ?_
    exact sr
   ·refine(WF V F s c cap g ss gc h st hc w hcd hs h1 h2 ht h3 h4 hck).mono ?_
    exact sr
   ·refine(WS V F s c cap g ss gc h st hc w hcd hs h1 h2 ht h3 h4 hck).mono ?_
    exact sr
   ·refine(WO V F s c cap g ss gc h st hc w hcd hs h1 h2 ht h3 h4 hck).mono ?_
    rintro e w' ⟨rfl,hb⟩;exact⟨_,nO,0,_,rfl,by rw[if_pos rfl,WV],.inl rfl,j6 _,j6 _,(λa ha=>iJ),λhn=>absurd rfl hn,hb⟩
   ·have mx:maxLen<=9223372036854775807:=by decide
    cases hn:(an g||an h)
    ·refine(Uy V F s c cap g ss gc h st hc w hcd hs h1 h2 ht h3 h4 hck _ _ (λwx hbx=>Sd g ss gc h st hc wx (hs.below hbx (lR _)) aa (ht.below hbx (lR _)) aa (ckSps_ok.mpr ⟨ok1,ok2⟩) (by rw[mL];exact hn))).mono ?_
     rintro e w' ⟨rfl,hb⟩;exact⟨_,nO,0,_,rfl,by rw[if_pos rfl,Tc hn],.inl rfl,j6 _,j6 _,(λa ha=>iJ),λhn=>absurd rfl hn,hb⟩
    ·refine(Uy V F s c cap g ss gc h st hc w hcd hs h1 h2 ht h3 h4 hck _ _ (λwx hbx=>RS g ss gc h st hc wx (by rw[mL];exact hn))).mono ?_
     rintro e w' ⟨rfl,hb⟩;exact⟨_,nO,0,_,rfl,by rw[if_pos rfl,oK (by omega) hn];rfl,.inl rfl,j6 _,j6 _,(λa ha=>iJ),λhn=>absurd rfl hn,hb⟩
   ·refine(Wj V F s c cap g ss gc h st hc w hcd hs h1 h2 ht h3 h4 hck (lF hg)).mono ?_
    rintro e w' ⟨rfl,hb⟩;exact⟨_,nO,0,_,rfl,by rw[if_pos rfl,Bc],.inl rfl,j6 _,j6 _,(λa ha=>iJ),λhn=>absurd rfl hn,hb⟩
 ·have he:doE (ba V F c [g,h]) k=ba V F c [g,h]:=by unfold doE;rw[if_neg hck]
  rw[he];refine(Vl V F s c cap g ss gc h st hc k w hcd hs h1 h2 ht h3 h4 hck).mono ?_;rintro e w' ⟨rfl,hb⟩;exact⟨bG,nO,0,false,rfl,by rw[if_neg hck],.inl rfl,j6 _,j6 _,(λa ha=>iJ),λ_=>⟨rfl,rfl⟩,hb⟩
end
section
open Go.RowKit
attribute [local go_sem ↓] Go.wp_at_zero Go.wp_at_succ
theorem Tryz.info_alarm:(Tryz.prog.info? 62).map (λi=>(i.zero,i.size,i.bytes))=sO (sO (Ag #[I .i64 0,I .i64 0]),2,16):=ae
def alC (A:List (Int×Int)):List Value:=A.flatMap λa=>[I .i64 a.1,I .i64 a.2]
theorem GJ (A:List (Int×Int))(a:Int×Int):alC A++[I .i64 a.1,I .i64 a.2]=alC (A++[a]):=by
 unfold alC;rw[List.flatMap_append];simp
def AlmAt (W:World)(ab tb:Nat)(A:List (Int×Int)):Prop:=∃v,Cells W ab [v]/\W.ownsRow (ab+1) 62 2 v A.length (alC A)/\v.ownBlock≠sO tb
theorem AlmAt.call {W W':World}{ab tb:Nat}{A:List (Int×Int)}(h:AlmAt W ab tb A)(hb:bl W W'):AlmAt W' ab tb A:=by
 obtain⟨v,h1,h2,h3⟩:=h;exact⟨v,h1.call hb,bB h2 (λk hk=>hb.block k (h2.lt k hk).2),h3⟩
theorem AlmAt.new {W:World}{ab tb:Nat}{A:List (Int×Int)}(h:AlmAt W ab tb A):AlmAt W ab W.heap.size A:=by
 obtain⟨v,h1,h2,h3⟩:=h;exact⟨v,h1,h2,λe=>by have:=(h2.lt _ e).2;omega⟩
def bX (A:List (Int×Int))(k:Int)(kind:Int)(b:Bool):List (Int×Int):=if b then A++[(k,kind)] else A
def lj (c:lI)(L:List Pic)(A:List (Int×Int))(k:Nat):List (Int×Int):=bX (bX (bX A k 1 (aA (bL c k) k (bm L k)).2.1) k 2 (aA (bL c k) k (bm L k)).2.2) k 3 (bm L k).none
def aN (c:lI)(L:List Pic)(k:Nat):List (Int×Int):=(q6 k).foldl (lj c L) []
theorem gP {c:lI}{L:List Pic}{k:Nat}:aN c L (k+1)=lj c L (aN c L k) k:=by unfold aN;rw[z6,q9];rfl
theorem iy {A:List (Int×Int)}{k kind:Int}{b:Bool}:(bX A k kind b).length<=A.length+1:=by unfold bX;split<;>simp
theorem hU {c:lI}{L:List Pic}:∀{k:Nat},(aN c L k).length<=3 * k
 |0=>lR _
 |k+1=>by
  rw[gP];have h:=hU (c:=c) (L:=L) (k:=k);unfold lj;have a1:=iy (A:=aN c L k) (k:=k) (kind:=1) (b:=(aA (bL c k) k (bm L k)).2.1);have a2:=iy (A:=bX (aN c L k) k 1 (aA (bL c k) k (bm L k)).2.1) (k:=k) (kind:=2) (b:=(aA (bL c k) k (bm L k)).2.2);have a3:=iy (A:=bX (bX (aN c L k) k 1 (aA (bL c k) k (bm L k)).2.1) k 2 (aA (bL c k) k (bm L k)).2.2) (k:=k) (kind:=3) (b:=(bm L k).none);omega
theorem tY (kind k:Int)(b:Bool)(ab tb:Nat)(A:List (Int×Int))(w:World)(hA:AlmAt w ab tb A)(hne:ab≠tb)(hT:Cells w tb [I .i64 k])(hl:A.length<=1000):
  Calls pG 54 #[I .i64 kind,Bb b,Pp (sO ⟨ab,0,nO⟩),Pp (sO ⟨tb,0,nO⟩)] w λe w'=>(∃v,e=Rt v)/\AlmAt w' ab tb (bX A k kind b)/\Below ab w w'/\Cells w' tb [I .i64 k]:=by
 obtain⟨ti,hi,hz0,hz1,hz2⟩:=info_parts Tryz.info_alarm;obtain⟨v,hV,hO,hvt⟩:=id hA;have hab:=hV.2.1;cases b with
 |false=>
  have HA:=ag hA;clear hA hV hO;go_enter func54,ntmps54;go_wp2;go_end0;exact⟨⟨_,rfl⟩,HA.out,bR _ _,hT⟩
 |true=>
  have S4:=hO.kept (World.grownBy_alloc w (Cc #[I .i64 k,I .i64 kind] 62) nO) (by cases e:v.ownBlock with|none=>exact .inl rfl|some q=>exact .inr ah);have v0:=hV.1 0 _ rfl;have t0:=hT.1 0 _ rfl;have HT:=ag hT;have HV:=ag hV;have HO:=ag hO;have HVT:=ag hvt;clear hvt;have hform:∃a m cp,v=U a m cp:=by
   rcases hO.2 with⟨h,_⟩|⟨g,cp,_,h,_⟩
   ·exact⟨_,_,_,h⟩
   ·exact⟨_,_,_,h⟩
  obtain⟨va,vm,vcp,ev⟩:=hform;subst ev;clear hA hV hO hT;go_enter func54,ntmps54;go_wp2_with (at_builtin;refine bh _ rfl _ _ 55 rfl (ab+1) 62 ti (Ag #[I .i64 0,I .i64 0]) 2 16 underlying55 hi hz0 hz1 hz2 rfl ai _ _ _ rfl S4 (sO ⟨w.heap.size,0,nO⟩) 1 1 [I .i64 k,I .i64 kind] rfl rfl (λh=>aT) ?qa2 ?qa3 ?qa4 ?qa5 ?qa6 ?_)
  case qa2=>exact iY w 62 [I .i64 k,I .i64 kind]
  case qa3=>intro u hu;simp at hu;rcases hu with rfl|rfl<;>rfl
  case qa4=>unfold maxLen;omega
  case qa5=>omega
  case qa6=>rw[zA];omega
  intro v' w4 hown hgrow hat;have hz:(w.alloc (Cc #[I .i64 k,I .i64 kind] 62)).heap.size=w.heap.size+1:=zA _ _;have hz4:=hgrow.size;have hnv:(j8 va vm vcp).ownBlock≠sO ab:=λh=>by have:=(HO.out.lt ab h).1;omega
  have hV4:Cells w4 ab [U va vm vcp]:=HV.out.same ((hgrow.block ab aa (λe=>hnv e.symm)).trans (Below.heap_alloc _ _ _ hab)) aa;have hB4:Below ab w w4:=((bR ab w).alloc aa _).grown hgrow aa (λq hq=>by have:=(HO.out.lt q hq).1;omega)
  have hfm':∃a m cp,v'=U a m cp:=by
   rcases hown.2 with⟨h,_⟩|⟨g,cp,_,h,_⟩
   ·exact⟨_,_,_,h⟩
   ·exact⟨_,_,_,h⟩
  obtain⟨ua,um,ucp,eu⟩:=hfm';subst eu;have HOW:=ag hown;have HAT:=ag hat;have HGR:=ag hgrow;clear hown hat S4 v0 t0 hgrow;have v0:=hV4.1 0 _ rfl;have vf:=hV4.2.2 0;go_wp2;obtain⟨wq,ewq⟩:∃q,q=bD w4 ab 0 [U ua um ucp]:=⟨_,rfl⟩;have PQ:=bO hV4 0 _ ewq;simp only[bD] at ewq;rw[<-ewq];first|go_end0|refine bodyPost_ret (results_none rfl _ _ _) rfl ?_
  have hlt:=λq (hq:(j8 ua um ucp).ownBlock=sO q)=>HOW.out.lt q hq;have htz:=HT.out.2.1;refine⟨⟨_,rfl⟩,⟨_,PQ.cells,?_,λe=> ?_⟩,PQ.low (lR _) hB4,?_⟩
  ·show wq.ownsRow _ _ _ _ (A++[(k,kind)]).length (alC (A++[(k,kind)]))
   rw[<-GJ,z5];exact bB HOW.out λq hq=>PQ.far q (by have:=(hlt q hq).1;omega)
  ·rcases HAT.out with h|h
   ·exact HVT.out (h.symm.trans e)
   ·rw[h] at e;cases e;omega
  ·exact(HT.out.same ((HGR.out.block tb aa (λe=>HVT.out e.symm)).trans (Below.heap_alloc _ _ _ htz)) aa).same (PQ.far tb (Ne.symm hne)) PQ.size
end
end Go.Proofs.YtmapdpcfanecdabGreatDoor
