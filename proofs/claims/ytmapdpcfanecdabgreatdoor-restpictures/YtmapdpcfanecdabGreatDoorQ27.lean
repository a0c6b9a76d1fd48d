import Derived.Test.YtmapdpcfanecdabGreatDoorQ26
import Derived.Deep.CutBlock
import Derived.Shelf.Abstract
open List renaming length→X,append_nil→J6,cons_append→q8,ext_getElem→Q2,ext_getElem?→J8,getElem?_modify→Q0,getElem?_set→J9,getElem_map→x9,getElem_mem→gM,getElem_set_self→J5,getElem_zipWith→Q3,length_map→J3,length_replicate→Q1,length_set→x8,length_take→x5,length_zipWith→J4,map→j5,map_append→x6,map_set→j8,nil_append→q7,range→j2,replicate→j6,set_getElem_self→j9,take_of_length_le→z9,take_succ_eq_append_getElem→J7,zipWith→q9,zipWith_cons_cons→J0
open Array renaming size→R
open Go.World renaming heap→M,setCell→z8,size_alloc→zA
open Go.Ending renaming returned→Rt
open Go.IntKind renaming i64→Y
open Go.Obj renaming cells→A
open Go.Proofs.Tryz renaming prog→pG,prog→f
open Go.RowKit.Below renaming heap_setCell→hSe,refl→bR
open Go.Value renaming agg→Ag,int→I,pointer→Pp,slice→U,slice→j3,tuple→Tu,bool→O
open Int renaming eq_ofNat_of_zero_le→x3
open Nat renaming le_of_lt→j7,le_refl→lR,le_trans→lT,lt_irrefl→x7,lt_of_lt_of_le→lL,ne_of_lt→x4,zero_le→j4
open Option renaming some→sO,none→E,some→G
open Go.RowKit renaming Below→n4
open Go renaming Value→mh,World→kl,World→C
open Bool renaming true→W5,false→d
set_option linter.all false
open Go.Proofs.Tryz
set_option maxHeartbeats 16000000
set_option maxRecDepth 100000
namespace Go.Proofs.YtmapdpcfanecdabGreatDoor
variable (a:Array mh)(n b:Nat){K:Act->C->Prop}{B:Nat}(g ta:Int){T S:Nat->Prop}(x':Pic)(EL:List Ed)(vs es:oA)(L:List Ro)(k ec l fn N vc pb sb m:Nat)(eb:Option Nat)(i:Ins)(V F:Int)(fs W s:oA){j:Gs->Gs->Gs}(c:lI)(cap t fc:Nat)(wx w:C){x:Pic}
variable {p:Prop}
section
open Go.RowKit
attribute [local go_sem ↓] Go.wp_at_zero Go.wp_at_succ
def Yd(h:p:=by
 have B0:=ui;have P0:=So;have X0:=Sy;have Y0:=Rp;have Z0:=tA;rw[zA] at X0;rw[zA,zA] at Y0;rw[zA,zA,zA] at Z0;have C0:=iw;have PX:=iN;have PY:=pK;have HC:=Pb;have hbz:=Sz;have e3:=tW;have d1:(aF V F c [x,y]!=0)=true:=cn;have HB:=ag hbz;generalize aF V F c [x,y]=ce at *;rw[e3] at HC;clear h hx hy xC PX PY P0 X0 Y0 C0 hbz;go_enter func71,ntmps71;go_wp2_with fail;refine HC.out.mono ?_;rintro e w1 ⟨rfl,vZ⟩;have xQ:=Sx;have Z1:=Z0.call xQ;have B1:=km;clear HB vZ xQ B0 Z0 HC e3;obtain⟨⟨z0,z1,z2⟩,zz,zf⟩:=id Z1;have f0:=zf 0;have f1:=zf 1;have f2:=zf 2;clear zf;go_wp2;refine bodyPost_ret (v:=Tu #[.agg #[O false,U E 0 0,U E 0 0],I Y ce]) (by simp[results,results71,go_sem,z0,z1,z2]) rfl ⟨rfl,?_⟩;exact((B1.setCell aw _).setCell aw _).setCell aw _):=h
def pV(x:Pic)(xh:oA)(xf:Nat)(xk:oA)(xi:Nat)(y:Pic)(xq:oA)(xm:Nat)(xr:oA)(xo:Nat)(w:C)(xC:a2r w s c)(hx:a4r w x xh xk)(h1:X x.vq<=xf/\xf<=maxLen)(h2:X x.fq<=xi/\xi<=maxLen)(hy:a4r w y xq xr)(h3:X y.vq<=xm/\xm<=maxLen)(h4:X y.fq<=xo/\xo<=maxLen)(h:aF V F c [x,y]≠0):
  Calls f 71 #[pv V F s c cap,xv x xh xf xk xi,xv y xq xm xr xo,.func (.func l) #[] #[]] w λe w'=>e=Rt (Tu #[Ag #[O d,U E 0 0,U E 0 0],I Y (aF V F c [x,y])])/\bl w w':=Yd
end
section
open Go.RowKit Go
attribute [local go_sem ↓] Go.wp_at_zero Go.wp_at_succ
def X3.put0 {w:C}{b:Nat}{x0 a x2:mh}(h:X3 w b x0 a x2)(y:mh):X3 (w.setCell ⟨b,0,E⟩ y) b y a x2:=by
 obtain⟨⟨t,h1,h2⟩,h6,h7⟩:=h;exact⟨⟨World.cell?_setCell_same _ _ _ t,Kf,Uu⟩,pi,λj=>pk⟩
def a9d (B:Nat)(w':World)(e:Ending)(x:Pic)(er:Int):Prop:=∃vs vc fs fc,e=Rt (Tu #[Ag #[O x.none,U vs (X x.vq) vc,U fs (X x.fq) fc],I Y er])/\a7d (λb=>B<=b) w' x vs fs/\(X x.vq<=vc/\vc<=maxLen)/\(X x.fq<=fc/\fc<=maxLen)
def a9w.weak{w':C}{e:Ending}{x:Pic}{er:Int}(h:a9w B w' e x er):a9d B w' e x er:=by
 obtain⟨v,fs,fc,L,o,rfl,W⟩:=h;have H:X x.vq=X v.l:=by rw[o];simp[bh,roG]
 have P:X x.fq=X L:=by rw[o];simp[bh]
 have t:=W.vcap x.none;have y:=W.fcap' x.none;have k:=W.on x.none;rw[<-o] at t y k;exact⟨v.rs,v.rc,fs,fc,by rw[H,P],k.mono λb Z _=>Z.elim id id,t,y⟩
def Ms (V F:Int)(c:lI)(w:World)(x:Pic)(vs:oA)(vc:Nat)(fs:oA)(fc:Nat):Prop:=
 a4r w x vs fs/\(X x.vq<=vc/\vc<=maxLen)/\(X x.fq<=fc/\fc<=maxLen)/\aO V F c x=0
def Sw (x y px py:Pic):Prop:=(x.none=true/\px=y/\py=y)\/(x.none=false/\y.none=true/\px=x/\py=x)\/(x.none=false/\y.none=false/\px=x/\py=y)
def Sw.none{y n z:Pic}(h:Sw x y n z):n.none=z.none:=by
 rcases h with⟨_,rfl,rfl⟩|⟨_,_,rfl,rfl⟩|⟨W,l,rfl,rfl⟩
 .rfl
 .rfl
 .rw[W,l]
def a0Y {V F:Int}{c:lI}{n z:Pic}(h0:aA V F c=0)(o:aO V F c n=0)(r:aO V F c z=0)(u:n.none=z.none):X n.vq=X z.vq/\X n.vq<=1000/\X n.fq=X z.fq/\X n.fq<=60/\(∀g∈n.vq,aH c g=0)/\(∀g∈z.vq,aH c g=0)/\∀k (W:k < X n.fq) (l:k < X z.fq),X n.fq[k]=X z.fq[k]/\X n.fq[k]<=1000/\(∀g∈n.fq[k],aH c g=0)/\∀g∈z.fq[k],aH c g=0:=by
 obtain⟨⟨_,_⟩,⟨_,_⟩,t⟩:=fX;cases hp:n.none with
 |true=>
  have hq:z.none=true:=by rw[<-u,hp]
  have H:bW V F c n=true:=by
   unfold aO at o;split at o
   .cases o
   .rename_i hq;simpa using hq
  have s:bW V F c z=true:=by
   unfold aO at r;split at r
   .cases r
   .rename_i hq;simpa using hq
  unfold bW at H s;simp only[hp,hq,if_true,Bool.and_eq_true,decide_eq_true_eq,List.length_eq_zero_iff] at H s;obtain⟨a,x2⟩:=H;obtain⟨i,e⟩:=s;refine⟨by simp[a,i],by simp[a],by simp[x2,e],by simp[x2],by simp[a],by simp[i],λk W _=>absurd W (by simp[x2])⟩
 |false=>
  have hq:z.none=false:=by rw[<-u,hp]
  obtain⟨q,x,Z,D,K⟩:=iH o hp;obtain⟨N,S,Q,b4,b5⟩:=iH r hq;refine⟨aa,aa,aa,aa,D,b4,λk W l=> ?_⟩;have y:=gM W;have P:=gM l;have:=Z _ y;have:=Q _ P;exact⟨aa,aa,K _ y,b5 _ P⟩
def Ak{l:List Gs}(h:∀g∈l,j g g=g):aX j l l=l:=by
 unfold aX;induction l with
 |nil=>rfl
 |cons a l ih=>rw[J0,h a ae,ih (λg u=>h g (by simp[u]))]
def Lx{l:List (List Gs)}(h:∀r∈l,∀g∈r,j g g=g):q9 (aX j) l l=l:=by
 induction l with
 |nil=>rfl
 |cons a l ih=>rw[J0,Ak (h a ae),ih (λg u=>h g (by simp[u]))]
def a4m {V F:Int}{c:lI}{j:Gs->Gs->Gs}{x y n z:Pic}(t:aA V F c=0)(o:aO V F c n=0)(hs:Sw x y n z)(a:∀g,aH c g=0->j g g=g):aI j x y=⟨n.none,aX j n.vq z.vq,q9 (aX j) n.fq z.fq⟩:=by
 have s:=a0Y t o o rfl;have K:aX j n.vq n.vq=n.vq:=Ak λg u=>a g (s.2.2.2.2.1 g u);have i:q9 (aX j) n.fq n.fq=n.fq:=Lx λr q g u=>by
  obtain⟨k,H,rfl⟩:=List.getElem_of_mem q;exact a g ((s.2.2.2.2.2.2 k H H).2.2.1 g u)
 unfold aI;rcases hs with⟨W,rfl,rfl⟩|⟨W,l,rfl,rfl⟩|⟨W,l,rfl,rfl⟩
 .rw[if_pos W,K,i]
 .rw[if_neg (by rw[W];decide),if_pos l,K,i]
 .rw[if_neg (by rw[W];decide),if_neg (by rw[l];decide),W]

def rI(jn:Gs->Gs->Gs)(W:∀args wx,Sem.run f (callFunc l args) wx=.ok (.enter l args) wx)(V F:Int)(s:oA)(c:lI)(cap:Nat)(x:Pic)(xh:oA)(xf:Nat)(xk:oA)(xi:Nat)(y:Pic)(xq:oA)(xm:Nat)(xr:oA)(xo:Nat)(w:kl)(xC:a2r w s c)(hx:a4r w x xh xk)(h1:X x.vq<=xf/\xf<=maxLen)(h2:X x.fq<=xi/\xi<=maxLen)(hy:a4r w y xq xr)(h3:X y.vq<=xm/\xm<=maxLen)(h4:X y.fq<=xo/\xo<=maxLen)(h:aF V F c [x,y]=0)(c4:aO V F c x=0)(cp:aO V F c y=0)(t:aA V F c=0)(c3:∀g,aH c g=0->jn g g=g)(hJ:∀(g:Gs) (ss:oA) (D:Nat) (h:Gs) (o:oA) (Z:Nat) (wx:kl),a2r wx s c->yv wx ss g.s->X g.s<=D->D<=maxLen->yv wx o h.s->X h.s<=Z->Z<=maxLen->aH c g=0->aH c h=0->Calls f l #[pv V F s c cap,gv g ss D,gv h o Z] wx λe w'=>(∃js jc,e=Rt (Tu #[gv (jn g h) js jc,I Y 0])/\yv w' js (jn g h).s/\X (jn g h).s<=jc/\jc<=maxLen/\∀a,js=G a->R (M wx)<=a.block/\Thw w' a.block)/\bl wx w'):
  Calls f 71 #[pv V F s c cap,xv x xh xf xk xi,xv y xq xm xr xo,.func (.func l) #[] #[]] w λe w'=>a9w (R (M w)) w' e (aI jn x y) 0/\bl w w':=by
 have B0:=ui;have P0:=So;have X0:=Sy;have Y0:=Rp;have Z0:=tA;rw[zA] at X0;rw[zA,zA] at Y0;rw[zA,zA,zA] at Z0;have C0:=iw;have PX:=iN;have PY:=pK;have HC:=Pb;have c6:=Sz;have e3:=tW;have HB:=ag c6;have GX:Ms V F c w x xh xf xk xi:=⟨hx,h1,h2,c4⟩;have GY:Ms V F c w y xq xm xr xo:=⟨hy,h3,h4,cp⟩;rw[h,e3] at HC;have HG:=ag (And.intro GX GY);have co:=ag λ(a:List Gs) (b:List Gs) (ra:oA) (b8:Nat) (rb:oA) (ca:Nat) (wx:kl) (k1:a2r wx s c) (k2:a7r wx ra a) (k3:a7r wx rb b) (k4:X a=X b) (k5:X a<=1000) (k6:(∀g∈a,aH c g=0)) (k7:(∀g∈b,aH c g=0))=>Iu l jn W V F s c cap a b ra b8 rb ca wx k1 k2 k3 k4 k5 t k6 k7 c3 hJ;clear hJ;clear h hx hy PX PY c6 GX GY c4 cp;go_enter func71,ntmps71;go_wp2_with fail;go_call HC.out as e w1 ⟨rfl,vZ⟩;have xQ:=Sx;have Z1:=Z0.call xQ;have X1:=X0.call xQ;have Y1:=Y0.call xQ;have P1:=P0.call xQ;have B1:=km;have z1:R (M w)+1+1+1+1<=R (M w1):=Vm;clear HB vZ xQ B0 Z0 X0 Y0 P0 C0 HC e3;obtain⟨⟨a0,a1,a2⟩,az,af⟩:=id X1;obtain⟨⟨b0,b1,b2⟩,bz,bf⟩:=id Y1;have a3:=af 0;have a4:=af 1;have a5:=af 2;have b3:=bf 0;have b4:=bf 1;have b5:=bf 2;clear af bf;go_upto_block 0 with fail
 go_cut [] (λwy=>∃n al ah bb ao z ad ak bm ax,XAt wy (R (M w)+1) n al ah bb ao/\XAt wy (R (M w)+1+1) z ad ak bm ax/\bl w wy/\a7w wy (R (M w)) V F s c cap/\X3 wy (R (M w)+1+1+1) (O d) (U E 0 0) (U E 0 0)/\R (M w)+1+1+1+1<=R (M wy)/\Ms V F c w n al ah bb ao/\Ms V F c w z ad ak bm ax/\Sw x y n z)
 case first=>
  cases hn:x.none with
  |true=>
   rw[hn] at a0;go_wp2_with fail;go_meet;have bx:X3 w1 (R (M w)+1) _ _ _:=X1;have cb:X3 w1 (R (M w)+1+1) _ _ _:=Y1;exact⟨y,xq,xm,xr,xo,y,xq,xm,xr,xo,((bx.put0 _).put1 _).put2 _,((cb.far aw _).far aw _).far aw _,((B1.setCell aw _).setCell aw _).setCell aw _,((P1.far aw _).far aw _).far aw _,((Z1.far aw _).far aw _).far aw _,by simpa[z8] using z1,HG.out.2,HG.out.2,Or.inl ⟨hn,rfl,rfl⟩⟩
  |false=>
   rw[hn] at a0;cases hm:y.none with
   |true=>
    rw[hm] at b0;go_wp2_with fail;go_meet;have bx:X3 w1 (R (M w)+1) _ _ _:=X1;have cb:X3 w1 (R (M w)+1+1) _ _ _:=Y1;exact⟨x,xh,xf,xk,xi,x,xh,xf,xk,xi,((bx.far aw _).far aw _).far aw _,by unfold XAt;rw[hn];exact((cb.put0 _).put1 _).put2 _,((B1.setCell aw _).setCell aw _).setCell aw _,((P1.far aw _).far aw _).far aw _,((Z1.far aw _).far aw _).far aw _,by simpa[z8] using z1,HG.out.1,HG.out.1,Or.inr (Or.inl ⟨hn,hm,rfl,rfl⟩)⟩
   |false=>
    rw[hm] at b0;go_wp2_with fail;go_meet;exact⟨x,xh,xf,xk,xi,y,xq,xm,xr,xo,X1,Y1,B1,P1,Z1,z1,HG.out.1,HG.out.2,Or.inr (Or.inr ⟨hn,hm,rfl,rfl⟩)⟩
 obtain⟨n,al,ah,bb,ao,z,ad,ak,bm,ax,X2,Y2,B2,P2,Z2,z2,bc,cc,SW⟩:=hcut;generalize wc=w2 at *;have ar:=ag (a0Y t bc.2.2.2 cc.2.2.2 SW.none);have be:Hid (∀wx,bl w2 wx->Calls f 122 #[pv V F s c cap,U al (X n.vq) ah,U ad (X z.vq) ak,.func (.func l) #[] #[]] wx λe w'=>Wg wx w' e (aX jn n.vq z.vq)/\bl wx w'):=λwx hx=>co.out n.vq z.vq al ah ad ak wx (xC.below (B2.trans (hx.mono B2.size)) (lR _)) (bc.1.1.below (B2.trans (hx.mono B2.size)) (lR _)) (cc.1.1.below (B2.trans (hx.mono B2.size)) (lR _)) ar.out.1 ar.out.2.1 ar.out.2.2.2.2.1 ar.out.2.2.2.2.2.1;have ce:=ag (a4m t bc.2.2.2 SW c3);generalize aX jn n.vq z.vq=VL at be ce;clear a0 a1 a2 a3 a4 a5 b0 b1 b2 b3 b4 b5 az bz X1 Y1 Z1 P1 B1 z1;have KS:∀wx,bl w2 wx->(wx.cell? ⟨R (M w),0,E⟩=G (I Y V)/\wx.cell? ⟨R (M w),1,E⟩=G (I Y F)/\wx.cell? ⟨R (M w),2,E⟩=G (U s (X c) cap))/\(wx.cell? ⟨R (M w)+1,0,E⟩=G (O n.none)/\wx.cell? ⟨R (M w)+1,1,E⟩=G (U al (X n.vq) ah))/\wx.cell? ⟨R (M w)+1+1,1,E⟩=G (U ad (X z.vq) ak):=λwx hx=>by
  obtain⟨⟨p0,p1,p2⟩,-⟩:=P2.call hx;obtain⟨⟨a0,a1,-⟩,-⟩:=X2.call hx;obtain⟨⟨-,b1,-⟩,-⟩:=Y2.call hx;exact⟨⟨p0,p1,p2⟩,⟨a0,a1⟩,b1⟩
 go_upto_region 8 with fail
 go_cut [11] (λdc wy=>∃(zb:Nat) (vs:oA) (vc:Nat) (vl:List Gc),dc=Pp (G ⟨zb,0,E⟩)/\X3 wy zb (O n.none) (U vs (X vl) vc) (U E 0 0)/\a8q (λb=>R (M w2)<=b/\b≠zb) wy (R (M w2)) (U vs (X vl) vc) vl/\Hid (vl.map Gc.g=VL)/\R (M w2)<=zb/\bl w2 wy)
 case first=>
  rename_i J1 K1' hJ1 hK1;refine XK [11] ac KS (bR _ _).drew (λr=> ?_);have ap:=vp;have d4:R (M w2.drew)=R (M w2):=rfl;generalize w2.drew=wq at *;refine QQ ?_;refine wN (i:=8) (j:=10) rfl rfl ac (λK hK=> ?_) (λK hK=> ?_)
  case refine_1=>
   go_simp;go_at_call 122;go_call be.out wq ap as e w5 ⟨⟨vs,vc,vl,rfl,EV,SV⟩,xw⟩;have GV:=SV.vrow;clear SV;have ab:=ap.trans (xw.mono ap.size);go_wp2_with fail;refine hK.out _ _ (KS _ ab) (λr=> ?_);clear hK K;refine sm ?_;refine QN 9 ?_;refine av (i:=10) rfl ac (λK hK=> ?_);go_simp;have a8:bl w2 (w5.alloc (A #[O d,U E 0 0,U E 0 0] 28)):=ab.alloc ab.size _;refine hK.out _ _ (KS _ a8) (λr=> ?_);clear hK K;refine sm ?_;refine aM (i:=11) rfl ac ac (λK hK=> ?_);go_simp;refine hK.out _ _ ?_;clear hK K;refine sm ?_;refine aB ac ?_ _;refine hK1 _ _ (Met.intro (hJ1 _ _ ?_))
   (repeat apply Exists.intro)
   refine⟨?_,rfl⟩;exact⟨R (M w5),vs,vc,vl,rfl,X3.new w5 _ _ _ _,((GV.mono (λb h1 h2=>⟨lT ap.size h1,x4 h2⟩)).lower ap.size).call (Below.alloc (bR _ _) (lR _) _),EV,ab.size,ab.alloc ab.size _⟩
  case refine_2=>
   go_simp;have bg:bl w2 (wq.alloc (A #[O d,U E 0 0,U E 0 0] 28)):=ap.alloc ap.size _;have U1:=X3.new wq 28 (O d) (U E 0 0) (U E 0 0);have ds:R (M wq) < R (M (wq.alloc (A #[O d,U E 0 0,U E 0 0] 28))):=ae;rw[d4] at U1 ds;refine hK.out _ _ (KS _ bg) (λr=> ?_);clear hK K;refine sm ?_;generalize wq.alloc _=wa at *;refine av (i:=8) rfl ac (λK hK=> ?_);go_simp;go_at_call 122;go_call be.out wa bg as e w5 ⟨⟨vs,vc,vl,rfl,EV,SV⟩,xw⟩;have GV:=SV.vrow;clear SV;have ab:=bg.trans (xw.mono bg.size);go_wp2_with fail;refine hK.out _ _ (KS _ ab) (λr=> ?_);clear hK K;refine sm ?_;have U5:=U1.call xw;obtain⟨⟨v0,v1,v2⟩,vz,vf⟩:=id U5;have v3:=vf 0;have v4:=vf 1;have v5:=vf 2;clear vf;refine QN 9 ?_;refine aM (i:=11) rfl ac ac (λK hK=> ?_);go_simp;refine hK.out _ _ ?_;clear hK K;refine sm ?_;refine aB ac ?_ _;refine hK1 _ _ (Met.intro (hJ1 _ _ ?_))
   (repeat apply Exists.intro)
   refine⟨?_,rfl⟩;have dq:=(GV.mono (S':=λb=>R (M w2)<=b/\b≠R (M w2)) λb h1 _=>⟨aa,aa⟩).lower (C:=R (M w2)) aa;exact⟨R (M w2),vs,vc,vl,rfl,((U5.put0 _).put1 _).put2 _,dq.same (λb hS _=>((hSe _ _ _ _ hS.2).trans (hSe _ _ _ _ hS.2)).trans (hSe _ _ _ _ hS.2)) bI,EV,lR _,((ab.setCell (lR _) _).setCell (lR _) _).setCell (lR _) _⟩
 obtain⟨zb,vs,vc,vl,rfl,U3,c8,EV,zz,xp⟩:=hcut;generalize wc=w3 at *;have bt:=X2.call xp;have cm:=Y2.call xp;have cl:=P2.call xp;have cg:=Z2.call xp;have B3:=ir;have zN:=U3.2.1;have zn:R (M w)+1+1+1+1<=zb:=aa;obtain⟨N,hN⟩:∃N,N=R (M w3):=⟨_,rfl⟩;have GV:a8q (λb=>R (M w)+1+1+1+1<=b/\b < N/\b≠zb) w3 (R (M w)+1+1+1+1) (U vs (X vl) vc) vl:=(c8.mono λb h1 h2=>⟨aa,aa,h1.2⟩).lower aa;rw[<-hN] at zN;have ch:N<=R (M w3):=aa;clear c8 KS be X2 Y2 P2 Z2 B2 xp z2 hN;have dr:X n.fq=X z.fq/\X n.fq<=60:=⟨ar.out.2.2.1,ar.out.2.2.2.1⟩;obtain⟨ej,eg⟩:=dr;have eb:=ag bc.1.2;have ea:=ag cc.1.2;obtain⟨tk,H,d3,ef,d8⟩:=rq;obtain⟨⟨a0,a1,a2⟩,az,-⟩:=id bt;go_wp2;clear a0 a1 a2 az;go_loopw [43,12] (λi _ wr=>∃(k:Nat) (fs:oA) (fc:Nat) (L:List Ro),k<=X n.fq/\i=I Y k/\XAt wr (R (M w)+1) n al ah bb ao/\XAt wr (R (M w)+1+1) z ad ak bm ax/\a7w wr (R (M w)) V F s c cap/\X3 wr (R (M w)+1+1+1) (O d) (U E 0 0) (U E 0 0)/\X3 wr zb (O n.none) (U vs (X vl) vc) (U fs (X L) fc)/\a8j wr N (U fs (X L) fc) L/\Hid (L.map roG=q9 (aX jn) (n.fq.take k) (z.fq.take k))/\a8q (λb=>R (M w)+1+1+1+1<=b/\b < N/\b≠zb) wr (R (M w)+1+1+1+1) (U vs (X vl) vc) vl/\bl w wr/\N<=R (M wr)) (λi _ _=>X n.fq - (intOf i).toNat)
 case atStart=>exact⟨0,E,0,[],j4 _,rfl,bt,cm,cl,cg,U3,a8j.nil _ _,rfl,GV,B3,ch⟩
 case round=>
  clear bt cm cl cg U3 GV B3 ch;obtain⟨k,fs,fc,L,ek,rfl,XR,YR,PR,ZR,UR,FR,HL,GV,LR,zr⟩:=hrel;have LL:Hid (X L=k):=by
   show _=_;have h1:=ki;rw[J3,J4,x5,x5] at h1;omega
  by_cases bv:k < X n.fq
  .have n0:=cQ
   have n1:(k:Int) < (X n.fq:Int):=aa;have a7:k < X z.fq:=aa;have n2:(k:Int) < (X z.fq:Int):=aa;obtain⟨p1,q1,e1,d7,r1,a9,C1,k1,m1,J1⟩:=eb.out k bv;obtain⟨p2,q2,e2,d5,r2,a6,C2,k2,m2,J2⟩:=ea.out k a7;subst e1 e2;have hF:=ar.out.2.2.2.2.2.2 k bv a7;have d9:Hid (∀wx,bl w wx->Calls f 122 #[pv V F s c cap,U r1 (X n.fq[k]) a9,U r2 (X z.fq[k]) a6,.func (.func l) #[] #[]] wx λe w'=>Wg wx w' e (aX jn n.fq[k] z.fq[k])/\bl wx w'):=λwx hx=>co.out n.fq[k] z.fq[k] r1 a9 r2 a6 wx (xC.below hx (lR _)) (J1.below hx (lR _)) (J2.below hx (lR _)) hF.1 hF.2.1 hF.2.2.1 hF.2.2.2;obtain⟨⟨ct,cf,cv⟩,pz⟩:=id PR;obtain⟨⟨a0,a1,a2⟩,az,-⟩:=id XR;obtain⟨⟨c0,c1,c2⟩,cz,-⟩:=id YR;obtain⟨⟨y0,y1,y2⟩,yz,yf⟩:=id UR;have D1:wr.cell? ⟨p1,q1+k,E⟩=G (U r1 (X n.fq[k]) a9):=by rw[LR.cell (by simp only;exact d7)];exact C1
   have D2:wr.cell? ⟨p2,q2+k,E⟩=G (U r2 (X z.fq[k]) a6):=by rw[LR.cell (by simp only;exact d5)];exact C2
   have ay:Hid (∀wx,n4 N wr wx->(wx.cell? ⟨R (M w),0,E⟩=G (I Y V)/\wx.cell? ⟨R (M w),1,E⟩=G (I Y F)/\wx.cell? ⟨R (M w),2,E⟩=G (U s (X c) cap))/\(wx.cell? ⟨R (M w)+1,2,E⟩=G (U (G ⟨p1,q1,E⟩) (X n.fq) ao)/\wx.cell? ⟨p1,q1+k,E⟩=G (U r1 (X n.fq[k]) a9))/\(wx.cell? ⟨R (M w)+1+1,2,E⟩=G (U (G ⟨p2,q2,E⟩) (X z.fq) ax)/\wx.cell? ⟨p2,q2+k,E⟩=G (U r2 (X z.fq[k]) a6))/\wx.cell? ⟨zb,2,E⟩=G (U fs (X L) fc)):=λwx hx=>⟨⟨by rw[hx.cell (by simp only;omega)];exact ct,by rw[hx.cell (by simp only;omega)];exact cf,by rw[hx.cell (by simp only;omega)];exact cv⟩,⟨by rw[hx.cell (by simp only;omega)];exact a2,by rw[hx.cell (by simp only;omega)];exact D1⟩,⟨by rw[hx.cell (by simp only;omega)];exact c2,by rw[hx.cell (by simp only;omega)];exact D2⟩,by rw[hx.cell (by simp only;omega)];exact y2⟩;have HD:=dS;clear hF C1 C2 J1 J2 k1 k2 m1 m2;go_wp2;clear a0 a1 a2 az c0 c1 c2 cz y0 y1 y2 yz yf ct cf cv pz D1 D2;refine XK [18] ac ay.out (HD.mono zr) (λr=> ?_);refine QQ ?_;refine QS ?_;refine av (i:=14) rfl ac (λK hK=> ?_);go_simp;go_at_call 122;go_call d9.out _ (LR.trans (HD.mono LR.size)) as e w5 ⟨⟨rs,rc,gl,rfl,ER,cr⟩,xw⟩;have zW:=m9;have ab:=zW.mono zr;go_wp2_with fail;refine hK.out _ _ (ay.out _ ab) (λr=> ?_);clear hK K;refine sm ?_;refine av (i:=15) rfl ac (λK hK=> ?_);go_simp;have ba:bl wr (w5.alloc (A #[U rs (X gl) rc] 25)):=zW.alloc zW.size _;have a8:=ba.mono zr;refine hK.out _ _ (ay.out _ a8) (λr=> ?_);clear hK K;refine sm ?_;refine av (i:=16) rfl ac (λK hK=> ?_);have F6:=FR.call ba;have VX:a8q (λb=>R (M wr)<=b) (w5.alloc (A #[U rs (X gl) rc] 25)) (R (M wr)) (roV ⟨rs,rc,gl⟩) gl:=((cr.vrow.mono λb h _=>lT HD.size h).lower HD.size).call ai;refine fe _ rfl _ _ 26 rfl N 25 tk (U E 0 0) 1 24 underlying26 H d3 ef d8 rfl an _ _ _ rfl F6.own (G ⟨R (M w5),0,E⟩) 1 1 [U rs (X gl) rc] rfl rfl (λh=>bU) (Hp w5 _ _) s8 AU AN lX ?_;intro v' w7 bs am c5;have F7:=FR.grown ba zr (x:=⟨rs,rc,gl⟩) VX bs am c5;have xF:n4 N wr w7:=a8.grown am lX (λk H=>(aU F6.own H).2);obtain⟨c9,d6,rfl⟩:=F7.form;refine hK.out _ _ (ay.out _ xF) (λr=> ?_);clear hK K bs am c5 F6 VX a8 ba ab zW cr;refine sm ?_;refine QN 17 ?_;refine aM (i:=18) rfl ac ac (λK hK=> ?_);have U7:X3 w7 zb _ _ _:=UR.same (xF.block _ aa) xF.size;obtain⟨⟨y0,y1,y2⟩,yz,yf⟩:=id U7;have ee:=yf 2;clear yf;go_simp;refine hK.out _ _ ?_;clear hK K;refine sm ?_;refine aB ac ?_ _;clear y0 y1 y2 yz ee;have X7:XAt w7 (R (M w)+1) n al ah _ ao:=XR.same (xF.block _ aa) xF.size;have Y7:XAt w7 (R (M w)+1+1) z ad ak _ ax:=YR.same (xF.block _ aa) xF.size;have P7:=PR.low xF aa;have Z7:X3 w7 (R (M w)+1+1+1) (O d) (U E 0 0) (U E 0 0):=ZR.same (xF.block _ aa) xF.size;have V7:=GV.same (w':=w7) (λb hS _=>xF.block b hS.2.1) xF.size;have L7:=wM;have z7:=lT zr xF.size;have E7:=NZ;have S7:=NW;clear XR YR PR ZR UR FR LR zr ay GV xF;go_wp2;go_roundw
   case rel=>exact⟨k+1,c9,d6,L++[⟨rs,rc,gl⟩],aa,aJ,X7.same (E7.out _ _ aa) (S7.out _),Y7.same (E7.out _ _ aa) (S7.out _),P7.far aw _,Z7.same (E7.out _ _ aa) (S7.out _),UF,F7.olden (λb hb _=>E7.out _ b aa) (S7.out _),by show _=_;rw[x6,HL.out,yC _ n.fq z.fq k bv a7];exact congrArg (λq=>_++[q]) ER.out,V7.same (λb hS _=>E7.out _ b hS.2.2) (S7.out _),L7.setCell aw _,Br⟩
   case measure=>exact aK
  .have ei:¬(k:Int) < (X n.fq:Int):=by omega
   have cs:n.fq.take k=n.fq:=z9 aa;have c7:z.fq.take k=z.fq:=z9 aa;have b6:∀b,b≠R (M w)+1+1+1->(((wr.setCell ⟨R (M w)+1+1+1,0,E⟩ (O n.none)).setCell ⟨R (M w)+1+1+1,1,E⟩ (U vs (X vl) vc)).setCell ⟨R (M w)+1+1+1,2,E⟩ (U fs (X L) fc)).heap[b]? =wr.heap[b]? :=λb hb=>sG;have b7:R (M wr)<=R (M (((wr.setCell ⟨R (M w)+1+1+1,0,E⟩ (O n.none)).setCell ⟨R (M w)+1+1+1,1,E⟩ (U vs (X vl) vc)).setCell ⟨R (M w)+1+1+1,2,E⟩ (U fs (X L) fc))):=bI;have FX:=FR.olden (w':=(((wr.setCell ⟨R (M w)+1+1+1,0,E⟩ (O n.none)).setCell ⟨R (M w)+1+1+1,1,E⟩ (U vs (X vl) vc)).setCell ⟨R (M w)+1+1+1,2,E⟩ (U fs (X L) fc))) (λb hb _=>b6 b aa) b7;have GX:=GV.same (w':=(((wr.setCell ⟨R (M w)+1+1+1,0,E⟩ (O n.none)).setCell ⟨R (M w)+1+1+1,1,E⟩ (U vs (X vl) vc)).setCell ⟨R (M w)+1+1+1,2,E⟩ (U fs (X L) fc))) (λb hS _=>b6 b aa) b7;have BX:bl w (((wr.setCell ⟨R (M w)+1+1+1,0,E⟩ (O n.none)).setCell ⟨R (M w)+1+1+1,1,E⟩ (U vs (X vl) vc)).setCell ⟨R (M w)+1+1+1,2,E⟩ (U fs (X L) fc)):=((LR.setCell aw _).setCell aw _).setCell aw _;have db:Hid (a7e (λb=>R (M w)<=b) (R (M w)) (((wr.setCell ⟨R (M w)+1+1+1,0,E⟩ (O n.none)).setCell ⟨R (M w)+1+1+1,1,E⟩ (U vs (X vl) vc)).setCell ⟨R (M w)+1+1+1,2,E⟩ (U fs (X L) fc)) ⟨vs,vc,vl⟩ fs fc L):=((FX.pic GX (λb hb=>⟨hb.1,hb.2.1⟩) aa).mono λb hb _=>aa).down aa;have dv:Hid (aI jn x y=bh (aI jn x y).none ⟨vs,vc,vl⟩ L):=by
    show _=_;rw[ce.out];have e1:=HL.out;have e2:=EV.out;rw[cs,c7] at e1;simp only[bh,roG,e2];rw[<-e1]
   have ec:Hid ((aI jn x y).none=n.none):=by show _=_;rw[ce.out]
   obtain⟨⟨y0,y1,y2⟩,yz,yf⟩:=id UR;obtain⟨⟨d0,d1,d2⟩,dz,df⟩:=id ZR;have f0:=df 0;have f1:=df 1;have f2:=df 2;clear df yf b6 b7 FX GX cs c7;go_wp2;refine bodyPost_ret (v:=Tu #[Ag #[O n.none,U vs (X vl) vc,U fs (X L) fc],I Y 0]) (by simp[results,results71,go_sem,d0,d1,d2]) rfl ⟨?_,BX⟩;exact⟨⟨vs,vc,vl⟩,fs,fc,L,dv.out,by rw[ec.out],db.out⟩
end
section
open Go.RowKit
attribute [local go_sem ↓] Go.wp_at_zero Go.wp_at_succ
def tT {V F:Int}{c:lI}{x y:Pic}(h:aF V F c [x,y]=0):aA V F c=0/\aO V F c x=0/\aO V F c y=0:=by
 have t:aA V F c=0:=by
  unfold aF at h;split at h
  .assumption
  .exact h
 have a:cN V F c [x,y]=0:=by
  unfold aF at h;rw[if_pos t] at h;exact h
 have P:aO V F c x=0:=by
  unfold cN at a;split at a
  .assumption
  .exact a
 refine⟨t,P,?_⟩;unfold cN at a;rw[if_pos P] at a;unfold cN at a;split at a
 .assumption
 .exact a
def Gx(h:p:=by
 rintro e w' ⟨v,rfl,xK,hb⟩;obtain⟨js,jc,rfl,hi,k1,k2,hf⟩:=kv;exact⟨⟨js,jc,rfl,hi,k1,k2,hf⟩,hb⟩):=h
def yW {V F:Int}{s:oA}{c:lI}{cap:Nat}(t:aA V F c=0):∀(g:Gs) (ss:oA) (D:Nat) (h:Gs) (o:oA) (Z:Nat) (wx:C),a2r wx s c->yv wx ss g.s->X g.s<=D->D<=maxLen->yv wx o h.s->X h.s<=Z->Z<=maxLen->aH c g=0->aH c h=0->Calls f 72 #[pv V F s c cap,gv g ss D,gv h o Z] wx λe w'=>(∃js jc,e=Rt (Tu #[gv (dy bw g h) js jc,I Y 0])/\yv w' js (dy bw g h).s/\X (dy bw g h).s<=jc/\jc<=maxLen/\∀a,js=G a->R (M wx)<=a.block/\Thw w' a.block)/\bl wx w':=by
 intro g ss D h o Z wx n hs W l z N K r q;have k:=lk t r q;obtain⟨u,i⟩:=kD k;have H:=dJ u.2 u.1;have P:=dJ i.2 i.1;refine(a2e V F s c cap g ss D h o Z wx n hs W l z N K k au).mono ?_;exact Gx
def a0j(x:Pic)(D:oA)(k:Nat)(H:oA)(a:Nat)(y:Pic)(u:oA)(i:Nat)(z:oA)(q:Nat)(w:C)(n:a2r w s c)(o:a4r w x D H)(W:X x.vq<=k/\k<=maxLen)(l:X x.fq<=a/\a<=maxLen)(r:a4r w y u z)(N:X y.vq<=i/\i<=maxLen)(K:X y.fq<=q/\q<=maxLen):Calls f 71 #[pv V F s c cap,xv x D k H a,xv y u i z q,.func (.func 72) #[] #[]] w λe w'=>a9w (R (M w)) w' e (if aF V F c [x,y]=0 then aI (dy bw) x y else gx) (aF V F c [x,y])/\bl w w':=by
 by_cases h:aF V F c [x,y]=0
 .obtain⟨t,P,Q⟩:=tT h
  rw[if_pos h,h];exact rI 72 (dy bw) (enters_of func72 ac rfl) V F s c _ x D k H a y u i z q w n o W l r N K h P Q t (λg hg=>MZ TS (dM t).2.2 hg) (yW t)
 .rw[if_neg h]
  go_call pV 72 V F s c cap x D k H a y u i z q w n o W l r N K h as e S ⟨rfl,Z⟩;exact⟨⟨⟨E,0,[]⟩,E,0,[],rfl,rfl,Lc _ _⟩,Z⟩
def a0P(x:Pic)(xh:oA)(xf:Nat)(xk:oA)(xi:Nat)(y:Pic)(xq:oA)(xm:Nat)(xr:oA)(xo:Nat)(w:C)(n:a2r w s c)(o:a4r w x xh xk)(W:X x.vq<=xf/\xf<=maxLen)(l:X x.fq<=xi/\xi<=maxLen)(r:a4r w y xq xr)(N:X y.vq<=xm/\xm<=maxLen)(K:X y.fq<=xo/\xo<=maxLen):Calls f 32 #[pv V F s c cap,xv x xh xf xk xi,xv y xq xm xr xo] w λe w'=>a9w (R (M w)) w' e (if aF V F c [x,y]=0 then aI (dy bw) x y else gx) (aF V F c [x,y])/\bl w w':=by
 have B0:=ui;have Z0:=tA;rw[zA,zA,zA] at Z0;have S:=ag (a0j V F s c cap x xh xf xk xi y xq xm xr xo _ (n.below B0 (lR _)) (o.below B0 (lR _)) W l (r.below B0 (lR _)) N K);clear n o r;generalize (if aF V F c [x,y]=0 then aI (dy bw) x y else gx)=z at *;generalize aF V F c [x,y]=ce at *;go_enter func32,ntmps32;go_wp2_with fail;go_call S.out as e w1 ⟨⟨⟨a,g,i⟩,gs,D,L,hZ,rfl,u⟩,vZ⟩;have ab:=ag hZ;clear hZ;have Z1:=Z0.call vZ;have B1:=it;clear S vZ B0 Z0;obtain⟨⟨z0,z1,t⟩,zz,Q⟩:=id Z1;have H:=Q 0;have q:=Q 1;have k:=Q 2;clear Q;have P:=tW;rw[P] at u;have ad:=ag u;clear u P;go_wp2;refine bodyPost_ret (v:=Tu #[Ag #[O z.none,U a (X i) g,U gs (X L) D],I Y ce]) (by simp[results,results32,go_sem,z0,z1,t]) rfl ⟨⟨⟨a,g,i⟩,gs,D,L,ab.out,rfl,((ad.out.same (λb Z _=> ?_) bI).mono λb Z _=>aa).down aa⟩,?_⟩
 .rw[hSe _ _ _ _ aw,hSe _ _ _ _ aw,hSe _ _ _ _ aw]
 .exact Ef
def RK(x:Pic)(D:oA)(k:Nat)(H:oA)(a:Nat)(y:Pic)(u:oA)(i:Nat)(z:oA)(q:Nat)(w:C)(n:a2r w s c)(o:a4r w x D H)(W:X x.vq<=k/\k<=maxLen)(l:X x.fq<=a/\a<=maxLen)(r:a4r w y u z)(N:X y.vq<=i/\i<=maxLen)(K:X y.fq<=q/\q<=maxLen):Calls f 32 #[pv V F s c cap,xv x D k H a,xv y u i z q] w λe w'=>a9d (R (M w)) w' e (if aF V F c [x,y]=0 then aI (dy bw) x y else gx) (aF V F c [x,y])/\bl w w':=
 (a0P V F s c cap x D k H a y u i z q w n o W l r N K).mono λe w' h=>⟨h.1.weak,h.2⟩
def YD {V F:Int}{s:oA}{c:lI}{cap:Nat}(t:aA V F c=0):∀(g:Gs) (ss:oA) (D:Nat) (h:Gs) (o:oA) (Z:Nat) (wx:C),a2r wx s c->yv wx ss g.s->X g.s<=D->D<=maxLen->yv wx o h.s->X h.s<=Z->Z<=maxLen->aH c g=0->aH c h=0->Calls f 73 #[pv V F s c cap,gv g ss D,gv h o Z] wx λe w'=>(∃js jc,e=Rt (Tu #[gv (dy bH g h) js jc,I Y 0])/\yv w' js (dy bH g h).s/\X (dy bH g h).s<=jc/\jc<=maxLen/\∀a,js=G a->R (M wx)<=a.block/\Thw w' a.block)/\bl wx w':=by
 intro g ss D h o Z wx n hs W l z N K r q;have k:=lk t r q;obtain⟨u,i⟩:=kD k;have H:=dJ u.2 u.1;have P:=dJ i.2 i.1;refine(a2U V F s c cap g ss D h o Z wx n hs W l z N K k au).mono ?_;exact Gx
def YV(x:Pic)(D:oA)(k:Nat)(H:oA)(a:Nat)(y:Pic)(u:oA)(i:Nat)(z:oA)(q:Nat)(w:C)(n:a2r w s c)(o:a4r w x D H)(W:X x.vq<=k/\k<=maxLen)(l:X x.fq<=a/\a<=maxLen)(r:a4r w y u z)(N:X y.vq<=i/\i<=maxLen)(K:X y.fq<=q/\q<=maxLen):Calls f 71 #[pv V F s c cap,xv x D k H a,xv y u i z q,.func (.func 73) #[] #[]] w λe w'=>a9w (R (M w)) w' e (if aF V F c [x,y]=0 then aI (dy bH) x y else gx) (aF V F c [x,y])/\bl w w':=by
 by_cases h:aF V F c [x,y]=0
 .obtain⟨t,P,Q⟩:=tT h
  rw[if_pos h,h];exact rI 73 (dy bH) (enters_of func73 ac rfl) V F s c _ x D k H a y u i z q w n o W l r N K h P Q t (λg hg=>MZ TN (dM t).2.2 hg) (YD t)
 .rw[if_neg h]
  go_call pV 73 V F s c cap x D k H a y u i z q w n o W l r N K h as e S ⟨rfl,Z⟩;exact⟨⟨⟨E,0,[]⟩,E,0,[],rfl,rfl,Lc _ _⟩,Z⟩
def a5C(x:Pic)(xh:oA)(xf:Nat)(xk:oA)(xi:Nat)(y:Pic)(xq:oA)(xm:Nat)(xr:oA)(xo:Nat)(w:C)(n:a2r w s c)(o:a4r w x xh xk)(W:X x.vq<=xf/\xf<=maxLen)(l:X x.fq<=xi/\xi<=maxLen)(r:a4r w y xq xr)(N:X y.vq<=xm/\xm<=maxLen)(K:X y.fq<=xo/\xo<=maxLen):Calls f 33 #[pv V F s c cap,xv x xh xf xk xi,xv y xq xm xr xo] w λe w'=>a9w (R (M w)) w' e (if aF V F c [x,y]=0 then aI (dy bH) x y else gx) (aF V F c [x,y])/\bl w w':=by
 have B0:=ui;have Z0:=tA;rw[zA,zA,zA] at Z0;have S:=ag (YV V F s c cap x xh xf xk xi y xq xm xr xo _ (n.below B0 (lR _)) (o.below B0 (lR _)) W l (r.below B0 (lR _)) N K);clear n o r;generalize (if aF V F c [x,y]=0 then aI (dy bH) x y else gx)=z at *;generalize aF V F c [x,y]=ce at *;go_enter func33,ntmps33;go_wp2_with fail;go_call S.out as e w1 ⟨⟨⟨a,g,i⟩,gs,D,L,hZ,rfl,u⟩,vZ⟩;have ab:=ag hZ;clear hZ;have Z1:=Z0.call vZ;have B1:=it;clear S vZ B0 Z0;obtain⟨⟨z0,z1,t⟩,zz,Q⟩:=id Z1;have H:=Q 0;have q:=Q 1;have k:=Q 2;clear Q;have P:=tW;rw[P] at u;have ad:=ag u;clear u P;go_wp2;refine bodyPost_ret (v:=Tu #[Ag #[O z.none,U a (X i) g,U gs (X L) D],I Y ce]) (by simp[results,results33,go_sem,z0,z1,t]) rfl ⟨⟨⟨a,g,i⟩,gs,D,L,ab.out,rfl,((ad.out.same (λb Z _=> ?_) bI).mono λb Z _=>aa).down aa⟩,?_⟩
 .rw[hSe _ _ _ _ aw,hSe _ _ _ _ aw,hSe _ _ _ _ aw]
 .exact Ef
def YZ(x:Pic)(D:oA)(k:Nat)(H:oA)(a:Nat)(y:Pic)(u:oA)(i:Nat)(z:oA)(q:Nat)(w:C)(n:a2r w s c)(o:a4r w x D H)(W:X x.vq<=k/\k<=maxLen)(l:X x.fq<=a/\a<=maxLen)(r:a4r w y u z)(N:X y.vq<=i/\i<=maxLen)(K:X y.fq<=q/\q<=maxLen):Calls f 33 #[pv V F s c cap,xv x D k H a,xv y u i z q] w λe w'=>a9d (R (M w)) w' e (if aF V F c [x,y]=0 then aI (dy bH) x y else gx) (aF V F c [x,y])/\bl w w':=
 (a5C V F s c cap x D k H a y u i z q w n o W l r N K).mono λe w' h=>⟨h.1.weak,h.2⟩
def Tryz.info_edge:(Tryz.prog.info? 45).map (λi=>(i.zero,i.size,i.bytes))=G (G (Ag #[I Y 0,O d,U E 0 0,U E 0 0]),4,64):=ac
def i6 (fn:Nat)(ar:Value->Array Value)(n sb:Nat)(eb:Option Nat)(w:World)(x x':Pic):Prop:=∀wx xb v gs gc L,bl w wx->rC n sb eb (R (M w)) wx xb v gs gc L x->Calls f fn (ar (Pp (G ⟨xb,0,E⟩))) wx λe w'=>e=Rt (Tu #[])/\(∃v' gs' gc' L',rC n sb eb (R (M w)) w' xb v' gs' gc' L' x')/\Below (R (M w)) wx w'
def a3k(e:Ed)(cs:Array mh)(t:TypeId)(c:cs.toList=dN e):∀a,G (⟨R (M w),0,E⟩:Addr)=G a->∀j u,(dN e)[j]? =G u->(w.alloc (A cs t)).cell? (a.add j)=G u:=by
  intro a K j u Q;cases K;rw[Addr.add_lit,Nat.zero_add];rw[<-c] at Q;simpa[go_sem] using Q
def WY:a4r w a7q E none:=⟨λi hi=>absurd hi pu,λi hi=>absurd hi pu⟩
def SG {V F:Int}{c:lI}{x:Pic}(t:aA V F c=0)(o:aO V F c x=0):aF V F c [x,a7q]=0:=by
  unfold aF;rw[if_pos t];unfold cN;rw[if_pos o];unfold cN;rw[if_pos (show aO V F c a7q=0 from rfl)];rfl
def MS(hn:x.none=d):aI j x a7q=x:=by
  unfold aI;rw[if_neg BM,if_pos (show a7q.none=W5 from rfl)]
def a1D{H c:Nat}{w w':C}{v:Ro}{gs:oA}{D:Nat}{L:List Ro}(h:a7e T H w v gs D L)(a:∀b,T b->b≠c)(k:Off v (j3 gs (X L) D).ownBlock L c)(hs:∀b,b≠c->w'.heap[b]? =w.heap[b]?)(i:R (M w)<=R (M w')):a7e T H w' v gs D L:=
  ⟨h.vq.same λb Z=>hs b λe=>k.1 (by rw[Z,e]),dZ h.fq λb Z=>hs b λe=>k.2.1 (by rw[Z,e]),λr q=>(h.rows r q).same λb Z=>hs b λe=>k.2.2 r q (by rw[Z,e]),
   λg u=>⟨(h.sv g u).1.same (λb Z _=>hs b (a b Z.1)) i,(h.sv g u).2⟩,λr q g u=>⟨(h.sf r q g u).1.same (λb Z _=>hs b (a b Z.1)) i,(h.sf r q g u).2⟩,h.dv,h.df,h.dr⟩
def Fz(h:p:=by
  refine rH1 14 λK hK=> ?_;have r0:=A3.1 0 _ rfl;have r1:=A3.1 1 _ rfl;have r2:=A3.1 2 _ rfl;have f0:=A3.2.2 0;have f1:=A3.2.2 1;have f2:=A3.2.2 2;go_simp;have A4:sT (((w3.setCell ⟨xb,0,E⟩ (O false)).setCell ⟨xb,1,E⟩ (U v.rs (X v.l) v.rc)).setCell ⟨xb,2,E⟩ (U gs (X L0) gc)) xb [O false,U v.rs (X v.l) v.rc,U gs (X L0) gc]:=((A3.put 0 ae _).put 1 ae _).put 2 ae _;have B4:bl w (((w3.setCell ⟨xb,0,E⟩ (O false)).setCell ⟨xb,1,E⟩ (U v.rs (X v.l) v.rc)).setCell ⟨xb,2,E⟩ (U gs (X L0) gc)):=((B3.setCell aw _).setCell aw _).setCell aw _;have xV:∀q,q≠xb->(((w3.setCell ⟨xb,0,E⟩ (O false)).setCell ⟨xb,1,E⟩ (U v.rs (X v.l) v.rc)).setCell ⟨xb,2,E⟩ (U gs (X L0) gc)).heap[q]? =w3.heap[q]? :=λq hq=>Kp;have xT:R (M w3)<=R (M (((w3.setCell ⟨xb,0,E⟩ (O false)).setCell ⟨xb,1,E⟩ (U v.rs (X v.l) v.rc)).setCell ⟨xb,2,E⟩ (U gs (X L0) gc))):=bI;have G4:a7e (ClT n sb (Value.slice es (X EL) ec).ownBlock xb) (R (M w)) (((w3.setCell ⟨xb,0,E⟩ (O false)).setCell ⟨xb,1,E⟩ (U v.rs (X v.l) v.rc)).setCell ⟨xb,2,E⟩ (U gs (X L0) gc)) v gs gc L0:=a1D G3 (λb hb=>hb.2.2.1) OF3 xV xT;refine hK.out _ _ (xP.out _ B4) (λQI=> ?_);clear hK K r0 r1 r2 f0 f1 f2 A3 B3 G3 xV xT;refine sm ?_;generalize (((w3.setCell ⟨xb,0,E⟩ (O false)).setCell ⟨xb,1,E⟩ (U v.rs (X v.l) v.rc)).setCell ⟨xb,2,E⟩ (U gs (X L0) gc))=w4 at *;have OF4:=OF3;have EX4:=EX3;clear OF3 EX3;refine QO 15 ?_;refine wpAnyH_done ac ?_ _;first|refine hK1 _ _ (Met.intro (hJ1 _ _ ?_))|refine Met.intro (hJ1 _ _ ?_)|refine hJ1 _ _ ?_
  (repeat apply Exists.intro)
  refine⟨?_,rfl⟩;exact⟨xb,v,gs,gc,L0,rfl,rfl,⟨zxb,A4,G4,OF4,EX4.out.symm⟩,B4⟩):=h
def ig(cs:Array mh)(ar:mh->Array mh)(b8:∀p,#[p]++cs=ar p)(hf:∀args wx,Sem.run f (callFunc fn args) wx=.ok (.enter fn args) wx)(n:Nat)(g:Int)(x':Pic)(EL:List Ed)(es:oA)(ec:Nat)(sb:Nat)(i:Ins)(V F:Int)(s:oA)(c:lI)(cap:Nat)(at_:Int)(x:Pic)(vs:oA)(vc:Nat)(fs:oA)(fc:Nat)(wr D:Bool)(w0 w:C)(hS:sT w sb (bk i V F s c cap at_ x vs vc fs fc (U es (X EL) ec) wr D))(a6:a2r w0 s c)(z:a4r w0 x vs fs)(t:R (M w0)<=sb)(a5:bl w0 w)(K:a7l V F c x vc fc i at_)(u:n=sb)(ao:a7t n sb w (U es (X EL) ec) EL)(y:X EL<=10)(bb:i6 fn ar n sb (j3 es (X EL) ec).ownBlock w x x'):
    Calls f 93 #[Pp (G ⟨sb,0,E⟩),I Y g,.func (.func fn) #[] cs] w λe w'=>e=Rt (Tu #[])/\(∃a2 q,sT w' sb (bk i V F s c cap at_ x vs vc fs fc a2 wr D)/\a7t n sb w' a2 (EL++[q])/\edG q=⟨g,x'⟩)/\n4 sb w w':=by
  obtain⟨tk,b1,be,a4,bs⟩:=info_parts Tryz.info_edge;have ak:=K.kx.none;have a7:=K.kx.ck;have a0:Hid (∀wx,bl w wx->Calls f 32 #[pv V F s c cap,Ag #[O d,U vs (X x.vq) vc,U fs (X x.fq) fc],Ag #[O W5,U E 0 0,U E 0 0]] wx λe w'=>(∃v gs gc L0,x=bh d v L0/\e=Rt (Tu #[Ag #[O d,U v.rs (X v.l) v.rc,U gs (X L0) gc],I Y 0])/\a7e (λb=>R (M wx)<=b) (R (M wx)) w' v gs gc L0)/\bl wx w'):=λwx hb=>by
    have ba:=a5.trans (hb.mono a5.size);have h:=a0P V F s c cap x vs vc fs fc a7q E 0 E 0 wx (a6.below ba (lR _)) (z.below ba (lR _)) K.cv K.cf (WY wx) ⟨lR _,j4 _⟩ ⟨lR _,j4 _⟩;rw[SG K.h0 a7,if_pos rfl,MS ak] at h;have b5:xv x vs vc fs fc=Ag #[O d,U vs (X x.vq) vc,U fs (X x.fq) fc]:=by unfold xv;rw[ak]
    rw[b5] at h;go_call h as e w' ⟨⟨v,gs,gc,L0,W,l,N⟩,h4⟩;rw[ak] at W l;exact⟨⟨v,gs,gc,L0,W,l,N⟩,h4⟩
  have xP:Hid (∀wx,bl w wx->(wx.cell? ⟨sb,6,E⟩=G (I Y V)/\wx.cell? ⟨sb,7,E⟩=G (I Y F)/\wx.cell? ⟨sb,8,E⟩=G (U s (X c) cap))/\(wx.cell? ⟨sb,10,E⟩=G (O d)/\wx.cell? ⟨sb,11,E⟩=G (U vs (X x.vq) vc)/\wx.cell? ⟨sb,12,E⟩=G (U fs (X x.fq) fc))):=λwx hb=>by
    have h:=hS.call hb;exact⟨⟨h.1 6 _ rfl,h.1 7 _ rfl,h.1 8 _ rfl⟩,by rw[<-ak];exact h.1 10 _ rfl,h.1 11 _ rfl,h.1 12 _ rfl⟩
  have bv:=ag hS;have bg:=ag bb;have b3:=hS.2.1;clear hS a6 z ak a7 bb;go_enter func93,ntmps93;go_upto_region 0 with fail
  go_cut [6,7] (λt6 t7 wc=>∃xb v gs gc L0,t6=Pp (G ⟨xb,0,E⟩)/\t7=I Y 0/\rC n sb (j3 es (X EL) ec).ownBlock (R (M w)) wc xb v gs gc L0 x/\bl w wc)
  case first=>
    rename_i J1 K1 hJ1 hK1;have B1:=pI;refine XL ac xP.out B1 (λaf=> ?_);generalize w.drew=w1 at *;refine XI ?_;refine XE ?_;refine QO 5 ?_;refine QO 6 ?_;refine QO 7 ?_;refine QO 8 ?_;refine wpAnyH_ready (rs:=[9,13]) ac ae ?_;refine AllReadyH.cons rfl (λK hK=> ?_) (AllReadyH.cons rfl (λK hK=> ?_) AllReadyH.nil)
    . go_simp
      go_call a0.out w1 B1 as e w2 ⟨⟨v,gs,gc,L0,EX,rfl,PG⟩,xj⟩;have B2:=lN;have a9:=ag EX;clear EX;have P2:a7e (λb=>R (M w)<=b) (R (M w)) w2 v gs gc L0:=(PG.mono λb hb _=>by have:=B1.size;omega).down B1.size
      clear PG;refine hK.out _ _ (xP.out _ B2) (λax=> ?_);clear hK K xj B1;refine sm ?_;refine QO 10 ?_;refine QO 11 ?_;refine QO 12 ?_;refine rH1 13 λK hK=> ?_;go_simp;have xp:=Nx;have B3:=kF;have A3:=sT.new w2 28 [O d,U E 0 0,U E 0 0];have zxb:=B2.size;have G3:a7e (ClT n sb (j3 es (X EL) ec).ownBlock (R (M w2))) (R (M w)) (w2.alloc (A #[O d,U E 0 0,U E 0 0] 28)) v gs gc L0:=(P2.mono λb hb bx=>⟨aa,aa,x4 bx,λe=>by have:=(aU ao.own e).1;omega⟩).call xp
      have OF3:Off v (j3 gs (X L0) gc).ownBlock L0 (R (M w2)):=⟨λe=>x7 _ (P2.vq.lt e).1,λe=>x7 _ (aU P2.fq e).1,λr hr e=>x7 _ ((P2.rows r hr).lt e).1⟩;have EX3:=a9;clear P2 a9;clear B2;refine hK.out _ _ (xP.out _ B3) (λap=> ?_);clear hK K xp;refine sm ?_;generalize w2.alloc _=w3 at *;generalize (R (M w2))=xb at *;exact Fz
    . go_simp
      have xj:=Rs;have B2:=lN;have A2:=sT.new w1 28 [O d,U E 0 0,U E 0 0];have zxb:=B1.size;clear B1;refine hK.out _ _ (xP.out _ B2) (λax=> ?_);clear hK K xj;refine sm ?_;generalize w1.alloc _=w2 at *;generalize (R (M w1))=xb at *;refine rH1 9 λK hK=> ?_;go_simp;go_call a0.out w2 B2 as e w3 ⟨⟨v,gs,gc,L0,EX,rfl,PG⟩,xp⟩;have A3:=A2.call xp;have B3:=kF;have EX3:=ag EX;clear EX;have G3:a7e (ClT n sb (j3 es (X EL) ec).ownBlock xb) (R (M w)) w3 v gs gc L0:=((PG.mono λb hb _=>⟨Bt,Bt,by have:=A2.2.1;omega,λe=>by have:=(aU ao.own e).1;have:=B2.size;omega⟩).down B2.size)
      have OF3:Off v (j3 gs (X L0) gc).ownBlock L0 xb:=⟨λe=>by have:=(PG.vq.lt e).2;have:=A2.2.1;omega,λe=>by have:=(aU PG.fq e).2;have:=A2.2.1;omega,λr hr e=>by have:=((PG.rows r hr).lt e).2;have:=A2.2.1;omega⟩
      clear PG;refine hK.out _ _ (xP.out _ B3) (λap=> ?_);clear hK K xp A2 B2;refine sm ?_;refine QO 10 ?_;refine QO 11 ?_;refine QO 12 ?_;exact Fz
  obtain⟨xb,v,gs,gc,L0,rfl,rfl,CP,B1⟩:=hcut;generalize wc=w1 at *;clear wc xP a0;go_wp2_with fail;go_call bg.out w1 xb v gs gc L0 B1 CP as e w2 ⟨rfl,⟨v',ad,ab,L',al⟩,xj⟩;have B2:=B1.trans xj;have zxb:=al.1;have A2:=al.2.1;have G2:=al.2.2.1;have am:=al.2.2.2.2;have S2:=bv.out.call B2;have a1:=ao;have bt:=ao.call B2;have bm:=S2.2.1;have bz:=B2.size;clear CP al xj B1 bg v gs gc L0;have xP:Hid (∀wx,bl w2 wx->wx.cell? ⟨sb,13,E⟩=G (U es (X EL) ec)/\(wx.cell? ⟨xb,0,E⟩=G (O d)/\wx.cell? ⟨xb,1,E⟩=G (U v'.rs (X v'.l) v'.rc)/\wx.cell? ⟨xb,2,E⟩=G (U ad (X L') ab))):=λwx hb=>⟨(S2.call hb).1 13 _ rfl,(A2.call hb).1 0 _ rfl,(A2.call hb).1 1 _ rfl,(A2.call hb).1 2 _ rfl⟩;go_upto_region 2 with fail
  have HD:=vp;refine XK [12] ac xP.out HD (λaf=> ?_);generalize w2.drew=w3 at *;refine QQ ?_;refine av (i:=8) rfl ac (λK hK=> ?_);go_simp;have ah:bl w2 (w3.alloc (A #[I Y g,O d,U v'.rs (X v'.l) v'.rc,U ad (X L') ab] 45)):=HD.alloc HD.size _;refine hK.out _ _ (xP.out _ ah) (λaf=> ?_);clear hK K;refine sm ?_;refine av (i:=9) rfl ac (λK hK=> ?_);have R4:=bt.call ah;have b0:L'.map roG=x'.fq:=by rw[<-am];rfl
  have b2:roG v'=x'.vq:=by rw[<-am];rfl
  have b4:x'.none=false:=by rw[<-am];rfl
  have b6:X x'.vq=X v'.l:=by rw[<-b2];simp[roG]
  have b7:X x'.fq=X L':=by rw[<-b0];simp
  have bc:Fl (λb=>n<=b/\b≠sb/\(j3 es (X EL) ec).ownBlock≠G b) (w3.alloc (A #[I Y g,O d,U v'.rs (X v'.l) v'.rc,U ad (X L') ab] 45)) ⟨g,x',v'.rs,v'.rc,ad,ab⟩:=by
    have W:=(G2.call ah).on d;rw[am] at W;have c1:=G2.vcap d;have c2:=G2.fcap' d;rw[am] at c1 c2;refine⟨W.mono λb hb _=> ?_,c1,c2⟩;rcases hb with hb|hb
    . exact⟨hb.1,hb.2.1,hb.2.2.2⟩
    . exact⟨aa,aa,λe=>by have:=(aU a1.own e).1;omega⟩
  refine fe _ rfl _ _ 41 rfl n 45 tk (Ag #[I Y 0,O d,U E 0 0,U E 0 0]) 4 64 underlying41 b1 be a4 bs rfl an _ _ _ rfl R4.own (G ⟨R (M w3),0,E⟩) 1 1 (dN ⟨g,x',v'.rs,v'.rc,ad,ab⟩) rfl rfl (λh=>bU) (a3k w3 ⟨g,x',v'.rs,v'.rc,ad,ab⟩ #[I Y g,O d,U v'.rs (X v'.l) v'.rc,U ad (X L') ab] _ (by simp only[dN,b4,b6,b7])) (rW _) cL aa IW ?_;intro a2 w5 ay Z a8;have R5:=R4.grown bc ay Z a8 IW;have bf:∀b,b < R (M w2)->(j3 es (X EL) ec).ownBlock≠G b->w5.heap[b]? =w2.heap[b]? :=λb hb a3=>by rw[Z.block b (by rw[zA];have:=HD.size;omega) (λe=>a3 e.symm)];exact ah.block b hb
  have az:n4 sb w2 w5:=(ah.mono (j7 bm)).grown Z IW (λk H=>by have:=(aU R4.own H).2;omega)
  obtain⟨ce,cb,rfl,-,-⟩:=R5.form;rw[show X (EL++[(⟨g,x',v'.rs,v'.rc,ad,ab⟩:Ed)])=X EL+1 by simp] at R5;have S5:=S2.same (bf sb bm a1.off) az.size;have X5:sT w5 xb [O d,U v'.rs (X v'.l) v'.rc,U ad (X L') ab]:=A2.same (bf xb A2.2.1 (λe=>by have:=(aU a1.own e).1;omega)) az.size
  refine hK.out _ _ ⟨S5.1 13 _ rfl,X5.1 0 _ rfl,X5.1 1 _ rfl,X5.1 2 _ rfl⟩ (λaf=> ?_);clear hK K ay Z a8 ah R4 bc;refine sm ?_;refine QN 10 ?_;refine QN 11 ?_;refine aM (i:=12) rfl ac ac (λK hK=> ?_);have ca:=S5.1 13 _ rfl;have cc:=S5.2.2 13;go_simp;refine hK.out _ _ ?_;clear hK K;refine sm ?_;refine aB ac ?_ _;first|go_end0|refine bodyPost_ret (results_none rfl _ _ _) rfl ?_
  refine⟨rfl,⟨_,⟨g,x',v'.rs,v'.rc,ad,ab⟩,S5.put 13 (by simp[bk]) _,R5.same (λb hb a3 _=>hSe _ _ _ _ a3) bI,rfl⟩,((B2.mono (j7 b3)).trans az).setCell (lR _) _⟩
def UJ:Sem.run f (callFunc 94 a) wx=.ok (.enter 94 a) wx:=ac
def a1v:type_of% (ig 94 #[] (λp=>#[p]) (λ_=>rfl) UJ n g x'):=ig 94 #[] (λp=>#[p]) (λ_=>rfl) UJ n g x'
def Nm:Sem.run f (callFunc 96 a) wx=.ok (.enter 96 a) wx:=ac
def Yc:type_of% (ig 96 #[] (λp=>#[p]) (λ_=>rfl) Nm n g x'):=ig 96 #[] (λp=>#[p]) (λ_=>rfl) Nm n g x'
def a8d.gu {w:C}{B:Nat}{r:Ro}(h:a8d w B r){b:Nat}(hb:r.rs=G ⟨b,0,E⟩){k:Nat}(H:k < X r.l):a7b w b (k * 7) r.l[k].g r.l[k].ss r.l[k].cap:=by
 obtain⟨a,e,z,_,i⟩:=dC;rw[hb] at e;cases e;have W:=Pk;have Z:∀j,j < 7->w.cell? ⟨b,k * 7+j,E⟩=(bJ r.l[k])[j]? :=λj Q=>by
  rw[<-gE r.l k H j Q];exact World.ownsRow.cellAt W _ aa
 exact⟨⟨Z 0 aa,Z 1 aa,Z 2 aa,Z 3 aa,Z 4 aa,Z 5 aa,Z 6 aa⟩,i⟩
def fQ {n:Bool}{v:Ro}{L:List Ro}{k:Nat}{y:Gc}:bh n ⟨v.rs,v.rc,v.l.set k y⟩ L=bq (bh n v L) (k:Int) y.g:=by simp[bh,roG,bq,j8]
def a1W {n t H:Nat}{z:Option Nat}{w0 w:C}{c:Nat}{v:Ro}{gs:oA}{D:Nat}{L:List Ro}{y:Gc}(h:a7c (λb=>n<=b/\b≠t/\z≠G b) w0 y.ss y.g.s)(W:X y.g.s<=y.cap)(l:y.cap<=maxLen)(a:R (M w0)<=H)(Z:bl w0 w)(g:a7e (ClT n t z c) H w v gs D L)(o:H<=c):cK (λb=>ClT n t z c b/\Off v (j3 gs (X L) D).ownBlock L b) w y:=by
 refine⟨((h.mono (S':=λb=>(n<=b/\b≠t/\z≠G b)/\b < R (M w0)) λb Z x=>⟨Z,x⟩).call Z).mono λb i _=>⟨⟨i.1.1,i.1.2.1,aa,i.1.2.2⟩,λe=> ?_,λe=> ?_,λr q e=> ?_⟩,W,l⟩
 .have:=(g.vq.lt e).2;omega
 .have:=(aU g.fq e).2;omega
 .have:=((g.rows r q).lt e).2;omega
def Ix(h:p:=by
 go_wp2;first|go_end0|refine bodyPost_ret (results_none rfl _ _ _) rfl ?_
 exact⟨rfl,⟨v,gs,gc,L,HP.out⟩,bR _ _⟩):=h
def a3W(z:Option Nat)(w:C)(x:Pic):i6 94 (λp=>#[p]) n t z w x x:=by
 intro g c v gs gc L Z o;have HP:=ag o;clear o Z;go_enter func94,ntmps94;exact Ix
def a2q(z:Option Nat)(w:C)(x:Pic):i6 96 (λp=>#[p]) n t z w x x:=by
 intro g c v gs gc L Z o;have HP:=ag o;clear o Z;go_enter func96,ntmps96;exact Ix
def a5h(z:Option Nat)(i:Ins)(V F:Int)(s:oA)(c:lI)(cap:Nat)(at_:Int)(x:Pic)(vs:oA)(vc:Nat)(fs:oA)(fc:Nat)(r:mh)(wr fl:Bool)(N pb:Nat)(g:Gs)(ss:oA)(D:Nat)(w:C)(hS:sT w t (bk i V F s c cap at_ x vs vc fs fc r wr fl))(u:sT w pb [Pp (sO ⟨t,0,E⟩)])(hG:sT w N [O g.n,O g.sp.n,I Y g.sp.lo,I Y g.sp.hi,O g.t,O g.f,U ss (X g.s) D])(hI:a7c (λb=>n<=b/\b≠t/\z≠sO b) w ss g.s)(W:X g.s<=D)(l:D<=maxLen)(H:∃k:Nat,i.tgt=k/\k < X x.vq):
  i6 162 (λp=>#[p,Pp (sO ⟨N,0,E⟩),Pp (sO ⟨pb,0,E⟩)]) n t z w x (bq x i.tgt g):=by
 intro wx xb v gs ax L ak o;obtain⟨am,A0,G0,OF,EX⟩:=o;have ah:=yj;have Z:=ak.drew;have A:=A0.call ah;have G:=G0.call ah;clear ak A0 G0 ah;obtain⟨k,ek,hkx⟩:=H;have al:k < X v.l:=AV;obtain⟨vb,ad,jC,ar,a1⟩:=G.vq.form aa;have GU:=G.vq.gu ad al;have GI:=a1W (y:=⟨g,ss,D⟩) hI W l (lR _) Z G am;have GZ:=G.setV ad al GI;have TH:=ag (G.vq.thaw ad);have a0:=uD;have n0:=bG;have n1:=vg;have A1:=A.1 1 _ rfl;rw[ad] at A1;have S1:=(hS.call Z).1 1 _ rfl;rw[ek] at S1;have P1:=(u.call Z).1 0 _ rfl;have G7:=hG.call Z;have az:Hid (wx.drew.cell? ⟨xb,1,E⟩=sO (U (sO ⟨vb,0,E⟩) (X v.l) v.rc)/\wx.drew.cell? ⟨pb,0,E⟩=sO (Pp (sO ⟨t,0,E⟩))/\wx.drew.cell? ⟨t,1,E⟩=sO (I Y (k:Int))/\(wx.drew.cell? ⟨N,0,E⟩=sO (O g.n)/\wx.drew.cell? ⟨N,1,E⟩=sO (O g.sp.n)/\wx.drew.cell? ⟨N,2,E⟩=sO (I Y g.sp.lo)/\wx.drew.cell? ⟨N,3,E⟩=sO (I Y g.sp.hi)/\wx.drew.cell? ⟨N,4,E⟩=sO (O g.t)/\wx.drew.cell? ⟨N,5,E⟩=sO (O g.f)/\wx.drew.cell? ⟨N,6,E⟩=sO (U ss (X g.s) D))):=⟨A1,P1,S1,G7.1 0 _ rfl,G7.1 1 _ rfl,G7.1 2 _ rfl,G7.1 3 _ rfl,G7.1 4 _ rfl,G7.1 5 _ rfl,G7.1 6 _ rfl⟩;have ab:Hid (∃v' ay ap L',rC n t z (R (M w)) (cR wx.drew vb k ⟨g,ss,D⟩) xb v' ay ap L' (bq x i.tgt g)):=by
  refine⟨⟨v.rs,v.rc,v.l.set k ⟨g,ss,D⟩⟩,gs,ax,L,am,?_,GZ,(Off.same (kO ae)).2 OF,?_⟩
  .simp only[x8]
   exact A.same (fw a0) mc
  .rw[fQ,EX,ek]
 have af:Hid (n4 (R (M w)) wx (cR wx.drew vb k ⟨g,ss,D⟩)):=fZ (bR _ _).drew ar;clear A1 S1 P1 G7 GI GZ A G OF EX ek hS u hG hI;unfold cR at ab af;go_enter func162,ntmps162;go_upto_region 0 with fail
 refine aC (S:=(λwx=>wx.cell? ⟨xb,1,E⟩=sO (U (sO ⟨vb,0,E⟩) (X v.l) v.rc)/\wx.cell? ⟨pb,0,E⟩=sO (Pp (sO ⟨t,0,E⟩))/\wx.cell? ⟨t,1,E⟩=sO (I Y (k:Int))/\(wx.cell? ⟨N,0,E⟩=sO (O g.n)/\wx.cell? ⟨N,1,E⟩=sO (O g.sp.n)/\wx.cell? ⟨N,2,E⟩=sO (I Y g.sp.lo)/\wx.cell? ⟨N,3,E⟩=sO (I Y g.sp.hi)/\wx.cell? ⟨N,4,E⟩=sO (O g.t)/\wx.cell? ⟨N,5,E⟩=sO (O g.f)/\wx.cell? ⟨N,6,E⟩=sO (U ss (X g.s) D)))) [11] ac az.out (λao=> ?_);generalize wx.drew=wq at *;refine QQ ?_;refine QV ?_;refine aM (i:=11) rfl ac ac (λK hK=> ?_);obtain⟨⟨q0,q1,q2,q3,q4,q5,q6⟩,qz⟩:=id GU;have f0:=TH.out (k * 7);have f1:=TH.out (k * 7+1);have f2:=TH.out (k * 7+2);have f3:=TH.out (k * 7+3);have f4:=TH.out (k * 7+4);have f5:=TH.out (k * 7+5);have f6:=TH.out (k * 7+6);go_simp;refine hK.out _ _ ?_;clear hK K q0 q1 q2 q3 q4 q5 q6 qz f0 f1 f2 f3 f4 f5 f6;refine sm ?_;refine aB ac ?_ _;go_wp2;first|go_end0|refine bodyPost_ret (results_none rfl _ _ _) rfl ?_
 exact⟨rfl,ab.out,af.out⟩
def a1g:Sem.run f (callFunc 162 a) wx=.ok (.enter 162 a) wx:=ac
def a2F:type_of% (ig 162 #[Pp (G ⟨N,0,E⟩),Pp (G ⟨pb,0,E⟩)] (λp=>#[p,Pp (G ⟨N,0,E⟩),Pp (G ⟨pb,0,E⟩)]) (λ_=>rfl) a1g n g x'):=ig 162 #[Pp (G ⟨N,0,E⟩),Pp (G ⟨pb,0,E⟩)] (λp=>#[p,Pp (G ⟨N,0,E⟩),Pp (G ⟨pb,0,E⟩)]) (λ_=>rfl) a1g n g x'
def a1c:Sem.run f (callFunc 153 a) wx=.ok (.enter 153 a) wx:=ac
def a3d:type_of% (ig 153 #[Pp (G ⟨pb,0,E⟩)] (λp=>#[p,Pp (G ⟨pb,0,E⟩)]) (λ_=>rfl) a1c n g x'):=ig 153 #[Pp (G ⟨pb,0,E⟩)] (λp=>#[p,Pp (G ⟨pb,0,E⟩)]) (λ_=>rfl) a1c n g x'
def a1y:Sem.run f (callFunc 155 a) wx=.ok (.enter 155 a) wx:=ac
def a1Q:type_of% (ig 155 #[Pp (G ⟨k,0,E⟩),Pp (G ⟨pb,0,E⟩)] (λp=>#[p,Pp (G ⟨k,0,E⟩),Pp (G ⟨pb,0,E⟩)]) (λ_=>rfl) a1y n g x'):=ig 155 #[Pp (G ⟨k,0,E⟩),Pp (G ⟨pb,0,E⟩)] (λp=>#[p,Pp (G ⟨k,0,E⟩),Pp (G ⟨pb,0,E⟩)]) (λ_=>rfl) a1y n g x'
def a1o:Sem.run f (callFunc 156 a) wx=.ok (.enter 156 a) wx:=ac
def a2k:type_of% (ig 156 #[Pp (G ⟨pb,0,E⟩)] (λp=>#[p,Pp (G ⟨pb,0,E⟩)]) (λ_=>rfl) a1o n g x'):=ig 156 #[Pp (G ⟨pb,0,E⟩)] (λp=>#[p,Pp (G ⟨pb,0,E⟩)]) (λ_=>rfl) a1o n g x'
def a3n:Sem.run f (callFunc 158 a) wx=.ok (.enter 158 a) wx:=ac
def a4H:type_of% (ig 158 #[Pp (G ⟨pb,0,E⟩)] (λp=>#[p,Pp (G ⟨pb,0,E⟩)]) (λ_=>rfl) a3n n g x'):=ig 158 #[Pp (G ⟨pb,0,E⟩)] (λp=>#[p,Pp (G ⟨pb,0,E⟩)]) (λ_=>rfl) a3n n g x'
def YE {s:Sp}:aS s ⟨d,0,0⟩=if s.has 0 then⟨d,0,0⟩ else⟨W5,0,0⟩:=by
 obtain⟨n,lo,hi⟩:=s;cases n with
 |true=>simp[aS,Sp.has]
 |false=>
  by_cases W:lo<=0
  .by_cases l:0<=hi
   .have K:min hi 0=0:=by omega
    have i:max lo 0=0:=aa;simp[aS,Sp.has,W,l,K,i]
   .have P:min hi 0 < max lo 0:=by omega
    simp[aS,Sp.has,l,P]
  .have P:min hi 0 < max lo 0:=by omega
   simp[aS,Sp.has,W,P]
def Lu {n:Bool}{v:Ro}{L:List Ro}{k:Nat}(H:k < X v.l):gAt (bh n v L) (k:Int)=v.l[k].g:=by
 unfold gAt bh roG;simp[List.getD,H]
def a5t(at_:Int)(x:Pic)(vs:oA)(vc:Nat)(fs:oA)(fc:Nat)(r:mh)(wr D:Bool)(pb:Nat)(w:C)(hS:sT w sb (bk i V F s c cap at_ x vs vc fs fc r wr D))(hP:sT w pb [Pp (sO ⟨sb,0,E⟩)])(ap:(gAt x i.a).sp.Ok)(H:∃k:Nat,i.a=k/\k < X x.vq):
  i6 156 (λp=>#[p,Pp (sO ⟨pb,0,E⟩)]) n sb eb w x (bq x i.a (bM (gAt x i.a))):=by
 intro wx xb v gs jD L xO o;obtain⟨a1,A0,G0,OF,EX⟩:=o;have zy:=yj;have Z:=xO.drew;have A:=A0.call zy;have G:=G0.call zy;have ar:=RI;have a4:Hid (R (M w)<=R (M wx)):=xO.size;clear xO A0 G0 zy;obtain⟨k,ek,hkx⟩:=H;have y:k < X v.l:=AV;have ak:gAt x i.a=v.l[k].g:=by rw[<-EX,ek,Lu y]
 obtain⟨vb,ab,jC,ad,a3⟩:=G.vq.form aa;have af:=uD;have n0:=bG;have n1:=vg;have A1:=A.1 1 _ rfl;rw[ab] at A1;have S1:=(hS.call Z).1 2 _ rfl;rw[ek] at S1;have P1:=(hP.call Z).1 0 _ rfl;have a2:=NT;have a0:Hid (v.l[k].g.sp.Ok):=by show _;rw[<-ak];exact ap
 clear A1 S1 P1 hS hP ap;go_enter func156,ntmps156;go_upto_region 0 with fail
 refine aC (S:=(λwx=>wx.cell? ⟨xb,1,E⟩=sO (U (sO ⟨vb,0,E⟩) (X v.l) v.rc)/\wx.cell? ⟨pb,0,E⟩=sO (Pp (sO ⟨sb,0,E⟩))/\wx.cell? ⟨sb,2,E⟩=sO (I Y (k:Int)))) [] ac a2.out (λax=> ?_);generalize wx.drew=wq at *;refine QQ ?_;refine QV ?_;refine aB ac ?_ _;have GU:=G.vq.gu ab y;obtain⟨⟨q0,q1,q2,q3,q4,q5,q6⟩,qz⟩:=id GU;go_wp2_with fail;go_call Fq v.l[k].g.sp wq a0.out as e w2 ⟨rfl,ah⟩;have h:=G.call ah;have A2:=A.call ah;have ao:=ar.trans (ah.mono (by have:=Z.size;omega))
 clear q0 q1 q2 q3 q4 q5 q6 qz GU G A ah ar;have GU:=h.vq.gu ab y;have TH:=ag (h.vq.thaw ab);obtain⟨⟨q0,q1,q2,q3,q4,q5,q6⟩,qz⟩:=id GU;have f0:=TH.out (k * 7);have f1:=TH.out (k * 7+1);have f2:=TH.out (k * 7+2);have f3:=TH.out (k * 7+3);have f5:=TH.out (k * 7+5);have nb:=ON;have gy:=h.sv _ (gM y);have h0:a7e (ClT n sb eb xb) (R (M w)) w2 ⟨v.rs,v.rc,v.l.set k v.l[k]⟩ gs jD L:=by rw[j9];exact h
 have W:=h.cellV ab y h0 (j:=0) (u:=O d) (z:=⟨⟨d,v.l[k].g.sp,v.l[k].g.t,v.l[k].g.f,v.l[k].g.s⟩,v.l[k].ss,v.l[k].cap⟩) aa bL gy;have l:=h.cellV ab y W (j:=5) (u:=O d) (z:=⟨⟨d,v.l[k].g.sp,v.l[k].g.t,d,v.l[k].g.s⟩,v.l[k].ss,v.l[k].cap⟩) aa bL (aQ gy nb);have N:=h.cellV ab y l (j:=1) (u:=O (cE v.l[k].g.sp).n) (z:=⟨⟨d,⟨(cE v.l[k].g.sp).n,v.l[k].g.sp.lo,v.l[k].g.sp.hi⟩,v.l[k].g.t,d,v.l[k].g.s⟩,v.l[k].ss,v.l[k].cap⟩) aa bL (aQ (aQ gy nb) nb);have K:=h.cellV ab y N (j:=2) (u:=I Y (cE v.l[k].g.sp).lo) (z:=⟨⟨d,⟨(cE v.l[k].g.sp).n,(cE v.l[k].g.sp).lo,v.l[k].g.sp.hi⟩,v.l[k].g.t,d,v.l[k].g.s⟩,v.l[k].ss,v.l[k].cap⟩) aa bL (aQ (aQ (aQ gy nb) nb) nb);have h5:=h.cellV ab y K (j:=3) (u:=I Y (cE v.l[k].g.sp).hi) (z:=⟨⟨d,⟨(cE v.l[k].g.sp).n,(cE v.l[k].g.sp).lo,(cE v.l[k].g.sp).hi⟩,v.l[k].g.t,d,v.l[k].g.s⟩,v.l[k].ss,v.l[k].cap⟩) aa bL (aQ (aQ (aQ (aQ gy nb) nb) nb) nb);have al:Hid (∃v' az ay L',rC n sb eb (R (M w)) (((((w2.setCell ⟨vb,k * 7,E⟩ (O d)).setCell ⟨vb,k * 7+5,E⟩ (O d)).setCell ⟨vb,k * 7+1,E⟩ (O (cE v.l[k].g.sp).n)).setCell ⟨vb,k * 7+2,E⟩ (I Y (cE v.l[k].g.sp).lo)).setCell ⟨vb,k * 7+3,E⟩ (I Y (cE v.l[k].g.sp).hi)) xb v' az ay L' (bq x i.a (bM (gAt x i.a)))):=by
  refine⟨⟨v.rs,v.rc,v.l.set k ⟨bM v.l[k].g,v.l[k].ss,v.l[k].cap⟩⟩,gs,jD,L,a1,?_,h5,(Off.same (kO ae)).2 OF,?_⟩
  .simp only[x8]
   exact((((A2.far af _).far af _).far af _).far af _).far af _
  .rw[fQ,EX,ek,<-ek,ak]
 have am:Hid (n4 (R (M w)) wx (((((w2.setCell ⟨vb,k * 7,E⟩ (O d)).setCell ⟨vb,k * 7+5,E⟩ (O d)).setCell ⟨vb,k * 7+1,E⟩ (O (cE v.l[k].g.sp).n)).setCell ⟨vb,k * 7+2,E⟩ (I Y (cE v.l[k].g.sp).lo)).setCell ⟨vb,k * 7+3,E⟩ (I Y (cE v.l[k].g.sp).hi))):=((((ao.setCell ad _).setCell ad _).setCell ad _).setCell ad _).setCell ad _;clear h0 W l N K h5 h gy nb A2 GU ao EX OF ak ek;go_wp2;first|go_end0|refine bodyPost_ret (results_none rfl _ _ _) rfl ?_
 exact⟨rfl,al.out,am.out⟩
def a6x(at_:Int)(x:Pic)(vs:oA)(vc:Nat)(fs:oA)(fc:Nat)(r:mh)(wr D:Bool)(pb:Nat)(w:C)(hS:sT w sb (bk i V F s c cap at_ x vs vc fs fc r wr D))(hP:sT w pb [Pp (sO ⟨sb,0,E⟩)])(ax:(gAt x i.a).sp.Ok)(H:∃k:Nat,i.a=k/\k < X x.vq):
  i6 158 (λp=>#[p,Pp (sO ⟨pb,0,E⟩)]) n sb eb w x (bq x i.a (cF (gAt x i.a))):=by
 intro wx xb v gs jD L xO o;obtain⟨a4,A0,G0,OF,EX⟩:=o;have zy:=yj;have Z:=xO.drew;have A:=A0.call zy;have G:=G0.call zy;have ay:=RI;have a2:Hid (R (M w)<=R (M wx)):=xO.size;clear xO A0 G0 zy;obtain⟨k,ek,hkx⟩:=H;have y:k < X v.l:=AV;have am:gAt x i.a=v.l[k].g:=by rw[<-EX,ek,Lu y]
 obtain⟨vb,ab,jC,af,a6⟩:=G.vq.form aa;have ah:=uD;have n0:=bG;have n1:=vg;have A1:=A.1 1 _ rfl;rw[ab] at A1;have S1:=(hS.call Z).1 2 _ rfl;rw[ek] at S1;have P1:=(hP.call Z).1 0 _ rfl;have a5:=NT;have a3:Hid (v.l[k].g.sp.Ok):=by show _;rw[<-am];exact ax
 clear A1 S1 P1 hS hP ax;go_enter func158,ntmps158;go_upto_region 0 with fail
 refine aC (S:=(λwx=>wx.cell? ⟨xb,1,E⟩=sO (U (sO ⟨vb,0,E⟩) (X v.l) v.rc)/\wx.cell? ⟨pb,0,E⟩=sO (Pp (sO ⟨sb,0,E⟩))/\wx.cell? ⟨sb,2,E⟩=sO (I Y (k:Int)))) [] ac a5.out (λaz=> ?_);generalize wx.drew=wq at *;refine QQ ?_;refine QV ?_;refine aB ac ?_ _;have h:=G;have GU:=h.vq.gu ab y;have TH:=ag (h.vq.thaw ab);obtain⟨⟨q0,q1,q2,q3,q4,q5,q6⟩,qz⟩:=id GU;have f4:=TH.out (k * 7+4);have f6:=TH.out (k * 7+6);have nb:=ON;have gy:=h.sv _ (gM y);have gn:cK (λq=>ClT n sb eb xb q/\Off v (j3 gs (X L) jD).ownBlock L q) wq (⟨⟨v.l[k].g.n,v.l[k].g.sp,d,v.l[k].g.f,[]⟩,E,0⟩:Gc):=⟨.inl rfl,lR _,j4 _⟩;have t:a7e (ClT n sb eb xb) (R (M w)) wq ⟨v.rs,v.rc,v.l.set k v.l[k]⟩ gs jD L:=by rw[j9];exact h
 have W:=h.cellV ab y t (j:=4) (u:=O d) (z:=⟨⟨v.l[k].g.n,v.l[k].g.sp,d,v.l[k].g.f,v.l[k].g.s⟩,v.l[k].ss,v.l[k].cap⟩) aa bL gy;have l:=h.cellV ab y W (j:=6) (u:=U E 0 0) (z:=⟨⟨v.l[k].g.n,v.l[k].g.sp,d,v.l[k].g.f,[]⟩,E,0⟩) aa bL (aQ gn nb);have ad:n4 (R (M w)) wx ((wq.setCell ⟨vb,k * 7+4,E⟩ (O d)).setCell ⟨vb,k * 7+6,E⟩ (U E 0 0)):=(ay.setCell af _).setCell af _;have A2:=(A.far ah (O d) (a:=⟨vb,k * 7+4,E⟩)).far ah (U E 0 0) (a:=⟨vb,k * 7+6,E⟩);clear GU ay gy gn W t A G;have HH:=ag (And.intro l (And.intro ad A2));clear l ad A2;go_upto_region 2 with fail
 generalize eW:((wq.setCell _ _).setCell _ _)=w1 at *;obtain⟨l,ad,A2⟩:=HH.out;clear q0 q1 q2 q3 q4 q5 q6 qz TH f4 f6 HH eW;have GU:=l.vq.gu (b:=vb) ab (k:=k) (by simpa using y);simp only[J5] at GU;obtain⟨⟨q0,q1,q2,q3,q4,q5,q6⟩,qz⟩:=id GU;go_wp2_with fail;go_call nR v.l[k].g.sp ⟨d,0,0⟩ w1 as e w2 ⟨rfl,ak⟩;have ar:bO v.l[k].g.sp ⟨d,0,0⟩=0:=ckSps_ok.2 ⟨a3.out,by simp[Sp.Ok,bA]⟩;rw[ar];have N:=l.call ak;have A3:=A2.call ak;have al:=ad.trans (ak.mono (lT a2.out ad.size));clear q0 q1 q2 q3 q4 q5 q6 qz GU A2 ak ad l ar;have GU:=N.vq.gu (b:=vb) ab (k:=k) (by simpa using y);simp only[J5] at GU;have TH:=ag (N.vq.thaw (b:=vb) ab);obtain⟨⟨q0,q1,q2,q3,q4,q5,q6⟩,qz⟩:=id GU;have f1:=TH.out (k * 7+1);have f2:=TH.out (k * 7+2);have f3:=TH.out (k * 7+3);have gm:cK (λq=>ClT n sb eb xb q/\Off v (j3 gs (X L) jD).ownBlock L q) w2 (⟨⟨v.l[k].g.n,v.l[k].g.sp,d,v.l[k].g.f,[]⟩,E,0⟩:Gc):=⟨.inl rfl,lR _,j4 _⟩;have K:=h.cellV ab y N (j:=1) (u:=O (aS v.l[k].g.sp ⟨d,0,0⟩).n) (z:=⟨⟨v.l[k].g.n,⟨(aS v.l[k].g.sp ⟨d,0,0⟩).n,v.l[k].g.sp.lo,v.l[k].g.sp.hi⟩,d,v.l[k].g.f,[]⟩,E,0⟩) aa bL gm;have h5:=h.cellV ab y K (j:=2) (u:=I Y (aS v.l[k].g.sp ⟨d,0,0⟩).lo) (z:=⟨⟨v.l[k].g.n,⟨(aS v.l[k].g.sp ⟨d,0,0⟩).n,(aS v.l[k].g.sp ⟨d,0,0⟩).lo,v.l[k].g.sp.hi⟩,d,v.l[k].g.f,[]⟩,E,0⟩) aa bL (aQ gm nb);have h6:=h.cellV ab y h5 (j:=3) (u:=I Y (aS v.l[k].g.sp ⟨d,0,0⟩).hi) (z:=⟨⟨v.l[k].g.n,⟨(aS v.l[k].g.sp ⟨d,0,0⟩).n,(aS v.l[k].g.sp ⟨d,0,0⟩).lo,(aS v.l[k].g.sp ⟨d,0,0⟩).hi⟩,d,v.l[k].g.f,[]⟩,E,0⟩) aa bL (aQ (aQ gm nb) nb);have ao:Hid (∃v' a1 a0 L',rC n sb eb (R (M w)) (((w2.setCell ⟨vb,k * 7+1,E⟩ (O (aS v.l[k].g.sp ⟨d,0,0⟩).n)).setCell ⟨vb,k * 7+2,E⟩ (I Y (aS v.l[k].g.sp ⟨d,0,0⟩).lo)).setCell ⟨vb,k * 7+3,E⟩ (I Y (aS v.l[k].g.sp ⟨d,0,0⟩).hi)) xb v' a1 a0 L' (bq x i.a (cF (gAt x i.a)))):=by
  refine⟨⟨v.rs,v.rc,v.l.set k ⟨cF v.l[k].g,E,0⟩⟩,gs,jD,L,a4,?_,?_,(Off.same (kO ae)).2 OF,?_⟩
  .simp only[x8]
   exact((A3.far ah _).far ah _).far ah _
  .have e:cF v.l[k].g=⟨v.l[k].g.n,(aS v.l[k].g.sp ⟨d,0,0⟩),d,v.l[k].g.f,[]⟩:=by rw[YE];rfl
   rw[e];exact h6
  .rw[fQ,EX,ek,<-ek,am]
 have ap:Hid (n4 (R (M w)) wx (((w2.setCell ⟨vb,k * 7+1,E⟩ (O (aS v.l[k].g.sp ⟨d,0,0⟩).n)).setCell ⟨vb,k * 7+2,E⟩ (I Y (aS v.l[k].g.sp ⟨d,0,0⟩).lo)).setCell ⟨vb,k * 7+3,E⟩ (I Y (aS v.l[k].g.sp ⟨d,0,0⟩).hi))):=((al.setCell af _).setCell af _).setCell af _;clear N K h5 h6 h gm nb A3 GU al EX OF am ek;go_wp2;first|go_end0|refine bodyPost_ret (results_none rfl _ _ _) rfl ?_
 exact⟨rfl,ao.out,ap.out⟩
def dj (sb:Nat)(w:World)(cs:Value->List Value)(EL:List Ed)(l:List Edg):Prop:=∃ev QL,sT w sb (cs ev)/\a7t sb sb w ev (EL++QL)/\QL.map edG=l
def a7l.spA {V F:Int}{c:lI}{x:Pic}{vc fc:Nat}{i:Ins}{at_:Int}(K:a7l V F c x vc fc i at_)(a:nA i.k=W5):(gAt x i.a).sp.Ok:=by
 obtain⟨k,e,H⟩:=K.varA a;rw[e,la H];exact(ckGs_iff.1 (K.kx.gv _ (gM H))).1
def H9(h:p:=by
 go_wp2_with fail;refine(HE.out w2 hbw hP2).mono ?_;rintro e w3 ⟨rfl,⟨zx,q,C3,E3,jV⟩,xp⟩;have HF:Hid (dj sb w3 (λzx=>bk i V F s c cap at_ x vs vc fs fc zx wr fl) EL [⟨ta,xx⟩]):=⟨zx,[q],C3,E3,by simp[jV]⟩;have hbz:Below sb w w3:=(hbw.mono (Nat.le_of_lt hsb)).trans xp;clear C3 E3 jV xp hP2 p0 HE HN;go_wp2;first|go_end0|refine bodyPost_ret (results_none rfl _ _ _) rfl ?_
 exact⟨rfl,HF.out,hbz⟩):=h
def Gr(h:p:=by
 go_wp2;first|go_end0|refine bodyPost_ret (results_none rfl _ _ _) rfl ?_
 exact⟨rfl,⟨_,[],HN.out.1.call hbw,by rw[List.append_nil];exact HN.out.2.call hbw,rfl⟩,hbw.mono (Nat.le_of_lt hsb)⟩):=h
def Ic(at_:Int)(x:Pic)(vs:oA)(vc:Nat)(fs:oA)(fc:Nat)(wr fl:Bool)(w0 w:C)(hS:sT w sb (bk i V F s c cap at_ x vs vc fs fc (U es (X EL) ec) wr fl))(zZ:a2r w0 s c)(zL:a4r w0 x vs fs)(t:R (M w0)<=sb)(zv:bl w0 w)(K:a7l V F c x vc fc i at_)(hER:a7t sb sb w (U es (X EL) ec) EL)(y:X EL<=10)(hA:nA i.k=W5):
  Calls f 90 #[Pp (G ⟨sb,0,E⟩),I Y ta] w λe w'=>e=Rt (Tu #[])/\dj sb w' (λzx=>bk i V F s c cap at_ x vs vc fs fc zx wr fl) EL (if cM (gAt x i.a) then [⟨ta,bq x i.a (bM (gAt x i.a))⟩] else [])/\n4 sb w w':=by
 have hsb:=hS.2.1;have g:=tM;have k:=tO;have S:=Ox;have HE:=ag λwx (hb:bl w wx) (o:sT wx (R (M w)) [Pp (G ⟨sb,0,E⟩)])=>a2k sb ta _ (R (M w)) EL es ec sb i V F s c cap at_ x vs vc fs fc wr fl w0 wx (hS.call hb) zZ zL t (zv.trans (hb.mono zv.size)) K rfl (hER.call hb) y (a5t sb sb _ i V F s c _ _ x vs vc fs fc _ wr fl _ wx (hS.call hb) o (K.spA hA) (K.varA hA))
 have HN:=Pa;clear hS hER zZ zL zv K t;generalize hy:cM (gAt x i.a)=yy at *;generalize hn:dp (gAt x i.a)=nn at *;clear hy hn;generalize hpic:bq x i.a (bM (gAt x i.a))=xx at *;clear hpic;go_enter func90,ntmps90;go_wp2_with fail;go_call S.out _ g as e w2 ⟨rfl,a⟩;have hP2:=k.call a;have hbw:=g.trans (a.mono g.size);have p0:=hP2.1 0 _ rfl;clear k a g S;cases yy with
 |false=>
  exact Gr
 |true=>
  exact H9
def Ts(at_:Int)(x:Pic)(vs:oA)(vc:Nat)(fs:oA)(fc:Nat)(wr fl:Bool)(w0 w:C)(hS:sT w sb (bk i V F s c cap at_ x vs vc fs fc (U es (X EL) ec) wr fl))(zZ:a2r w0 s c)(zL:a4r w0 x vs fs)(t:R (M w0)<=sb)(zv:bl w0 w)(K:a7l V F c x vc fc i at_)(hER:a7t sb sb w (U es (X EL) ec) EL)(y:X EL<=10)(hA:nA i.k=W5):
  Calls f 91 #[Pp (G ⟨sb,0,E⟩),I Y ta] w λe w'=>e=Rt (Tu #[])/\dj sb w' (λzx=>bk i V F s c cap at_ x vs vc fs fc zx wr fl) EL (if dp (gAt x i.a) then [⟨ta,bq x i.a (cF (gAt x i.a))⟩] else [])/\n4 sb w w':=by
 have hsb:=hS.2.1;have g:=tM;have k:=tO;have S:=Ox;have HE:=ag λwx (hb:bl w wx) (o:sT wx (R (M w)) [Pp (G ⟨sb,0,E⟩)])=>a4H sb ta _ (R (M w)) EL es ec sb i V F s c cap at_ x vs vc fs fc wr fl w0 wx (hS.call hb) zZ zL t (zv.trans (hb.mono zv.size)) K rfl (hER.call hb) y (a6x sb sb _ i V F s c _ _ x vs vc fs fc _ wr fl _ wx (hS.call hb) o (K.spA hA) (K.varA hA))
 have HN:=Pa;clear hS hER zZ zL zv K t;generalize hy:cM (gAt x i.a)=yy at *;generalize hn:dp (gAt x i.a)=nn at *;clear hy hn;generalize hpic:bq x i.a (cF (gAt x i.a))=xx at *;clear hpic;go_enter func91,ntmps91;go_wp2_with fail;go_call S.out _ g as e w2 ⟨rfl,a⟩;have hP2:=k.call a;have hbw:=g.trans (a.mono g.size);have p0:=hP2.1 0 _ rfl;clear k a g S;cases nn with
 |false=>
  exact Gr
 |true=>
  exact H9
def a2z (g:Gs):dX g a4q=aq g:=by
 obtain⟨n,⟨c,lo,hi⟩,t,f,s⟩:=g;cases s with
 |nil=>cases n<;>cases c<;>cases t<;>cases f<;>simp[dX,a4q,aq,aT,gP,Sp.has]
 |cons a r=>cases n<;>cases c<;>cases t<;>cases f<;>simp[dX,a4q,aq,aT,gP,Sp.has]
def a3V (g:Gs)(ss:oA)(D:Nat)(EL:List Ed)(es:oA)(n:Nat)(sb:Nat)(i:Ins)(V F:Int)(s:oA)(c:lI)(cap:Nat)(at_:Int)(x:Pic)(vs:oA)(vc:Nat)(fs:oA)(fc:Nat)(wr fl:Bool)(w0 w:C)(hS:sT w sb (bk i V F s c cap at_ x vs vc fs fc (U es (X EL) n) wr fl))(N:a2r w0 s c)(z:a4r w0 x vs fs)(t:R (M w0)<=sb)(k:bl w0 w)(K:a7l V F c x vc fc i at_)(H:a7t sb sb w (U es (X EL) n) EL)(y:X EL<=10)(hI:a7c (λb=>sb<=b/\b≠sb/\(j3 es (X EL) n).ownBlock≠G b) w ss g.s)(W:X g.s<=D)(l:D<=maxLen)(u:aH c g=0)(hT:nTo i.k=W5):
  Calls f 97 #[Pp (G ⟨sb,0,E⟩),Ag #[O g.n,O g.sp.n,I Y g.sp.lo,I Y g.sp.hi,O g.t,O g.f,U ss (X g.s) D]] w λe w'=>e=Rt (Tu #[])/\dj sb w' (λzx=>bk i V F s c cap at_ x vs vc fs fc zx wr fl) EL (if aq g then [] else [⟨at_+1,bq x i.tgt g⟩])/\n4 sb w w':=by
 have az:=hS.2.1;have a3:=K.a0;have a1:=ns;have ad:n4 (R (M w)) w ((w.alloc (A #[Pp (G ⟨sb,0,E⟩)] 150)).alloc (A #[O g.n,O g.sp.n,I Y g.sp.lo,I Y g.sp.hi,O g.t,O g.f,U ss (X g.s) D] 91)).drew:=(show n4 (R (M w)) w ((w.alloc (A #[Pp (G ⟨sb,0,E⟩)] 150)).alloc (A #[O g.n,O g.sp.n,I Y g.sp.lo,I Y g.sp.hi,O g.t,O g.f,U ss (X g.s) D] 91)) by go_grown).drew;have ak:sT ((w.alloc (A #[Pp (G ⟨sb,0,E⟩)] 150)).alloc (A #[O g.n,O g.sp.n,I Y g.sp.lo,I Y g.sp.hi,O g.t,O g.f,U ss (X g.s) D] 91)).drew (R (M w)) [Pp (G ⟨sb,0,E⟩)]:=((sT.new w 150 [Pp (G ⟨sb,0,E⟩)]).call ai).call (bR _ _).drew;have af:sT ((w.alloc (A #[Pp (G ⟨sb,0,E⟩)] 150)).alloc (A #[O g.n,O g.sp.n,I Y g.sp.lo,I Y g.sp.hi,O g.t,O g.f,U ss (X g.s) D] 91)).drew (R (M w)+1) [O g.n,O g.sp.n,I Y g.sp.lo,I Y g.sp.hi,O g.t,O g.f,U ss (X g.s) D]:=by
  have h:=(sT.new (w.alloc (A #[Pp (G ⟨sb,0,E⟩)] 150)) 91 [O g.n,O g.sp.n,I Y g.sp.lo,I Y g.sp.hi,O g.t,O g.f,U ss (X g.s) D]).call (bR _ _).drew;rw[zA] at h;exact h
 have ao:Hid (∀wx,bl w wx->Calls f 161 #[pv V F s c cap,gv g ss D,gv a4q E 0] wx λe w'=>e=Rt (Tu #[O (aq g),I Y 0])/\bl wx w'):=λwx Z=>by
  rw[<-a2z];exact Hi V F s c _ g ss D _ E 0 wx (N.below (k.trans (Z.mono k.size)) (lR _)) (hI.at.call Z) W l (.inl rfl) (lR _) (j4 _) (K.duo u rfl)
 have HE:=ag λwx (Z:bl w wx) (o:sT wx (R (M w)) [Pp (G ⟨sb,0,E⟩)]) (hq:sT wx (R (M w)+1) [O g.n,O g.sp.n,I Y g.sp.lo,I Y g.sp.hi,O g.t,O g.f,U ss (X g.s) D])=>a2F sb (at_+1) _ (R (M w)+1) (R (M w)) EL es n sb i V F s c cap at_ x vs vc fs fc wr fl w0 wx (hS.call Z) N z t (k.trans (Z.mono k.size)) K rfl (H.call Z) y (a5h sb sb _ i V F s c _ _ x vs vc fs fc _ wr fl _ _ g ss D wx (hS.call Z) o hq ((hI.call Z)) W l (K.varTo hT))
 have HN:Hid (∀wx,bl w wx->sT wx sb (bk i V F s c cap at_ x vs vc fs fc (U es (X EL) n) wr fl)/\a7t sb sb wx (U es (X EL) n) EL):=λwx Z=>⟨hS.call Z,H.call Z⟩;clear H N z k K t hI u hT;generalize ePB:R (M w)=pb at ak af HE ad |-;generalize eGB:pb+1=gb at af HE |-;have am:Hid (∀wx,n4 pb w wx->sT wx pb [Pp (G ⟨sb,0,E⟩)]->sT wx gb [O g.n,O g.sp.n,I Y g.sp.lo,I Y g.sp.hi,O g.t,O g.f,U ss (X g.s) D]->wx.cell? ⟨pb,0,E⟩=G (Pp (G ⟨sb,0,E⟩))/\(wx.cell? ⟨sb,6,E⟩=G (I Y V)/\wx.cell? ⟨sb,7,E⟩=G (I Y F)/\wx.cell? ⟨sb,8,E⟩=G (U s (X c) cap))/\(wx.cell? ⟨gb,0,E⟩=G (O g.n)/\wx.cell? ⟨gb,1,E⟩=G (O g.sp.n)/\wx.cell? ⟨gb,2,E⟩=G (I Y g.sp.lo)/\wx.cell? ⟨gb,3,E⟩=G (I Y g.sp.hi)/\wx.cell? ⟨gb,4,E⟩=G (O g.t)/\wx.cell? ⟨gb,5,E⟩=G (O g.f)/\wx.cell? ⟨gb,6,E⟩=G (U ss (X g.s) D))):=λwx Z o hq=>by
  rw[<-ePB] at Z;have h:=hS.call Z;exact⟨o.1 0 _ rfl,⟨h.1 6 _ rfl,h.1 7 _ rfl,h.1 8 _ rfl⟩,⟨hq.1 0 _ rfl,hq.1 1 _ rfl,hq.1 2 _ rfl,hq.1 3 _ rfl,hq.1 4 _ rfl,hq.1 5 _ rfl,hq.1 6 _ rfl⟩⟩
 clear hS;subst eGB;subst ePB;generalize ex:bq x i.tgt g=xx at *;generalize ey:aq g=yy at *;clear ex ey;go_enter func97,ntmps97;go_upto_region 1 with fail
 refine aC (S:=(λwx=>wx.cell? ⟨R (M w),0,E⟩=G (Pp (G ⟨sb,0,E⟩))/\(wx.cell? ⟨sb,6,E⟩=G (I Y V)/\wx.cell? ⟨sb,7,E⟩=G (I Y F)/\wx.cell? ⟨sb,8,E⟩=G (U s (X c) cap))/\(wx.cell? ⟨R (M w)+1,0,E⟩=G (O g.n)/\wx.cell? ⟨R (M w)+1,1,E⟩=G (O g.sp.n)/\wx.cell? ⟨R (M w)+1,2,E⟩=G (I Y g.sp.lo)/\wx.cell? ⟨R (M w)+1,3,E⟩=G (I Y g.sp.hi)/\wx.cell? ⟨R (M w)+1,4,E⟩=G (O g.t)/\wx.cell? ⟨R (M w)+1,5,E⟩=G (O g.f)/\wx.cell? ⟨R (M w)+1,6,E⟩=G (U ss (X g.s) D)))) [] ac (am.out _ ad ak af) (λr=> ?_);generalize ((w.alloc _).alloc _).drew=w1 at *;refine QU ?_;refine QN 5 ?_;refine QN 6 ?_;refine av (i:=7) rfl ac (λK hK=> ?_);go_simp;go_call ao.out w1 ad as e w2 ⟨rfl,ah⟩;have ab:=ad.trans (ah.mono ad.size);have ap:=ak.call ah;have ar:=af.call ah;refine hK.out _ _ (am.out w2 ab ap ar) (λr=> ?_);clear hK K ad ah ak af;refine sm ?_;refine QV ?_;refine QN 11 ?_;refine QN 12 ?_;refine aB ac ?_ _;cases yy with
 |true=>
  have HF:Hid (dj sb w2 (λzx=>bk i V F s c cap at_ x vs vc fs fc zx wr fl) EL []):=⟨_,[],(HN.out w2 ab).1,by rw[J6];exact(HN.out w2 ab).2,rfl⟩;clear HE am ao;go_wp2;first|go_end0|refine bodyPost_ret (results_none rfl _ _ _) rfl ?_
  exact⟨rfl,HF.out,ab.mono (j7 az)⟩
 |false=>
  have al:=ab.drew;have ax:=ap.call (bR _ _).drew;have a0:=ar.call (bR _ _).drew;have PQ:=ax.1 0 _ rfl;have CQ:=(HN.out _ al).1;clear HN am ao ap ar ab;go_upto_region 3 with fail
  refine aC (S:=(λwx=>wx.cell? ⟨R (M w),0,E⟩=G (Pp (G ⟨sb,0,E⟩)))) [4] ac PQ (λr=> ?_);generalize w2.drew=wq at *;refine XJ ?_;refine av (i:=2) rfl ac (λK hK=> ?_);go_simp;go_call nc sb at_ _ wq CQ rfl a3 a1 as e w' ⟨rfl,ew⟩;rw[ew];clear ew w';refine hK.out _ _ PQ (λr=> ?_);clear hK K;refine sm ?_;refine aM (i:=4) rfl ac ac (λK hK=> ?_);go_simp;go_call HE.out wq al ax a0 as e w3 ⟨rfl,⟨zx,q,C3,E3,jV⟩,ay⟩;have HF:=NC;have a2:=(al.mono (j7 az)).trans ay;clear C3 E3 jV ay ax a0 HE PQ CQ al;refine hK.out _ _ ?_;clear hK K;refine sm ?_;refine aB ac ?_ _;first|go_end0|refine bodyPost_ret (results_none rfl _ _ _) rfl ?_
  exact⟨rfl,HF.out,a2⟩
def RC(n:Nat)(sb:Nat)(i:Ins)(V F:Int)(s:oA)(c:lI)(cap:Nat)(at_:Int)(x:Pic)(vs:oA)(vc:Nat)(fs:oA)(fc:Nat)(wr fl:Bool)(w0 w:C)(hS:sT w sb (bk i V F s c cap at_ x vs vc fs fc (U W (X EL) n) wr fl))(N:a2r w0 s c)(z:a4r w0 x vs fs)(t:R (M w0)<=sb)(k:bl w0 w)(K:a7l V F c x vc fc i at_)(H:a7t sb sb w (U W (X EL) n) EL)(y:X EL<=10)(g:∀wx,bl w wx->sT wx sb (bk i V F s c cap at_ x vs vc fs fc (U W (X EL) n) wr fl)->sT wx (R (M w)) [Pp (G ⟨sb,0,E⟩)]->i6 153 (λp=>#[p,Pp (G ⟨R (M w),0,E⟩)]) sb sb (j3 W (X EL) n).ownBlock wx x x'):
  Calls f 88 #[Pp (G ⟨sb,0,E⟩)] w λe w'=>e=Rt (Tu #[])/\dj sb w' (λzx=>bk i V F s c cap at_ x vs vc fs fc zx wr fl) EL ([⟨at_+1,x'⟩])/\n4 sb w w':=by
 have l:=hS.2.1;have ao:=K.a0;have ak:=ns;have ah:=tM;have af:=tO;have u:=ah.drew;have ab:=af.call (bR _ _).drew;have PQ:=ab.1 0 _ rfl;have am:=PQ;have HE:=ag λwx (Z:bl w wx) (o:sT wx (R (M w)) [Pp (G ⟨sb,0,E⟩)])=>a3d sb (at_+1) _ (R (M w)) EL W n sb i V F s c cap at_ x vs vc fs fc wr fl w0 wx (hS.call Z) N z t (k.trans (Z.mono k.size)) K rfl (H.call Z) y (g wx Z (hS.call Z) o)
 have CQ:=hS.call u;clear hS H N z k K t af ah g;generalize x'=xx at *;go_enter func88,ntmps88;go_upto_region 1 with fail
 refine aC (S:=(λwx=>wx.cell? ⟨R (M w),0,E⟩=G (Pp (G ⟨sb,0,E⟩)))) [4] ac am (λr=> ?_);generalize (w.alloc _).drew=wq at *;refine XJ ?_;refine av (i:=2) rfl ac (λK D=> ?_);go_simp;go_call nc sb at_ _ wq CQ rfl ao ak as e w' ⟨rfl,ew⟩;rw[ew];clear ew w';refine D.out _ _ PQ (λr=> ?_);clear D K;refine sm ?_;refine aM (i:=4) rfl ac ac (λK D=> ?_);go_simp;go_call HE.out wq u ab as e w3 ⟨rfl,⟨zx,q,C3,E3,jV⟩,ad⟩;have HF:=NC;have al:=(u.mono (j7 l)).trans ad;clear C3 E3 jV ad ab HE PQ CQ u;refine D.out _ _ ?_;clear D K;refine sm ?_;refine aB ac ?_ _;first|go_end0|refine bodyPost_ret (results_none rfl _ _ _) rfl ?_
 exact⟨rfl,HF.out,al⟩
end
section
open Go.RowKit
def Dm (y:Gc):Gc:=⟨{y.g with n:=true},y.ss,y.cap⟩
def li (j:Nat)(l:List Gc):List Gc:=(l.take j).map Dm++l.drop j
def kj (j:Nat)(l:List Gc):X (li j l)=X l:=by simp[li];omega
def a2g {j:Nat}{l:List Gc}(h:j < X l):(li j l)[j]'(by rw[kj];exact h)=l[j]:=by
 simp only[li];rw[List.getElem_append_right au];simp only[J3,x5,List.getElem_drop];congr 1;omega
def a0x {j:Nat}{l:List Gc}(h:j < X l):(li j l).set j (Dm l[j])=li (j+1) l:=by
 unfold li;rw[List.set_append_right _ _ au,J7 h,x6,List.append_assoc,List.drop_eq_getElem_cons h];have e:j - X (j5 Dm (l.take j))=0:=au;rw[e];rfl
def a1K {j:Nat}{l:List Gc}(h:X l<=j):li j l=l.map Dm:=by simp[li,z9 h,List.drop_of_length_le h]
def a0F (l:List Gc):li 0 l=l:=by simp[li]
def dh (L:List Ro)(m j:Nat)(hm:m < X L):List Ro:=L.set m ⟨L[m].rs,L[m].rc,li j L[m].l⟩
def iQ(j:Nat)(N:m < X L):X (dh L m j N)=X L:=by simp[dh]
def ri(j:Nat)(N:m < X L):(dh L m j N)[m]'(by rw[iQ];exact N)=⟨L[m].rs,L[m].rc,li j L[m].l⟩:=by simp[dh]
def Lp(N:m < X L):dh L m 0 N=L:=by
 unfold dh;rw[a0F];exact j9 N
def Rb(j:Nat)(N:m < X L):roV ((dh L m j N)[m]'(by rw[iQ];exact N))=U L[m].rs (X L[m].l) L[m].rc:=by rw[ri];unfold roV;rw[kj]
def a2R(j:Nat)(hm:m < X L):(dh L m j hm).map roB=L.map roB:=by
 unfold dh;rw[j8,kO (v:=L[m]) (kj _ _),<-x9 (f:=roB) (h:=mR),j9]
section
variable {T:Nat->Prop} {B:Nat} {w:World} {v:Ro} {fs:oA} {fc:Nat} {L:List Ro} {m j b:Nat}
def a7e.nul {N:m < X L}(h:a7e T B w v fs fc (dh L m j N))(Z:L[m].rs=G ⟨b,0,E⟩)(Q:j < X L[m].l):a7e T B (w.setCell ⟨b,j * 7,E⟩ (O W5)) v fs fc (dh L m (j+1) N):=by
 have g:m < X (dh L m j N):=by rw[iQ];exact N
 have c:=ri L m j N;have H:j < X (dh L m j N)[m].l:=by rw[c];simpa[kj] using Q
 have K:(dh L m j N)[m].l[j]=L[m].l[j]:=by
  have:∀(r:Ro) (q:(dh L m j N)[m]=r) (e:j < X r.l),(dh L m j N)[m].l[j]=r.l[j]:=by intro r q e;subst q;rfl
  rw[this _ c (by simpa[kj] using Q)];exact a2g Q
 have a:=h.sf _ (gM g) _ (gM H);rw[K] at a;have W:=h.putF g (b:=b) (by rw[c];exact Z) (k:=j) (j:=0) (u:=O W5) (x':=Dm L[m].l[j]) H aa (by rw[K];rfl) ⟨a.1,a.2⟩;rw[c] at W;have i:(dh L m j N).set m ⟨L[m].rs,L[m].rc,(li j L[m].l).set j (Dm L[m].l[j])⟩=dh L m (j+1) N:=by
  rw[a0x Q];unfold dh;rw[List.set_set]
 rw[i] at W;exact W
def nulR_off {N:m < X L}{P:Option Nat}{q:Nat}:Off v P (dh L m j N) q↔Off v P L q:=by
 have:(∀r∈dh L m j N,roB r≠G q)↔∀r∈L,roB r≠G q:=by
  have W:=M8;rw[W,W,a2R]
 unfold Off;rw[this]
def ML {N:m < X L}{n:Bool}(Q:X L[m].l<=j):bh n v (dh L m j N)=iW (m:Int) (bh n v L):=by
 unfold dh bh iW;rw[a1K Q];simp only[j8,roG,Int.toNat_natCast,List.map_map];congr 1;refine J8 λq=> ?_;rw[J9,Q0];by_cases e:m=q
 .subst e
  simp[N,roG,Dm,Function.comp_def]
 .simp[e]
end
def oN {c:lI}{g h:Gs}(t:X c<=60)(u:aH c g=0)(i:aH c h=0):dy bw g h=aj d g h:=by
 have a:=dY t u;have b:=dY t i;have e:=oV g h a.1 b.1;unfold dy aj;rw[e];rfl
def CG{n:Int}{b:Gs}{l:List Int}{j:Nat}(h:j < X l):dW x n b (l.take (j+1))=Al (dW x n b (l.take j)) l[j] n (aj d (fAt (dW x n b (l.take j)) l[j] n) b):=by
 unfold dW;rw[J7 h,List.foldl_append];rfl
def Gh {n:Bool}{v:Ro}{L:List Ro}{m p:Nat}{z:Gc}(N:m < X L):bh n v (L.set m ⟨L[m].rs,L[m].rc,L[m].l.set p z⟩)=Al (bh n v L) (m:Int) (p:Int) z.g:=by
 unfold bh Al;simp only[j8,Int.toNat_natCast];congr 1;refine J8 λq=> ?_;rw[J9,Q0];by_cases e:m=q
 .subst e
  simp[N,roG,j8]
 .simp[e]
def rF {n:Bool}{v:Ro}{L:List Ro}{m p:Nat}(N:m < X L)(o:p < X L[m].l):fAt (bh n v L) (m:Int) (p:Int)=L[m].l[p].g:=by
 unfold fAt bh roG;simp[List.getD,N,o]
def Lw {V F:Int}{c:lI}{n:Bool}{v:Ro}{L:List Ro}(h:a7y V F c (bh n v L)):X L=X c/\∀m (N:m < X L),(X L[m].l:Int)=F:=by
 refine⟨by simpa[bh] using h.fq,λm N=> ?_⟩;have:=h.row m (by simpa[bh] using N);simpa[bh,roG] using this
def a3g {v:Ro}{P:Option Nat}{L:List Ro}{m q:Nat}{l:List Gc}(hm:m < X L)(a:X l=X L[m].l):Off v P (L.set m ⟨L[m].rs,L[m].rc,l⟩) q↔Off v P L q:=by
 have e:(L.set m ⟨L[m].rs,L[m].rc,l⟩).map roB=L.map roB:=by
  rw[j8,kO (v:=L[m]) a,<-x9 (f:=roB) (h:=mR),j9]
 have:(∀r∈L.set m ⟨L[m].rs,L[m].rc,l⟩,roB r≠G q)↔∀r∈L,roB r≠G q:=by
  have W:=M8;rw[W,W,e]
 unfold Off;rw[this]
def a2V {n t H:Nat}{z:Option Nat}{w w':C}{c:Nat}{v:Ro}{gs:oA}{D:Nat}{L:List Ro}{y:Gc}(hi:yv w' y.ss y.g.s)(s:∀a,y.ss=G a->R (M w)<=a.block/\Thw w' a.block)(W:X y.g.s<=y.cap)(l:y.cap<=maxLen)(g:a7e (ClT n t z c) H w v gs D L)(o:c < R (M w))(hs:t < R (M w))(u:n<=R (M w))(k:∀b,z=G b->b < R (M w)):cK (λb=>ClT n t z c b/\Off v (j3 gs (X L) D).ownBlock L b) w' y:=by
 refine⟨?_,W,l⟩;rcases hi with hi|⟨b,x,e,F,Z⟩
 .exact .inl hi
 .have i:R (M w)<=b:=(s _ e).1
  refine .inr ⟨b,x,e,⟨⟨aa,aa,aa,λe=>by have:=k _ e;omega⟩,λe=> ?_,λe=> ?_,λr q e=> ?_⟩,⟨F,(s _ e).2⟩,Z⟩
  .have:=(g.vq.lt e).1;omega
  .have:=(aU g.fq e).1;omega
  .have:=((g.rows r q).lt e).1;omega
end
section
open Go.RowKit
attribute [local go_sem ↓] Go.wp_at_zero Go.wp_at_succ
def Ni(pb k q:Nat)(dv:mh)(L:List Pic)(z:Pic)(zs:oA)(zc:Nat)(gs:oA)(gc l:Nat)(r:Pic)(w:C)(a3:∀args wx,Sem.run f (callFunc l args) wx=.ok (.enter l args) wx)(u:sT w t [I Y V,I Y F,U s (X c) cap,U (G ⟨pb,0,E⟩) (X L) k,dv])(hP:a8f S w pb L)(hS:∀b,S b->b≠pb)(N:∀b,R (M w)<=b->S b)(hq:q < X L)(n:∀wx W g H o,bl w wx->a4r wx L[q] W H->(L[q].vq.length<=g/\g<=maxLen)->(L[q].fq.length<=o/\o<=maxLen)->Calls f l #[pv V F s c cap,xv L[q] W g H o,xv z zs zc gs gc] wx λe w'=>a9d (R (M wx)) w' e r 0/\bl wx w'):
  Calls f 165 #[Pp (G ⟨t,0,E⟩),Ag #[I Y (q:Int),O z.none,U zs (X z.vq) zc,U gs (X z.fq) gc],.func (.func l) #[] #[]] w λe w'=>(∃v,e=Rt v)/\a8f S w' pb (L.set q r)/\(∀b,b≠pb->b < R (M w)->w'.heap[b]? =w.heap[b]?)/\R (M w)<=R (M w')/\∀{B:Nat} {a:C},B<=pb->B<=R (M w)->n4 B a w->n4 B a w':=by
 have B1:=uX;have X1:=vE;go_enter func165,ntmps165;go_upto_region 1 with fail
 generalize w.alloc _=w1 at *;have ay:=hP.call B1;have a0:=u.call B1;have a1:=pY;obtain⟨vy,ad,fy,ah,⟨k0,k1,k2⟩,ar,ap,ao,-,-⟩:=ay.cell hq;have al:Hid (∀wx,bl w1 wx->Calls f l #[pv V F s c cap,xv L[q] vy ad fy ah,xv z zs zc gs gc] wx λe w'=>a9d (R (M wx)) w' e r 0/\bl wx w'):=λwx Z=>n wx vy ad fy ah (B1.trans (Z.mono B1.size)) (ar.call Z).at ap ao;clear n ar ap ao;obtain⟨y,ey⟩:∃y,y=L[q]:=⟨_,rfl⟩;rw[<-ey] at al k0 k1 k2;have ak:=lL a1 B1.size;have am:Hid (∀wx,bl w1 wx->(wx.cell? ⟨t,0,E⟩=G (I Y V)/\wx.cell? ⟨t,1,E⟩=G (I Y F)/\wx.cell? ⟨t,2,E⟩=G (U s (X c) cap)/\wx.cell? ⟨t,3,E⟩=G (U (G ⟨pb,0,E⟩) (X L) k))/\(wx.cell? ⟨R (M w),0,E⟩=G (I Y (q:Int))/\wx.cell? ⟨R (M w),1,E⟩=G (O z.none)/\wx.cell? ⟨R (M w),2,E⟩=G (U zs (X z.vq) zc)/\wx.cell? ⟨R (M w),3,E⟩=G (U gs (X z.fq) gc))/\(wx.cell? ⟨pb,q * 3,E⟩=G (O y.none)/\wx.cell? ⟨pb,q * 3+1,E⟩=G (U vy (X y.vq) ad)/\wx.cell? ⟨pb,q * 3+2,E⟩=G (U fy (X y.fq) ah))):=λwx Z=>by
  have p:=a0.call Z;have x:=X1.call Z;exact⟨⟨p.1 0 _ rfl,p.1 1 _ rfl,p.1 2 _ rfl,p.1 3 _ rfl⟩,⟨x.1 0 _ rfl,x.1 1 _ rfl,x.1 2 _ rfl,x.1 3 _ rfl⟩,by rw[Z.cell ak];exact k0,by rw[Z.cell ak];exact k1,by rw[Z.cell ak];exact k2⟩
 clear ey;have B4:=iO;have m0:=fO;have m1:(q:Int) < (X L:Int):=aa;refine XK [26] ac am.out B4 (λab=> ?_);generalize w1.drew=w4 at *;refine QQ ?_;refine QS ?_;refine QZ ?_;refine QN 20 ?_;refine av (i:=21) rfl ac (λK D=> ?_);go_simp;go_call al.out w4 B4 as e5 w5 ⟨⟨rs,rc,rf,rg,rfl,RP,RV,RF⟩,az⟩;have B5:=B4.trans (az.mono B4.size);go_wp2_with fail;refine D.out _ _ (am.out _ B5) (λab=> ?_);clear D K;refine sm ?_;refine QN 22 ?_;refine QN 23 ?_;refine pZ 24 ?_ ?_;refine sm ?_;refine QN 25 ?_;refine aM (i:=26) rfl ac ac (λK D=> ?_);have ax:=(ay.call B5);obtain⟨_,_,_,_,_,_,_,_,_,fz⟩:=ax.cell hq;obtain⟨-,-,c0,c1,c2⟩:=ab;have f0:=fz (q * 3);have f1:=fz (q * 3+1);have f2:=fz (q * 3+2);clear fz;go_simp;obtain⟨wq,af⟩:∃q',q'=bd w5 pb (q * 3) [O r.none,U rs (X r.vq) rc,U rf (X r.fq) rg]:=⟨_,rfl⟩;have PT:=ag (ax.put hS hq (RP.mono λb Z _=>N b (lT (lT B1.size B4.size) Z)) RV RF af);simp only[bd] at af;rw[<-af];refine D.out _ _ ?_;clear D K c0 c1 c2 f0 f1 f2 af;refine sm ?_;refine aB ac ?_ _;clear al am ab;obtain⟨T1,T2,T3,T4⟩:=PT.out;have hB:=B1.trans (B5.mono B1.size);first|go_end0|refine bodyPost_ret (results_none rfl _ _ _) rfl ?_
 exact⟨⟨_,rfl⟩,T1,λb Z a2=>(T2 b Z).trans (hB.block b a2),lT hB.size T3,λ{B} {a} h1 h2 h3=>T4 h1 (h3.trans (hB.mono h2))⟩
def kI (S:Nat->Prop)(w w':World)(pb db:Nat)(L:List Pic)(D:List Int):Prop:=a8f S w' pb L/\a8s w' db D/\(∀b,b≠pb->b≠db->b < R (M w)->w'.heap[b]? =w.heap[b]?)/\R (M w)<=R (M w')/\∀{B:Nat} {a:World},B<=pb->B<=db->B<=R (M w)->Below B a w->Below B a w'
def a2Y(sb pb pc db dc q:Nat)(n:Int)(L:List Pic)(D:List Int)(z:Pic)(zs:oA)(zc:Nat)(gs:oA)(gc:Nat)(r:Pic)(w:C)(u:sT w sb [I Y V,I Y F,U s (X c) cap,U (G ⟨pb,0,E⟩) (X L) pc,U (G ⟨db,0,E⟩) (X D) dc])(hP:a8f S w pb L)(t:a8s w db D)(o:pb≠db)(g:sb≠pb)(hS:∀b,S b->b≠pb/\b≠db)(hS2:∀b,R (M w)<=b->S b)(hq:q < X L)(hqD:q < X D)(k:X D<=maxLen)(Qt:∀wx vx qZ fx jf,bl w wx->a4r wx L[q] vx fx->(L[q].vq.length<=qZ/\qZ<=maxLen)->(L[q].fq.length<=jf/\jf<=maxLen)->Calls f 32 #[pv V F s c cap,xv L[q] vx qZ fx jf,xv z zs zc gs gc] wx λe w'=>a9d (R (M wx)) w' e r 0/\bl wx w'):
  Calls f 100 #[Pp (G ⟨sb,0,E⟩),I Y n,Ag #[I Y (q:Int),O z.none,U zs (X z.vq) zc,U gs (X z.fq) gc]] w λe w'=>(∃v,e=Rt v)/\kI S w w' pb db (L.set q r) (D.set q (n)):=by
 have B1:=uX;have X1:=vE;have ay:=DV;have qN:=u.call B1;have PR1:=hP.call B1;have ah:=t.call B1;have ax:=pY;have ar:=t.choose_spec.1.2.1;have ak:=RN;clear Qt hP t u;unfold kI;go_enter func100,ntmps100;go_wp2_with fail;generalize w.alloc _=w1 at *;refine ak.out.mono ?_;clear ak;rintro e w2 ⟨⟨ve,rfl⟩,am,ab,af,ao⟩;have DR3:=ah.far (ab db (Ne.symm o) ah.choose_spec.1.2.1) af;have X3:=X1.same (ab (R (M w)) aa X1.2.1) af;have ST3:=qN.same (ab sb g qN.2.1) af;have y:=Sg;have B4:=vp;have m0:=fO;have m1:(q:Int) < (X D:Int):=aa;clear qN X1 ah X3 ST3;go_upto_region 2 with fail
 refine XK [8] ac y.out B4 (λad=> ?_);generalize w2.drew=w4 at *;refine QQ ?_;refine aM (i:=8) rfl ac ac (λK hK=> ?_);have al:=DR3.call B4;obtain⟨_,DC,_,_⟩:=al;obtain⟨-,-,c0⟩:=ad;have H:=DC.2.2 q;clear DC;go_simp;obtain⟨wq,N⟩:∃q',q'=bd w4 db q [I Y (n)]:=⟨_,rfl⟩;have PT:=ag ((DR3.call B4).put N hqD);simp only[bd] at N;rw[<-N];refine hK.out _ _ ?_;clear hK K c0 H N;refine sm ?_;refine aB ac ?_ _;clear y;have ap:=B4.size;obtain⟨T1,T2,T3,T4⟩:=PT.out;have Z:=(am.call B4).far (T2 pb o) (λb hb _=>T2 b (hS b hb).2) T3;first|go_end0|refine bodyPost_ret (results_none rfl _ _ _) rfl ?_
 exact⟨⟨_,rfl⟩,Z,T1,λb W l x=>((T2 b l).trans (B4.block b aa)).trans ((ab b W aa).trans (B1.block b x)),aa,λ{B} {a} W l h3 h4=>T4 l ((ao W aa (h4.trans (B1.mono h3))).trans (B4.mono aa))⟩
def Ft(h:p:=by
 clear Qt hP hD Qr;unfold kI;go_enter func101,ntmps101;go_wp2_with fail;generalize w.alloc (A #[I Y (q:Int),O z.none,U zs (X z.vq) zc,U gs (X z.fq) gc] 45)=w1 at *;refine HPU.out.mono ?_;clear HPU;rintro e w2 ⟨⟨ve,rfl⟩,PR2,FR2,SZ2,LO2⟩;have DR3:a8s w2 db D:=DR1.far (FR2 db (Ne.symm hpd) DR1.choose_spec.1.2.1) SZ2;have X3:=X1.same (FR2 (R (M w)) aa X1.2.1) SZ2;have ST3:=qN.same (FR2 sb jO qN.2.1) SZ2;have xP:=Sg;have B4:=vp;have m0:=fO;have m1:(q:Int) < (X D:Int):=aa;clear qN X1 DR1 X3 ST3;go_upto_region 4 with fail
 refine aC (S:=(λwx=>wx.cell? ⟨sb,4,E⟩=G (U (G ⟨db,0,E⟩) (X D) dc)/\wx.cell? ⟨R (M w),0,E⟩=G (I Y (q:Int))/\wx.cell? ⟨db,q,E⟩=G (I Y D[q]))) [9] ac (xP.out _ B4) (λxX=> ?_);generalize w2.drew=w4 at *;refine QQ ?_;refine QN 8 ?_;refine aM (i:=9) rfl ac ac (λK hK=> ?_);have DR5:=DR3.call B4;obtain⟨_,DC,_,_⟩:=DR5;obtain⟨-,-,c0⟩:=xX;have f0:=DC.2.2 q;clear DC;go_simp;obtain⟨wq,ewq⟩:∃q',q'=bd w4 db q [I Y (n+1)]:=⟨_,rfl⟩;have PT:=ag ((DR3.call B4).put ewq hqD);simp only[bd] at ewq;rw[<-ewq];refine hK.out _ _ ?_;clear hK K c0 f0 ewq;refine sm ?_;refine aB ac ?_ _;clear xP;have z24:=B4.size;obtain⟨T1,T2,T3,T4⟩:=PT.out;have PR5:=(PR2.call B4).far (T2 pb hpd) (λb hb _=>T2 b (hS b hb).2) T3;first|go_end0|refine bodyPost_ret (results_none rfl _ _ _) rfl ?_
 exact⟨⟨_,rfl⟩,PR5,T1,λb h1 h2 xy=>((T2 b h2).trans (B4.block b aa)).trans ((FR2 b h1 aa).trans (B1.block b xy)),aa,λ{B} {a} h1 h2 h3 h4=>T4 h2 ((LO2 h1 aa (h4.trans (B1.mono h3))).trans (B4.mono aa))⟩):=h
def Ub(sb pb pc db dc q:Nat)(n:Int)(L:List Pic)(D:List Int)(z:Pic)(zs:oA)(zc:Nat)(gs:oA)(gc:Nat)(r:Pic)(w:C)(Qr:sT w sb [I Y V,I Y F,U s (X c) cap,U (G ⟨pb,0,E⟩) (X L) pc,U (G ⟨db,0,E⟩) (X D) dc])(hP:a8f S w pb L)(hD:a8s w db D)(hpd:pb≠db)(jO:sb≠pb)(hS:∀b,S b->b≠pb/\b≠db)(hS2:∀b,R (M w)<=b->S b)(hq:q < X L)(hqD:q < X D)(k:X D<=maxLen)(u:n < 4)(l:IntKind.i64.wrap (n+1)=n+1)(Qt:∀wx vx qZ fx jf,bl w wx->a4r wx L[q] vx fx->(X L[q].vq<=qZ/\qZ<=maxLen)->(X L[q].fq<=jf/\jf<=maxLen)->Calls f 32 #[pv V F s c cap,xv L[q] vx qZ fx jf,xv z zs zc gs gc] wx λe w'=>a9d (R (M wx)) w' e r 0/\bl wx w'):
  Calls f 101 #[Pp (G ⟨sb,0,E⟩),I Y n,Ag #[I Y (q:Int),O z.none,U zs (X z.vq) zc,U gs (X z.fq) gc]] w λe w'=>(∃v,e=Rt v)/\kI S w w' pb db (L.set q r) (D.set q (n+1)):=by
 have B1:=uX;have X1:=vE;have o:=DV;have qN:=Qr.call B1;have PR1:=hP.call B1;have DR1:=hD.call B1;have Z:=pY;have g:=hD.choose_spec.1.2.1;have HPU:=RN;exact Ft
def Tz(sb pb pc db dc q:Nat)(n:Int)(L:List Pic)(D:List Int)(z:Pic)(zs:oA)(zc:Nat)(gs:oA)(gc:Nat)(r:Pic)(w:C)(Qr:sT w sb [I Y V,I Y F,U s (X c) cap,U (G ⟨pb,0,E⟩) (X L) pc,U (G ⟨db,0,E⟩) (X D) dc])(hP:a8f S w pb L)(hD:a8s w db D)(hpd:pb≠db)(jO:sb≠pb)(hS:∀b,S b->b≠pb/\b≠db)(N:∀b,R (M w)<=b->S b)(hq:q < X L)(hqD:q < X D)(k:X D<=maxLen)(u:¬n < 4)(l:IntKind.i64.wrap (n+1)=n+1)(Qt:∀wx W g H o,bl w wx->a4r wx L[q] W H->(X L[q].vq<=g/\g<=maxLen)->(X L[q].fq<=o/\o<=maxLen)->Calls f 33 #[pv V F s c cap,xv L[q] W g H o,xv z zs zc gs gc] wx λe w'=>a9d (R (M wx)) w' e r 0/\bl wx w'):
  Calls f 101 #[Pp (G ⟨sb,0,E⟩),I Y n,Ag #[I Y (q:Int),O z.none,U zs (X z.vq) zc,U gs (X z.fq) gc]] w λe w'=>(∃v,e=Rt v)/\kI S w w' pb db (L.set q r) (D.set q (n+1)):=by
 have B1:=uX;have X1:=vE;have ab:=DV;have qN:=Qr.call B1;have x:=hP.call B1;have DR1:=hD.call B1;have Z:=pY;have ad:=hD.choose_spec.1.2.1;have HPU:Hid (Calls f 165 #[Pp (G ⟨sb,0,E⟩),Ag #[I Y (q:Int),O z.none,U zs (X z.vq) zc,U gs (X z.fq) gc],.func (.func 33) #[] #[]] (w.alloc (A #[I Y (q:Int),O z.none,U zs (X z.vq) zc,U gs (X z.fq) gc] 45)) λe w'=>(∃v,e=Rt v)/\a8f S w' pb (L.set q r)/\(∀b,b≠pb->b < R (M (w.alloc (A #[I Y (q:Int),O z.none,U zs (X z.vq) zc,U gs (X z.fq) gc] 45)))->w'.heap[b]? =(w.alloc (A #[I Y (q:Int),O z.none,U zs (X z.vq) zc,U gs (X z.fq) gc] 45)).heap[b]?)/\R (M (w.alloc (A #[I Y (q:Int),O z.none,U zs (X z.vq) zc,U gs (X z.fq) gc] 45)))<=R (M w')/\∀{B:Nat} {a:C},B<=pb->B<=R (M (w.alloc (A #[I Y (q:Int),O z.none,U zs (X z.vq) zc,U gs (X z.fq) gc] 45)))->n4 B a (w.alloc (A #[I Y (q:Int),O z.none,U zs (X z.vq) zc,U gs (X z.fq) gc] 45))->n4 B a w'):=Ni V F s c _ sb pb pc q _ L z zs zc gs gc 33 r _ (enters_of func33 ac rfl) qN x (λb hb=>(hS b hb).1) (λb hb=>N b aa) hq (λwx W g H o hb t y k3=>Qt wx W g H o (B1.trans (hb.mono B1.size)) t y k3);exact Ft
def WE(n:a2r w s c)(h:aA V F c≠0):
  Calls f 38 #[pv V F s c cap] w λe w'=>a6J w' e gx (aA V F c)/\bl w w':=by
 have B0:n4 (R (M w)) w ((w.alloc (A #[I Y V,I Y F,U s (X c) cap] 24)).alloc (A #[O d,U E 0 0,U E 0 0] 28)):=ai;have a:=(a7w.new w V F s c cap).call (w':=((w.alloc (A #[I Y V,I Y F,U s (X c) cap] 24)).alloc (A #[O d,U E 0 0,U E 0 0] 28))) ai;have Z0:=X3.new (w.alloc (A #[I Y V,I Y F,U s (X c) cap] 24)) 28 (O d) (U E 0 0) (U E 0 0);rw[zA] at Z0;have g:=ag (fY V F s cap c _ (n.below B0 (lR _)));have l:(aA V F c !=0)=true:=cn;generalize aA V F c=ce at *;clear h n a;go_enter func38,ntmps38;go_wp2_with fail;go_call g.out as e S ⟨rfl,vZ⟩;have Z1:=Z0.call vZ;have B1:=it;clear vZ B0 Z0 g;obtain⟨⟨z0,z1,t⟩,o,Q⟩:=id Z1;have H:=Q 0;have q:=Q 1;have k:=Q 2;clear Q;go_wp2;refine bodyPost_ret (v:=Tu #[Ag #[O d,U E 0 0,U E 0 0],I Y ce]) (by simp[results,results38,go_sem,z0,z1,t]) rfl ⟨⟨E,0,E,0,rfl,⟨λi hi=>absurd hi AW,λi hi=>absurd hi AW⟩,⟨j4 _,j4 _⟩,j4 _,j4 _⟩,?_⟩;exact Ef
def a0D (v f:Nat)(s:oA)(c:lI)(cap:Nat)(w:C)(n:a2r w s c)(h:aA (v:Int) (f:Int) c=0):
  Calls pG 38 #[pv (v:Int) (f:Int) s c cap] w λe w'=>a9d (R (M w)) w' e (bK (v:Int) (f:Int) c) 0/\bl w w':=by
 have a6:=Nn;rw[a6];clear a6;obtain⟨⟨_,b0⟩,⟨_,bz⟩,t⟩:=dM h;obtain⟨tk,H,z,bt,bb⟩:=rq;have B0:n4 (R (M w)) w ((w.alloc (A #[I Y (v:Int),I Y (f:Int),U s (X c) cap] 24)).alloc (A #[O d,U E 0 0,U E 0 0] 28)):=ai;have P0:=(a7w.new w (v:Int) (f:Int) s c cap).call (w':=((w.alloc (A #[I Y (v:Int),I Y (f:Int),U s (X c) cap] 24)).alloc (A #[O d,U E 0 0,U E 0 0] 28))) ai;have Z0:=X3.new (w.alloc (A #[I Y (v:Int),I Y (f:Int),U s (X c) cap] 24)) 28 (O d) (U E 0 0) (U E 0 0);rw[zA] at Z0;have HC:=ag (fY (v:Int) (f:Int) s cap c ((w.alloc (A #[I Y (v:Int),I Y (f:Int),U s (X c) cap] 24)).alloc (A #[O d,U E 0 0,U E 0 0] 28)) (n.below B0 (lR _)));rw[h] at HC;have ay:=ag Ar;have bc:=ag λg=>Ng a4q rfl f aa g;have a4:=ag λg=>Ng dt rfl v aa g;clear h n;go_enter func38,ntmps38;go_wp2_with fail;go_call HC.out as e w1 ⟨rfl,vZ⟩;have Z1:=Z0.call vZ;have P1:=gF;have B1:=it;have z1:R (M w)+1+1<=R (M w1):=by have:=vZ.size;simpa using this
 clear vZ B0 Z0 P0 HC;go_wp2_with fail;go_call ay.out _ as e w2 ⟨rfl,xj⟩;have xp:=Pv;have ab:=vU;have Z3:=Z1.call ab;have P3:=P1.call ab;have B3:=B1.trans (ab.mono B1.size);have z3:=lT z1 ab.size;clear xj xp ab Z1 P1 B1 z1;obtain⟨⟨p0,p1,p2⟩,pz⟩:=id P3;go_wp2_with fail;go_call a4.out _ as e Z ⟨⟨F,rfl,a1⟩,ah⟩;clear p0 p1 p2 pz a4;have am:n4 (R (M Z)) Z (Z.alloc (A #[O d,U F v v,U E 0 0] 28)):=ai;have af:=ah.trans (am.mono ah.size);have Z5:=Z3.call af;have P5:=P3.call af;have B5:=B3.trans (af.mono B3.size);have U5:=X3.new Z 28 (O d) (U F v v) (U E 0 0);have z5:=lT z3 ah.size;have a2:a8b (λb=>R (M w)+1+1<=b/\b < R (M Z)+1/\b≠R (M Z)) (Z.alloc (A #[O d,U F v v,U E 0 0] 28)) F (j6 v dt):=(a1.mono (S':=λb=>R (M w)+1+1<=b/\b < R (M Z)+1/\b≠R (M Z)) λb W l=>⟨lT z3 W,aa,aa⟩).call am;have e5:R (M Z)+1<=R (M (Z.alloc (A #[O d,U F v v,U E 0 0] 28))):=ae;have l5:R (M Z) < R (M Z)+1:=aa;clear ah am af Z3 P3 B3 z3 a1;obtain⟨⟨p0,p1,p2⟩,pz⟩:=id P5;go_wp2;clear p0 p1 p2 pz;generalize Z.alloc _=w5 at *;generalize (R (M Z))+1=N at *;generalize (R (M Z))=zb at *;go_loopw [23] (λi wr=>∃(k:Nat) (fs:oA) (fc:Nat) (L:List Rw),k<=X c/\i=I Y k/\a7w wr (R (M w)) (v:Int) (f:Int) s c cap/\X3 wr (R (M w)+1) (O d) (U E 0 0) (U E 0 0)/\X3 wr zb (O d) (U F v v) (U fs (X L) fc)/\a8t wr N (U fs (X L) fc) L/\Hid (L.map Rw.l=j6 k (j6 f a4q))/\a8b (λb=>R (M w)+1+1<=b/\b < N/\b≠zb) wr F (j6 v dt)/\bl w wr/\N<=R (M wr)) (λi _=>X c - (intOf i).toNat)
 case atStart=>exact⟨0,E,0,[],j4 _,rfl,P5,Z5,U5,a8t.nil _ _,rfl,a2,B5,e5⟩
 case round=>
  clear P5 Z5 U5 a2 B5 e5;obtain⟨k,fs,fc,L,bx,rfl,PR,ZR,UR,FR,HL,GV,LR,zr⟩:=hrel;have LL:Hid (X L=k):=by
   show _=_;have W:=ki;simpa using W
  by_cases xy:k < X c
  .have n0:=cQ
   have n1:=kA;obtain⟨⟨p0,p1,p2⟩,pz⟩:=id PR;obtain⟨⟨y0,y1,y2⟩,yz,yf⟩:=id UR;have y:Hid (∀g,n4 N wr g->g.cell? ⟨R (M w),1,E⟩=G (I Y (f:Int))/\g.cell? ⟨zb,2,E⟩=G (U fs (X L) fc)):=λg o=>⟨by rw[o.cell (by simp only;omega)];exact p1,by rw[o.cell (by simp only;omega)];exact y2⟩;have HD:=dS;go_upto_region 9 with fail
   clear p0 p1 p2 pz y0 y1 y2 yz yf;refine XK [9] ac y.out (HD.mono zr) (λr=> ?_);refine XJ ?_;refine QN 4 ?_;refine av (i:=2) rfl ac (λK D=> ?_);go_simp;go_at_call 77;go_call ay.out _ as e Z ⟨rfl,ah⟩;have ak:=HD.trans (ah.mono HD.size);have bs:=ak.mono zr;go_wp2_with fail;refine D.out _ _ (y.out _ bs) (λr=> ?_);clear D K;refine sm ?_;refine av (i:=5) rfl ac (λK D=> ?_);go_simp;go_at_call 78;go_call bc.out _ as e w5 ⟨⟨rs,rfl,GR⟩,bf⟩;have zW:=ak.trans (bf.mono ak.size);have a5:=zW.mono zr;go_wp2_with fail;refine D.out _ _ (y.out _ a5) (λr=> ?_);clear D K;refine sm ?_;refine av (i:=6) rfl ac (λK D=> ?_);go_simp;have ao:bl wr (w5.alloc (A #[U rs f f] 25)):=zW.alloc zW.size _;have ar:=ao.mono zr;refine D.out _ _ (y.out _ ar) (λr=> ?_);clear D K;refine sm ?_;refine av (i:=7) rfl ac (λK D=> ?_);have F6:=FR.call ao;have RX:Ai (λb=>N<=b/\(j3 fs (X L) fc).ownBlock≠G b) (w5.alloc (A #[U rs f f] 25)) ⟨rs,f,j6 f a4q⟩:=⟨(GR.mono λb W _=>⟨lT zr (lT ak.size W),λe=>by have:=(aU FR.1 e).1;have:=ak.size;omega⟩).call ai,ae,by unfold maxLen;simp only;omega⟩
   have a3:X (j6 f a4q)=f:=Q1;refine fe _ rfl _ _ 26 rfl N 25 tk (U E 0 0) 1 24 underlying26 H z bt bb rfl an _ _ _ rfl F6.1 (G ⟨R (M w5),0,E⟩) 1 1 [U rs f f] rfl rfl (λh=>bU) (Hp w5 _ _) s8 AU AN lX ?_;intro v' w7 V ad a0;have F7:=F6.grown (x:=⟨rs,f,j6 f a4q⟩) RX (by unfold rwV;rw[a3];exact V) ad a0;have xF:n4 N wr w7:=ar.grown ad lX (λk H=>(aU F6.1 H).2);obtain⟨a9,ba,rfl,-,-,-⟩:=F7.rows;refine D.out _ _ (y.out _ xF) (λr=> ?_);clear D K V ad a0 F6 RX ar ao a5 zW GR a3;refine sm ?_;refine QN 8 ?_;refine aM (i:=9) rfl ac ac (λK D=> ?_);have U7:X3 w7 zb _ _ _:=UR.same (xF.block _ aa) xF.size;obtain⟨⟨y0,y1,y2⟩,yz,yf⟩:=id U7;have bm:=yf 2;clear yf;go_simp;refine D.out _ _ ?_;clear D K;refine sm ?_;refine aB ac ?_ _;clear y0 y1 y2 yz bm;have P7:=PR.low xF aa;have Z7:X3 w7 (R (M w)+1) (O d) (U E 0 0) (U E 0 0):=ZR.same (xF.block _ aa) xF.size;have V7:=GV.same (w':=w7) (λb hS _=>xF.block b hS.2.1) xF.size;have L7:=wM;have z7:=lT zr xF.size;have E7:=NZ;have S7:=NW;clear PR ZR UR FR LR zr y GV xF;go_wp2;go_roundw
   case rel=>exact⟨k+1,a9,ba,L++[⟨rs,f,j6 f a4q⟩],aa,aJ,P7.far aw _,Z7.same (E7.out _ _ aa) (S7.out _),UF,F7.old (λb hb=>E7.out _ b aa) (S7.out _),K5,V7.same (λb hS _=>E7.out _ b hS.2.2) (S7.out _),L7.setCell aw _,Br⟩
   case measure=>exact aK
  .have b1:=vM
   have ek:k=X c:=aa;have az:Hid (X L=X c):=by show _=_;rw[LL.out,ek]
   have ap:∀b,b≠R (M w)+1->(((wr.setCell ⟨R (M w)+1,0,E⟩ (O d)).setCell ⟨R (M w)+1,1,E⟩ (U F v v)).setCell ⟨R (M w)+1,2,E⟩ (U fs (X L) fc)).heap[b]? =wr.heap[b]? :=λb hb=>sG;have ax:R (M wr)<=R (M (((wr.setCell ⟨R (M w)+1,0,E⟩ (O d)).setCell ⟨R (M w)+1,1,E⟩ (U F v v)).setCell ⟨R (M w)+1,2,E⟩ (U fs (X L) fc))):=bI;have FX:=FR.old (w':=(((wr.setCell ⟨R (M w)+1,0,E⟩ (O d)).setCell ⟨R (M w)+1,1,E⟩ (U F v v)).setCell ⟨R (M w)+1,2,E⟩ (U fs (X L) fc))) (λb hb=>ap b aa) ax;have GX:=GV.same (w':=(((wr.setCell ⟨R (M w)+1,0,E⟩ (O d)).setCell ⟨R (M w)+1,1,E⟩ (U F v v)).setCell ⟨R (M w)+1,2,E⟩ (U fs (X L) fc))) (λb hS _=>ap b aa) ax;have BX:bl w (((wr.setCell ⟨R (M w)+1,0,E⟩ (O d)).setCell ⟨R (M w)+1,1,E⟩ (U F v v)).setCell ⟨R (M w)+1,2,E⟩ (U fs (X L) fc)):=((LR.setCell aw _).setCell aw _).setCell aw _;have a8:Hid (∀wz:C,(∀b,R (M w)<=b->b < R (M (((wr.setCell ⟨R (M w)+1,0,E⟩ (O d)).setCell ⟨R (M w)+1,1,E⟩ (U F v v)).setCell ⟨R (M w)+1,2,E⟩ (U fs (X L) fc)))->wz.heap[b]? =(((wr.setCell ⟨R (M w)+1,0,E⟩ (O d)).setCell ⟨R (M w)+1,1,E⟩ (U F v v)).setCell ⟨R (M w)+1,2,E⟩ (U fs (X L) fc)).heap[b]?)->R (M (((wr.setCell ⟨R (M w)+1,0,E⟩ (O d)).setCell ⟨R (M w)+1,1,E⟩ (U F v v)).setCell ⟨R (M w)+1,2,E⟩ (U fs (X L) fc)))<=R (M wz)->a8b (λ_=>True) wz F (j6 v dt)/\a8p (λ_=>True) wz fs (j6 (X c) (j6 f a4q))):=λwz hs hz=>by
    obtain⟨be,bg,e0,a7,al,RW0⟩:=CZ;cases e0;rw[HL.out,ek] at RW0;exact Eo
   have bv:Hid (X L<=fc/\fc<=maxLen):=by
    obtain⟨be,bg,e0,a7,al,-⟩:=FR.rows;cases e0;exact⟨a7,al⟩
   obtain⟨⟨y0,y1,y2⟩,yz,yf⟩:=id UR;obtain⟨⟨d0,d1,d2⟩,dz,df⟩:=id ZR;have f0:=df 0;have f1:=df 1;have f2:=df 2;clear df yf ap ax FX GX ek;go_wp2;refine bodyPost_ret (v:=Tu #[Ag #[O d,U F v v,U fs (X L) fc],I Y 0]) (by simp[results,results38,go_sem,d0,d1,d2]) rfl ⟨?_,BX⟩;refine⟨F,v,fs,fc,?_,λwz hs hz=>a8.out wz hs hz,⟨ae,cL⟩,by rw[Q1,<-az.out];exact bv.out⟩;rw[az.out];simp
def Bk(n:a2r w s c):
  Calls pG 38 #[pv V F s c cap] w λe w'=>a9d (R (M w)) w' e (if aA V F c=0 then bK V F c else gx) (aA V F c)/\bl w w':=by
 by_cases h:aA V F c=0
 .rw[if_pos h,h]
  obtain⟨⟨l,_⟩,⟨hF,_⟩,_⟩:=dM h;obtain⟨v,rfl⟩:=x3 (show 0<=V by omega);obtain⟨f,rfl⟩:=x3 hF;exact a0D v f s c _ w n h
 .rw[if_neg h]
  go_call WE V F s c cap w n h as e S ⟨⟨a,g,gs,D,k,-,qy⟩,hb⟩;exact⟨⟨a,g,gs,D,k,λy _ _=>⟨λi hi=>absurd hi AW,λi hi=>absurd hi AW⟩,qy⟩,hb⟩
end
section
open Go.RowKit
def IF {c:lI}{g h:Gs}(t:X c<=60)(u:aH c g=0)(i:aH c h=0):dy bw g h=aj d g h/\dy bH g h=aj W5 g h:=by
 have a:=dY t u;have b:=dY t i;have e:=oV g h a.1 b.1;unfold dy aj;rw[e];exact⟨rfl,rfl⟩
def yD{k:Gs->Gs->Gs}{a b:List Gs}(h:∀g∈a,∀q∈b,j g q=k g q):aX j a b=aX k a b:=by
 unfold aX;refine Q2 ae λi W l=> ?_;simp only[Q3];exact h _ (gM _) _ (gM _)
def yI {V F:Int}{c:lI}{x y:Pic}{j k:Gs->Gs->Gs}(o:aO V F c x=0)(r:aO V F c y=0)(h:∀g q,aH c g=0->aH c q=0->j g q=k g q):aI j x y=aI k x y:=by
 unfold aI;split
 .rfl
 split
 .rfl
 rename_i hn hm;have a:=cO o mQ;have e:=cO r mR;rw[yD (k:=k) λg u q hq=>h g q (a.gv g u) (e.gv q hq)];congr 1;refine Q2 ae λi W l=> ?_;simp only[Q3];simp only[J4] at W;exact yD λg u q hq=>h g q (a.gf i aa g u) (e.gf i aa q hq)
def nF {V F:Int}{c:lI}{x y:Pic}(t:aA V F c=0)(o:aO V F c x=0)(r:aO V F c y=0):aI (dy bw) x y=aI (aj d) x y/\aI (dy bH) x y=aI (aj W5) x y:=
 ⟨yI o r λg q u hq=>(IF (dM t).2.2 u hq).1,yI o r λg q u hq=>(IF (dM t).2.2 u hq).2⟩
end
section
open Go.RowKit
attribute [local go_sem ↓] Go.wp_at_zero Go.wp_at_succ
def oU(h:p:=by
 simp only[bd] at qr;rw[<-qr];clear qr;have TX:=PU.cells;have IX:=PU.keep IP;have YX:=PU.keep YP;have OX:=PU.keep OP;have BX:=PU.low aa BP;have jh:=PU.low aa YW;clear PU;have TX2:sT wx (R (M xl)) [O gg.n,O gg.sp.n,I Y gg.sp.lo,I Y gg.sp.hi,O gg.t,O gg.f,U ss (X gg.s) cp]:=by rw[jP.out.1,jP.out.2.1,jP.out.2.2];exact TX
 have qQ:Hid (a7c (λb=>(T b/\b < R (M w))\/R (M w3)<=b) wx ss gg.s):=.inl HGS.out;have HCP:Hid (X gg.s<=cp/\cp<=maxLen):=⟨by rw[HGS.out];exact Nat.zero_le _,by rw[jP.out.2.2];exact Nat.zero_le _⟩;clear TX;have TX:=TX2;clear TX2 jP HGS i0;have jQ:=wQ;have t0:=TX.1 0 _ rfl;have t1:=TX.1 1 _ rfl;have t2:=TX.1 2 _ rfl;have t3:=TX.1 3 _ rfl;have t4:=TX.1 4 _ rfl;have t5:=TX.1 5 _ rfl;have t6:=TX.1 6 _ rfl;go_wp2_with fail;refine((jQ.out wx).mono ?_);rintro e wy ⟨rfl,xU⟩;clear t0 t1 t2 t3 t4 t5 t6;have TY:=TX.call xU
 have IY:=IX.call xU
 have YY:=YX.call xU
 have OY:=OX.call xU
 have BY:=nj;have qB:=pT;have qx:=mZ;clear TX IX YX OX BX jh jQ qQ;have GP:=Eb;have GC:=vX;have jE:kt < X v.l:=AM;obtain⟨vb,zM,jC,hvb,zvb⟩:=mG;have GP2:=uQ;have GS:=GP2.setV zM jE GC;have GU:=uP;obtain⟨⟨u0,u1,u2,u3,u4,u5,u6⟩,uz⟩:=GU;have TH:=GP.vq.thaw zM;have f0:=TH (kt * 7);have f1:=TH (kt * 7+1);have f2:=TH (kt * 7+2);have f3:=TH (kt * 7+3);have f4:=TH (kt * 7+4);have f5:=TH (kt * 7+5);have f6:=TH (kt * 7+6);have y1:=YY.1 1 _ rfl;rw[zM] at y1;have i1:=IY.1 1 _ rfl;rw[jk.out] at i1;have t0:=TY.1 0 _ rfl;have t1:=TY.1 1 _ rfl;have t2:=TY.1 2 _ rfl;have t3:=TY.1 3 _ rfl;have t4:=TY.1 4 _ rfl;have t5:=TY.1 5 _ rfl;have t6:=TY.1 6 _ rfl;have q0:=uy;have q1:=yB;have HEV:=ag zM;have OS:=El;have BS:=uv;have HF:Hid (cC (λb=>T b\/R (M w)<=b) (cR wy vb kt ⟨gg,ss,cp⟩) (Rt (Tu #[U (G ⟨R (M w4),0,E⟩) 1 1,O false,O false])) (aD i (m:Int) x)):=by
  show cC _ _ _ _;rw[jR.out,if_neg BJ];refine⟨G ⟨R (M w4),0,E⟩,1,rfl,?_⟩;refine mI (S:=(λb=>T b\/R (M w)<=b)) (v:=⟨v.rs,v.rc,v.l.set kt ⟨gg,ss,cp⟩⟩) (L:=L) Ca (.inr aa) GS (λb hb=>hb) (λb hb=>.inr aa) ?_;rw[fQ,<-zY.out,jk.out]
 clear GP GC GP2 GS TH TY IY YY OY OS BY qx zH qB zY zM;obtain⟨wv,jo⟩:∃q,q=cR wy vb kt ⟨gg,ss,cp⟩:=⟨_,rfl⟩;have HF2:=tV;rw[<-jo] at HF2;go_upto_region 87 with fail
 clear u0 u1 u2 u3 u4 u5 u6 uz f0 f1 f2 f3 f4 f5 f6 t0 t1 t2 t3 t4 t5 t6 y1 i1 HF BS;simp only[cR] at jo;rw[<-jo];clear jo;go_wp2;refine bodyPost_ret (v:=Tu #[U (G ⟨R (M w4),0,E⟩) 1 1,O false,O false]) fT rfl HF2.out):=h
def a4G{V F:Int}{s:oA}{c:lI}{cap m:Nat}{i:Ins}{x:Pic}{vs:oA}{vc:Nat}{fs:oA}{fc:Nat}{w:C}{w3 w4 n xl l:C}{v:Ro}{gs:oA}{gc:Nat}{L:List Ro}(hx:a7d T w x vs fs)(K:a7l V F c x vc fc i (m:Int))(H:i.k=1)(z:Hid (a8x T V F s c cap (m:Int) i x vs vc fs fc w l (R (M w)+1+1) (R (M w3)) (R (M w4)) (R (M n)) (R (M n)+1) (R (M xl)) w3 v gs gc L a4q E 0 a4q E 0)):SwT (λe w'=>cC (λb=>T b\/R (M w)<=b) w' e (aD i (m:Int) x)/\bl w w') m w w3 w4 n xl l:=by
 have xG:=ag H;clear H;have HK:=ag K;have HX:=cX;have t:=K.lens.2.1;have P:=fa;have n1:=eX;have N:=dn;have r:=dF;clear K hx;refine kd rfl λz0 z2 z4 u=> ?_;simp only[j2,j2.loop,j5];obtain⟨BP,PP,XP,IP,YP,OP,AP,EP,TP,ah,ak,zH,YW,-,zE,-,D,W,Z,o5,o6⟩:=z.out;have zY:=eU;clear zE;have i0:=eH;rw[xG.out] at i0;obtain⟨kt,Q,jx⟩:=na;have jk:=ag Q;clear Q;obtain⟨gg,qh⟩:∃g:Gs,g=⟨d,⟨d,i.n,i.n⟩,d,d,[]⟩:=⟨_,rfl⟩;obtain⟨ss,qR⟩:∃a:oA,a=none:=⟨_,rfl⟩;obtain⟨cp,qy⟩:∃a:Nat,a=0:=⟨_,rfl⟩;have HGS:Hid (gg.s=[]):=BV;have jR:=uE;have qw:Hid (aq gg=d):=by
  show _=_;rw[qh];simp[aq,aT,dt]
 have jP:=rk;clear qh qR qy;have z1:=TP.1 1 _ rfl;have af:=TP.2.2 1;have z2:=TP.1 2 _ rfl;have ab:=TP.2.2 2;have z3:=TP.1 3 _ rfl;have ad:=TP.2.2 3;have i4:=IP.1 4 _ rfl;go_upto_region 84 with fail
 clear z1 af z2 ab z3 ad i4;obtain⟨wx,qr⟩:∃q,q=bd l (R (M xl)) 1 [O d,I Y i.n,I Y i.n]:=⟨_,rfl⟩;have PU:=bC TP 1 _ qr;exact oU
def a1G{V F:Int}{s:oA}{c:lI}{cap m:Nat}{i:Ins}{x:Pic}{vs:oA}{vc:Nat}{fs:oA}{fc:Nat}{w:C}{w3 w4 n xl l:C}{v:Ro}{gs:oA}{gc:Nat}{L:List Ro}(hx:a7d T w x vs fs)(K:a7l V F c x vc fc i (m:Int))(H:i.k=14)(z:Hid (a8x T V F s c cap (m:Int) i x vs vc fs fc w l (R (M w)+1+1) (R (M w3)) (R (M w4)) (R (M n)) (R (M n)+1) (R (M xl)) w3 v gs gc L a4q E 0 a4q E 0)):SwT (λe w'=>cC (λb=>T b\/R (M w)<=b) w' e (aD i (m:Int) x)/\bl w w') m w w3 w4 n xl l:=by
 have xG:=ag H;clear H;have HK:=ag K;have HX:=cX;have t:=K.lens.2.1;have P:=fa;have n1:=eX;have N:=dn;have r:=dF;clear K hx;refine kd rfl λz0 z2 z4 u=> ?_;simp only[j2,j2.loop,j5];obtain⟨BP,PP,XP,IP,YP,OP,AP,EP,TP,al,am,zH,YW,-,zE,-,D,W,Z,o5,o6⟩:=z.out;have zY:=eU;clear zE;have i0:=eH;rw[xG.out] at i0;obtain⟨kt,Q,jx⟩:=na;have jk:=ag Q;clear Q;have ah:=(b9 HK.out.one).2.2.2.2.2.2.2.2 xG.out;have ak:IntKind.i64.wrap (-i.n)= -i.n:=pt;obtain⟨gg,qh⟩:∃g:Gs,g=⟨d,⟨d,-i.n,i.n⟩,d,d,[]⟩:=⟨_,rfl⟩;obtain⟨ss,qR⟩:∃a:oA,a=none:=⟨_,rfl⟩;obtain⟨cp,qy⟩:∃a:Nat,a=0:=⟨_,rfl⟩;have HGS:Hid (gg.s=[]):=BV;have jR:=uE;have qw:Hid (aq gg=d):=by
  show _=_;rw[qh];simp[aq,aT,dt]
 have jP:=rk;clear qh qR qy;have z1:=TP.1 1 _ rfl;have af:=TP.2.2 1;have z2:=TP.1 2 _ rfl;have ab:=TP.2.2 2;have z3:=TP.1 3 _ rfl;have ad:=TP.2.2 3;have i4:=IP.1 4 _ rfl;go_upto_region 84 with fail
 clear z1 af z2 ab z3 ad i4;obtain⟨wx,qr⟩:∃q,q=bd l (R (M xl)) 1 [O d,I Y (-i.n),I Y i.n]:=⟨_,rfl⟩;have PU:=bC TP 1 _ qr;exact oU
def a3v{V F:Int}{s:oA}{c:lI}{cap m:Nat}{i:Ins}{x:Pic}{vs:oA}{vc:Nat}{fs:oA}{fc:Nat}{w:C}{w3 w4 n xl l:C}{v:Ro}{gs:oA}{gc:Nat}{L:List Ro}(hx:a7d T w x vs fs)(K:a7l V F c x vc fc i (m:Int))(H:i.k=3)(z:Hid (a8x T V F s c cap (m:Int) i x vs vc fs fc w l (R (M w)+1+1) (R (M w3)) (R (M w4)) (R (M n)) (R (M n)+1) (R (M xl)) w3 v gs gc L a4q E 0 a4q E 0)):SwT (λe w'=>cC (λb=>T b\/R (M w)<=b) w' e (aD i (m:Int) x)/\bl w w') m w w3 w4 n xl l:=by
 have xG:=ag H;clear H;have HK:=ag K;have HX:=cX;have t:=K.lens.2.1;have P:=fa;have n1:=eX;have N:=dn;have r:=dF;clear K hx;refine kd rfl λz0 z2 z4 u=> ?_;simp only[j2,j2.loop,j5];obtain⟨BP,PP,XP,IP,YP,OP,AP,EP,TP,ad,af,zH,YW,-,zE,-,D,W,Z,o5,o6⟩:=z.out;have zY:=eU;clear zE;have i0:=eH;rw[xG.out] at i0;obtain⟨kt,Q,jx⟩:=na;have jk:=ag Q;clear Q;obtain⟨gg,qh⟩:∃g:Gs,g=dt:=⟨_,rfl⟩;obtain⟨ss,qR⟩:∃a:oA,a=none:=⟨_,rfl⟩;obtain⟨cp,qy⟩:∃a:Nat,a=0:=⟨_,rfl⟩;have HGS:Hid (gg.s=[]):=BV;have jR:=uE;have qw:Hid (aq gg=d):=by
  show _=_;rw[qh];simp[aq,aT,dt]
 have jP:=rk;clear qh qR qy;have z0:=TP.1 0 _ rfl;have ab:=TP.2.2 0;go_upto_region 84 with fail
 clear z0 ab;obtain⟨wx,qr⟩:∃q,q=bd l (R (M xl)) 0 [O W5]:=⟨_,rfl⟩;have PU:=bC TP 0 _ qr;exact oU
def a3Y{V F:Int}{s:oA}{c:lI}{cap m:Nat}{i:Ins}{x:Pic}{vs:oA}{vc:Nat}{fs:oA}{fc:Nat}{w:C}{w3 w4 n xl l:C}{v:Ro}{gs:oA}{gc:Nat}{L:List Ro}(hx:a7d T w x vs fs)(K:a7l V F c x vc fc i (m:Int))(H:i.k=2)(z:Hid (a8x T V F s c cap (m:Int) i x vs vc fs fc w l (R (M w)+1+1) (R (M w3)) (R (M w4)) (R (M n)) (R (M n)+1) (R (M xl)) w3 v gs gc L a4q E 0 a4q E 0)):SwT (λe w'=>cC (λb=>T b\/R (M w)<=b) w' e (aD i (m:Int) x)/\bl w w') m w w3 w4 n xl l:=by
 have xG:=ag H;clear H;have HK:=ag K;have HX:=cX;have t:=K.lens.2.1;have n0:=fa;have n1:=eX;have N:=dn;have ap:=dF;clear K hx;refine kd rfl λz0 z2 z4 u=> ?_;simp only[j2,j2.loop,j5];obtain⟨BP,PP,XP,IP,YP,OP,AP,EP,TP,ao,ar,zH,YW,-,zE,-,D,W,Z,o5,o6⟩:=z.out;have zY:=eU;clear zE;have i0:=eH;rw[xG.out] at i0;obtain⟨kt,ah,jx⟩:=na;have jk:=ag ah;clear ah;have af:=(b9 HK.out.one).2.2.2.2.2.2.2.1 xG.out;obtain⟨gg,qh⟩:∃g:Gs,g=⟨d,⟨W5,0,0⟩,decide (i.n=1),decide (i.n=0),[]⟩:=⟨_,rfl⟩;obtain⟨ss,qR⟩:∃a:oA,a=none:=⟨_,rfl⟩;obtain⟨cp,qy⟩:∃a:Nat,a=0:=⟨_,rfl⟩;have HGS:Hid (gg.s=[]):=BV;have jR:=uE;have qw:Hid (aq gg=d):=by
  show _=_;rw[qh];rcases af with h|h<;>simp[aq,aT,h]
 have jP:=rk;clear qh qR qy af;have ab:bl l l.drew:=(bR _ _).drew;have TQ:=TP.call ab;have IQ:=IP.call ab;have YQ:=YP.call ab;have OQ:=OP.call ab;have BQ:=BP.trans (ab.mono BP.size);have ak:=YW.trans (ab.mono YW.size);clear TP IP YP OP BP YW ab PP XP AP EP;go_upto_region 81 with fail
 refine aC (S:=(λwx=>wx.cell? ⟨R (M w)+1+1,4,E⟩=G (I Y i.n))) [9] ac (IQ.1 4 _ rfl) (λr=> ?_);generalize l.drew=wq at *;refine QU ?_;refine QN 5 ?_;refine QN 6 ?_;refine av (i:=7) rfl ac (λK hK=> ?_);have z4:=TQ.1 4 _ rfl;have al:=TQ.2.2 4;go_simp;refine hK.out _ _ ?_ (λr=> ?_)
 .have h:sT (wq.setCell ⟨R (M xl),4,E⟩ (O (i.n==1))) (R (M w)+1+1) _:=IQ.same (hSe _ _ _ _ aw) bI
  exact h.1 4 _ rfl
 clear hK K z4 al;refine sm ?_;have ad:=TQ.put 4 ae (O (i.n==1));refine QN 8 ?_;refine aM (i:=9) rfl ac ac (λK hK=> ?_);have z5:=ad.1 5 _ rfl;have am:=ad.2.2 5;go_simp;refine hK.out _ _ ?_;clear hK K z5 am;refine sm ?_;refine aB ac ?_ _;clear ad;generalize wq=l at *;have TP:=TQ;have IP:=IQ;have YP:=YQ;have OP:=OQ;have BP:=BQ;have YW:=ak;clear TQ IQ YQ OQ BQ ak;go_upto_region 84 with fail
 obtain⟨wx,qr⟩:∃q,q=bd l (R (M xl)) 4 [O (i.n==1),O (i.n==0)]:=⟨_,rfl⟩;have PU:=bC TP 4 _ qr;exact oU
def a2E{V F:Int}{s:oA}{c:lI}{cap m:Nat}{i:Ins}{x:Pic}{vs:oA}{vc:Nat}{fs:oA}{fc:Nat}{w:C}{w3 Z n xl wp:C}{v:Ro}{gs:oA}{D:Nat}{L:List Ro}(hx:a7d T w x vs fs)(K:a7l V F c x vc fc i (m:Int))(H:i.k=11)(z:Hid (a8x T V F s c cap (m:Int) i x vs vc fs fc w wp (R (M w)+1+1) (R (M w3)) (R (M Z)) (R (M n)) (R (M n)+1) (R (M xl)) w3 v gs D L a4q E 0 a4q E 0)):SwT (λe w'=>cC (λb=>T b\/R (M w)<=b) w' e (aD i (m:Int) x)/\bl w w') m w w3 Z n xl wp:=by
 have xG:=ag H;clear H;have HK:=ag K;have HX:=cX;have ce:=K.lens.2.1;have n0:=fa;have n1:=eX;have N:=dn;have cm:=dF;clear K hx;refine kd rfl λz0 z2 z4 u=> ?_;simp only[j2,j2.loop,j5];obtain⟨BP,PP,XP,IP,YP,OP,AP,EP,TP,bs,bg,zH,YW,-,zE,-,o2,W,o4,o5,o6⟩:=z.out;have zY:=eU;clear zE;have i0:=eH;rw[xG.out] at i0;obtain⟨kt,ba,jx⟩:=na;have a9:=ag ba;clear ba;obtain⟨f,ef⟩:=x3 HK.out.lens.2.2.2.1;have cg:f<=3:=by have h:=HK.out.lens.2.2.2.2.1;omega
 have ab:m < X L:=by have h:=HK.out.kx.fq;rw[zY.out] at h;simp[bh] at h;omega
 have b4:L[m].l.length=f:=by
  have h:=HK.out.kx.row m (by rw[zY.out];simpa[bh] using ab);have e:x.fq[m]'(by rw[zY.out];simpa[bh] using ab)=roG L[m]:=by
   have:∀(y:Pic) (h:m < X y.fq) (r:y=bh d v L),y.fq[m]=roG L[m]:=by intro y h r;subst r;simp[bh]
   exact this x _ zY.out
  rw[e] at h;simp[roG] at h;omega
 obtain⟨gg,qh⟩:∃g:Gs,g=⟨d,⟨W5,0,0⟩,d,d,[(m:Int)]⟩:=⟨_,rfl⟩;obtain⟨ss,qR⟩:∃a:oA,a=G ⟨R (M wp),0,E⟩:=⟨_,rfl⟩;obtain⟨cp,qy⟩:∃a:Nat,a=1:=⟨_,rfl⟩;have bf:Hid (aD i (m:Int) x=if aq gg then([],d,d) else([⟨(m:Int)+1,bq (iW (m:Int) x) i.tgt gg⟩],d,d)):=Up;have qw:Hid (aq gg=d):=by show _=_;rw[qh];simp[aq,aT]
 have ak:=rk;have az:=ag ef;clear qh qR qy ef;have af:n4 (R (M wp)) wp (wp.alloc (A #[I Y (m:Int)] 3)):=ai;have z6:=(TP.call af).1 6 _ rfl;have b1:=(TP.call af).2.2 6;go_upto_region 72 with fail
 clear z6 b1;have NA:=sT.new wp 3 [I Y (m:Int)];have a1:=Di;have TQ:=TP.call af;have IQ:=IP.call af;have YQ:=YP.call af;have OQ:=OP.call af;have PQ:=PP.call af;have BQ:=BP.trans (af.mono BP.size);have a6:=YW.trans (af.mono YW.size);clear TP IP YP OP BP YW af PP XP AP EP bs bg;generalize wp.alloc _=wq at *;obtain⟨wk,ao⟩:∃q,q=bd wq (R (M xl)) 6 [U (G ⟨R (M wp),0,E⟩) 1 1]:=⟨_,rfl⟩;have PU:=bC TQ 6 _ ao;simp only[bd] at ao;rw[<-ao];clear ao;have TK:=PU.cells;have IK:=PU.keep IQ;have YK:=PU.keep YQ;have OK:=PU.keep OQ;have PK:=PU.keep PQ;have NK:=PU.keep NA (by have:=a1.out;omega)
 have BK:=PU.low aa BQ;have a0:=PU.low aa a6;clear PU TQ IQ YQ OQ PQ NA BQ a6;generalize (R (M wp))=nb at *;have GK:=zH.same (w':=wk) (λb _ a7=>a0.block b a7) a0.size;have p1:=PK.1 1 _ rfl;rw[az.out] at p1;go_wp2;clear p1;obtain⟨P,ax,ch,cf,-⟩:=zH.fform aa;have bt:Hid (0 < f->∃rb,L[m].rs=G ⟨rb,0,E⟩/\R (M w)+1+1+1<=rb/\rb < R (M w3)/\rb≠P):=λh=>by
  obtain⟨rb,e1,e2,e3,e4⟩:=(zH.rows _ (gM ab)).form aa;refine⟨rb,e1,e3,e4,λe=> ?_⟩;exact zH.df P (by rw[ax];rfl) _ (gM ab) (by rw[e2,e])
 go_loopw [27] (λi_ wr=>∃(j:Nat),j<=f/\i_=I Y j/\a7e (λb=>R (M w)<=b) (R (M w)+1+1+1) wr v gs D (dh L m j ab)/\(∀b,b < R (M w)+1+1+1\/R (M w3)<=b->wr.heap[b]? =wk.heap[b]?)/\R (M wk)<=R (M wr)/\bl w wr) (λi_ _=>f - (intOf i_).toNat)
 case atStart=>exact⟨0,j4 _,rfl,by rw[Lp];exact GK,λ_ _=>rfl,lR _,BK⟩
 case round=>
  obtain⟨j,Q,rfl,GR,ad,ah,BR⟩:=hrel;have od:Hid (R (M w3) < R (M Z)/\R (M Z) < R (M xl)):=⟨W,aa⟩;by_cases a7:j < f
  .have j0:=mM
   have j1:(j:Int) < (f:Int):=aa;obtain⟨rb,ay,cc,cb,cl⟩:=bt.out aa;have PR:=PK.same (ad _ (.inl aa)) ah;have YR:=YK.same (ad _ (.inr aa)) ah;have p1:=PR.1 1 _ rfl;rw[az.out] at p1;have y2:=YR.1 2 _ rfl;rw[ax] at y2;have a8:j < L[m].l.length:=aa;have GN:=GR.nul ay a8;have a3:m < X (dh L m j ab):=by rw[iQ];exact ab
   obtain⟨b2,al,-,-,a4⟩:=GR.fform aa;have b0:=a4 m a3;rw[Rb,ay] at b0;have be:b2=P:=by rw[ax] at al;cases al;rfl
   subst be;have RW:=GR.rows _ (gM a3);have am:((dh L m j ab)[m]).rs=G ⟨rb,0,E⟩:=by rw[ri];exact ay
   have ar:j < ((dh L m j ab)[m]).l.length:=by rw[ri];simpa[kj] using a8
   obtain⟨⟨g0,-⟩,-⟩:=RW.gu am (k:=j) ar;obtain⟨bv,b5⟩:∃bv,wr.cell? ⟨rb,j * 7,E⟩=G (O bv):=⟨_,g0⟩;clear g0;have th:=RW.thaw am (j * 7);have m0:=kk;have mm:(m:Int) < (X L:Int):=aa;have jl:(j:Int) < (L[m].l.length:Int):=aa;have HP:Hid (a7e (λb=>R (M w)<=b) (R (M w)+1+1+1) (wr.setCell ⟨rb,j * 7,E⟩ (O W5)) v gs D (dh L m (j+1) ab)/\(∀b,b < R (M w)+1+1+1\/R (M w3)<=b->(wr.setCell ⟨rb,j * 7,E⟩ (O W5)).heap[b]? =wk.heap[b]?)/\R (M wk)<=R (M (wr.setCell ⟨rb,j * 7,E⟩ (O W5)))/\bl w (wr.setCell ⟨rb,j * 7,E⟩ (O W5))):=⟨GN,λb hb=>by rw[hSe _ _ _ _ (by simp only;omega)];exact ad b hb,by simpa[z8] using ah,BR.setCell aw _⟩;clear GN RW a4 GR ad PR YR al am ar a3;go_wp2;go_roundw
   case rel=>exact⟨j+1,aa,aJ,HP.out.1,HP.out.2.1,HP.out.2.2.1,HP.out.2.2.2⟩
   case measure=>exact aK
  .have j1:¬(j:Int) < (f:Int):=by omega
   have PR:=PK.same (ad _ (.inl aa)) ah;have p1:=PR.1 1 _ rfl;rw[az.out] at p1;have ej:j=f:=aa;have bx:Hid (iW (m:Int) x=bh d v (dh L m j ab)):=by show _=_;rw[ML (by omega),<-zY.out]
   have TX:sT wr (R (M xl)) [O gg.n,O gg.sp.n,I Y gg.sp.lo,I Y gg.sp.hi,O gg.t,O gg.f,U ss (X gg.s) cp]:=by rw[ak.out.1,ak.out.2.1,ak.out.2.2];exact TK.same (ad _ (.inr (by have:=od.out;omega))) ah
   have IX:=IK.same (ad _ (.inl aa)) ah;have YX:=YK.same (ad _ (.inr aa)) ah;have OX:=OK.same (ad _ (.inr (by have:=od.out;omega))) ah
   have NX:=NK.same (ad _ (.inr (by have:=a1.out;have:=od.out;omega))) ah
   have BX:=BR;have b3:True:=trivial;have qQ:Hid (a7c (λb=>(T b/\b < R (M w))\/R (M w3)<=b) wr ss gg.s):=by
    show a7c _ _ _ _;rw[ak.out.1,ak.out.2.1];refine .inr ⟨nb,0,rfl,.inr (by have:=a1.out;have:=od.out;omega),NX.2,λk H=> ?_⟩;have t:k=0:=by simp at H;omega
    subst t;exact NX.1 0 _ rfl
   have HCP:Hid (X gg.s<=cp/\cp<=maxLen):=by
    rw[ak.out.1,ak.out.2.2];exact⟨ae,cL⟩
   have bm:=ag GR;clear GR ad PR NX IK YK OK NK PK TK BK a0 GK ak j1;generalize wr=wx at *;go_upto_region 84 with fail
   clear p1;have bb:=wQ;obtain⟨t0,t1,t2,t3,t4,t5,t6⟩:=TX.c7;go_wp2_with fail;refine((bb.out wx).mono ?_);rintro e wy ⟨rfl,xU⟩;clear t0 t1 t2 t3 t4 t5 t6;have TY:=TX.call xU
   have IY:=IX.call xU
   have YY:=YX.call xU
   have OY:=OX.call xU
   have BY:=nj;have bz:True:=trivial;have qx:=mZ;clear TX IX YX OX BX b3 bb qQ;have GP:=bm.out.call xU
   have a2:=vX;have GC:cK (λb=>(T b\/R (M w)<=b)/\Off v (j3 gs (X (dh L m j ab)) D).ownBlock (dh L m j ab) b) wy ⟨gg,ss,cp⟩:=⟨a2.1.mono λb hb _=>⟨hb.1,by rw[iQ];exact nulR_off.2 hb.2⟩,a2.2⟩;clear a2;have jE:kt < X v.l:=AM;obtain⟨vb,zM,b6,ca,b7⟩:=mG;have a5:=uQ;have GS:=a5.setV zM jE GC;have GU:=uP;obtain⟨⟨u0,u1,u2,u3,u4,u5,u6⟩,uz⟩:=GU;have TH:=GP.vq.thaw zM;have f0:=TH (kt * 7);have f1:=TH (kt * 7+1);have f2:=TH (kt * 7+2);have f3:=TH (kt * 7+3);have f4:=TH (kt * 7+4);have f5:=TH (kt * 7+5);have f6:=TH (kt * 7+6);have y1:=YY.1 1 _ rfl;rw[zM] at y1;have i1:=IY.1 1 _ rfl;rw[a9.out] at i1;obtain⟨t0,t1,t2,t3,t4,t5,t6⟩:=TY.c7;have q0:=uy;have q1:=yB;have b8:=ag zM;have OS:sT (cR wy vb kt ⟨gg,ss,cp⟩) (R (M Z)) [I Y ((m:Int)+1),O d,U v.rs (X v.l) v.rc,U gs (X (dh L m j ab)) D]:=by rw[iQ];exact OY.same (fw (by omega)) (by rw[lY];exact lR _)
   have BS:=uv;have HF:Hid (cC (λb=>T b\/R (M w)<=b) (cR wy vb kt ⟨gg,ss,cp⟩) (Rt (Tu #[U (G ⟨R (M Z),0,E⟩) 1 1,O d,O d])) (aD i (m:Int) x)):=by
    show cC _ _ _ _;rw[bf.out,if_neg BJ];refine⟨G ⟨R (M Z),0,E⟩,1,rfl,?_⟩;refine mI (S:=(λb=>T b\/R (M w)<=b)) (v:=⟨v.rs,v.rc,v.l.set kt ⟨gg,ss,cp⟩⟩) (L:=(dh L m j ab)) Ca (.inr aa) GS (λb hb=>hb) (λb hb=>.inr aa) ?_;rw[fQ,<-bx.out,a9.out]
   clear GP GC a5 GS TH TY IY YY OY OS BY qx zH bz zY zM;obtain⟨wv,ap⟩:∃q,q=cR wy vb kt ⟨gg,ss,cp⟩:=⟨_,rfl⟩;have bc:=tV;rw[<-ap] at bc;go_upto_region 87 with fail
   clear u0 u1 u2 u3 u4 u5 u6 uz f0 f1 f2 f3 f4 f5 f6 t0 t1 t2 t3 t4 t5 t6 y1 i1 HF BS;simp only[cR] at ap;rw[<-ap];clear ap;go_wp2;refine bodyPost_ret (v:=Tu #[U (G ⟨R (M Z),0,E⟩) 1 1,O d,O d]) fT rfl bc.out
def a2h{V F:Int}{s:oA}{c:lI}{cap m:Nat}{i:Ins}{x:Pic}{vs:oA}{vc:Nat}{fs:oA}{fc:Nat}{w:C}{w3 w4 w7 xl wp:C}{v:Ro}{gs:oA}{D:Nat}{L:List Ro}(hx:a7d T w x vs fs)(K:a7l V F c x vc fc i (m:Int))(H:i.k=13){ka:Nat}{bv:oA}{a7:Nat}(qL:ka < X x.vq)(xR:i.a=(ka:Int)){kb:Nat}{ad:oA}{ak:Nat}(bt:kb < X x.vq)(cc:i.b=(kb:Int))(SP:Hid (a8x T V F s c cap (m:Int) i x vs vc fs fc w wp (R (M w)+1+1) (R (M w3)) (R (M w4)) (R (M w7)) (R (M w7)+1) (R (M xl)) w3 v gs D L x.vq[ka] bv a7 x.vq[kb] ad ak)):SwT (λe w'=>cC (λb=>T b\/R (M w)<=b) w' e (aD i (m:Int) x)/\bl w w') m w w3 w4 w7 xl wp:=by
 have qW:=fI;have cz:=ag cc;have xG:=ag H;clear H;have HK:=ag K;have HX:=cX;have qA:=K.lens.2.1;have n0:=fa;have n1:=eX;have N:=dn;have d7:=dF;clear K hx xR cc;refine kd rfl λz0 z2 z4 u=> ?_;simp only[j2,j2.loop,j5];obtain⟨BP,PP,XP,IP,YP,OP,AP,EP,TP,dc,c4,be,o,-,zE,-,o2,o3,o4,o5,o6⟩:=SP.out;have c9:=eU;clear zE;have i0:=eH;rw[xG.out] at i0;have cr:=nv;have ch:gAt x i.b=x.vq[kb]:=by rw[cz.out,la bt]
 have ap:Hid (aD i (m:Int) x=if x.vq[ka].s.length=0 then([],ci x.vq[ka],d) else([⟨(m:Int)+1,dW x i.n x.vq[kb] x.vq[ka].s⟩],ci x.vq[ka],d)):=by
  show _=_;unfold aD;rw[if_neg sU,if_neg da,if_neg da,if_neg da,if_neg da,if_neg da,if_pos xG.out,cr,ch]
 have jG:=uL;have ar:=HK.out.kx.gv _ (gM bt);have c3:Hid (∀q∈x.vq[ka].s,∃k:Nat,q=k/\k < X c):=λq hq=>by
  have h:=eI ((ckGs_iff.1 jG).2.1 q hq);obtain⟨k,ek⟩:=yg;exact⟨k,ek,aa⟩
 have dz:=O0;have ca:=(b9 HK.out.one).2.2.2.2.1 (.inr xG.out);obtain⟨p,ep⟩:=x3 ca.1;have c7:Hid ((p:Int) < F):=by show _ < _;omega
 have db:Hid (∀j,a7y V F c (dW x i.n x.vq[kb] (x.vq[ka].s.take j))):=λj=>At HK.out.kx i.n ar _ λq hq=>(ckGs_iff.1 jG).2.1 q (List.mem_of_mem_take hq);have cf:=ag ep;have HJ:Hid (∀(wx:C) (g:Gs) (sg:oA) (cg:Nat),yv wx sg g.s->aH c g=0->yv wx ad x.vq[kb].s->Calls pG 114 #[gv g sg cg,gv x.vq[kb] ad ak,O d] wx λe w'=>∃js jc,e=Rt (Ag #[O (aj d g x.vq[kb]).n,O (aj d g x.vq[kb]).sp.n,I Y (aj d g x.vq[kb]).sp.lo,I Y (aj d g x.vq[kb]).sp.hi,O (aj d g x.vq[kb]).t,O (aj d g x.vq[kb]).f,U js (aj d g x.vq[kb]).s.length jc])/\yv w' js (aj d g x.vq[kb]).s/\(aj d g x.vq[kb]).s.length<=jc/\jc<=maxLen/\(∀a,js=G a->R (M wx)<=a.block/\Thw w' a.block)/\bl wx w'):=λwx g sg cg k1 k2 k3=>by
  have h:=Fe HK.out.h0 g sg cg x.vq[kb] ad ak wx k1 k3 ⟨k2,ar⟩;rw[oN qA k2 ar] at h;exact h
 clear cr ch jG ar ep ca;obtain⟨fn,hfn⟩:∃b,b=x.vq[ka].n:=⟨_,rfl⟩;obtain⟨ft,hft⟩:∃b,b=x.vq[ka].t:=⟨_,rfl⟩;obtain⟨ff,hff⟩:∃b,b=x.vq[ka].f:=⟨_,rfl⟩;obtain⟨fp,hfp⟩:∃b,b=x.vq[ka].sp.n:=⟨_,rfl⟩;have a0:=AP.1 0 _ rfl;have a1:=AP.1 1 _ rfl;have a4:=AP.1 4 _ rfl;have a5:=AP.1 5 _ rfl;rw[<-hfn] at a0;rw[<-hft] at a4;rw[<-hff] at a5;rw[<-hfp] at a1;have co:Hid (ci x.vq[ka]=(fn||ft||ff|| !fp)):=UQ;clear hfn hft hff hfp;go_upto_region 56 with fail
 clear i0;refine wp_region_lit ?_;refine tL (Pp (G ⟨R (M w7),0,E⟩)) ?_;refine sm ?_;refine tL (O fn) ?_;refine sm ?_;refine tL (O fn) ?_;refine sm ?_;refine tLb (fn) (Pp (G ⟨R (M w7),4,E⟩)) ?_ ?_ ?_;rotate_left
 .intro e;cases fn<;>first|(cases e;done)|(first|exact⟨rfl,rfl⟩|(refine⟨rfl,?_⟩;go_simp))
 .intro e;cases fn<;>first|(cases e;done)|rfl
 intro v3 cm;refine sm ?_;refine tLb (fn) (O ft) ?_ ?_ ?_;rotate_left
 .intro e;cases fn<;>first|(cases e;done)|(have cv:=cm.out;simp at cv;subst cv;first|exact⟨rfl,rfl⟩|(refine⟨rfl,?_⟩;go_simp))
 .intro e;cases fn<;>first|(cases e;done)|rfl
 intro v4 hv4;refine sm ?_;refine tL (O (fn||ft)) ?_ Uz rfl;refine sm ?_;refine tL (O (fn||ft)) ?_;refine sm ?_;refine tLb (fn||ft) (Pp (G ⟨R (M w7),5,E⟩)) ?_ ?_ ?_;rotate_left
 .intro e;cases fn<;>cases ft<;>first|(cases e;done)|(first|exact⟨rfl,rfl⟩|(refine⟨rfl,?_⟩;go_simp))
 .intro e;cases fn<;>cases ft<;>first|(cases e;done)|rfl
 intro v7 cl;refine sm ?_;refine tLb (fn||ft) (O ff) ?_ ?_ ?_;rotate_left
 .intro e;cases fn<;>cases ft<;>first|(cases e;done)|(have ce:=cl.out;simp at ce;subst ce;first|exact⟨rfl,rfl⟩|(refine⟨rfl,?_⟩;go_simp))
 .intro e;cases fn<;>cases ft<;>first|(cases e;done)|rfl
 intro v8 hv8;refine sm ?_;refine tL (O (fn||ft||ff)) ?_ VK rfl;refine sm ?_;refine tL (O (fn||ft||ff)) ?_;refine sm ?_;refine tLb (fn||ft||ff) (Pp (G ⟨R (M w7),1,E⟩)) ?_ ?_ ?_;rotate_left
 .intro e;cases fn<;>cases ft<;>cases ff<;>first|(cases e;done)|(first|exact⟨rfl,rfl⟩|(refine⟨rfl,?_⟩;go_simp))
 .intro e;cases fn<;>cases ft<;>cases ff<;>first|(cases e;done)|rfl
 intro v11 bx;refine sm ?_;refine tLb (fn||ft||ff) (Pp (G ⟨R (M w7),1,E⟩)) ?_ ?_ ?_;rotate_left
 .intro e;cases fn<;>cases ft<;>cases ff<;>first|(cases e;done)|(have bz:=bx.out;simp at bz;subst bz;first|exact⟨rfl,rfl⟩|(refine⟨rfl,?_⟩;go_simp))
 .intro e;cases fn<;>cases ft<;>cases ff<;>first|(cases e;done)|rfl
 intro v12 bm;refine sm ?_;refine tLb (fn||ft||ff) (O fp) ?_ ?_ ?_;rotate_left
 .intro e;cases fn<;>cases ft<;>cases ff<;>first|(cases e;done)|(have bs:=bm.out;simp at bs;subst bs;first|exact⟨rfl,rfl⟩|(refine⟨rfl,?_⟩;go_simp))
 .intro e;cases fn<;>cases ft<;>cases ff<;>first|(cases e;done)|rfl
 intro v13 b1;refine sm ?_;refine tLb (fn||ft||ff) (O (!fp)) ?_ ?_ ?_;rotate_left
 .intro e;cases fn<;>cases ft<;>cases ff<;>first|(cases e;done)|(have b0:=b1.out;simp at b0;subst b0;first|exact⟨rfl,rfl⟩|(refine⟨rfl,?_⟩;go_simp))
 .intro e;cases fn<;>cases ft<;>cases ff<;>first|(cases e;done)|rfl
 intro v14 Qy;refine sm ?_;refine tL (O (fn||ft||ff|| !fp)) ?_ UG rfl;refine sm ?_;refine tL (O (fn||ft||ff|| !fp)) ?_;refine sm ?_;refine wpList_nil ?_;clear a0 a1 a4 a5 cm hv4 cl hv8 bx bm b1 Qy;generalize (fn||ft)=f2 at *;generalize (f2||ff)=f3 at *;generalize (f3|| !fp)=wb at *;have dq:=Di;have a6:=AP.1 6 _ rfl;rcases Nat.eq_zero_or_pos x.vq[ka].s.length with hz|hz
 .have bb:Hid (aD i (m:Int) x=([],wb,d)):=by show _=_;rw[ap.out,if_pos hz,co.out]
  have c0:((x.vq[ka].s.length:Int)==0)=true:=by rw[hz];rfl
  clear ap;go_wp2;refine bodyPost_ret (v:=Tu #[U E 0 0,O wb,O d]) fT rfl ⟨?_,BP⟩;rw[bb.out];exact tB
 .have bb:Hid (aD i (m:Int) x=([⟨(m:Int)+1,dW x i.n x.vq[kb] x.vq[ka].s⟩],wb,d)):=by show _=_;rw[ap.out,if_neg aa,co.out]
  have c0:((x.vq[ka].s.length:Int)==0)=false:=by rw[beq_eq_false_iff_ne];omega
  clear ap;have GK:=be.same (w':=wp) (λb _ af=>o.block b af) o.size;have dr:Hid (∀r∈L,∀b,roB r=G b->R (M w)+1+1+1<=b/\b < R (M w3)):=λr hr b hb=>⟨((be.rows r hr).lt hb).2,((be.rows r hr).lt hb).1⟩;have c6:Hid (∀b,(j3 gs (X L) D).ownBlock=G b->b < R (M w3)):=λb hb=>(aU be.fq hb).1;go_wp2;clear a6;go_loopw [25] (λi_ wr=>∃(j:Nat) (L':List Ro),j<=x.vq[ka].s.length/\i_=I Y j/\a7e (λb=>R (M w)<=b) (R (M w)+1+1+1) wr v gs D L'/\Hid (bh d v L'=dW x i.n x.vq[kb] (x.vq[ka].s.take j)/\L'.map roB=L.map roB)/\(∀b,b < R (M w)+1+1+1\/R (M w3)<=b/\b < R (M wp)->wr.heap[b]? =wp.heap[b]?)/\R (M wp)<=R (M wr)/\bl w wr) (λi_ _=>x.vq[ka].s.length - (intOf i_).toNat)
  case atStart=>exact⟨0,L,j4 _,rfl,GK,⟨by rw[<-c9.out];rfl,rfl⟩,λ_ _=>rfl,lR _,BP⟩
  case round=>
   obtain⟨j,L',hj,rfl,GR,am,ah,a8,BR⟩:=hrel;have d3:=dq.out;have AR:=AP.same (ah _ (.inr ⟨aa,aa⟩)) a8;have a6:=AR.1 6 _ rfl;have b7:Hid (X L'=X L):=by show _=_;have h:=congrArg X am.out.2;simpa using h
   by_cases af:j < x.vq[ka].s.length
   .have j0:=mM
    have j1:(j:Int) < (x.vq[ka].s.length:Int):=aa;obtain⟨q,eq,c8⟩:=c3.out _ (gM af);have a9:=db.out j;rw[<-am.out.1] at a9;have b3:=Lw a9;have ab:q < X L':=by rw[b3.1];exact c8
    have az:p < L'[q].l.length:=by have:=b3.2 q ab;have:=c7.out;omega
    have q0:=fO;have q2:(q:Int) < (X L':Int):=aa;have p0:=yu;have p2:(p:Int) < (L'[q].l.length:Int):=aa;obtain⟨bg,bc,b4,dv,b8⟩:∃b ay,bv=G ⟨b,ay,E⟩/\b < R (M w)/\∀k (h:k < x.vq[ka].s.length),w.cell? ⟨b,ay+k,E⟩=G (I Y x.vq[ka].s[k]):=by
     rcases dc.1 with h|⟨b,ay,e,-,hz,Z⟩
     .rw[h] at af;simp at af
     .exact⟨b,ay,e,hz.1,Z⟩
    obtain⟨fb,ba,d6,c5,cs⟩:=GR.fform aa;obtain⟨rb,a3,cp,d0,c1⟩:=(GR.rows _ (gM ab)).form aa;have d5:rb < R (M w3):=by
     have W:roB L'[q]∈L.map roB:=by rw[<-am.out.2];exact List.mem_map_of_mem (gM ab)
     obtain⟨r,hr,er⟩:=List.mem_map.1 W;exact(dr.out r hr rb (by rw[er,cp])).2
    have d1:fb < R (M w3):=c6.out fb (by rw[<-b7.out,ba];rfl);obtain⟨y,ax⟩:∃y,L'[q].l[p]=y:=⟨_,rfl⟩;have EY:Hid (L'[q].l[p]=y):=ax;have YC:=GR.sf _ (gM ab) _ (gM az);rw[ax] at YC;have YK:aH c y.g=0:=by
     have h:=FT a9 (q:Int) (p:Int);rw[rF ab az,ax] at h;exact h
    have c2:Hid (fAt (bh d v L') (q:Int) (p:Int)=y.g):=by show _=_;rw[rF ab az,ax]
    have bf:=cs q ab;unfold roV at bf;rw[a3] at bf;have IR:=IP.same (ah _ (.inl aa)) a8;have YR:=YP.same (ah _ (.inr ⟨lR _,aa⟩)) a8;have ER:=EP.same (ah _ (.inr ⟨aa,aa⟩)) a8;have al:=dS;have b6:=(GR.rows _ (gM ab)).gu a3 (k:=p) az;rw[ax] at b6;have ct:Hid (∀wz,n4 (R (M wr.drew)) wr.drew wz->wz.cell? ⟨R (M w3),2,E⟩=G (U (G ⟨fb,0,E⟩) (X L') D)/\wz.cell? ⟨R (M w7),6,E⟩=G (U (G ⟨bg,bc,E⟩) x.vq[ka].s.length a7)/\wz.cell? ⟨bg,bc+j,E⟩=G (I Y (q:Int))/\wz.cell? ⟨fb,q,E⟩=G (U (G ⟨rb,0,E⟩) L'[q].l.length L'[q].rc)/\wz.cell? ⟨R (M w)+1+1,4,E⟩=G (I Y (p:Int))/\(wz.cell? ⟨rb,p * 7,E⟩=G (O y.g.n)/\wz.cell? ⟨rb,p * 7+1,E⟩=G (O y.g.sp.n)/\wz.cell? ⟨rb,p * 7+2,E⟩=G (I Y y.g.sp.lo)/\wz.cell? ⟨rb,p * 7+3,E⟩=G (I Y y.g.sp.hi)/\wz.cell? ⟨rb,p * 7+4,E⟩=G (O y.g.t)/\wz.cell? ⟨rb,p * 7+5,E⟩=G (O y.g.f)/\wz.cell? ⟨rb,p * 7+6,E⟩=G (U y.ss (X y.g.s) y.cap))/\(wz.cell? ⟨R (M w7)+1,0,E⟩=G (O x.vq[kb].n)/\wz.cell? ⟨R (M w7)+1,1,E⟩=G (O x.vq[kb].sp.n)/\wz.cell? ⟨R (M w7)+1,2,E⟩=G (I Y x.vq[kb].sp.lo)/\wz.cell? ⟨R (M w7)+1,3,E⟩=G (I Y x.vq[kb].sp.hi)/\wz.cell? ⟨R (M w7)+1,4,E⟩=G (O x.vq[kb].t)/\wz.cell? ⟨R (M w7)+1,5,E⟩=G (O x.vq[kb].f)/\wz.cell? ⟨R (M w7)+1,6,E⟩=G (U ad x.vq[kb].s.length ak))):=λwz hz=>by
     have hb:=al.trans (hz.mono al.size);have y2:=(YR.call hb).1 2 _ rfl;rw[ba,<-b7.out] at y2;have s6:=(AR.call hb).1 6 _ rfl;rw[b4] at s6;have hB:=BR.trans (hb.mono BR.size);have e:=ER.call hb;refine⟨y2,s6,?_,?_,?_,(b6.call hb).1,⟨e.1 0 _ rfl,e.1 1 _ rfl,e.1 2 _ rfl,e.1 3 _ rfl,e.1 4 _ rfl,e.1 5 _ rfl,e.1 6 _ rfl⟩⟩
     .rw[hB.cell (by simp only;exact dv),b8 j af,eq]
     .rw[hb.cell (by simp only;exact c5)];exact bf
     .rw[<-cf.out];exact(IR.call hb).1 4 _ rfl
    have df:Hid (x.vq[ka].s[j]=(q:Int)):=eq;have G4:=GR.call al;have YI:=(YC.1.call al).at;have b5:Hid (R (M wp)<=R (M wr.drew)/\R (M w)<=R (M wp)):=⟨by have:=al.size;omega,aa⟩
    have ao:Hid (bl w wr.drew):=BR.drew;have ds:Hid (yv wr.drew ad x.vq[kb].s):=(c4.1.same (λb _ af=>ao.out.block b af) ao.out.size).at;have cb:Hid (∀b,b < R (M w)+1+1+1\/R (M w3)<=b/\b < R (M wp)->wr.drew.heap[b]? =wp.heap[b]?):=λb hb=>by rw[al.block b (by omega)];exact ah b hb
    have d4:=ag ba;have d2:=ag b4;clear GR ah AR IR YR ER b8 cs bf YC ax b6 b4 ba eq a9 b3 al cp c1 BR;go_upto_region 62 with fail
    clear a6;refine XK [27] ac ct.out (bR _ _) (λb2=> ?_);generalize wr.drew=w4 at *;refine QQ ?_;refine QS ?_;refine QZ ?_;refine QN 20 ?_;refine QN 21 ?_;refine QN 22 ?_;refine QN 23 ?_;refine QN 24 ?_;refine av (i:=25) rfl ac (λK hK=> ?_);go_simp;refine(HJ.out w4 y.g y.ss y.cap YI YK ds.out).mono ?_;rintro e w5 ⟨js,jc,rfl,JI,J1,J2,JF,a2⟩;refine hK.out _ _ (ct.out _ a2) (λb2=> ?_);clear hK K;refine sm ?_;refine QN 26 ?_;refine aM (i:=27) rfl ac ac (λK hK=> ?_);have G5:=G4.call a2;have JG:cK (λb=>R (M w)<=b/\Off v (j3 gs (X L') D).ownBlock L' b) w5 ⟨aj d y.g x.vq[kb],js,jc⟩:=by
     refine⟨?_,J1,J2⟩;rcases JI with h|⟨b,ay,e,hb,Z⟩
     .exact cA
     .have hz:=JF _ e
      simp only at hz;exact .inr ⟨b,ay,e,⟨by have:=b5.out;omega,λe=>by have:=(G4.vq.lt e).1;omega,λe=>by have:=(aU G4.fq e).1;omega,λr hr e=>by have:=((G4.rows r hr).lt e).1;omega⟩,⟨hb,hz.2⟩,Z⟩
    have GS:=G5.setF ab a3 az JG;have GU:=(G5.rows _ (gM ab)).gu a3 (k:=p) az;rw[EY.out] at GU;obtain⟨⟨r0,r1,r2,r3,r4,r5,r6⟩,rz⟩:=GU;have TH:=(G5.rows _ (gM ab)).thaw a3;have f0:=TH (p * 7);have f1:=TH (p * 7+1);have f2:=TH (p * 7+2);have f3:=TH (p * 7+3);have f4:=TH (p * 7+4);have f5:=TH (p * 7+5);have f6:=TH (p * 7+6);obtain⟨w6,e6⟩:∃z,z=cR w5 rb p ⟨aj d y.g x.vq[kb],js,jc⟩:=⟨_,rfl⟩;have HR:Hid (a7e (λb=>R (M w)<=b) (R (M w)+1+1+1) w6 v gs D (L'.set q ⟨L'[q].rs,L'[q].rc,L'[q].l.set p ⟨aj d y.g x.vq[kb],js,jc⟩⟩)/\(∀b,b < R (M w)+1+1+1\/R (M w3)<=b/\b < R (M wp)->w6.heap[b]? =wp.heap[b]?)/\R (M wp)<=R (M w6)/\bl w w6):=by
     rw[e6];refine⟨GS,λb hb=> ?_,by rw[lY];have:=a2.size;have:=b5.out;omega,fZ (ao.out.trans (a2.mono ao.out.size)) aa⟩;rw[fw aa,a2.block b (by have:=b5.out;omega)];exact cb.out b hb
    simp only[cR] at e6;go_simp;rw[<-e6];refine hK.out _ _ ?_;clear hK K r0 r1 r2 r3 r4 r5 r6 rz f0 f1 f2 f3 f4 f5 f6 e6 GS JG G5 TH JI JF;refine sm ?_;refine aB ac ?_ _;go_wp2;go_roundw
    case rel=>exact⟨j+1,(L'.set q ⟨L'[q].rs,L'[q].rc,L'[q].l.set p ⟨aj d y.g x.vq[kb],js,jc⟩⟩),aa,aJ,HR.out.1,⟨by rw[Gh ab,CG af,<-am.out.1,df.out,cf.out,c2.out],by rw[j8,kO (v:=L'[q]) (by simp),<-x9 (f:=roB) (h:=by simpa using ab),j9];exact am.out.2⟩,HR.out.2.1,HR.out.2.2.1,HR.out.2.2.2⟩
    case measure=>exact aK
   .have j1:¬(j:Int) < (x.vq[ka].s.length:Int):=by omega
    have ej:x.vq[ka].s.take j=x.vq[ka].s:=z9 aa;have OR:=OP.same (ah _ (.inr ⟨aa,aa⟩)) a8;rw[<-b7.out] at OR;have HF:Hid (cC (λb=>T b\/R (M w)<=b) wr (Rt (Tu #[U (G ⟨R (M w4),0,E⟩) 1 1,O wb,O d])) (aD i (m:Int) x)/\bl w wr):=by
     rw[bb.out];exact⟨⟨G ⟨R (M w4),0,E⟩,1,rfl,mI (S:=(λb=>T b\/R (M w)<=b)) OR (.inr aa) GR (λb hb=>.inr hb) (λb hb=>.inr aa) (by rw[am.out.1,ej])⟩,BR⟩
    clear GR ah AR OR BR am bb ej;go_wp2;refine bodyPost_ret (v:=Tu #[U (G ⟨R (M w4),0,E⟩) 1 1,O wb,O d]) fT rfl HF.out
def goC:List Nat->Option Code->Option Code
 |[],o=>o
 |0::p,G (.seq a _)=>goC p (G a)
 |_::p,G (.seq _ b)=>goC p (G b)
 |0::p,G (.cond _ a _)=>goC p (G a)
 |_::p,G (.cond _ _ b)=>goC p (G b)
 |_::p,G (.block _ c)=>goC p (G c)
 |_::_,_=>E
def Ah {P:Program}{Q:Exit->Act->C->Prop}{a:Act}{w:C}{o:Option Code}{c g:Code}(h:o=G c)(e:o=G g)(i:g.wp P Q a w):c.wp P Q a w:=by
 cases h.symm.trans e;exact i
def a7t.down {n n' t:Nat}{w:C}{v:mh}{L:List Ed}(h:a7t n t w v L)(u:n'<=n):a7t n' t w v L:=⟨fP h.own u,h.off,λe k=>⟨(h.pics e k).1.mono λ_ Z _=>⟨lT u Z.1,Z.2⟩,(h.pics e k).2⟩⟩
def vj(h:p:=by
 simp only[bd] at ez;rw[<-ez];refine HH.out _ _ bL ?_;rw[HQ.out];exact qv.out.trans PZ):=h
def a0d{K4:Act->C->Prop}{R:Ending->C->Prop}{c':Code}{z:Nat->mh}{V:List mh}{K3:Act->C->Prop}{l:Nat}{t s:Int}{k:Bool}{x:mh}{D:C}(Z:goC [1,1,1,1,1,1,1,1,1,1,0,1,0,1,1,1,1,1,1,1,0,1,1,0,1,0,1,1,1,0,1,0] Tryz.f59.body=G c')(hl:X V=317)(hv:sT D l [O d,O d,I Y t,I Y s,O k,O d,x])(W:t<=s)(H:∀(w':C) (F:List mh),X F=317->Put l D w' [O d,O (cE ⟨d,t,s⟩).n,I Y (cE ⟨d,t,s⟩).lo,I Y (cE ⟨d,t,s⟩).hi,O k,O d,x]->K ⟨((j2 20).map z++Pp (G ⟨l,0,E⟩)::F).toArray,[]⟩ w'):c'.wp pG (Exit.then K (Exit.then K3 (Exit.inBlock 0 (Exit.then K4 (bodyPost pG Tryz.f59 R))))) ⟨((j2 20).map z++Pp (G ⟨l,0,E⟩)::V).toArray,[]⟩ D:=by
 obtain⟨u,rfl⟩:=mD V _ hl;refine Ah Z rfl ?_;simp only[j2,j2.loop,j5,q8,q7] at H |-;have HH:=ag H;clear H Z hl;have qv:Hid (Put l D D.drew [O d,O d,I Y t,I Y s,O k,O d,x]):=⟨hv.call (bR _ _).drew,λ_ _=>rfl,lR _,λ_ h=>h.drew⟩;clear hv;go_upto_region 31 with fail
 refine aC (S:=(λg=>g.cell? ⟨l,2,E⟩=G (I Y t)/\g.cell? ⟨l,3,E⟩=G (I Y s))) [] ac ⟨qv.out.cells.1 2 _ rfl,qv.out.cells.1 3 _ rfl⟩ (λr=> ?_);generalize D.drew=wd at *;refine QQ ?_;refine aB ac ?_ _;have k1:=qv.out.cells.1 1 _ rfl;have ah:=qv.out.cells.2.2 1;have k2:=qv.out.cells.1 2 _ rfl;have af:=qv.out.cells.2.2 2;have k3:=qv.out.cells.1 3 _ rfl;have ak:=qv.out.cells.2.2 3;by_cases e1:t=0
 .have ad:(t==0)=true:=by simpa using e1
  by_cases e2:s=0
  .have ab:(s==0)=true:=by simpa using e2
   have HQ:Hid (cE ⟨d,t,s⟩=⟨W5,0,0⟩):=Bw;clear e1 e2 W;go_wp2_with fail;obtain⟨y,ez⟩:∃q,q=bd wd l 1 [O d,I Y 1,I Y (-1)]:=⟨_,rfl⟩;have PZ:Put l wd y [O d,O d,I Y 1,I Y (-1),O k,O d,x]:=bC qv.out.cells 1 _ ez;obtain⟨wy,ey⟩:∃q,q=bd y l 1 [O W5,I Y 0,I Y 0]:=⟨_,rfl⟩;have PY:Put l y wy [O d,O W5,I Y 0,I Y 0,O k,O d,x]:=bC PZ.cells 1 _ ey;simp only[bd] at ey;simp only[bd] at ez;rw[<-ez];rw[<-ey];refine HH.out _ _ bL ?_;rw[HQ.out];exact qv.out.trans (PZ.trans PY)
  .have ab:(s==0)=false:=by simpa using e2
   have N:¬s < 1:=aa;have HQ:Hid (cE ⟨d,t,s⟩=⟨d,1,s⟩):=Bw;clear e1 e2 W;go_wp2_with fail;obtain⟨y,ez⟩:∃q,q=bd wd l 1 [O d,I Y 1,I Y s]:=⟨_,rfl⟩;have PZ:Put l wd y [O d,O d,I Y 1,I Y s,O k,O d,x]:=bC qv.out.cells 1 _ ez;exact vj
 .have ad:(t==0)=false:=by simpa using e1
  by_cases e2:s=0
  .have ab:(s==0)=true:=by simpa using e2
   have N:¬(-1:Int) < t:=aa;have HQ:Hid (cE ⟨d,t,s⟩=⟨d,t,-1⟩):=Bw;clear e1 e2 W;go_wp2_with fail;obtain⟨y,ez⟩:∃q,q=bd wd l 1 [O d,I Y t,I Y (-1)]:=⟨_,rfl⟩;have PZ:Put l wd y [O d,O d,I Y t,I Y (-1),O k,O d,x]:=bC qv.out.cells 1 _ ez;exact vj
  .have ab:(s==0)=false:=by simpa using e2
   have N:¬s < t:=aa;have HQ:Hid (cE ⟨d,t,s⟩=⟨d,t,s⟩):=Bw;clear e1 e2 W;go_wp2_with fail;obtain⟨y,ez⟩:∃q,q=bd wd l 1 [O d,I Y t,I Y s]:=⟨_,rfl⟩;have PZ:Put l wd y [O d,O d,I Y t,I Y s,O k,O d,x]:=bC qv.out.cells 1 _ ez;exact vj
def a3e{c:Act->C->Prop}{R:Ending->C->Prop}{a:Code}{z:Nat->mh}{V:List mh}{m t:Nat}{i:Ins}{x:Pic}{w wt:C}{ka:Nat}{v2:Ro}{D:oA}{n:Nat}{L2:List Ro}{l N:Nat}{tg:Gs}{ss:oA}{cp:Nat}{s:C}(g:Int)(Z:goC [1,1,1,1,1,1,1,1,1,1,0,1,0,1,1,1,1,1,1,1,0,1,1,0,1,0,1,1,1,1] Tryz.f59.body=G a)(hl:X V=317)(W:z 1=I Y (m:Int))(S:z 9=Pp (G ⟨w.heap.size+1+1,0,E⟩))(bv:(m:Int)<=60)(n0:(0:Int)<=(m:Int))(ab:i.k=17/\g=(m:Int)+1\/i.k=15/\g=i.g)(xR:i.a=(ka:Int))(y:ka < X v2.l)(bt:w.heap.size+1+1 < wt.heap.size)(bs:t < wt.heap.size)(ao:sT s N [O d,U v2.rs (X v2.l) v2.rc,U D (X L2) n])(az:roB v2≠G N)(ar:sT s (w.heap.size+1+1) [I Y i.k,I Y i.tgt,I Y i.a,I Y i.b,I Y i.n,I Y i.g])(ad:a7e (λb=>wt.heap.size<=b) (wt.heap.size) s v2 D n L2)(CS:sT s l [O tg.n,O tg.sp.n,I Y tg.sp.lo,I Y tg.sp.hi,O tg.t,O tg.f,U ss (X tg.s) cp])(GC:cK (λb=>wt.heap.size<=b/\Off v2 (j3 D (X L2) n).ownBlock L2 b) s ⟨tg,ss,cp⟩)(a6:bl wt s)(ay:x=bh d v2 L2)(H:∀(r:List Ed) (Q:mh) (w':C) (F:List mh),X F=319->a7t wt.heap.size t w' Q r->Hid (r.map edG=[⟨g,bq x i.a tg⟩])->bl wt w'->K ⟨((j2 18).map z++Q::F).toArray,[]⟩ w'):a.wp pG (Exit.then K (Exit.inBlock 0 (Exit.then c (bodyPost pG Tryz.f59 R)))) ⟨((j2 18).map z++U E 0 0::Pp (G ⟨N,0,E⟩)::Pp (G ⟨l,0,E⟩)::V).toArray,[]⟩ s:=by
 obtain⟨u,rfl⟩:=mD V _ hl;refine Ah Z rfl ?_;simp only[j2,j2.loop,j5,q8,q7,W,S] at H |-;have HH:=ag H;clear H Z hl;have al:=fI;have bf:=ag ay;have a9:=ag ab;obtain⟨vb,a2,a5,bm,bg⟩:=ad.vq.form aa;have a8:N≠vb:=λe=>az (by rw[a5,e]);have ah:=ag a2;clear xR ay ab a2 a5 az W S;obtain⟨⟨u0,u1,u2,u3,u4,u5,u6⟩,uz⟩:=ad.vq.gu ah.out (k:=ka) y;have TH:=ad.vq.thaw ah.out;have f0:=TH (ka * 7);have f1:=TH (ka * 7+1);have f2:=TH (ka * 7+2);have f3:=TH (ka * 7+3);have f4:=TH (ka * 7+4);have f5:=TH (ka * 7+5);have f6:=TH (ka * 7+6);have g1:=ao.1 1 _ rfl;rw[ah.out] at g1;have i2:=ar.1 2 _ rfl;rw[al.out] at i2;obtain⟨t0,t1,t2,t3,t4,t5,t6⟩:=CS.c7;obtain⟨wz,ak⟩:∃q,q=cR s vb ka ⟨tg,ss,cp⟩:=⟨_,rfl⟩;have HF:Hid (sT wz N [O d,U v2.rs (X v2.l) v2.rc,U D (X L2) n]/\sT wz (w.heap.size+1+1) [I Y i.k,I Y i.tgt,I Y i.a,I Y i.b,I Y i.n,I Y i.g]/\a7e (λb=>wt.heap.size<=b) (wt.heap.size) wz ⟨v2.rs,v2.rc,v2.l.set ka ⟨tg,ss,cp⟩⟩ D n L2/\bl wt wz):=by
  rw[ak];exact⟨ao.same (fw a8) mc,ar.same (fw aa) mc,ad.setV ah.out y GC,fZ a6 aa⟩
 have q0:=lE;have q1:(ka:Int) < (X v2.l:Int):=aa;clear ao ar ad a6 GC TH CS;go_upto_region 40 with fail
 clear u0 u1 u2 u3 u4 u5 u6 uz f0 f1 f2 f3 f4 f5 f6 t0 t1 t2 t3 t4 t5 t6 g1 i2;simp only[cR] at ak;rw[<-ak];clear ak;obtain⟨GZ,IZ,PZ,BZ⟩:=HF.out;have a0:=ag PZ;have am:=ag BZ;have i5:=IZ.1 5 _ rfl;obtain⟨g0,g1,g2⟩:=GZ.c3;clear HF PZ BZ;go_upto_region 41 with fail
 clear g0 g1 g2 i5;have N4:sT (wz.alloc (A #[I Y i.g,O d,U v2.rs (X v2.l) v2.rc,U D (X L2) n] 45)) wz.heap.size [I Y i.g,O d,U v2.rs (X v2.l) v2.rc,U D (X L2) n]:=sT.new wz _ [_,_,_,_];have h4:n4 wz.heap.size wz (wz.alloc (A #[I Y i.g,O d,U v2.rs (X v2.l) v2.rc,U D (X L2) n] 45)):=ai;generalize wz.alloc _=w4a at *;have I4:=IZ.call h4;have i0:=I4.1 0 _ rfl;go_upto_if 140 with fail
 clear i0;go_cut [] (λwc=>Put wz.heap.size w4a wc [I Y g,O d,U v2.rs (X v2.l) v2.rc,U D (X L2) n])
 case first=>
  have k0:=N4.1 0 _ rfl;have k1:=N4.2.2 0;have a3:=ag N4;clear N4;rcases a9.out with⟨hk,ab⟩|⟨hk,ab⟩
  .have hb:(i.k==17)=true:=by rw[hk];rfl
   have HE:=ag ab;clear hk ab;go_wp2_with fail;go_meet;obtain⟨wq,eq⟩:∃q,q=bd w4a wz.heap.size 0 [I Y ((m:Int)+1)]:=⟨_,rfl⟩;have PQ:=bC a3.out 0 _ eq;simp only[bd] at eq;rw[<-eq,HE.out];exact PQ
  .have hb:(i.k==17)=false:=by rw[hk];rfl
   have HE:=ag ab;clear hk ab;go_wp2_with fail;go_meet;rw[HE.out];exact Put.refl a3.out
 have PU:=hcut;generalize wc=w5 at *;clear wc N4 I4;have N5:=PU.cells;have h5:bl wz w5:=PU.low (lR _) h4;have ap:=am.out.trans (h5.mono am.out.size);have h6:n4 w5.heap.size w5 (w5.alloc (A #[I Y g,O d,U v2.rs (X v2.l) v2.rc,U D (X L2) n] 45)):=ai;have P6:=(a0.out.call h5).call h6;have bb:=ap.trans (h6.mono ap.size);have z5:=ap.size;have be:Fl (λb=>wt.heap.size<=b/\b≠t/\(j3 E 0 0).ownBlock≠G b) (w5.alloc (A #[I Y g,O d,U v2.rs (X v2.l) v2.rc,U D (X L2) n] 45)) ⟨g,bh d ⟨v2.rs,v2.rc,v2.l.set ka ⟨tg,ss,cp⟩⟩ L2,v2.rs,v2.rc,D,n⟩:=by
  refine⟨(P6.on d).mono λb hb _=> ?_,P6.vcap d,P6.fcap' d⟩;have ba:wt.heap.size<=b:=by rcases hb with hb|hb<;>exact hb
  exact⟨ba,aa,λe=>by cases e⟩
 obtain⟨c0,c1,c2⟩:=N5.c3;have c3:=N5.1 3 _ rfl;clear GZ IZ a0 am N5 PU h4;obtain⟨tk,bc,a4,ax,a7⟩:=info_parts Tryz.info_edge;go_wp2_with (at_builtin;refine bn _ rfl _ _ 41 rfl (wt.heap.size) 45 tk (Ag #[I Y 0,O d,U E 0 0,U E 0 0]) 4 64 underlying41 bc a4 ax a7 rfl an _ _ _ rfl (a7t.nil _ t _).own (G ⟨w5.heap.size,0,E⟩) 1 1 (dN ⟨g,bh d ⟨v2.rs,v2.rc,v2.l.set ka ⟨tg,ss,cp⟩⟩ L2,v2.rs,v2.rc,D,n⟩) rfl rfl (λh=>bU) ?qc2 (rW _) ?qc4 ?qc5 ?qc6 ?_);(try (case qc2=>exact a3k w5 ⟨g,bh d ⟨v2.rs,v2.rc,v2.l.set ka ⟨tg,ss,cp⟩⟩ L2,v2.rs,v2.rc,D,n⟩ #[I Y g,O d,U v2.rs (X v2.l) v2.rc,U D (X L2) n] _ (by simp[dN,bh,roG])));(try (case qc4=>unfold maxLen;first|omega|(simp;done)|(simp;omega)));(try (case qc5=>first|omega|(simp;done)|(simp;omega)));(try (case qc6=>first|omega|(rw[zA];omega)|(simp;omega)|simp));intro P w6 a1 af xY;have RW:=(a7t.nil wt.heap.size t _).grown be a1 af iB (by rw[zA];omega);have B6:bl wt w6:=bb.grown af (by rw[zA];omega) (λk hk=>by cases hk);go_wp2_with fail;exact HH.out _ _ _ _ bL RW (by show _=_;simp only[q7,j5,edG,fQ];rw[<-bf.out,al.out]) B6
def Rj {w w':C}{b k:Nat}{x:Gc}(h:w'.heap[b]? =w.heap[b]?):(cR w' b k x).heap[b]? =(cR w b k x).heap[b]? :=by
 simp only[cR,z8,Array.getElem?_modify,if_true,h]
def a0R{c:Act->C->Prop}{R:Ending->C->Prop}{a:Code}{z:Nat->mh}{V:List mh}{m:Nat}{i:Ins}{x:Pic}{w w3:C}{t ka N:Nat}{v:Ro}{gs:oA}{D:Nat}{L:List Ro}{r:List Ed}{W:oA}{n:Nat}{fg:Gs}{l:Nat}{bm a8 bf bb bc:mh}{s:C}(Z:goC [1,1,1,1,1,1,1,1,1,1,0,1,0,1,1,1,1,1,1,1,0,1,1,1,1,0,1,0,1,1,1] Tryz.f59.body=G a)(hl:X V=313)(S:z 9=Pp (G ⟨w.heap.size+1+1,0,E⟩))(a2:z 10=Pp (G ⟨w3.heap.size,0,E⟩))(ar:z 11=U (G ⟨t,0,E⟩) 1 1)(xR:i.a=(ka:Int))(ex:x=bh d v L)(zH:a7e (λb=>w.heap.size<=b) (w.heap.size+1+1+1) w3 v gs D L)(o2:w.heap.size+1+1+1<=w3.heap.size)(o3:w3.heap.size < t)(o4:t < N)(bt:X r<=10)(y:ka < X v.l)(hfs:fg.s=[])(IS:sT s (w.heap.size+1+1) [I Y i.k,I Y i.tgt,I Y i.a,I Y i.b,I Y i.n,I Y i.g])(YS:sT s w3.heap.size [O d,U v.rs (X v.l) v.rc,U gs (X L) D])(OS:sT s t [I Y ((m:Int)+1),O d,U v.rs (X v.l) v.rc,U gs (X L) D])(o:bl w3 s)(BS:bl w s)(ES:a7t N w3.heap.size s (U W (X r) n) r)(g:sT s l [O fg.n,O fg.sp.n,I Y fg.sp.lo,I Y fg.sp.hi,O fg.t,O fg.f,U E 0 0])(H:∀(P:List Ed) (Q:mh) (w':C) (F:List mh),X F=319->a7t w.heap.size w3.heap.size w' Q P->Hid (P.map edG=r.map edG++[⟨(m:Int)+1,bq x i.a fg⟩])->bl w w'->K ⟨((j2 18).map z++Q::F).toArray,[]⟩ w'):a.wp f (Exit.then K (Exit.inBlock 0 (Exit.then c (bodyPost f Tryz.f59 R)))) ⟨((j2 18).map z++U W (X r) n::bm::a8::bf::bb::bc::Pp (G ⟨l,0,E⟩)::V).toArray,[]⟩ s:=by
 obtain⟨u,rfl⟩:=mD V _ hl;refine Ah Z rfl ?_;simp only[j2,j2.loop,j5,q8,q7,S,a2,ar] at H |-;have HH:=ag H;clear H Z hl;have al:=fI;have bs:=ag ex;have ak:=zH.call o;obtain⟨vb,ax,bg,bv,a5⟩:=mG;have ab:=ag ax;have a7:=ag hfs;have a4:=o.size;have GC:cK (λb=>w.heap.size<=b/\Off v (j3 gs (X L) D).ownBlock L b) s ⟨fg,E,0⟩:=⟨.inl hfs,Uv,j4 _⟩;have az:cK (λb=>w.heap.size<=b/\Off v (j3 gs (X L) D).ownBlock L b) w3 ⟨fg,E,0⟩:=⟨.inl hfs,Uv,j4 _⟩;clear xR ex ax bg hfs S a2 ar;obtain⟨⟨u0,u1,u2,u3,u4,u5,u6⟩,uz⟩:=ak.vq.gu ab.out (k:=ka) y;have TH:=ak.vq.thaw ab.out;have f0:=TH (ka * 7);have f1:=TH (ka * 7+1);have f2:=TH (ka * 7+2);have f3:=TH (ka * 7+3);have f4:=TH (ka * 7+4);have f5:=TH (ka * 7+5);have f6:=TH (ka * 7+6);have g1:=YS.1 1 _ rfl;rw[ab.out] at g1;have i2:=IS.1 2 _ rfl;rw[al.out] at i2;obtain⟨t0,t1,t2,t3,t4,t5,t6⟩:=g.c7;obtain⟨wz,ah⟩:∃q,q=cR s vb ka ⟨fg,E,0⟩:=⟨_,rfl⟩;have GV:=ak.setV ab.out y GC;have ao:Fl (λb=>w.heap.size<=b/\b < w3.heap.size) wz ⟨(m:Int)+1,bh d ⟨v.rs,v.rc,v.l.set ka ⟨fg,E,0⟩⟩ L,v.rs,v.rc,gs,D⟩:=by
  have G3:=zH.setV ab.out y az;have P3:=(G3.on d).mono (S':=λb=>w.heap.size<=b/\b < w3.heap.size) λb hb ay=>⟨by rcases hb with hb|hb<;>omega,by rw[lY] at ay;exact ay⟩;refine⟨?_,G3.vcap d,G3.fcap' d⟩;rw[ah];refine(P3.same (λb hb _=> ?_) (by rw[lY,lY];exact a4)).mono λb hb _=>hb.1;by_cases e:b=vb
  .rw[e];exact Rj (o.block vb a5)
  .rw[fw e,fw e];exact o.block b hb.2
 have HF:Hid (sT wz t [I Y ((m:Int)+1),O d,U v.rs (X v.l) v.rc,U gs (X L) D]/\a7t N w3.heap.size wz (U W (X r) n) r/\bl w wz):=by
  rw[ah];exact⟨OS.same (fw aa) mc,ES.same (λb hb _ _=>fw aa) mc,fZ BS aa⟩
 have a0:=ag ao;have q0:=lE;have q1:(ka:Int) < (X v.l:Int):=aa;clear OS ES BS GV ak GC az TH g YS IS ao zH o;go_upto_region 53 with fail
 clear u0 u1 u2 u3 u4 u5 u6 uz f0 f1 f2 f3 f4 f5 f6 t0 t1 t2 t3 t4 t5 t6 g1 i2;simp only[cR,a7.out,List.length_nil] at ah;rw[<-ah];clear ah;obtain⟨OZ,EZ,BZ⟩:=HF.out;have E0:=EZ.down (n':=w.heap.size) aa;have zz:=BZ.size;have zo:=OZ.2.1;have be:Fl (λb=>w.heap.size<=b/\b≠w3.heap.size/\(j3 W (X r) n).ownBlock≠G b) wz ⟨(m:Int)+1,bh d ⟨v.rs,v.rc,v.l.set ka ⟨fg,E,0⟩⟩ L,v.rs,v.rc,gs,D⟩:=⟨a0.out.1.mono λb hb _=>⟨hb.1,aa,λe=>by have:=(aU EZ.own e).2;omega⟩,a0.out.2⟩
 have a6:Hid (∀ad,G (⟨t,0,E⟩:Addr)=G ad->∀j u,(dN ⟨(m:Int)+1,bh d ⟨v.rs,v.rc,v.l.set ka ⟨fg,E,0⟩⟩ L,v.rs,v.rc,gs,D⟩)[j]? =G u->wz.cell? (ad.add j)=G u):=λad e j u hj=>by
  cases e;rw[Addr.add_lit,Nat.zero_add];exact OZ.1 j u (by simpa[dN,bh,roG] using hj)
 clear HF OZ;obtain⟨tk,ba,a1,am,a3⟩:=info_parts Tryz.info_edge;go_wp2_with (at_builtin;refine bn _ rfl _ _ 41 rfl w.heap.size 45 tk (Ag #[I Y 0,O d,U E 0 0,U E 0 0]) 4 64 underlying41 ba a1 am a3 rfl an _ _ _ rfl E0.own (G ⟨t,0,E⟩) 1 1 (dN ⟨(m:Int)+1,bh d ⟨v.rs,v.rc,v.l.set ka ⟨fg,E,0⟩⟩ L,v.rs,v.rc,gs,D⟩) rfl rfl (λh=>bU) a6.out (rW _) ?qc4 ?qc5 ?qc6 ?_);(try (case qc4=>unfold maxLen;first|omega|(simp;done)|(simp;omega)));(try (case qc5=>first|omega|(simp;done)|(simp;omega)));(try (case qc6=>first|omega|(rw[zA];omega)|(simp;omega)|simp));intro P w6 ap af a9;have RW:=E0.grown be ap af a9 aa;have B6:bl w w6:=BZ.grown af aa (λk hk=>(aU E0.own hk).2);go_wp2_with fail;exact HH.out _ _ _ _ bL RW (by show _=_;rw[x6];simp only[j5,edG,fQ];rw[<-bs.out,al.out]) B6
def a4U{c:Act->C->Prop}{R:Ending->C->Prop}{a:Code}{z:Nat->mh}{V:List mh}{m:Nat}{i:Ins}{x:Pic}{w w3:C}{b4 ka N:Nat}{v:Ro}{gs:oA}{D:Nat}{L:List Ro}{r:List Ed}{W:oA}{ec:Nat}{wc:C}(Z:goC [1,1,1,1,1,1,1,1,1,1,0,1,0,1,1,1,1,1,1,1,0,1,1,1,1,0,1,0] Tryz.f59.body=G a)(hl:X V=319)(S:z 9=Pp (G ⟨w.heap.size+1+1,0,E⟩))(al:z 10=Pp (G ⟨w3.heap.size,0,E⟩))(ah:z 11=U (G ⟨b4,0,E⟩) 1 1)(xR:i.a=(ka:Int))(ex:x=bh d v L)(zH:a7e (λb=>w.heap.size<=b) (w.heap.size+1+1+1) w3 v gs D L)(o2:w.heap.size+1+1+1<=w3.heap.size)(o3:w3.heap.size < b4)(o4:b4 < N)(a2:X r<=10)(am:ka < X x.vq)(IS:sT wc (w.heap.size+1+1) [I Y i.k,I Y i.tgt,I Y i.a,I Y i.b,I Y i.n,I Y i.g])(YS:sT wc w3.heap.size [O d,U v.rs (X v.l) v.rc,U gs (X L) D])(OS:sT wc b4 [I Y ((m:Int)+1),O d,U v.rs (X v.l) v.rc,U gs (X L) D])(YW:bl w3 wc)(BS:bl w wc)(ES:a7t N w3.heap.size wc (U W (X r) ec) r)(H:∀(P:List Ed) (Q:mh) (w':C) (F:List mh),X F=319->a7t w.heap.size w3.heap.size w' Q P->Hid (P.map edG=r.map edG++[⟨(m:Int)+1,bq x i.a (cF x.vq[ka])⟩])->bl w w'->K ⟨((j2 18).map z++Q::F).toArray,[]⟩ w'):a.wp pG (Exit.then K (Exit.inBlock 0 (Exit.then c (bodyPost pG Tryz.f59 R)))) ⟨((j2 18).map z++U W (X r) ec::V).toArray,[]⟩ wc:=by
 have a4:ka < X v.l:=by have h:=am;rw[ex] at h;simpa[bh,roG] using h
 have a9:=ag λwx=>Ir x.vq[ka].sp 0 wx;have ax:Hid (∀ws bb ba a8 a0 a1 l (F:List mh),X F=313->n4 wc.heap.size wc ws->sT ws l [O (cF x.vq[ka]).n,O (cF x.vq[ka]).sp.n,I Y (cF x.vq[ka]).sp.lo,I Y (cF x.vq[ka]).sp.hi,O (cF x.vq[ka]).t,O (cF x.vq[ka]).f,U E 0 0]->∀ay,goC [1,1,1,1,1,1,1,1,1,1,0,1,0,1,1,1,1,1,1,1,0,1,1,1,1,0,1,0,1,1,1] Tryz.f59.body=G ay->ay.wp pG (Exit.then K (Exit.inBlock 0 (Exit.then c (bodyPost pG Tryz.f59 R)))) ⟨((j2 18).map z++U W (X r) ec::bb::ba::a8::a0::a1::Pp (G ⟨l,0,E⟩)::F).toArray,[]⟩ ws):=λws bb ba a8 a0 a1 l F bf hb hp ay a3=>
  a0R a3 bf S al ah xR ex zH o2 o3 o4 a2 a4 rfl (IS.call hb) (YS.call hb) (OS.call hb) (YW.trans (hb.mono YW.size)) (BS.trans (hb.mono BS.size)) (ES.call hb) hp H
 have a6:=fI;have bv:=ag ex;obtain⟨u,rfl⟩:=mD V _ hl;refine Ah Z rfl ?_;simp only[j2,j2.loop,j5,q8,q7,S,al,ah] at H |-;have HH:=ag H;clear H Z hl;simp only[j2,j2.loop,j5,q8,q7,S,al,ah] at ax;clear HH;obtain⟨vb,ar,bt,b0,bz⟩:=mG;obtain⟨y,ap⟩:∃y,v.l[ka]=y:=⟨_,rfl⟩;have bc:y.g=x.vq[ka]:=by
  have:∀(z:Pic) (h:ka < X z.vq) (hz:z=bh d v L),z.vq[ka]=v.l[ka].g:=by intro z h hz;subst hz;simp[bh,roG]
  rw[this x am bv.out,ap]
 have GU:=(zH.call YW).vq.gu ar (k:=ka) a4;rw[ap] at GU;obtain⟨⟨u0,u1,u2,u3,u4,u5,u6⟩,uz⟩:=GU;rw[bc] at u0 u1 u2 u3 u4 u5 u6;have g1:=YS.1 1 _ rfl;rw[ar] at g1;have i2:=IS.1 2 _ rfl;rw[a6.out] at i2;have q0:=lE;have q1:(ka:Int) < (X v.l:Int):=aa;clear ar bt ap bc IS YS OS YW BS ES zH xR ex S al ah;go_upto_region 48 with fail
 clear g1 i2 u0 u1 u2 u3 u4 u5 u6 uz;have bs:n4 wc.heap.size wc (wc.alloc (A #[O x.vq[ka].n,O x.vq[ka].sp.n,I Y x.vq[ka].sp.lo,I Y x.vq[ka].sp.hi,O x.vq[ka].t,O x.vq[ka].f,U y.ss (X x.vq[ka].s) y.cap] 91)):=ai;have VI:=sT.new wc 91 [O x.vq[ka].n,O x.vq[ka].sp.n,I Y x.vq[ka].sp.lo,I Y x.vq[ka].sp.hi,O x.vq[ka].t,O x.vq[ka].f,U y.ss (X x.vq[ka].s) y.cap];have bx:Hid ((wc.alloc (A #[O x.vq[ka].n,O x.vq[ka].sp.n,I Y x.vq[ka].sp.lo,I Y x.vq[ka].sp.hi,O x.vq[ka].t,O x.vq[ka].f,U y.ss (X x.vq[ka].s) y.cap] 91)).heap.size=wc.heap.size+1):=iZ;generalize wc.alloc _=wi at *;generalize eVB:wc.heap.size=l at *;have c4:=VI.1 4 _ rfl;have c6:=VI.1 6 _ rfl;have d4:=VI.2.2 4;have d6:=VI.2.2 6;go_upto_region 49 with fail
 clear c4 c6 d4 d6;obtain⟨wj,ak⟩:∃q,q=bd wi l 4 [O d]:=⟨_,rfl⟩;have PJ:Put l wi wj [O x.vq[ka].n,O x.vq[ka].sp.n,I Y x.vq[ka].sp.lo,I Y x.vq[ka].sp.hi,O d,O x.vq[ka].f,U y.ss (X x.vq[ka].s) y.cap]:=bC VI 4 _ ak;simp only[bd] at ak;rw[<-ak];clear ak;obtain⟨wv,af⟩:∃q,q=bd wj l 6 [U E 0 0]:=⟨_,rfl⟩;have PK:Put l wj wv [O x.vq[ka].n,O x.vq[ka].sp.n,I Y x.vq[ka].sp.lo,I Y x.vq[ka].sp.hi,O d,O x.vq[ka].f,U E 0 0]:=bC PJ.cells 6 _ af;simp only[bd] at af;rw[<-af];clear af;have PV:=PJ.trans PK;have c1:=PV.cells.1 1 _ rfl;have c2:=PV.cells.1 2 _ rfl;have c3:=PV.cells.1 3 _ rfl;go_wp2_with fail;go_call a9.out wv as e wk ⟨rfl,a7⟩;have CK:=PV.cells.call a7;have a5:=(PV.low (lR _) bs).trans (a7.mono (by have:=PV.size;have:=bx.out;omega))
 clear c1 c2 c3 PJ PK PV VI a9;go_upto_if 164 with fail
 rename_i K9 hK9;have az:=ag hK9;clear hK9;rcases Bool.eq_false_or_eq_true (x.vq[ka].sp.has 0) with ad|ad
 .have ao:=ag ad
  rw[ad];clear ad;refine wp_cond_split rfl (λh=> ?_) (λh=> ?_);rotate_left
  .cases h
  have k1:=CK.1 1 _ rfl;have bm:=CK.2.2 1;have k2:=CK.1 2 _ rfl;have bg:=CK.2.2 2;have k3:=CK.1 3 _ rfl;have be:=CK.2.2 3;go_wp2_with fail;obtain⟨ws,ab⟩:∃q,q=bd wk l 1 [O d,I Y 0,I Y 0]:=⟨_,rfl⟩;have PS:=bC CK 1 _ ab;simp only[bd] at ab;rw[<-ab];refine az.out _ _ (ax.out ws _ _ _ _ _ _ _ bL (PS.low (lR _) a5) ?_ _ rfl);have h:=PS.cells;have e:(cF x.vq[ka])=⟨x.vq[ka].n,⟨d,0,0⟩,d,x.vq[ka].f,[]⟩:=by unfold cF;rw[ao.out];rfl
  rw[e];exact h
 .have ao:=ag ad
  rw[ad];clear ad;refine wp_cond_split rfl (λh=> ?_) (λh=> ?_)
  skip
  .cases h
  have k1:=CK.1 1 _ rfl;have bm:=CK.2.2 1;have k2:=CK.1 2 _ rfl;have bg:=CK.2.2 2;have k3:=CK.1 3 _ rfl;have be:=CK.2.2 3;go_wp2_with fail;obtain⟨ws,ab⟩:∃q,q=bd wk l 1 [O W5,I Y 0,I Y 0]:=⟨_,rfl⟩;have PS:=bC CK 1 _ ab;simp only[bd] at ab;rw[<-ab];refine az.out _ _ (ax.out ws _ _ _ _ _ _ _ bL (PS.low (lR _) a5) ?_ _ rfl);have h:=PS.cells;have e:(cF x.vq[ka])=⟨x.vq[ka].n,⟨W5,0,0⟩,d,x.vq[ka].f,[]⟩:=by unfold cF;rw[ao.out];rfl
  rw[e];exact h
def gi:Pic:=⟨false,[dt],[[],[]]⟩
def a3U:bK 1 0 aV=gi:=rfl
def SZ(Z:a2r w (G ⟨b,0,E⟩) aV):
  Calls f 38 #[pv 1 0 (G ⟨b,0,E⟩) aV 2] w λe w'=>∃vs vc fs fc,e=Rt (Tu #[(Ag #[O d,U vs 1 vc,U fs 2 fc]),I Y 0])/\a4r w' gi vs fs/\(1<=vc/\vc<=maxLen)/\(2<=fc/\fc<=maxLen)/\bl w w':=by
 have h:=Bk 1 0 _ aV 2 w Z;have c:=tE;rw[c,if_pos rfl,a3U] at h;go_call h as e w' ⟨⟨vs,vc,fs,fc,rfl,o,l,N⟩,a⟩;exact⟨vs,vc,fs,fc,rfl,o.at,l,N,a⟩
def a1a(Z:a2r w (G ⟨b,0,E⟩) aV):
  Calls f 40 #[pv 1 0 (G ⟨b,0,E⟩) aV 2] w λe w'=>∃u s y n x k,e=Rt (Tu #[(Ag #[I Y 0,U u 1 s,U y 0 n,I Y 0,U x 0 k,I Y 0]),I Y 0])/\a7s w' (bQ 1) u y x/\bl w w':=by
 have h:=a1l 1 0 _ aV 2 w Z;have c:=tE;have K:Bg 1 0 aV=bQ 1:=by unfold Bg;rw[if_pos c]
 rw[c,K] at h;go_call h as e w' ⟨⟨u,s,y,n,x,k,rfl,q⟩,a⟩;exact⟨u,s,y,n,x,k,rfl,q,a⟩
def WS(u:oA)(s:Nat)(y:oA)(n:Nat)(x:oA)(k:Nat)(w:C)(Z:a2r w (G ⟨b,0,E⟩) aV)(o:a4r w gi vs fs)(W:1<=vc/\vc<=maxLen)(l:2<=fc/\fc<=maxLen)(q:a7s w (bQ 1) u y x):
  Calls f 13 #[pv 1 0 (G ⟨b,0,E⟩) aV 2,(Ag #[O d,U vs 1 vc,U fs 2 fc]),(Ag #[I Y 0,U u 1 s,U y 0 n,I Y 0,U x 0 k,I Y 0])] w λe w'=>e=Rt (Tu #[O W5,I Y 0])/\bl w w':=by
 have e:aF 1 0 aV [gi]=0:=cI;obtain⟨h0,h1⟩:=Yh e;have e2:lA 1 0 aV (bQ 1)=0:=cI;have h:=Tb 1 0 (G ⟨b,0,E⟩) aV 2 gi vs vc fs fc (bQ 1) u s y n x k w Z o W l ⟨by unfold maxLen;decide,by unfold maxLen;decide,by unfold maxLen;decide,λt z=>by simp[bQ] at z⟩ q e h0 h1 cI rfl (OH e2) rfl cI;have K:cq (bQ 1) gi.vq (bQ 1).vq=true:=cI;rw[K] at h;exact h
def Fv (b:Nat)(vs:oA)(vc:Nat)(fs:oA)(fc:Nat)(w:C)(Z:a2r w (G ⟨b,0,E⟩) aV)(o:a4r w gi vs fs)(W:1<=vc/\vc<=maxLen)(l:2<=fc/\fc<=maxLen):
  Calls f 32 #[pv 1 0 (G ⟨b,0,E⟩) aV 2,Ag #[O W5,U E 0 0,U E 0 0],(Ag #[O d,U vs 1 vc,U fs 2 fc])] w λe w'=>∃a g gs D,e=Rt (Tu #[Ag #[O d,U a 1 g,U gs 2 D],I Y 0])/\a7d (λb=>R (M w)<=b) w' gi a gs/\bl w w':=by
 have h:=RK 1 0 _ aV 2 a7q E 0 E 0 gi vs vc fs fc w Z ⟨λi hi=>absurd hi pu,λi hi=>absurd hi pu⟩ ⟨lR _,j4 _⟩ ⟨lR _,j4 _⟩ o W l;have c:aF 1 0 aV [a7q,gi]=0:=cI;have K:aI (dy bw) a7q gi=gi:=rfl;rw[c,if_pos rfl,K] at h;go_call h as e w' ⟨⟨a,g,gs,D,rfl,o,-⟩,hb⟩;exact⟨a,g,gs,D,rfl,o,hb⟩
def TI(Z:a2r w (G ⟨b,0,E⟩) aV)(o:a4r w gi vs fs)(W:1<=vc/\vc<=maxLen)(l:2<=fc/\fc<=maxLen):
  Calls f 41 #[pv 1 0 (G ⟨b,0,E⟩) aV 2,(Ag #[O d,U vs 1 vc,U fs 2 fc])] w λe w'=>e=Rt (I Y 0)/\bl w w':=by
 have h:=uW 1 0 _ aV 2 gi vs vc fs fc w Z o W l;have c:aF 1 0 aV [gi]=0:=cI;rw[c] at h;exact h
def a7s.call {w w':C}{r:St}{vs a ls:oA}(h:a7s w r vs a ls)(Z:bl w w'):a7s w' r vs a ls:=h.below Z (lR _)
def KK (w:World)(b:Nat)(x:Pic)(us gs:oA):Prop:=∀w2:World,(∀q,q≠b->q < R (M w)->w2.heap[q]? =w.heap[q]?)->R (M w)<=R (M w2)->a4r w2 x us gs
def LC {w:C}{x:Pic}{a gs:oA}(h:a4r w x a gs)(o:Obj):KK (w.alloc o) (R (M w)) x a gs:=λc hs i=>h.same (λb Z=>by rw[hs b (x4 Z) (by simp;omega)];exact heap_alloc_old w o Z) (lT ae i)
def Hz(h:p:=by
 refine rH1 8 λK hK=> ?_;obtain⟨⟨u0,u1,u2⟩,uz,uf⟩:=id U4;have uf0:=uf 0;have uf1:=uf 1;have uf2:=uf 2;clear uf;go_simp;have xV:∀q,q≠jb->(((w4.setCell ⟨jb,0,E⟩ (O false)).setCell ⟨jb,1,E⟩ (U us 1 uc)).setCell ⟨jb,2,E⟩ (U gs 2 gc)).heap[q]? =w4.heap[q]? :=λq hq=>Kp;have xT:R (M w4)<=R (M (((w4.setCell ⟨jb,0,E⟩ (O false)).setCell ⟨jb,1,E⟩ (U us 1 uc)).setCell ⟨jb,2,E⟩ (U gs 2 gc))):=bI;have U5:X3 (((w4.setCell ⟨jb,0,E⟩ (O false)).setCell ⟨jb,1,E⟩ (U us 1 uc)).setCell ⟨jb,2,E⟩ (U gs 2 gc)) jb (O false) (U us 1 uc) (U gs 2 gc):=((U4.put0 _).put1 _).put2 _;have B5:bl wA (((w4.setCell ⟨jb,0,E⟩ (O false)).setCell ⟨jb,1,E⟩ (U us 1 uc)).setCell ⟨jb,2,E⟩ (U gs 2 gc)):=((B4.setCell aw _).setCell aw _).setCell aw _;have PJ5:a4r (((w4.setCell ⟨jb,0,E⟩ (O false)).setCell ⟨jb,1,E⟩ (U us 1 uc)).setCell ⟨jb,2,E⟩ (U gs 2 gc)) gi us gs:=PF4 _ (λq hq _=>xV q hq) xT;refine hK.out _ _ ((XA.call B5).1) (λQv=> ?_);clear hK K xV xT u0 u1 u2 uz uf0 uf1 uf2 U4 B4 PF4;refine sm ?_;generalize (((w4.setCell ⟨jb,0,E⟩ (O false)).setCell ⟨jb,1,E⟩ (U us 1 uc)).setCell ⟨jb,2,E⟩ (U gs 2 gc))=w5 at *;refine QO 9 ?_;refine wpAnyH_done ac ?_ _;first|refine hK1 _ _ (Met.intro (hJ1 _ _ ?_))|refine Met.intro (hJ1 _ _ ?_)|refine hJ1 _ _ ?_
 (repeat apply Exists.intro)
 refine⟨?_,rfl⟩;exact⟨jb,us,uc,gs,gc,rfl,rfl,zjb,U5,PJ5,B5⟩):=h
def II(h:p:=by
 refine rH1 3 λK hK=> ?_;go_simp;refine(Fv _ vs vc fs fc w3 C3 (PXA.call B3) hv hf).mono ?_;rintro e w4 ⟨us,uc,gs,gc,rfl,PV,xD⟩;have C4:=C3.call xD;have U4:=U3.call xD;have B4:=uZ;have PF4:KK w4 jb gi us gs:=λw2 h2 hz=>((PV.mono (S':=λq=>q≠jb) λq hq _=>by have:=U3.2.1;omega) w2 h2 hz).at
 clear PV;refine hK.out _ _ ((XA.call B4).1) (λQI=> ?_);clear hK K xD C3 U3 B3;refine sm ?_;refine QO 4 ?_;refine QO 5 ?_;refine QO 6 ?_;exact Hz):=h
def Dx:Calls f 11 #[] w λe w'=>e=Rt (O W5)/\bl w w':=by
 go_enter func11,ntmps11;go_wp2_with fail;go_call dI _ as e w1 ⟨b1,rfl,C1,vZ⟩;go_wp2_with fail;go_call SZ _ _ C1 as e w2 ⟨vs,vc,fs,fc,rfl,ao,hv,hf,xj⟩;have B2:=lK;have xp:=Oy;have V:=X3.new w2 28 (O d) (U vs 1 vc) (U fs 2 fc);have ax:=ao.call xp;have B3:=ir;clear vZ xj C1 ao B2 xp;go_wp2_with fail;generalize w2.alloc _=w3 at *;generalize (R (M w2))=xb at *;go_call dI _ as e w4 ⟨t,rfl,C4,xD⟩;go_wp2_with fail;go_call a1a _ _ C4 as e w5 ⟨u,s,y,n,x,k,rfl,Z,D⟩;have z:=xD.trans (D.mono xD.size);have ah:n4 (R (M w5)) w5 (w5.alloc (A #[I Y 0,U u 1 s,U y 0 n,I Y 0,U x 0 k,I Y 0] 33)):=ai;have N:=z.trans (ah.mono z.size);have X6:=V.call N;have ad:=ax.call N;have B6:=B3.trans (N.mono B3.size);have al:=Z.below ah (lR _);have Q6:=R6.new w5 33 (I Y 0) (U u 1 s) (U y 0 n) (I Y 0) (U x 0 k) (I Y 0);clear xD D z ah N C4 V ax B3 Z;go_upto_region 3 with fail
 generalize w5.alloc _=w6 at *;generalize (R (M w5))=rb at *;go_cut [5,6] (λt5 t6 wc=>t5=O W5/\t6=I Y 0/\X3 wc xb (O d) (U vs 1 vc) (U fs 2 fc)/\a4r wc gi vs fs/\bl w wc)
 case first=>
  rename_i J1 K1 hJ1 hK1;have X7:X3 w6.drew xb (O d) (U vs 1 vc) (U fs 2 fc):=X6;have Q7:R6 w6.drew rb (I Y 0) (U u 1 s) (U y 0 n) (I Y 0) (U x 0 k) (I Y 0):=Q6;have am:a4r w6.drew gi vs fs:=ad;have ap:a7s w6.drew (bQ 1) u y x:=al;have B7:=B6.drew;refine wp_region_held_drew (S:=(λg=>(g.cell? ⟨xb,0,E⟩=G (O d)/\g.cell? ⟨xb,1,E⟩=G (U vs 1 vc)/\g.cell? ⟨xb,2,E⟩=G (U fs 2 fc))/\(g.cell? ⟨rb,0,E⟩=G (I Y 0)/\g.cell? ⟨rb,1,E⟩=G (U u 1 s)/\g.cell? ⟨rb,2,E⟩=G (U y 0 n)/\g.cell? ⟨rb,3,E⟩=G (I Y 0)/\g.cell? ⟨rb,4,E⟩=G (U x 0 k)/\g.cell? ⟨rb,5,E⟩=G (I Y 0)))) ac ⟨X7.1,Q7.1⟩ (λr=> ?_);clear X6 Q6 ad al B6;generalize w6.drew=w7 at *;refine QO 1 ?_;refine QO 2 ?_;refine rH1 0 λK hK=> ?_;go_simp;go_call dI _ as e w8 ⟨b8,rfl,C8,W⟩;have X8:=X7.call W;have Q8:=Q7.call W;have af:=am.call W;have ak:=ap.call W;have B8:=B7.trans (W.mono (B7.size));refine hK.out _ _ (⟨X8.1,Q8.1⟩) (λaz=> ?_);clear hK K W X7 Q7 am ap B7;refine sm ?_;refine rH1 3 λK hK=> ?_;go_simp;go_call WS _ vs vc fs fc u s y n x k w8 C8 af hv hf ak as e w9 ⟨rfl,H⟩;have X9:=X8.call H;have Q9:=Q8.call H;have a1:=af.call H;have a2:=ak.call H;have C9:=C8.call H;have B9:=B8.trans (H.mono (B8.size));refine hK.out _ _ (⟨X9.1,Q9.1⟩) (λay=> ?_);clear hK K H X8 Q8 af ak C8 B8;refine sm ?_;refine QO 4 ?_;refine QO 5 ?_;refine QO 6 ?_;refine QO 7 ?_;refine QO 8 ?_;refine wpAnyH_done ac ?_ _;first|refine hK1 _ _ (Met.intro (hJ1 _ _ ?_))|refine Met.intro (hJ1 _ _ ?_)|refine hJ1 _ _ ?_
  (repeat apply Exists.intro)
  refine⟨?_,rfl⟩;exact⟨rfl,rfl,X9,a1,B9⟩
 obtain⟨rfl,rfl,XA,PXA,BA⟩:=hcut;clear X6 Q6 ad al B6;generalize wc=wA at *;clear wc;go_upto_region 4 with fail
 go_cut [7,8] (λt7 t8 wc=>∃jb us uc gs gc,t7=Pp (G ⟨jb,0,E⟩)/\t8=I Y 0/\R (M wA)<=jb/\X3 wc jb (O d) (U us 1 uc) (U gs 2 gc)/\a4r wc gi us gs/\bl wA wc)
 case first=>
  rename_i J1 K1 hJ1 hK1;have B1:bl wA wA.drew:=(bR _ _).drew;refine wp_region_held_drew (S:=(λg=>(g.cell? ⟨xb,0,E⟩=G (O d)/\g.cell? ⟨xb,1,E⟩=G (U vs 1 vc)/\g.cell? ⟨xb,2,E⟩=G (U fs 2 fc)))) ac (XA.call B1).1 (λr=> ?_);generalize wA.drew=w1 at *;refine QO 1 ?_;refine QO 2 ?_;refine wpAnyH_ready (rs:=[0,7]) ac ae ?_;refine AllReadyH.cons rfl (λK hK=> ?_) (AllReadyH.cons rfl (λK hK=> ?_) AllReadyH.nil)
  .go_simp
   go_call dI _ as e w2 ⟨b2,rfl,C2,xj⟩;have B2:=lN;refine hK.out _ _ ((XA.call B2).1) (λF=> ?_);clear hK K xj B1;refine sm ?_;refine wpAnyH_ready (rs:=[3,7]) ac ae ?_;refine AllReadyH.cons rfl (λK hK=> ?_) (AllReadyH.cons rfl (λK hK=> ?_) AllReadyH.nil)
   .go_simp
    go_call Fv _ vs vc fs fc w2 C2 (PXA.call B2) hv hf as e w3 ⟨us,uc,gs,gc,rfl,PV,xp⟩;have C3:=C2.call xp;have B3:=kF;have ar:=PV.at;clear PV;refine hK.out _ _ ((XA.call B3).1) (λl=> ?_);clear hK K xp C2 B2;refine sm ?_;refine QO 4 ?_;refine QO 5 ?_;refine QO 6 ?_;refine rH1 7 λK hK=> ?_;go_simp;have xD:n4 (R (M w3)) w3 (w3.alloc (A #[O d,U E 0 0,U E 0 0] 28)):=ai;have B4:=uZ;have U4:=X3.new w3 28 (O d) (U E 0 0) (U E 0 0);have zjb:=B3.size;have PF4:KK (w3.alloc (A #[O d,U E 0 0,U E 0 0] 28)) (R (M w3)) gi us gs:=LC ar _;clear ar;clear B3;refine hK.out _ _ ((XA.call B4).1) (λQI=> ?_);clear hK K xD;refine sm ?_;generalize w3.alloc _=w4 at *;generalize (R (M w3))=jb at *;exact Hz
   .go_simp
    have xp:=Nx;have C3:=C2.call xp;have B3:=kF;have U3:=X3.new w2 28 (O d) (U E 0 0) (U E 0 0);have zjb:=B2.size;clear B2;refine hK.out _ _ ((XA.call B3).1) (λl=> ?_);clear hK K xp C2;refine sm ?_;generalize w2.alloc _=w3 at *;generalize (R (M w2))=jb at *;exact II
  .go_simp
   have xj:=Rs;have B2:=lN;have U2:=X3.new w1 28 (O d) (U E 0 0) (U E 0 0);have zjb:=B1.size;clear B1;refine hK.out _ _ ((XA.call B2).1) (λF=> ?_);clear hK K xj;refine sm ?_;generalize w1.alloc _=w2 at *;generalize (R (M w1))=jb at *;refine rH1 0 λK hK=> ?_;go_simp;go_call dI _ as e w3 ⟨b3,rfl,C3,xp⟩;have U3:=U2.call xp;have B3:=kF;refine hK.out _ _ ((XA.call B3).1) (λl=> ?_);clear hK K xp U2 B2;refine sm ?_;exact II
 obtain⟨jb,us,uc,gs,gc,rfl,rfl,zjb,JB,PJ,BC⟩:=hcut;have XB:=XA.call BC;have a0:=PXA.call BC;have BB:=BA.trans (BC.mono BA.size);clear XA PXA BA;generalize wc=wB at *;clear wc;obtain⟨ub,uo,e1,ss,sc,⟨⟨ab,-⟩,uz⟩,-⟩:=PJ.1 0 (by simp[gi]);subst e1;simp only[Nat.zero_mul,Nat.add_zero,gi,List.getElem_cons_zero,dt] at ab;go_upto_region 5 with fail
 have B1:bl wB wB.drew:=(bR _ _).drew;refine wp_region_held_drew (S:=(λg=>(g.cell? ⟨xb,0,E⟩=G (O d)/\g.cell? ⟨xb,1,E⟩=G (U vs 1 vc)/\g.cell? ⟨xb,2,E⟩=G (U fs 2 fc))/\(g.cell? ⟨jb,0,E⟩=G (O d)/\g.cell? ⟨jb,1,E⟩=G (U (G ⟨ub,uo,E⟩) 1 uc)/\g.cell? ⟨jb,2,E⟩=G (U gs 2 gc))/\g.cell? ⟨ub,uo,E⟩=G (O W5))) ac ⟨(XB.call B1).1,(JB.call B1).1,by rw[B1.cell (by simp only;exact uz)];exact ab⟩ (λr=> ?_);generalize wB.drew=w1 at *;refine QT ?_;refine XF ?_;refine QO 15 ?_;refine XG ?_;refine QO 19 ?_;refine rH1 18 λK hK=> ?_;go_simp;go_call dI _ as e w2 ⟨b2,rfl,C2,xj⟩;have B2:=lN;refine hK.out _ _ (⟨(XB.call B2).1,(JB.call B2).1,by rw[B2.cell (by simp only;exact uz)];exact ab⟩) (λF=> ?_);clear hK K xj B1;refine sm ?_;refine rH1 20 λK hK=> ?_;go_simp;go_call TI _ vs vc fs fc w2 C2 (a0.call B2) hv hf as e w3 ⟨rfl,xp⟩;have C3:=C2.call xp;have B3:=kF;refine hK.out _ _ (⟨(XB.call B3).1,(JB.call B3).1,by rw[B3.cell (by simp only;exact uz)];exact ab⟩) (λl=> ?_);clear hK K xp C2 B2;refine sm ?_;refine QO 21 ?_;refine QO 22 ?_;refine QO 23 ?_;refine QO 24 ?_;refine QO 25 ?_;refine XC ?_;refine QO 33 ?_;refine QO 34 ?_;refine QO 35 ?_;refine QO 36 ?_;refine wpAnyH_done ac ?_ _;go_wp2;refine bodyPost_ret (v:=O W5) ac rfl ⟨rfl,BB.trans (B3.mono BB.size)⟩
