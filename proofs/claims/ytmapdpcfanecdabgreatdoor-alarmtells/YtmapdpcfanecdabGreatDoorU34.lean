import Derived.Test.YtmapdpcfanecdabGreatDoorU33
import Derived.Lib.AppendZeros
import Derived.Laws.AppendOwn
open Go.Ending renaming returned→Rt
open Go.IntKind renaming i64→Y
open Go.Obj renaming cells→Cc
open Go.Proofs.Tryz renaming prog→pG
open Go.RowKit.Below renaming refl→bR
open Go.Value renaming agg→Ag,bool→Bb,int→I,pointer→Pp,slice→U
open Go.World renaming size_alloc→zA
open List renaming drop_eq_getElem_cons→q7,drop_eq_nil_of_le→z5,eq_nil_of_length_eq_zero→j9,getD→j8,length_append→j7,length_map→z3,take_length→q8,take_of_length_le→q9
open Nat renaming le_refl→lR,le_trans→lT,zero_le→j6
open Option renaming none→nO,some→sO
set_option linter.unusedSimpArgs false
set_option linter.unusedVariables false
set_option maxHeartbeats 16000000
set_option maxRecDepth 100000
namespace Go.Proofs.YtmapdpcfanecdabGreatDoor
section
open Go.RowKit
attribute [local go_sem ↓] Go.wp_at_zero Go.wp_at_succ
theorem la {V F:Int}{c:lI}{i:Ins}{at_:Int}(x:Pic)(vs:oA)(vc:Nat)(fs:oA)(fc:Nat)(w:World)(hx:PicAt w x vs fs)(K:SCtx V F c x vc fc i at_):
  Calls pG 29 #[xv x vs vc fs fc] w λe w'=>KJ w.heap.size w' e x/\bl w w':=by
 have h:=K.lens;have kx:=K.kx;have hs:∀{g:Gs},aE c g=0->g.s.length<=1000000:=λhg=>by
  have:=cB (ckGs_iff.1 hg).2.2 (cL h.2.1 hg).1;omega
 obtain⟨xn,vx,fx⟩:=x;exact rY xn vx fx vs vc fs fc w hx (by simp only at h;omega) (by simp only at h;omega) (λk hk=>by have:=kx.row k hk;simp only at this;omega) (λg hg=>hs (kx.gv g hg)) (λk hk g hg=>hs (kx.gf k hk g hg))
structure SPre (T:Nat->Prop) (V F:Int) (s:oA) (c:lI) (cap:Nat) (at_:Int) (i:Ins) (x:Pic) (vs:oA) (vc:Nat) (fs:oA) (fc:Nat) (w wp:World) (ib yb ob ab bb tb:Nat) (wY:World) (v:Ro) (gs:oA) (gc:Nat) (L:List Ro) (ga:Gs) (sa:oA) (ca:Nat) (gb:Gs) (sb:oA) (cb:Nat):Prop where
 low:bl w wp
 prg:Cells wp w.heap.size [I Y V,I Y F,U s c.length cap]
 pic:Cells wp (w.heap.size+1) [Bb false,U vs x.vq.length vc,U fs x.fq.length fc]
 ins:Cells wp ib [I Y i.k,I Y i.tgt,I Y i.a,I Y i.b,I Y i.n,I Y i.g]
 y:Cells wp yb [Bb false,U v.rs v.l.length v.rc,U gs L.length gc]
 on:Cells wp ob [I Y (at_+1),Bb false,U v.rs v.l.length v.rc,U gs L.length gc]
 va:Cells wp ab [Bb ga.n,Bb ga.sp.n,I Y ga.sp.lo,I Y ga.sp.hi,Bb ga.t,Bb ga.f,U sa ga.s.length ca]
 vb:Cells wp bb [Bb gb.n,Bb gb.sp.n,I Y gb.sp.lo,I Y gb.sp.hi,Bb gb.t,Bb gb.f,U sb gb.s.length cb]
 tg:Cells wp tb [Bb false,Bb true,I Y 0,I Y 0,Bb false,Bb false,U nO 0 0]
 ga:IntsIn T w sa ga.s/\ga.s.length<=ca/\ca<=maxLen
 gb:IntsIn T w sb gb.s/\gb.s.length<=cb/\cb<=maxLen
 own:PicG (λb=>w.heap.size<=b) (w.heap.size+1+1+1) wY v gs gc L
 yw:bl wY wp
 yb:yb=wY.heap.size
 pv:x=aS false v L
 ord:ib=w.heap.size+1+1/\w.heap.size+1+1+1<=wY.heap.size/\wY.heap.size < ob/\ob < ab/\ab < bb/\bb < tb
section
variable {S T':Nat->Prop} {w:World} {ob B:Nat} {to_:Int} {v:Ro} {gs:oA} {gc:Nat} {L:List Ro} {x':Pic}
theorem iF (hO:Cells w ob [I Y to_,Bb false,U v.rs v.l.length v.rc,U gs L.length gc])(hS:S ob)(hP:PicG T' B w v gs gc L)(hT:∀b,T' b->S b)(hB:∀b,B<=b->S b)(hx:x'=aS false v L):EdsOn S w (sO ⟨ob,0,nO⟩) [⟨to_,x'⟩]:=by
 intro i hi;have h0:i=0:=pR;subst h0;subst hx;have l1:(aS false v L).vq.length=v.l.length:=by simp[aS,roG]
 have l2:(aS false v L).fq.length=L.length:=by simp[aS]
 refine⟨ob,0,rfl,hS,hO.2.1,v.rs,v.rc,gs,gc,?_,(hP.on false).mono λb hb _=>hb.elim (hT b) (hB b),hP.vcap false,hP.fcap' false⟩;simp only[List.getElem_cons_zero,l1,l2,Nat.zero_mul,Nat.add_zero,Nat.zero_add];exact⟨hO.1 0 _ rfl,hO.1 1 _ rfl,hO.1 2 _ rfl,hO.1 3 _ rfl⟩
end
theorem o7 {T:Nat->Prop}{n B:Nat}{wY wx:World}{v:Ro}{gs:oA}{gc:Nat}{L:List Ro}{y:Gc}(G:PicG (λb=>n<=b) B wY v gs gc L)(hB:n<=B)(hN:n<=wY.heap.size)(h:IntsIn (λb=>(T b/\b < n)\/wY.heap.size<=b) wx y.ss y.g.s)(h1:y.g.s.length<=y.cap)(h2:y.cap<=maxLen):bQ (λb=>(T b\/n<=b)/\Off v (Value.slice gs L.length gc).ownBlock L b) wx y:=by
 have hz:=G.vq;refine⟨h.mono λb hb _=> ?_,h1,h2⟩;have rowlt:∀q,roB v=sO q->q < wY.heap.size/\B<=q:=λq hq=>G.vq.lt hq;have fldlt:∀q,(Value.slice gs L.length gc).ownBlock=sO q->q < wY.heap.size/\B<=q:=λq hq=>aM G.fq hq;have reslt:∀r∈L,∀q,roB r=sO q->q < wY.heap.size/\B<=q:=λr hr q hq=>(G.rows r hr).lt hq;rcases hb with⟨hb,hlt⟩|hb
 ·exact⟨.inl hb,λe=>by have:=rowlt b e;omega,λe=>by have:=fldlt b e;omega,λr hr e=>by have:=reslt r hr b e;omega⟩
 ·exact⟨.inr (lT hN hb),λe=>by have:=rowlt b e;omega,λe=>by have:=fldlt b e;omega,λr hr e=>by have:=reslt r hr b e;omega⟩
def Fx:Nat->Option Code->Option Code
 |0,o=>o
 |n+1,sO (.seq _ b)=>Fx n (sO b)
 |_+1,_=>nO
def SwT (R:Ending->World->Prop)(m:Nat)(w w3 w4 w7 w11 wp:World):Prop:=∀(z0 z2 z4:Value) (tl:List Value),tl.length=322->∃c,Fx 10 Tryz.f59.body=sO c/\c.wp pG (bodyPost pG Tryz.f59 R) ⟨(z0::I Y (m:Int)::z2::Pp (sO ⟨w.heap.size,0,nO⟩)::z4::Pp (sO ⟨w.heap.size+1,0,nO⟩)::U nO 0 0::Bb false::Bb false::Pp (sO ⟨w.heap.size+1+1,0,nO⟩)::Pp (sO ⟨w3.heap.size,0,nO⟩)::U (sO ⟨w4.heap.size,0,nO⟩) 1 1::Pp (sO ⟨w7.heap.size,0,nO⟩)::Pp (sO ⟨w7.heap.size+1,0,nO⟩)::Pp (sO ⟨w11.heap.size,0,nO⟩)::Bb false::tl).toArray,[]⟩ wp
theorem im (l:List Value)(n:Nat)(h:l.length=n):∃u:Nat->Value,l=(List.range n).map u:=⟨λk=>l.getD k (Bb false),by
 refine List.ext_getElem (by simp[h]) λk h1 h2=> ?_;simp[j8,h1]⟩
theorem fN {R:Ending->World->Prop}{m:Nat}{w w3 w4 w7 w11 wp:World}{c:Code}(hc:Fx 10 Tryz.f59.body=sO c)(h:∀(z0 z2 z4:Value) (u:Nat->Value),c.wp pG (bodyPost pG Tryz.f59 R) ⟨(z0::I Y (m:Int)::z2::Pp (sO ⟨w.heap.size,0,nO⟩)::z4::Pp (sO ⟨w.heap.size+1,0,nO⟩)::U nO 0 0::Bb false::Bb false::Pp (sO ⟨w.heap.size+1+1,0,nO⟩)::Pp (sO ⟨w3.heap.size,0,nO⟩)::U (sO ⟨w4.heap.size,0,nO⟩) 1 1::Pp (sO ⟨w7.heap.size,0,nO⟩)::Pp (sO ⟨w7.heap.size+1,0,nO⟩)::Pp (sO ⟨w11.heap.size,0,nO⟩)::Bb false::(List.range 322).map u).toArray,[]⟩ wp):SwT R m w w3 w4 w7 w11 wp:=λz0 z2 z4 tl hl=>by
 obtain⟨u,rfl⟩:=im tl _ hl;exact⟨c,hc,h z0 z2 z4 u⟩
section
variable {P:Program} {Q:Exit->Act->World->Prop} {a:Act} {w:World}
theorem vF {o:Option Code}{c:Code}(h:o=sO c)(hw:∃c,o=sO c/\c.wp P Q a w):c.wp P Q a w:=by
 obtain⟨d,hd,hw⟩:=hw;cases h.symm.trans hd;exact hw
end
theorem nf {p:Prop}(h:p:=by
 have h:=Cells.new (w7.alloc (.cells #[.bool false,.bool true,.int .i64 0,.int .i64 0,.bool false,.bool false,.slice none 0 0] 91)) 91 [.bool false,.bool true,.int .i64 0,.int .i64 0,.bool false,.bool false,.slice none 0 0];rw[World.size_alloc] at h;exact h):p:=h
theorem mW {p:Prop}(h:p:=by
 have h:=la x vs vc fs fc wx ((hx.at).below hb (Nat.le_refl _)) K;rw[exv] at h;refine h.mono ?_;rintro e w' ⟨⟨v,gs,gc,L,h1,h2,h3⟩,h4⟩;rw[hn] at h1 h2;exact⟨⟨v,gs,gc,L,h1,h2,h3⟩,h4⟩):p:=h
theorem mI {p:Prop}(h:p:=by
 have h:=Cells.new (w.alloc (.cells #[.int .i64 V,.int .i64 F,.slice s c.length cap] 24)) 28 [.bool false,.slice vs x.vq.length vc,.slice fs x.fq.length fc];rw[World.size_alloc] at h;exact h):p:=h
theorem nj {p:Prop}(h:p:=by
 have h1:=hb3.size;have h2:=HZ2.out;have h3:=Z4.out;have h4:=hb6.size;have h5:=hb7.size;have h6:=O5.2.1;exact⟨aa,aa,aa⟩):p:=h
theorem ny {p:Prop}(h:p:=by
 show PicG _ _ _ _ _ _ _;rw[<-HZ2.out];exact PG.mono λb hb _=>by have:=HZ2.out;omega):p:=h
theorem fA {T:Nat->Prop}{V F:Int}{s:oA}{c:lI}{cap m:Nat}{i:Ins}{x:Pic}{vs:oA}{vc:Nat}{fs:oA}{fc:Nat}{w:World}(hc:CodeAt w s c)(hx:PicOn T w x vs fs)(K:SCtx V F c x vc fc i (m:Int))(hnA:nA i.k=false)(hnB:nB i.k=false)(H:∀(w3 w4 w7 w11 wp:World) (v:Ro) (gs:oA) (gc:Nat) (L:List Ro),Hid (SPre T V F s c cap (m:Int) i x vs vc fs fc w wp (w.heap.size+1+1) w3.heap.size w4.heap.size w7.heap.size (w7.heap.size+1) w11.heap.size w3 v gs gc L noneG nO 0 noneG nO 0)->SwT (λe w'=>bU (λb=>T b\/w.heap.size<=b) w' e (aA i (m:Int) x)/\bl w w') m w w3 w4 w7 w11 wp):
  Calls pG 59 #[pv V F s c cap,I Y (m:Int),xv x vs vc fs fc] w λe w'=>bU (λb=>T b\/w.heap.size<=b) w' e (aA i (m:Int) x)/\bl w w':=by
 have HH:=ae H;clear H;have hn:=K.kx.none;have ha1:=K.a1;have hm:m < c.length:=aa;have hcm:c[m]=i:=vD;have h60:=K.lens.2.1;have HIN:=ae hx.in;have exv:xv x vs vc fs fc=Ag #[Bb false,U vs x.vq.length vc,U fs x.fq.length fc]:=lK;rw[exv];have HCP:Hid (∀wx,bl w wx->Calls pG 29 #[Ag #[Bb false,U vs x.vq.length vc,U fs x.fq.length fc]] wx λe w'=>(∃v gs gc L,x=aS false v L/\e=Rt (Ag #[Bb false,U v.rs v.l.length v.rc,U gs L.length gc])/\PicG (λb=>wx.heap.size<=b) wx.heap.size w' v gs gc L)/\bl wx w'):=λwx hb=>by
  exact mW
 have hb1:Below w.heap.size w ((w.alloc (Cc #[I Y V,I Y F,U s c.length cap] 24)).alloc (Cc #[Bb false,U vs x.vq.length vc,U fs x.fq.length fc] 28)):=ai;have P1:Cells ((w.alloc (Cc #[I Y V,I Y F,U s c.length cap] 24)).alloc (Cc #[Bb false,U vs x.vq.length vc,U fs x.fq.length fc] 28)) w.heap.size [I Y V,I Y F,U s c.length cap]:=(Cells.new w 24 [I Y V,I Y F,U s c.length cap]).call ai;have X1:Cells ((w.alloc (Cc #[I Y V,I Y F,U s c.length cap] 24)).alloc (Cc #[Bb false,U vs x.vq.length vc,U fs x.fq.length fc] 28)) (w.heap.size+1) [Bb false,U vs x.vq.length vc,U fs x.fq.length fc]:=by
  exact mI
 have HZ1:Hid (((w.alloc (Cc #[I Y V,I Y F,U s c.length cap] 24)).alloc (Cc #[Bb false,U vs x.vq.length vc,U fs x.fq.length fc] 28)).heap.size=w.heap.size+1+1):=dI;obtain⟨cb0,co,es,hcb,hci⟩:=(hc.below hb1 (lR _)).get m hm;obtain⟨j0,j1,j2,j3,j4,j5⟩:=hci m hm;rw[hcm] at j0 j1 j2 j3 j4 j5;have HES:Hid (s=sO ⟨cb0,co,nO⟩):=es;clear es;have n0:(0:Int)<=(m:Int):=aa;have n1:(m:Int) < (c.length:Int):=aa;have HNA:Hid (∀wx,Calls pG 107 #[I Y i.k] wx λe w'=>e=Rt (Bb false)/\w'=wx):=λwx=>vT;have HNB:Hid (∀wx,Calls pG 108 #[I Y i.k] wx λe w'=>e=Rt (Bb false)/\w'=wx):=λwx=>uV
 skip
 skip
 skip
 skip
 skip
 skip
 have HK:=ae K;have HX:=ae hx;have HCM:=ae hcm;clear hc hx K hn exv hci hcm;clear hnA hnB;have w61:(m:Int)<=60:=aa;go_enter Tryz.func59,Tryz.ntmps59;go_upto_region 3 with fail
 generalize ((w.alloc (Cc #[I Y V,I Y F,U s c.length cap] 24)).alloc (Cc #[Bb false,U vs x.vq.length vc,U fs x.fq.length fc] 28))=w1 at *;have p2:=P1.1 2 _ rfl;rw[HES.out] at p2;go_upto_region 4 with fail
 clear p2 j0 j1 j2 j3 j4 j5;have hb2:Below w1.heap.size w1 (w1.alloc (Cc #[I Y i.k,I Y i.tgt,I Y i.a,I Y i.b,I Y i.n,I Y i.g] 100)):=ai;have I2:Cells (w1.alloc (Cc #[I Y i.k,I Y i.tgt,I Y i.a,I Y i.b,I Y i.n,I Y i.g] 100)) w1.heap.size [I Y i.k,I Y i.tgt,I Y i.a,I Y i.b,I Y i.n,I Y i.g]:=Cells.new w1 100 [I Y i.k,I Y i.tgt,I Y i.a,I Y i.b,I Y i.n,I Y i.g];have HZ2:Hid ((w1.alloc (Cc #[I Y i.k,I Y i.tgt,I Y i.a,I Y i.b,I Y i.n,I Y i.g] 100)).heap.size=w.heap.size+1+1+1):=vG;rw[HZ1.out] at I2;rw[HZ1.out];generalize w1.alloc (Cc #[I Y i.k,I Y i.tgt,I Y i.a,I Y i.b,I Y i.n,I Y i.g] 100)=w2 at *;have P2:=P1.call hb2;have X2:=X1.call hb2;have B2:=hb1.trans (hb2.mono hb1.size);have x0:=X2.1 0 _ rfl;have x1:=X2.1 1 _ rfl;have x2:=X2.1 2 _ rfl;clear P1 X1 hb1 hb2 HZ1;go_wp2_with fail;refine(HCP.out w2 B2).mono ?_;rintro e w3 ⟨⟨v,gs,gc,L,EX0,rfl,PG⟩,hb3⟩;have EX:=ae EX0;clear EX0 x0 x1 x2 HCP;have HNO:Hid (∀wx,Calls pG 111 #[] wx λe w'=>e=Rt (Ag #[Bb false,Bb true,I Y 0,I Y 0,Bb false,Bb false,U nO 0 0])/\bl wx w'):=λwx=>cZ wx;go_upto_region 5 with fail
 have hb4:Below w3.heap.size w3 (w3.alloc (Cc #[Bb false,U v.rs v.l.length v.rc,U gs L.length gc] 28)):=ai;have Y4:Cells (w3.alloc (Cc #[Bb false,U v.rs v.l.length v.rc,U gs L.length gc] 28)) w3.heap.size [Bb false,U v.rs v.l.length v.rc,U gs L.length gc]:=Cells.new w3 28 [Bb false,U v.rs v.l.length v.rc,U gs L.length gc];have Z4:Hid ((w3.alloc (Cc #[Bb false,U v.rs v.l.length v.rc,U gs L.length gc] 28)).heap.size=w3.heap.size+1):=dI;generalize w3.alloc (Cc #[Bb false,U v.rs v.l.length v.rc,U gs L.length gc] 28)=w4 at *;have y0:=Y4.1 0 _ rfl;have y1:=Y4.1 1 _ rfl;have y2:=Y4.1 2 _ rfl;go_upto_region 6 with fail
 clear y0 y1 y2;have hb5:Below w4.heap.size w4 (w4.alloc (Cc #[I Y ((m:Int)+1),Bb false,U v.rs v.l.length v.rc,U gs L.length gc] 45)):=ai;have O5:Cells (w4.alloc (Cc #[I Y ((m:Int)+1),Bb false,U v.rs v.l.length v.rc,U gs L.length gc] 45)) w4.heap.size [I Y ((m:Int)+1),Bb false,U v.rs v.l.length v.rc,U gs L.length gc]:=Cells.new w4 45 [I Y ((m:Int)+1),Bb false,U v.rs v.l.length v.rc,U gs L.length gc];generalize w4.alloc (Cc #[I Y ((m:Int)+1),Bb false,U v.rs v.l.length v.rc,U gs L.length gc] 45)=w5 at *;go_wp2_with fail;refine(HNO.out w5).mono ?_;rintro e w6 ⟨rfl,hb6⟩;go_wp2_with fail;refine(HNO.out w6).mono ?_;rintro e w7 ⟨rfl,hb7⟩;go_upto_region 7 with fail
 have hb8:Below w7.heap.size w7 ((w7.alloc (Cc #[Bb false,Bb true,I Y 0,I Y 0,Bb false,Bb false,U nO 0 0] 91)).alloc (Cc #[Bb false,Bb true,I Y 0,I Y 0,Bb false,Bb false,U nO 0 0] 91)):=ai;have A8:Cells ((w7.alloc (Cc #[Bb false,Bb true,I Y 0,I Y 0,Bb false,Bb false,U nO 0 0] 91)).alloc (Cc #[Bb false,Bb true,I Y 0,I Y 0,Bb false,Bb false,U nO 0 0] 91)) w7.heap.size [Bb false,Bb true,I Y 0,I Y 0,Bb false,Bb false,U nO 0 0]:=(Cells.new w7 91 [Bb false,Bb true,I Y 0,I Y 0,Bb false,Bb false,U nO 0 0]).call ai;have E8:Cells ((w7.alloc (Cc #[Bb false,Bb true,I Y 0,I Y 0,Bb false,Bb false,U nO 0 0] 91)).alloc (Cc #[Bb false,Bb true,I Y 0,I Y 0,Bb false,Bb false,U nO 0 0] 91)) (w7.heap.size+1) [Bb false,Bb true,I Y 0,I Y 0,Bb false,Bb false,U nO 0 0]:=by
  exact nf
 generalize (w7.alloc (Cc #[Bb false,Bb true,I Y 0,I Y 0,Bb false,Bb false,U nO 0 0] 91)).alloc (Cc #[Bb false,Bb true,I Y 0,I Y 0,Bb false,Bb false,U nO 0 0] 91)=w8 at *;have hb48:bl w4 w8:=hb5.trans (((hb6.trans (hb7.mono hb6.size)).trans (hb8.mono (hb6.trans (hb7.mono hb6.size)).size)).mono hb5.size);have hb28:bl w2 w8:=(hb3.trans (hb4.mono hb3.size)).trans (hb48.mono (hb3.trans (hb4.mono hb3.size)).size);have hb38:bl w3 w8:=hb4.trans (hb48.mono hb4.size);have O8:=O5.call ((hb6.trans (hb7.mono hb6.size)).trans (hb8.mono (hb6.trans (hb7.mono hb6.size)).size));have P8:=P2.call hb28;have X8:=X2.call hb28;have I8:=I2.call hb28;have Y8:=Y4.call hb48;have B8:=B2.trans (hb28.mono B2.size);have HORD:Hid (w.heap.size+1+1+1<=w3.heap.size/\w3.heap.size < w4.heap.size/\w4.heap.size < w7.heap.size):=by
  exact nj
 have HPG:Hid (PicG (λb=>w.heap.size<=b) (w.heap.size+1+1+1) w3 v gs gc L):=by
  exact ny
 have HB8:=ae hb38;clear PG hb3 hb4 hb5 hb6 hb7 hb8 hb48 hb28 hb38 P2 X2 I2 Y4 O5 B2 Z4 HZ2;have i0:=I8.1 0 _ rfl;go_wp2_with fail;refine(HNA.out w8).mono ?_;rintro e wz ⟨rfl,ew⟩;rw[ew];clear ew wz;have A9:=A8;have E9:=E8;have P9:=P8;have X9:=X8;have I9:=I8;have Y9:=Y8;have O9:=O8;have B9:=B8;have HB9:=HB8;clear A8 E8 P8 X8 I8 Y8 O8 B8 HB8;generalize w8=w9 at *;go_wp2_with fail;refine(HNB.out w9).mono ?_;rintro e wz ⟨rfl,ew⟩;rw[ew];clear ew wz;have A10:=A9;have E10:=E9;have P10:=P9;have X10:=X9;have I10:=I9;have Y10:=Y9;have O10:=O9;have B10:=B9;have HB10:=HB9;clear A9 E9 P9 X9 I9 Y9 O9 B9 HB9;generalize w9=w10 at *;go_wp2_with fail;refine(HNO.out w10).mono ?_;rintro e w11 ⟨rfl,hb11⟩;clear i0;go_upto_region 12 with fail
 have hb12:Below w11.heap.size w11 (w11.alloc (Cc #[Bb false,Bb true,I Y 0,I Y 0,Bb false,Bb false,U nO 0 0] 91)):=ai;have T12:Cells (w11.alloc (Cc #[Bb false,Bb true,I Y 0,I Y 0,Bb false,Bb false,U nO 0 0] 91)) w11.heap.size [Bb false,Bb true,I Y 0,I Y 0,Bb false,Bb false,U nO 0 0]:=Cells.new w11 91 [Bb false,Bb true,I Y 0,I Y 0,Bb false,Bb false,U nO 0 0];have hb1012:bl w10 (w11.alloc (Cc #[Bb false,Bb true,I Y 0,I Y 0,Bb false,Bb false,U nO 0 0] 91)):=hb11.trans (hb12.mono hb11.size);generalize w11.alloc (Cc #[Bb false,Bb true,I Y 0,I Y 0,Bb false,Bb false,U nO 0 0] 91)=wp at *;have SP:Hid (SPre T V F s c cap (m:Int) i x vs vc fs fc w wp (w.heap.size+1+1) w3.heap.size w4.heap.size w7.heap.size (w7.heap.size+1) w11.heap.size w3 v gs gc L noneG nO 0 noneG nO 0):=by
  have o:=HORD.out;have o2:=E10.2.1;have o3:=hb11.size;exact⟨B10.trans (hb1012.mono B10.size),P10.call hb1012,X10.call hb1012,I10.call hb1012,Y10.call hb1012,O10.call hb1012,A10.call hb1012,E10.call hb1012,T12,⟨.inl rfl,lR _,j6 _⟩,⟨.inl rfl,lR _,j6 _⟩,HPG.out,HB10.out.trans (hb1012.mono HB10.out.size),rfl,EX.out,rfl,aa,aa,aa,aa,aa⟩
 clear A10 B10 P10 X10 I10 Y10 O10 E10 T12 HPG HB10 hb11 hb12 hb1012 EX HORD HNO HNA HNB HIN;refine wp_region_lit ?_;refine tL (Bb false) ?_;refine sm ?_;refine wpList_nil ?_;rename_i K9 hK9;refine hK9 _ _ (vF rfl (HH.out w3 w4 w7 w11 wp v gs gc L SP _ _ _ _ br))
theorem ig {T:Nat->Prop}{V F:Int}{s:oA}{c:lI}{cap m:Nat}{i:Ins}{x:Pic}{vs:oA}{vc:Nat}{fs:oA}{fc:Nat}{w:World}(hc:CodeAt w s c)(hx:PicOn T w x vs fs)(K:SCtx V F c x vc fc i (m:Int))(hnA:nA i.k=true)(hnB:nB i.k=false)(H:∀(w3 w4 w7 w11 wp:World) (v:Ro) (gs:oA) (gc:Nat) (L:List Ro) (ka:Nat) (sska:oA) (gcka:Nat) (hkax:ka < x.vq.length) (_:i.a=(ka:Int)),Hid (SPre T V F s c cap (m:Int) i x vs vc fs fc w wp (w.heap.size+1+1) w3.heap.size w4.heap.size w7.heap.size (w7.heap.size+1) w11.heap.size w3 v gs gc L x.vq[ka] sska gcka noneG nO 0)->SwT (λe w'=>bU (λb=>T b\/w.heap.size<=b) w' e (aA i (m:Int) x)/\bl w w') m w w3 w4 w7 w11 wp):
  Calls pG 59 #[pv V F s c cap,I Y (m:Int),xv x vs vc fs fc] w λe w'=>bU (λb=>T b\/w.heap.size<=b) w' e (aA i (m:Int) x)/\bl w w':=by
 have HH:=ae H;clear H;have hn:=K.kx.none;have ha1:=K.a1;have hm:m < c.length:=aa;have hcm:c[m]=i:=vD;have h60:=K.lens.2.1;have HIN:=ae hx.in;have exv:xv x vs vc fs fc=Ag #[Bb false,U vs x.vq.length vc,U fs x.fq.length fc]:=lK;rw[exv];have HCP:Hid (∀wx,bl w wx->Calls pG 29 #[Ag #[Bb false,U vs x.vq.length vc,U fs x.fq.length fc]] wx λe w'=>(∃v gs gc L,x=aS false v L/\e=Rt (Ag #[Bb false,U v.rs v.l.length v.rc,U gs L.length gc])/\PicG (λb=>wx.heap.size<=b) wx.heap.size w' v gs gc L)/\bl wx w'):=λwx hb=>by
  exact mW
 have hb1:Below w.heap.size w ((w.alloc (Cc #[I Y V,I Y F,U s c.length cap] 24)).alloc (Cc #[Bb false,U vs x.vq.length vc,U fs x.fq.length fc] 28)):=ai;have P1:Cells ((w.alloc (Cc #[I Y V,I Y F,U s c.length cap] 24)).alloc (Cc #[Bb false,U vs x.vq.length vc,U fs x.fq.length fc] 28)) w.heap.size [I Y V,I Y F,U s c.length cap]:=(Cells.new w 24 [I Y V,I Y F,U s c.length cap]).call ai;have X1:Cells ((w.alloc (Cc #[I Y V,I Y F,U s c.length cap] 24)).alloc (Cc #[Bb false,U vs x.vq.length vc,U fs x.fq.length fc] 28)) (w.heap.size+1) [Bb false,U vs x.vq.length vc,U fs x.fq.length fc]:=by
  exact mI
 have HZ1:Hid (((w.alloc (Cc #[I Y V,I Y F,U s c.length cap] 24)).alloc (Cc #[Bb false,U vs x.vq.length vc,U fs x.fq.length fc] 28)).heap.size=w.heap.size+1+1):=dI;obtain⟨cb0,co,es,hcb,hci⟩:=(hc.below hb1 (lR _)).get m hm;obtain⟨j0,j1,j2,j3,j4,j5⟩:=hci m hm;rw[hcm] at j0 j1 j2 j3 j4 j5;have HES:Hid (s=sO ⟨cb0,co,nO⟩):=es;clear es;have n0:(0:Int)<=(m:Int):=aa;have n1:(m:Int) < (c.length:Int):=aa;have HNA:Hid (∀wx,Calls pG 107 #[I Y i.k] wx λe w'=>e=Rt (Bb true)/\w'=wx):=λwx=>vT;have HNB:Hid (∀wx,Calls pG 108 #[I Y i.k] wx λe w'=>e=Rt (Bb false)/\w'=wx):=λwx=>uV;obtain⟨ka,eka,hkax⟩:=K.varA hnA;have HKAV:=ae eka
 skip
 skip
 clear eka
 skip
 have HK:=ae K;have HX:=ae hx;have HCM:=ae hcm;clear hc hx K hn exv hci hcm;clear hnA hnB;have w61:(m:Int)<=60:=aa;go_enter Tryz.func59,Tryz.ntmps59;go_upto_region 3 with fail
 generalize ((w.alloc (Cc #[I Y V,I Y F,U s c.length cap] 24)).alloc (Cc #[Bb false,U vs x.vq.length vc,U fs x.fq.length fc] 28))=w1 at *;have p2:=P1.1 2 _ rfl;rw[HES.out] at p2;go_upto_region 4 with fail
 clear p2 j0 j1 j2 j3 j4 j5;have hb2:Below w1.heap.size w1 (w1.alloc (Cc #[I Y i.k,I Y i.tgt,I Y i.a,I Y i.b,I Y i.n,I Y i.g] 100)):=ai;have I2:Cells (w1.alloc (Cc #[I Y i.k,I Y i.tgt,I Y i.a,I Y i.b,I Y i.n,I Y i.g] 100)) w1.heap.size [I Y i.k,I Y i.tgt,I Y i.a,I Y i.b,I Y i.n,I Y i.g]:=Cells.new w1 100 [I Y i.k,I Y i.tgt,I Y i.a,I Y i.b,I Y i.n,I Y i.g];have HZ2:Hid ((w1.alloc (Cc #[I Y i.k,I Y i.tgt,I Y i.a,I Y i.b,I Y i.n,I Y i.g] 100)).heap.size=w.heap.size+1+1+1):=vG;rw[HZ1.out] at I2;rw[HZ1.out];generalize w1.alloc (Cc #[I Y i.k,I Y i.tgt,I Y i.a,I Y i.b,I Y i.n,I Y i.g] 100)=w2 at *;have P2:=P1.call hb2;have X2:=X1.call hb2;have B2:=hb1.trans (hb2.mono hb1.size);have x0:=X2.1 0 _ rfl;have x1:=X2.1 1 _ rfl;have x2:=X2.1 2 _ rfl;clear P1 X1 hb1 hb2 HZ1;go_wp2_with fail;refine(HCP.out w2 B2).mono ?_;rintro e w3 ⟨⟨v,gs,gc,L,EX0,rfl,PG⟩,hb3⟩;have EX:=ae EX0;clear EX0 x0 x1 x2 HCP;have HNO:Hid (∀wx,Calls pG 111 #[] wx λe w'=>e=Rt (Ag #[Bb false,Bb true,I Y 0,I Y 0,Bb false,Bb false,U nO 0 0])/\bl wx w'):=λwx=>cZ wx;go_upto_region 5 with fail
 have hb4:Below w3.heap.size w3 (w3.alloc (Cc #[Bb false,U v.rs v.l.length v.rc,U gs L.length gc] 28)):=ai;have Y4:Cells (w3.alloc (Cc #[Bb false,U v.rs v.l.length v.rc,U gs L.length gc] 28)) w3.heap.size [Bb false,U v.rs v.l.length v.rc,U gs L.length gc]:=Cells.new w3 28 [Bb false,U v.rs v.l.length v.rc,U gs L.length gc];have Z4:Hid ((w3.alloc (Cc #[Bb false,U v.rs v.l.length v.rc,U gs L.length gc] 28)).heap.size=w3.heap.size+1):=dI;generalize w3.alloc (Cc #[Bb false,U v.rs v.l.length v.rc,U gs L.length gc] 28)=w4 at *;have y0:=Y4.1 0 _ rfl;have y1:=Y4.1 1 _ rfl;have y2:=Y4.1 2 _ rfl;go_upto_region 6 with fail
 clear y0 y1 y2;have hb5:Below w4.heap.size w4 (w4.alloc (Cc #[I Y ((m:Int)+1),Bb false,U v.rs v.l.length v.rc,U gs L.length gc] 45)):=ai;have O5:Cells (w4.alloc (Cc #[I Y ((m:Int)+1),Bb false,U v.rs v.l.length v.rc,U gs L.length gc] 45)) w4.heap.size [I Y ((m:Int)+1),Bb false,U v.rs v.l.length v.rc,U gs L.length gc]:=Cells.new w4 45 [I Y ((m:Int)+1),Bb false,U v.rs v.l.length v.rc,U gs L.length gc];generalize w4.alloc (Cc #[I Y ((m:Int)+1),Bb false,U v.rs v.l.length v.rc,U gs L.length gc] 45)=w5 at *;go_wp2_with fail;refine(HNO.out w5).mono ?_;rintro e w6 ⟨rfl,hb6⟩;go_wp2_with fail;refine(HNO.out w6).mono ?_;rintro e w7 ⟨rfl,hb7⟩;go_upto_region 7 with fail
 have hb8:Below w7.heap.size w7 ((w7.alloc (Cc #[Bb false,Bb true,I Y 0,I Y 0,Bb false,Bb false,U nO 0 0] 91)).alloc (Cc #[Bb false,Bb true,I Y 0,I Y 0,Bb false,Bb false,U nO 0 0] 91)):=ai;have A8:Cells ((w7.alloc (Cc #[Bb false,Bb true,I Y 0,I Y 0,Bb false,Bb false,U nO 0 0] 91)).alloc (Cc #[Bb false,Bb true,I Y 0,I Y 0,Bb false,Bb false,U nO 0 0] 91)) w7.heap.size [Bb false,Bb true,I Y 0,I Y 0,Bb false,Bb false,U nO 0 0]:=(Cells.new w7 91 [Bb false,Bb true,I Y 0,I Y 0,Bb false,Bb false,U nO 0 0]).call ai;have E8:Cells ((w7.alloc (Cc #[Bb false,Bb true,I Y 0,I Y 0,Bb false,Bb false,U nO 0 0] 91)).alloc (Cc #[Bb false,Bb true,I Y 0,I Y 0,Bb false,Bb false,U nO 0 0] 91)) (w7.heap.size+1) [Bb false,Bb true,I Y 0,I Y 0,Bb false,Bb false,U nO 0 0]:=by
  exact nf
 generalize (w7.alloc (Cc #[Bb false,Bb true,I Y 0,I Y 0,Bb false,Bb false,U nO 0 0] 91)).alloc (Cc #[Bb false,Bb true,I Y 0,I Y 0,Bb false,Bb false,U nO 0 0] 91)=w8 at *;have hb48:bl w4 w8:=hb5.trans (((hb6.trans (hb7.mono hb6.size)).trans (hb8.mono (hb6.trans (hb7.mono hb6.size)).size)).mono hb5.size);have hb28:bl w2 w8:=(hb3.trans (hb4.mono hb3.size)).trans (hb48.mono (hb3.trans (hb4.mono hb3.size)).size);have hb38:bl w3 w8:=hb4.trans (hb48.mono hb4.size);have O8:=O5.call ((hb6.trans (hb7.mono hb6.size)).trans (hb8.mono (hb6.trans (hb7.mono hb6.size)).size));have P8:=P2.call hb28;have X8:=X2.call hb28;have I8:=I2.call hb28;have Y8:=Y4.call hb48;have B8:=B2.trans (hb28.mono B2.size);have HORD:Hid (w.heap.size+1+1+1<=w3.heap.size/\w3.heap.size < w4.heap.size/\w4.heap.size < w7.heap.size):=by
  exact nj
 have HPG:Hid (PicG (λb=>w.heap.size<=b) (w.heap.size+1+1+1) w3 v gs gc L):=by
  exact ny
 have HB8:=ae hb38;clear PG hb3 hb4 hb5 hb6 hb7 hb8 hb48 hb28 hb38 P2 X2 I2 Y4 O5 B2 Z4 HZ2;have i0:=I8.1 0 _ rfl;go_wp2_with fail;refine(HNA.out w8).mono ?_;rintro e wz ⟨rfl,ew⟩;rw[ew];clear ew wz i0;have x1:=X8.1 1 _ rfl;have i2:=I8.1 2 _ rfl;rw[HKAV.out] at i2;obtain⟨bka,oka,eka,Ska,sska,gcka,Gka,IkaI,kka1,kka2⟩:=HIN.out.1 ka hkax;rw[eka] at x1;clear eka;obtain⟨⟨u0,u1,u2,u3,u4,u5,u6⟩,uz⟩:=Gka.below B8 (lR _);have r0:=A8.1 0 _ rfl;have fr0:=A8.2.2 0;have r1:=A8.1 1 _ rfl;have fr1:=A8.2.2 1;have r2:=A8.1 2 _ rfl;have fr2:=A8.2.2 2;have r3:=A8.1 3 _ rfl;have fr3:=A8.2.2 3;have r4:=A8.1 4 _ rfl;have fr4:=A8.2.2 4;have r5:=A8.1 5 _ rfl;have fr5:=A8.2.2 5;have r6:=A8.1 6 _ rfl;have fr6:=A8.2.2 6;have q0:(0:Int)<=(ka:Int):=aa;have q1:(ka:Int) < (x.vq.length:Int):=aa;go_upto_region 9 with fail
 clear r0 fr0 r1 fr1 r2 fr2 r3 fr3 r4 fr4 r5 fr5 r6 fr6;obtain⟨w9,ew9⟩:∃q,q=bw w8 (w7.heap.size) 0 [Bb x.vq[ka].n,Bb x.vq[ka].sp.n,I Y x.vq[ka].sp.lo,I Y x.vq[ka].sp.hi,Bb x.vq[ka].t,Bb x.vq[ka].f,U sska x.vq[ka].s.length gcka]:=⟨_,rfl⟩;have PU:=bM A8 0 _ ew9;simp only[bw] at ew9;rw[<-ew9];clear ew9;have A9:=PU.cells;have o1:=HORD.out;have P9:=PU.keep P8;have X9:=PU.keep X8;have I9:=PU.keep I8;have Y9:=PU.keep Y8;have O9:=PU.keep O8;have E9:=PU.keep E8;have B9:=PU.low aa B8;have HB9:=ae (PU.low aa HB8.out);clear A8 E8 P8 X8 I8 Y8 O8 B8 HB8 o1 x1 i2 u0 u1 u2 u3 u4 u5 u6 uz q0 q1 PU;have i0:=I9.1 0 _ rfl;go_wp2_with fail;refine(HNB.out w9).mono ?_;rintro e wz ⟨rfl,ew⟩;rw[ew];clear ew wz;have A10:=A9;have E10:=E9;have P10:=P9;have X10:=X9;have I10:=I9;have Y10:=Y9;have O10:=O9;have B10:=B9;have HB10:=HB9;clear A9 E9 P9 X9 I9 Y9 O9 B9 HB9;generalize w9=w10 at *;go_wp2_with fail;refine(HNO.out w10).mono ?_;rintro e w11 ⟨rfl,hb11⟩;clear i0;go_upto_region 12 with fail
 have hb12:Below w11.heap.size w11 (w11.alloc (Cc #[Bb false,Bb true,I Y 0,I Y 0,Bb false,Bb false,U nO 0 0] 91)):=ai;have T12:Cells (w11.alloc (Cc #[Bb false,Bb true,I Y 0,I Y 0,Bb false,Bb false,U nO 0 0] 91)) w11.heap.size [Bb false,Bb true,I Y 0,I Y 0,Bb false,Bb false,U nO 0 0]:=Cells.new w11 91 [Bb false,Bb true,I Y 0,I Y 0,Bb false,Bb false,U nO 0 0];have hb1012:bl w10 (w11.alloc (Cc #[Bb false,Bb true,I Y 0,I Y 0,Bb false,Bb false,U nO 0 0] 91)):=hb11.trans (hb12.mono hb11.size);generalize w11.alloc (Cc #[Bb false,Bb true,I Y 0,I Y 0,Bb false,Bb false,U nO 0 0] 91)=wp at *;have SP:Hid (SPre T V F s c cap (m:Int) i x vs vc fs fc w wp (w.heap.size+1+1) w3.heap.size w4.heap.size w7.heap.size (w7.heap.size+1) w11.heap.size w3 v gs gc L x.vq[ka] sska gcka noneG nO 0):=by
  have o:=HORD.out;have o2:=E10.2.1;have o3:=hb11.size;exact⟨B10.trans (hb1012.mono B10.size),P10.call hb1012,X10.call hb1012,I10.call hb1012,Y10.call hb1012,O10.call hb1012,A10.call hb1012,E10.call hb1012,T12,⟨IkaI,kka1,kka2⟩,⟨.inl rfl,lR _,j6 _⟩,HPG.out,HB10.out.trans (hb1012.mono HB10.out.size),rfl,EX.out,rfl,aa,aa,aa,aa,aa⟩
 clear A10 B10 P10 X10 I10 Y10 O10 E10 T12 HPG HB10 hb11 hb12 hb1012 EX HORD HNO HNA HNB HIN;refine wp_region_lit ?_;refine tL (Bb false) ?_;refine sm ?_;refine wpList_nil ?_;rename_i K9 hK9;refine hK9 _ _ (vF rfl (HH.out w3 w4 w7 w11 wp v gs gc L ka sska gcka hkax HKAV.out SP _ _ _ _ br))
theorem ud {T:Nat->Prop}{V F:Int}{s:oA}{c:lI}{cap m:Nat}{i:Ins}{x:Pic}{vs:oA}{vc:Nat}{fs:oA}{fc:Nat}{w:World}(hc:CodeAt w s c)(hx:PicOn T w x vs fs)(K:SCtx V F c x vc fc i (m:Int))(hnA:nA i.k=true)(hnB:nB i.k=true)(H:∀(w3 w4 w7 w11 wp:World) (v:Ro) (gs:oA) (gc:Nat) (L:List Ro) (ka:Nat) (sska:oA) (gcka:Nat) (hkax:ka < x.vq.length) (_:i.a=(ka:Int)) (kb:Nat) (sskb:oA) (gckb:Nat) (hkbx:kb < x.vq.length) (_:i.b=(kb:Int)),Hid (SPre T V F s c cap (m:Int) i x vs vc fs fc w wp (w.heap.size+1+1) w3.heap.size w4.heap.size w7.heap.size (w7.heap.size+1) w11.heap.size w3 v gs gc L x.vq[ka] sska gcka x.vq[kb] sskb gckb)->SwT (λe w'=>bU (λb=>T b\/w.heap.size<=b) w' e (aA i (m:Int) x)/\bl w w') m w w3 w4 w7 w11 wp):
  Calls pG 59 #[pv V F s c cap,I Y (m:Int),xv x vs vc fs fc] w λe w'=>bU (λb=>T b\/w.heap.size<=b) w' e (aA i (m:Int) x)/\bl w w':=by
 have HH:=ae H;clear H;have hn:=K.kx.none;have ha1:=K.a1;have hm:m < c.length:=aa;have hcm:c[m]=i:=vD;have h60:=K.lens.2.1;have HIN:=ae hx.in;have exv:xv x vs vc fs fc=Ag #[Bb false,U vs x.vq.length vc,U fs x.fq.length fc]:=lK;rw[exv];have HCP:Hid (∀wx,bl w wx->Calls pG 29 #[Ag #[Bb false,U vs x.vq.length vc,U fs x.fq.length fc]] wx λe w'=>(∃v gs gc L,x=aS false v L/\e=Rt (Ag #[Bb false,U v.rs v.l.length v.rc,U gs L.length gc])/\PicG (λb=>wx.heap.size<=b) wx.heap.size w' v gs gc L)/\bl wx w'):=λwx hb=>by
  exact mW
 have hb1:Below w.heap.size w ((w.alloc (Cc #[I Y V,I Y F,U s c.length cap] 24)).alloc (Cc #[Bb false,U vs x.vq.length vc,U fs x.fq.length fc] 28)):=ai;have P1:Cells ((w.alloc (Cc #[I Y V,I Y F,U s c.length cap] 24)).alloc (Cc #[Bb false,U vs x.vq.length vc,U fs x.fq.length fc] 28)) w.heap.size [I Y V,I Y F,U s c.length cap]:=(Cells.new w 24 [I Y V,I Y F,U s c.length cap]).call ai;have X1:Cells ((w.alloc (Cc #[I Y V,I Y F,U s c.length cap] 24)).alloc (Cc #[Bb false,U vs x.vq.length vc,U fs x.fq.length fc] 28)) (w.heap.size+1) [Bb false,U vs x.vq.length vc,U fs x.fq.length fc]:=by
  exact mI
 have HZ1:Hid (((w.alloc (Cc #[I Y V,I Y F,U s c.length cap] 24)).alloc (Cc #[Bb false,U vs x.vq.length vc,U fs x.fq.length fc] 28)).heap.size=w.heap.size+1+1):=dI;obtain⟨cb0,co,es,hcb,hci⟩:=(hc.below hb1 (lR _)).get m hm;obtain⟨j0,j1,j2,j3,j4,j5⟩:=hci m hm;rw[hcm] at j0 j1 j2 j3 j4 j5;have HES:Hid (s=sO ⟨cb0,co,nO⟩):=es;clear es;have n0:(0:Int)<=(m:Int):=aa;have n1:(m:Int) < (c.length:Int):=aa;have HNA:Hid (∀wx,Calls pG 107 #[I Y i.k] wx λe w'=>e=Rt (Bb true)/\w'=wx):=λwx=>vT;have HNB:Hid (∀wx,Calls pG 108 #[I Y i.k] wx λe w'=>e=Rt (Bb true)/\w'=wx):=λwx=>uV;obtain⟨ka,eka,hkax⟩:=K.varA hnA;have HKAV:=ae eka;obtain⟨kb,ekb,hkbx⟩:=K.varB hnB;have HKBV:=ae ekb;clear eka;clear ekb;have HK:=ae K;have HX:=ae hx;have HCM:=ae hcm;clear hc hx K hn exv hci hcm;clear hnA hnB;have w61:(m:Int)<=60:=aa;go_enter Tryz.func59,Tryz.ntmps59;go_upto_region 3 with fail
 generalize ((w.alloc (Cc #[I Y V,I Y F,U s c.length cap] 24)).alloc (Cc #[Bb false,U vs x.vq.length vc,U fs x.fq.length fc] 28))=w1 at *;have p2:=P1.1 2 _ rfl;rw[HES.out] at p2;go_upto_region 4 with fail
 clear p2 j0 j1 j2 j3 j4 j5;have hb2:Below w1.heap.size w1 (w1.alloc (Cc #[I Y i.k,I Y i.tgt,I Y i.a,I Y i.b,I Y i.n,I Y i.g] 100)):=ai;have I2:Cells (w1.alloc (Cc #[I Y i.k,I Y i.tgt,I Y i.a,I Y i.b,I Y i.n,I Y i.g] 100)) w1.heap.size [I Y i.k,I Y i.tgt,I Y i.a,I Y i.b,I Y i.n,I Y i.g]:=Cells.new w1 100 [I Y i.k,I Y i.tgt,I Y i.a,I Y i.b,I Y i.n,I Y i.g];have HZ2:Hid ((w1.alloc (Cc #[I Y i.k,I Y i.tgt,I Y i.a,I Y i.b,I Y i.n,I Y i.g] 100)).heap.size=w.heap.size+1+1+1):=vG;rw[HZ1.out] at I2;rw[HZ1.out];generalize w1.alloc (Cc #[I Y i.k,I Y i.tgt,I Y i.a,I Y i.b,I Y i.n,I Y i.g] 100)=w2 at *;have P2:=P1.call hb2;have X2:=X1.call hb2;have B2:=hb1.trans (hb2.mono hb1.size);have x0:=X2.1 0 _ rfl;have x1:=X2.1 1 _ rfl;have x2:=X2.1 2 _ rfl;clear P1 X1 hb1 hb2 HZ1;go_wp2_with fail;refine(HCP.out w2 B2).mono ?_;rintro e w3 ⟨⟨v,gs,gc,L,EX0,rfl,PG⟩,hb3⟩;have EX:=ae EX0;clear EX0 x0 x1 x2 HCP;have HNO:Hid (∀wx,Calls pG 111 #[] wx λe w'=>e=Rt (Ag #[Bb false,Bb true,I Y 0,I Y 0,Bb false,Bb false,U nO 0 0])/\bl wx w'):=λwx=>cZ wx;go_upto_region 5 with fail
 have hb4:Below w3.heap.size w3 (w3.alloc (Cc #[Bb false,U v.rs v.l.length v.rc,U gs L.length gc] 28)):=ai;have Y4:Cells (w3.alloc (Cc #[Bb false,U v.rs v.l.length v.rc,U gs L.length gc] 28)) w3.heap.size [Bb false,U v.rs v.l.length v.rc,U gs L.length gc]:=Cells.new w3 28 [Bb false,U v.rs v.l.length v.rc,U gs L.length gc];have Z4:Hid ((w3.alloc (Cc #[Bb false,U v.rs v.l.length v.rc,U gs L.length gc] 28)).heap.size=w3.heap.size+1):=dI;generalize w3.alloc (Cc #[Bb false,U v.rs v.l.length v.rc,U gs L.length gc] 28)=w4 at *;have y0:=Y4.1 0 _ rfl;have y1:=Y4.1 1 _ rfl;have y2:=Y4.1 2 _ rfl;go_upto_region 6 with fail
 clear y0 y1 y2;have hb5:Below w4.heap.size w4 (w4.alloc (Cc #[I Y ((m:Int)+1),Bb false,U v.rs v.l.length v.rc,U gs L.length gc] 45)):=ai;have O5:Cells (w4.alloc (Cc #[I Y ((m:Int)+1),Bb false,U v.rs v.l.length v.rc,U gs L.length gc] 45)) w4.heap.size [I Y ((m:Int)+1),Bb false,U v.rs v.l.length v.rc,U gs L.length gc]:=Cells.new w4 45 [I Y ((m:Int)+1),Bb false,U v.rs v.l.length v.rc,U gs L.length gc];generalize w4.alloc (Cc #[I Y ((m:Int)+1),Bb false,U v.rs v.l.length v.rc,U gs L.length gc] 45)=w5 at *;go_wp2_with fail;refine(HNO.out w5).mono ?_;rintro e w6 ⟨rfl,hb6⟩;go_wp2_with fail;refine(HNO.out w6).mono ?_;rintro e w7 ⟨rfl,hb7⟩;go_upto_region 7 with fail
 have hb8:Below w7.heap.size w7 ((w7.alloc (Cc #[Bb false,Bb true,I Y 0,I Y 0,Bb false,Bb false,U nO 0 0] 91)).alloc (Cc #[Bb false,Bb true,I Y 0,I Y 0,Bb false,Bb false,U nO 0 0] 91)):=ai;have A8:Cells ((w7.alloc (Cc #[Bb false,Bb true,I Y 0,I Y 0,Bb false,Bb false,U nO 0 0] 91)).alloc (Cc #[Bb false,Bb true,I Y 0,I Y 0,Bb false,Bb false,U nO 0 0] 91)) w7.heap.size [Bb false,Bb true,I Y 0,I Y 0,Bb false,Bb false,U nO 0 0]:=(Cells.new w7 91 [Bb false,Bb true,I Y 0,I Y 0,Bb false,Bb false,U nO 0 0]).call ai;have E8:Cells ((w7.alloc (Cc #[Bb false,Bb true,I Y 0,I Y 0,Bb false,Bb false,U nO 0 0] 91)).alloc (Cc #[Bb false,Bb true,I Y 0,I Y 0,Bb false,Bb false,U nO 0 0] 91)) (w7.heap.size+1) [Bb false,Bb true,I Y 0,I Y 0,Bb false,Bb false,U nO 0 0]:=by
  exact nf
 generalize (w7.alloc (Cc #[Bb false,Bb true,I Y 0,I Y 0,Bb false,Bb false,U nO 0 0] 91)).alloc (Cc #[Bb false,Bb true,I Y 0,I Y 0,Bb false,Bb false,U nO 0 0] 91)=w8 at *;have hb48:bl w4 w8:=hb5.trans (((hb6.trans (hb7.mono hb6.size)).trans (hb8.mono (hb6.trans (hb7.mono hb6.size)).size)).mono hb5.size);have hb28:bl w2 w8:=(hb3.trans (hb4.mono hb3.size)).trans (hb48.mono (hb3.trans (hb4.mono hb3.size)).size);have hb38:bl w3 w8:=hb4.trans (hb48.mono hb4.size);have O8:=O5.call ((hb6.trans (hb7.mono hb6.size)).trans (hb8.mono (hb6.trans (hb7.mono hb6.size)).size));have P8:=P2.call hb28;have X8:=X2.call hb28;have I8:=I2.call hb28;have Y8:=Y4.call hb48;have B8:=B2.trans (hb28.mono B2.size);have HORD:Hid (w.heap.size+1+1+1<=w3.heap.size/\w3.heap.size < w4.heap.size/\w4.heap.size < w7.heap.size):=by
  exact nj
 have HPG:Hid (PicG (λb=>w.heap.size<=b) (w.heap.size+1+1+1) w3 v gs gc L):=by
  exact ny
 have HB8:=ae hb38;clear PG hb3 hb4 hb5 hb6 hb7 hb8 hb48 hb28 hb38 P2 X2 I2 Y4 O5 B2 Z4 HZ2;have i0:=I8.1 0 _ rfl;go_wp2_with fail;refine(HNA.out w8).mono ?_;rintro e wz ⟨rfl,ew⟩;rw[ew];clear ew wz i0;have x1:=X8.1 1 _ rfl;have i2:=I8.1 2 _ rfl;rw[HKAV.out] at i2;obtain⟨bka,oka,eka,Ska,sska,gcka,Gka,IkaI,kka1,kka2⟩:=HIN.out.1 ka hkax;rw[eka] at x1;clear eka;obtain⟨⟨u0,u1,u2,u3,u4,u5,u6⟩,uz⟩:=Gka.below B8 (lR _);have r0:=A8.1 0 _ rfl;have fr0:=A8.2.2 0;have r1:=A8.1 1 _ rfl;have fr1:=A8.2.2 1;have r2:=A8.1 2 _ rfl;have fr2:=A8.2.2 2;have r3:=A8.1 3 _ rfl;have fr3:=A8.2.2 3;have r4:=A8.1 4 _ rfl;have fr4:=A8.2.2 4;have r5:=A8.1 5 _ rfl;have fr5:=A8.2.2 5;have r6:=A8.1 6 _ rfl;have fr6:=A8.2.2 6;have q0:(0:Int)<=(ka:Int):=aa;have q1:(ka:Int) < (x.vq.length:Int):=aa;go_upto_region 9 with fail
 clear r0 fr0 r1 fr1 r2 fr2 r3 fr3 r4 fr4 r5 fr5 r6 fr6;obtain⟨w9,ew9⟩:∃q,q=bw w8 (w7.heap.size) 0 [Bb x.vq[ka].n,Bb x.vq[ka].sp.n,I Y x.vq[ka].sp.lo,I Y x.vq[ka].sp.hi,Bb x.vq[ka].t,Bb x.vq[ka].f,U sska x.vq[ka].s.length gcka]:=⟨_,rfl⟩;have PU:=bM A8 0 _ ew9;simp only[bw] at ew9;rw[<-ew9];clear ew9;have A9:=PU.cells;have o1:=HORD.out;have P9:=PU.keep P8;have X9:=PU.keep X8;have I9:=PU.keep I8;have Y9:=PU.keep Y8;have O9:=PU.keep O8;have E9:=PU.keep E8;have B9:=PU.low aa B8;have HB9:=ae (PU.low aa HB8.out);clear A8 E8 P8 X8 I8 Y8 O8 B8 HB8 o1 x1 i2 u0 u1 u2 u3 u4 u5 u6 uz q0 q1 PU;have i0:=I9.1 0 _ rfl;go_wp2_with fail;refine(HNB.out w9).mono ?_;rintro e wz ⟨rfl,ew⟩;rw[ew];clear ew wz;have x1:=X9.1 1 _ rfl;have i3:=I9.1 3 _ rfl;rw[HKBV.out] at i3;obtain⟨bkb,okb,ekb,Skb,sskb,gckb,Gkb,IkbI,kkb1,kkb2⟩:=HIN.out.1 kb hkbx;rw[ekb] at x1;clear ekb;obtain⟨⟨u0,u1,u2,u3,u4,u5,u6⟩,uz⟩:=Gkb.below B9 (lR _);have r0:=E9.1 0 _ rfl;have fr0:=E9.2.2 0;have r1:=E9.1 1 _ rfl;have fr1:=E9.2.2 1;have r2:=E9.1 2 _ rfl;have fr2:=E9.2.2 2;have r3:=E9.1 3 _ rfl;have fr3:=E9.2.2 3;have r4:=E9.1 4 _ rfl;have fr4:=E9.2.2 4;have r5:=E9.1 5 _ rfl;have fr5:=E9.2.2 5;have r6:=E9.1 6 _ rfl;have fr6:=E9.2.2 6;have q0:(0:Int)<=(kb:Int):=aa;have q1:(kb:Int) < (x.vq.length:Int):=aa;go_upto_region 11 with fail
 clear r0 fr0 r1 fr1 r2 fr2 r3 fr3 r4 fr4 r5 fr5 r6 fr6;obtain⟨w10,ew10⟩:∃q,q=bw w9 ((w7.heap.size+1)) 0 [Bb x.vq[kb].n,Bb x.vq[kb].sp.n,I Y x.vq[kb].sp.lo,I Y x.vq[kb].sp.hi,Bb x.vq[kb].t,Bb x.vq[kb].f,U sskb x.vq[kb].s.length gckb]:=⟨_,rfl⟩;have PU:=bM E9 0 _ ew10;simp only[bw] at ew10;rw[<-ew10];clear ew10;have E10:=PU.cells;have o1:=HORD.out;have P10:=PU.keep P9;have X10:=PU.keep X9;have I10:=PU.keep I9;have Y10:=PU.keep Y9;have O10:=PU.keep O9;have A10:=PU.keep A9;have B10:=PU.low aa B9;have HB10:=ae (PU.low aa HB9.out);clear A9 E9 P9 X9 I9 Y9 O9 B9 HB9 o1 x1 i3 u0 u1 u2 u3 u4 u5 u6 uz q0 q1 PU;go_wp2_with fail;refine(HNO.out w10).mono ?_;rintro e w11 ⟨rfl,hb11⟩;clear i0;go_upto_region 12 with fail
 have hb12:Below w11.heap.size w11 (w11.alloc (Cc #[Bb false,Bb true,I Y 0,I Y 0,Bb false,Bb false,U nO 0 0] 91)):=ai;have T12:Cells (w11.alloc (Cc #[Bb false,Bb true,I Y 0,I Y 0,Bb false,Bb false,U nO 0 0] 91)) w11.heap.size [Bb false,Bb true,I Y 0,I Y 0,Bb false,Bb false,U nO 0 0]:=Cells.new w11 91 [Bb false,Bb true,I Y 0,I Y 0,Bb false,Bb false,U nO 0 0];have hb1012:bl w10 (w11.alloc (Cc #[Bb false,Bb true,I Y 0,I Y 0,Bb false,Bb false,U nO 0 0] 91)):=hb11.trans (hb12.mono hb11.size);generalize w11.alloc (Cc #[Bb false,Bb true,I Y 0,I Y 0,Bb false,Bb false,U nO 0 0] 91)=wp at *;have SP:Hid (SPre T V F s c cap (m:Int) i x vs vc fs fc w wp (w.heap.size+1+1) w3.heap.size w4.heap.size w7.heap.size (w7.heap.size+1) w11.heap.size w3 v gs gc L x.vq[ka] sska gcka x.vq[kb] sskb gckb):=by
  have o:=HORD.out;have o2:=E10.2.1;have o3:=hb11.size;exact⟨B10.trans (hb1012.mono B10.size),P10.call hb1012,X10.call hb1012,I10.call hb1012,Y10.call hb1012,O10.call hb1012,A10.call hb1012,E10.call hb1012,T12,⟨IkaI,kka1,kka2⟩,⟨IkbI,kkb1,kkb2⟩,HPG.out,HB10.out.trans (hb1012.mono HB10.out.size),rfl,EX.out,rfl,aa,aa,aa,aa,aa⟩
 clear A10 B10 P10 X10 I10 Y10 O10 E10 T12 HPG HB10 hb11 hb12 hb1012 EX HORD HNO HNA HNB HIN;refine wp_region_lit ?_;refine tL (Bb false) ?_;refine sm ?_;refine wpList_nil ?_;rename_i K9 hK9;refine hK9 _ _ (vF rfl (HH.out w3 w4 w7 w11 wp v gs gc L ka sska gcka hkax HKAV.out kb sskb gckb hkbx HKBV.out SP _ _ _ _ br))
theorem Fa (a b:List Gs)(k:Nat)(h:k < a.length)(h':k < b.length):eU (a.drop k) (b.drop k)=(c7 a[k] b[k]&&eU (a.drop (k+1)) (b.drop (k+1))):=by
 unfold eU;rw[q7 h,q7 h'];rfl
def Mv (a b:List (List Gs)):Bool:=(List.zipWith eU a b).all id
theorem nT (w:World):Calls pG 77 #[] w λe w'=>e=Rt (Ag #[Bb false,Bb true,I Y 0,I Y 0,Bb false,Bb false,U nO 0 0])/\bl w w':=by
 go_enter Tryz.func77,Tryz.ntmps77;go_wp2;refine bodyPost_ret (v:=Ag #[Bb false,Bb true,I Y 0,I Y 0,Bb false,Bb false,U nO 0 0]) (by simp[results,Tryz.results77,go_sem]) rfl ⟨rfl,ai⟩
theorem Eh (a b:List Int)(ss:oA)(gc:Nat)(st:oA)(hc:Nat)(w:World)(ha:a.length<=maxLen)(hb:b.length<=maxLen)(h1:IntsAt w ss a)(h2:IntsAt w st b):
  Calls pG 216 #[U ss a.length gc,U st b.length hc] w λe w'=>e=Rt (Bb (decide (a=b)))/\bl w w':=by
 have hm:maxLen<=9223372036854775807:=aj;rcases h1 with rfl|⟨b1,o1,rfl,hb1,hc1⟩
 ·refine(Tryz.slices_Equal_int_empty ss st gc b.length hc w aa).mono ?_
  rintro e w' ⟨rfl,rfl⟩;refine⟨bj ?_,bR _ _⟩;cases b<;>simp
 ·rcases h2 with rfl|⟨b2,o2,rfl,hb2,hc2⟩
  ·by_cases h0:a.length=0
   ·have e0:a=[]:=j9 h0
    subst e0;refine(Tryz.slices_Equal_int_empty (sO ⟨b1,o1,nO⟩) st gc 0 hc w aa).mono ?_;rintro e w' ⟨rfl,rfl⟩;exact⟨rfl,bR _ _⟩
   ·have e1:decide (a=[])=false:=by
     have:a≠[]:=λe=>h0 (by rw[e];rfl);simpa using this
    rw[e1];have e2:((a.length:Int)!=0)=true:=by simp;exact λe=>h0 (by rw[e];rfl)
    clear e1 h0 hc1 hb1;go_enter Tryz.func216,Tryz.ntmps216;go_wp2;go_ret;exact⟨rfl,bR _ _⟩
  ·refine(Tryz.slices_Equal_int b1 o1 a.length gc b2 o2 b.length hc a b w (lR _) (lR _) aa aa (λj hj=>by rw[hc1 j hj];simp[j8,hj]) (λj hj=>by rw[hc2 j hj];simp[j8,hj])).mono ?_
   rintro e w' ⟨rfl,q,rfl⟩;refine⟨bj ?_,below_drewN (bR _ _) q⟩;rw[q8,q8];by_cases h:a=b
   ·simp[h]
   ·simp[h]
theorem gA {p:Prop}(h:p:=by
 go_enter Tryz.func178,Tryz.ntmps178;go_wp2;go_ret;exact⟨bj HQ.out.symm,ai⟩):p:=h
theorem mR (g:Gs)(ss:oA)(gc:Nat)(h:Gs)(st:oA)(hc:Nat)(w:World)(hs:IntsAt w ss g.s)(ht:IntsAt w st h.s)(h1:g.s.length<=maxLen)(h2:h.s.length<=maxLen):
  Calls pG 178 #[gv g ss gc,gv h st hc] w λe w'=>e=Rt (Bb (du g h))/\bl w w':=by
 have B0:Below w.heap.size w ((w.alloc (Cc #[Bb g.n,Bb g.sp.n,I Y g.sp.lo,I Y g.sp.hi,Bb g.t,Bb g.f,U ss g.s.length gc] 91)).alloc (Cc #[Bb h.n,Bb h.sp.n,I Y h.sp.lo,I Y h.sp.hi,Bb h.t,Bb h.f,U st h.s.length hc] 91)):=ai;have HE:=ae (Eh g.s h.s ss gc st hc ((w.alloc (Cc #[Bb g.n,Bb g.sp.n,I Y g.sp.lo,I Y g.sp.hi,Bb g.t,Bb g.f,U ss g.s.length gc] 91)).alloc (Cc #[Bb h.n,Bb h.sp.n,I Y h.sp.lo,I Y h.sp.hi,Bb h.t,Bb h.f,U st h.s.length hc] 91)) h1 h2 (hs.below B0 (lR _)) (ht.below B0 (lR _)));have HR:Hid (du g h=(g.n==h.n&&(@decide _ (g.sp.dq h.sp)&&(g.t==h.t&&(g.f==h.f&&decide (g.s=h.s)))))):=rfl;generalize du g h=r at HR |-;generalize decide (g.s=h.s)=q at HR HE;clear hs ht;by_cases e1:g.n=h.n
 ·by_cases e2:g.sp=h.sp
  ·by_cases e3:g.t=h.t
   ·by_cases e4:g.f=h.f
    ·have HQ:Hid (r=q):=by show _=_;rw[HR.out,e1,e2,e3,e4];simp
     clear HR;obtain⟨n,sp,t,f,sl⟩:=g;obtain⟨n',sp',t',f',sl'⟩:=h;simp only at e1 e2 e3 e4 HE h1 h2;subst e1 e2 e3 e4;go_enter Tryz.func178,Tryz.ntmps178;go_wp2_with fail;refine HE.out.mono ?_;rintro e w1 ⟨rfl,hb1⟩;go_wp2;go_ret;exact⟨bj HQ.out.symm,Below.trans ai (hb1.mono an)⟩
    ·have HQ:Hid (r=false):=by show _=_;rw[HR.out,e1,e2,e3];simp[e4]
     have d4:(g.f==h.f)=false:=by simpa using e4
     clear HR HE e4;obtain⟨n,sp,t,f,sl⟩:=g;obtain⟨n',sp',t',f',sl'⟩:=h;simp only at e1 e2 e3 d4 h1 h2;subst e1 e2 e3;exact gA
   ·have HQ:Hid (r=false):=by show _=_;rw[HR.out,e1,e2];simp[e3]
    have d3:(g.t==h.t)=false:=by simpa using e3
    clear HR HE e3;obtain⟨n,sp,t,f,sl⟩:=g;obtain⟨n',sp',t',f',sl'⟩:=h;simp only at e1 e2 d3 h1 h2;subst e1 e2;exact gA
  ·have HQ:Hid (r=false):=by show _=_;rw[HR.out,e1];simp[e2]
   clear HR HE;obtain⟨n,⟨sn,lo,hi⟩,t,f,sl⟩:=g;obtain⟨n',⟨sn',lo',hi'⟩,t',f',sl'⟩:=h;simp only at e1 e2 h1 h2;subst e1;by_cases a1:sn=sn'
   ·subst a1
    by_cases a2:lo=lo'
    ·subst a2
     have a3:¬hi=hi':=λe=>e2 (by rw[e]);clear e2;exact gA
    ·clear e2
     exact gA
   ·clear e2
    exact gA
 ·have HQ:Hid (r=false):=by show _=_;rw[HR.out];simp[e1]
  have d1:(g.n==h.n)=false:=by simpa using e1
  clear HR HE e1;obtain⟨n,sp,t,f,sl⟩:=g;obtain⟨n',sp',t',f',sl'⟩:=h;simp only at d1 h1 h2;exact gA

theorem li (g:Gs)(ss:oA)(gc:Nat)(w:World)(hs:IntsAt w ss g.s)(h1:g.s.length<=maxLen):
  Calls pG 139 #[gv g ss gc] w λe w'=>e=Rt (Bb (cP g))/\bl w w':=by
 have B0:Below w.heap.size w (w.alloc (Cc #[Bb g.n,Bb g.sp.n,I Y g.sp.lo,I Y g.sp.hi,Bb g.t,Bb g.f,U ss g.s.length gc] 91)):=ai;have G0:=GuAt.new w g ss gc;have I0:=hs.below B0 (lR _);have HN:=ae nT;have HI:Hid (∀wx,IntsAt wx ss g.s->Calls pG 178 #[gv g ss gc,Ag #[Bb false,Bb true,I Y 0,I Y 0,Bb false,Bb false,U nO 0 0]] wx λe w'=>e=Rt (Bb (du g noneG))/\bl wx w'):=λwx hx=>mR g ss gc noneG nO 0 wx hx (.inl rfl) h1 (j6 _);have HR:Hid (cP g= !du g noneG):=rfl;generalize cP g=r at HR |-;generalize du g noneG=q at HR HI;clear hs;go_enter Tryz.func139,Tryz.ntmps139;go_upto_region 1 with fail
 generalize w.alloc (Cc #[Bb g.n,Bb g.sp.n,I Y g.sp.lo,I Y g.sp.hi,Bb g.t,Bb g.f,U ss g.s.length gc] 91)=w1 at *;have HKZ:Hid (∀wx,bl w1 wx->(wx.cell? ⟨w.heap.size,0,nO⟩=sO (Bb g.n)/\wx.cell? ⟨w.heap.size,0+1,nO⟩=sO (Bb g.sp.n)/\wx.cell? ⟨w.heap.size,0+2,nO⟩=sO (I Y g.sp.lo)/\wx.cell? ⟨w.heap.size,0+3,nO⟩=sO (I Y g.sp.hi)/\wx.cell? ⟨w.heap.size,0+4,nO⟩=sO (Bb g.t)/\wx.cell? ⟨w.heap.size,0+5,nO⟩=sO (Bb g.f)/\wx.cell? ⟨w.heap.size,0+6,nO⟩=sO (U ss g.s.length gc))):=λwx hx=>(G0.call hx).1;have HD:bl w1 w1.drew:=(bR _ _).drew;refine aD (S:=(λwx=>(wx.cell? ⟨w.heap.size,0,nO⟩=sO (Bb g.n)/\wx.cell? ⟨w.heap.size,0+1,nO⟩=sO (Bb g.sp.n)/\wx.cell? ⟨w.heap.size,0+2,nO⟩=sO (I Y g.sp.lo)/\wx.cell? ⟨w.heap.size,0+3,nO⟩=sO (I Y g.sp.hi)/\wx.cell? ⟨w.heap.size,0+4,nO⟩=sO (Bb g.t)/\wx.cell? ⟨w.heap.size,0+5,nO⟩=sO (Bb g.f)/\wx.cell? ⟨w.heap.size,0+6,nO⟩=sO (U ss g.s.length gc)))) [] ag (HKZ.out _ HD) (λhHeld=> ?_);refine vZ 0 ?_ ?_;refine aB (i:=1) rfl ag (λK hK=> ?_);go_simp;go_at_call 77;refine(HN.out _).mono ?_;rintro e w2 ⟨rfl,hb2⟩;have HB2:bl w1 w2:=HD.trans (hb2.mono HD.size);go_wp2_with fail;refine hK.out _ _ (HKZ.out _ HB2) (λhHeld=> ?_);clear hK K;refine sm ?_;refine aB (i:=2) rfl ag (λK hK=> ?_);go_simp;go_at_call 178;refine(HI.out _ (I0.below HB2 (lR _))).mono ?_;rintro e w3 ⟨rfl,hb3⟩;have HB3:bl w1 w3:=HB2.trans (hb3.mono HB2.size);go_wp2_with fail;refine hK.out _ _ (HKZ.out _ HB3) (λhHeld=> ?_);clear hK K;refine sm ?_;refine vZ 3 ?_ ?_;refine vZ 4 ?_ ?_;refine aC ag ?_ _;go_wp2;go_ret;exact⟨bj HR.out.symm,B0.trans (HB3.mono B0.size)⟩
theorem Kp (n:Nat)(w:World)(hn:n<=1000):
  Calls pG 223 #[U nO 0 0,I Y (n:Int)] w λe w'=>(∃rs rc,e=Rt (U rs 0 rc)/\w'.ownsRow w.heap.size 91 7 (U rs 0 rc) 0 [])/\bl w w':=by
 obtain⟨ti,hi,hz0,hz1,hz2⟩:=info_parts Tryz.info_guess;cases n with
 |zero=>
  go_enter Tryz.func223,Tryz.ntmps223;go_wp2;go_ret;exact⟨⟨nO,0,rfl,rfl,.inl ⟨rfl,rfl⟩⟩,bR _ _⟩
 |succ m=>
  have happ:=Lib.run_append_nil_zeros (P:=pG) w 25 3 25 91 ti (Ag #[Bb false,Bb false,I Y 0,I Y 0,Bb false,Bb false,U nO 0 0]) .i64 .i64 Tryz.underlying25 Tryz.underlying3 hi hz0 (m+1) aa (by rw[hz1];omega) aa (by rw[hz2];omega);have hge:=grownCap_ge w (m+1) 0 91;have hle:=grownCap_le_maxLen w (m+1) 0 91 dg;have HA:=ae happ;have HO:Hid (∀cap,m+1<=cap->cap<=maxLen->(w.drew.alloc (Cc (Builtin.zeroCells (Value.cells (Ag #[Bb false,Bb false,I Y 0,I Y 0,Bb false,Bb false,U nO 0 0])) (m+1)++Builtin.zeroCells (Value.cells (Ag #[Bb false,Bb false,I Y 0,I Y 0,Bb false,Bb false,U nO 0 0])) (cap - (m+1))) 91)).ownsRow w.heap.size 91 7 (U (sO ⟨w.heap.size,0,nO⟩) 0 cap) 0 []):=λcap h1 h2=>by
   refine World.ownsRow_made w.drew _ cap (lR _) h2 ?_;rw[Array.size_append,size_zeroCells,size_zeroCells];have:(Value.cells (Ag #[Bb false,Bb false,I Y 0,I Y 0,Bb false,Bb false,U nO 0 0])).size=7:=rfl;rw[this,<-Nat.add_mul];congr 1;omega
  have hnp:(0:Int) < ((m+1:Nat):Int):=aa;have hnn:¬((m+1:Nat):Int) < 0:=aa;generalize grownCap w (m+1) 0 91=cp at *;clear happ;generalize hN:m+1=N at *;clear hN;go_enter Tryz.func223,Tryz.ntmps223;go_wp2_with (at_builtin;refine Lib.wpList_append_run _ rfl _ _ _ _ rfl _ _ rfl rfl _ _ HA.out ?_);have h0c:(0:Int)<=(cp:Int):=aa;go_wp2;go_ret;refine⟨⟨_,_,rfl,HO.out cp hge hle⟩,?_⟩;exact((bR _ w).drew).alloc ah _

def sd (w':World)(e:Ending)(l:List Gs):Prop:=∃rs rc,e=Rt (U rs l.length rc)/\GsAt w' rs l/\l.length<=rc/\rc<=maxLen
theorem uj (ls:oA)(lc:Nat)(L:List (List Gs))(w:World)(h:RowsAt w ls L)(hl:L.length<=1000)(ht:L.flatten.length<=1000):
  Calls pG 192 #[U ls L.length lc] w λe w'=>sd w' e L.flatten/\bl w w':=by
 obtain⟨ti,hi,hz0,hz1,hz2⟩:=info_parts Tryz.info_guess;have HG:=ae Kp;obtain⟨N,eN⟩:∃N,N=L.flatten.length:=⟨_,rfl⟩;have HLE:Hid (∀k,(L.take k).flatten.length<=1000):=λk=>by
  have h1:L.flatten=(L.take k).flatten++(L.drop k).flatten:=by rw[<-List.flatten_append,List.take_append_drop]
  have h2:=congrArg List.length h1;rw[j7] at h2;omega
 rw[<-eN] at ht;have EN:=ae eN;clear eN;go_enter Tryz.func192,Tryz.ntmps192;go_wp2;go_loopw [3,11] (λz i wr=>∃k:Nat,k<=L.length/\i=I Y k/\z=I Y ((L.take k).flatten.length:Int)/\wr=w) (λ_ i _=>L.length - (intOf i).toNat)
 case atStart=>exact⟨0,j6 _,rfl,ah,rfl⟩
 case round=>
  obtain⟨k,hk,rfl,rfl,hwr⟩:=hrel;rw[hwr];clear hwr;by_cases hlt:k < L.length
  ·have n0:(0:Int)<=(k:Int):=by omega
   have n1:(k:Int) < (L.length:Int):=aa;obtain⟨b,off,rfl,zb,rs,rc,C1,k1,m1,J1⟩:=h k hlt;have HF:=ae (oB L k hlt);have hle:=HLE.out (k+1);rw[HF.out,j7] at hle;obtain⟨z0,e0⟩:∃z0,z0=(L.take k).flatten.length:=⟨_,rfl⟩;obtain⟨z1,e1⟩:∃z1,z1=L[k].length:=⟨_,rfl⟩;rw[<-e0,<-e1] at hle;rw[<-e1] at C1;rw[<-e0];have E0:=ae e0;have E1:=ae e1;clear e0 e1 J1 k1;have hnn:¬((z0:Int)+(z1:Int)) < 0:=aa;go_wp2;go_roundw
   case rel=>exact⟨k+1,aa,aJ,by rw[HF.out,j7,<-E0.out,<-E1.out];first|rfl|go_num|(simp;omega),by first|rfl|trivial⟩
   case measure=>simp[intOf];omega
  ·have n1:¬(k:Int) < (L.length:Int):=by omega
   have et:L.take k=L:=q9 aa;rw[et,<-EN.out];go_wp2_with fail;refine(HG.out _ w ht).mono ?_;rintro e w1 ⟨⟨rs0,rc0,rfl,O1⟩,hb1⟩;have C1:CRow w1 w.heap.size (U rs0 0 rc0) []:=⟨O1,λx hx=>by simp at hx⟩;clear O1 HG et;go_wp2;go_loopw [6,27] (λv i wy=>∃(k:Nat) (rs:oA) (rc:Nat) (l:List Gc),k<=L.length/\i=I Y k/\v=U rs l.length rc/\bl w wy/\Hid (l.map Gc.g=(L.take k).flatten)/\CRow wy w.heap.size (U rs l.length rc) l) (λ_ i _=>L.length - (intOf i).toNat)
   case atStart=>exact⟨0,rs0,rc0,[],j6 _,rfl,rfl,hb1,rfl,C1⟩
   case round=>
    clear C1 hb1;obtain⟨k2,rs,rc,l,hk2,rfl,rfl,hby,HE,CL⟩:=hrel;have LL:Hid (l.length=(L.take k2).flatten.length):=by show _=_;rw[<-HE.out,z3]
    by_cases hlt2:k2 < L.length
    ·have n0:(0:Int)<=(k2:Int):=by omega
     have n2:(k2:Int) < (L.length:Int):=aa;obtain⟨b,off,rfl,zb,r1,rc1,D1,k1,m1,J1⟩:=h k2 hlt2;obtain⟨lr,elr,hnr,hnnr,hgr,hlr⟩:=J1.gcsTo hby
     have D1':wr.cell? ⟨b,off+k2,nO⟩=sO (U r1 L[k2].length rc1):=by rw[hby.cell (by simp only;exact zb)];exact D1
     have hsum:l.length+L[k2].length<=1000:=by have h1:=HLE.out (k2+1);rw[oB L k2 hlt2,j7] at h1;have:=LL.out;omega
     have HLL:Hid (lr.length=L[k2].length):=by show _=_;rw[<-elr,z3]
     have HNR:=ae hnr;have HLR:=ae elr;clear D1 J1 hnr elr;go_wp2_with (at_builtin;refine aZ _ rfl _ _ 25 rfl w.heap.size 91 ti (Ag #[Bb false,Bb false,I Y 0,I Y 0,Bb false,Bb false,U nO 0 0]) 7 64 Tryz.underlying25 hi hz0 hz1 hz2 rfl aj _ _ _ rfl CL.1 r1 L[k2].length rc1 (aP lr) rfl hlr hnnr ?qb2 (Al _) ?qb4 ?qb5 ?qb6 ?_);(try (case qb2=>exact HNR.out))
     case qb4=>unfold maxLen;omega
     case qb5=>omega
     (try (case qb6=>exact hby.size));intro v1 w5 hown5 hgrow5 hat5;have hb5:bl w w5:=hby.grown hgrow5 hby.size (λk hk=>(aM CL.1 hk).2);have CR5:CRow w5 w.heap.size v1 (l++lr):=CL.grown hgr (by rw[HLL.out];exact hown5) hgrow5;obtain⟨rs',rc',rfl,-,-,-,-⟩:=CR5.at;clear hown5 hgrow5 hat5 HNR hnnr hgr hlr D1' CL;go_wp2;go_roundw
     case rel=>exact⟨k2+1,rs',rc',l++lr,aa,aJ,by first|rfl|(rw[j7]),hb5,by show _=_;rw[List.map_append,HE.out,HLR.out,oB _ _ hlt2],CR5⟩
     case measure=>simp[intOf];omega
    ·have n2:¬(k2:Int) < (L.length:Int):=by omega
     have et:L.take k2=L:=q9 aa;obtain⟨ra,rb,e0,kv1,kv2,GA,-⟩:=CL.at;cases e0;rw[HE.out,et] at GA;have LF:Hid (l.length=L.flatten.length):=by show _=_;rw[LL.out,et]
     go_wp2;go_ret;refine⟨⟨rs,rc,by show Ending.returned (U rs l.length rc)=_;rw[LF.out],GA,by rw[<-LF.out];exact kv1,kv2⟩,hby⟩

theorem IF (w:World){vs rs:oA}{vc rc:Nat}{a b:List Gs}(h1:GsAt w vs a)(k1:a.length<=vc)(m1:vc<=maxLen)(h2:GsAt w rs b)(k2:b.length<=rc)(m2:rc<=maxLen):
  RowsAt (w.alloc (Cc #[U vs a.length vc,U rs b.length rc] 25)) (sO ⟨w.heap.size,0,nO⟩) [a,b]:=by
 intro i hi
 match i,hi with
 |0,_=>exact⟨w.heap.size,0,rfl,ah,vs,vc,aV,k1,m1,h1.alloc _⟩
 |1,_=>exact⟨w.heap.size,0,rfl,ah,rs,rc,aV,k2,m2,h2.alloc _⟩
 |i+2,h=>simp at h;omega
theorem rS (x:Pic)(vs:oA)(vc:Nat)(fs:oA)(fc:Nat)(w:World)(h:PicAt w x vs fs)(hvc:x.vq.length<=vc)(hvm:vc<=maxLen)(hl:x.fq.length<=1000)(ha:(bO x).length<=1000):
  Calls pG 138 #[xv x vs vc fs fc] w λe w'=>sd w' e (bO x)/\bl w w':=by
 have B0:Below w.heap.size w (w.alloc (Cc #[Bb x.none,U vs x.vq.length vc,U fs x.fq.length fc] 28)):=ai;have A0:=XAt.new w x vs vc fs fc;have PV:=h.1.below B0 (lR _);have PF:=h.2.below B0 (lR _);have hf:x.fq.flatten.length<=1000:=by unfold bO at ha;rw[j7] at ha;omega
 obtain⟨fl,efl⟩:∃fl,fl=x.fq.flatten:=⟨_,rfl⟩;have HC1:Hid (∀wx,RowsAt wx fs x.fq->Calls pG 192 #[U fs x.fq.length fc] wx λe w'=>sd w' e fl/\bl wx w'):=λwx hx=>by rw[efl];exact uj fs fc x.fq wx hx hl hf
 have EA:[x.vq,fl].flatten=bO x:=by unfold bO;rw[efl];simp
 have HC2:Hid (∀wx a,RowsAt wx (sO a) [x.vq,fl]->Calls pG 192 #[U (sO a) 2 2] wx λe w'=>sd w' e (bO x)/\bl wx w'):=λwx a hx=>by rw[<-EA];exact uj (sO a) 2 [x.vq,fl] wx hx (by simp) (by rw[EA];exact ha)
 clear efl EA hf;clear h ha;go_enter Tryz.func138,Tryz.ntmps138;go_upto_region 1 with fail
 generalize w.alloc (Cc #[Bb x.none,U vs x.vq.length vc,U fs x.fq.length fc] 28)=w1 at *;obtain⟨⟨a0,a1,a2⟩,az,-⟩:=id A0;have HKZ:Hid (∀wx,bl w1 wx->wx.cell? ⟨w.heap.size,1,nO⟩=sO (U vs x.vq.length vc)/\wx.cell? ⟨w.heap.size,2,nO⟩=sO (U fs x.fq.length fc)):=λwx hx=>⟨by rw[hx.cell (by simp only;exact az)];exact a1,by rw[hx.cell (by simp only;exact az)];exact a2⟩;have HD:bl w1 w1.drew:=(bR _ _).drew;clear a0 a1 a2 az;refine aD (S:=(λwx=>wx.cell? ⟨w.heap.size,1,nO⟩=sO (U vs x.vq.length vc)/\wx.cell? ⟨w.heap.size,2,nO⟩=sO (U fs x.fq.length fc))) [] ag (HKZ.out _ HD) (λhHeld=> ?_);refine vZ 0 ?_ ?_;refine vZ 1 ?_ ?_;refine vZ 2 ?_ ?_;refine vZ 3 ?_ ?_;refine aB (i:=4) rfl ag (λK hK=> ?_);go_simp;go_at_call 192;refine(HC1.out _ (PF.below HD (lR _))).mono ?_;rintro e w2 ⟨⟨rs,rc,rfl,GF,k1,k2⟩,hb2⟩;have HB2:bl w1 w2:=HD.trans (hb2.mono HD.size);go_wp2_with fail;refine hK.out _ _ (HKZ.out _ HB2) (λhHeld=> ?_);clear hK K;refine sm ?_;refine aB (i:=5) rfl ag (λK hK=> ?_);go_simp;have hba:Below w2.heap.size w2 (w2.alloc (Cc #[U vs x.vq.length vc,U rs fl.length rc] 25)):=ai;have HB3:bl w1 (w2.alloc (Cc #[U vs x.vq.length vc,U rs fl.length rc] 25)):=HB2.trans (hba.mono HB2.size);refine hK.out _ _ (HKZ.out _ HB3) (λhHeld=> ?_);clear hK K;refine sm ?_;have RR:RowsAt (w2.alloc (Cc #[U vs x.vq.length vc,U rs fl.length rc] 25)) (sO ⟨w2.heap.size,0,nO⟩) [x.vq,fl]:=IF w2 (PV.below HB2 (lR _)) hvc hvm GF k1 k2;refine aB (i:=6) rfl ag (λK hK=> ?_);go_simp;go_at_call 192;refine(HC2.out _ _ RR).mono ?_;rintro e w4 ⟨⟨ra,rb,rfl,GA,j1,j2⟩,hb4⟩;have HB4:bl w1 w4:=HB3.trans (hb4.mono HB3.size);go_wp2_with fail;refine hK.out _ _ (HKZ.out _ HB4) (λhHeld=> ?_);clear hK K;refine sm ?_;refine vZ 7 ?_ ?_;refine aC ag ?_ _;go_wp2;go_ret;exact⟨⟨ra,rb,rfl,GA,j1,j2⟩,B0.trans (HB4.mono B0.size)⟩
theorem Cd (l:List Gs)(rs:oA)(rc q:Nat)(V F:Int)(s:oA)(c:lI)(cap:Nat)(w:World)(hp:PrAt w q V F s c cap):
  Calls pG 190 #[U rs l.length rc,Pp (sO ⟨q,0,nO⟩)] w λe w'=>e=Rt (Bb ((λr:List Gs=> !decide ((r.length:Int)=F)) l))/\bl w w':=by
 obtain⟨⟨p0,p1,p2⟩,pz⟩:=id hp;by_cases h:(l.length:Int)=F
 ·have e1:((l.length:Int)!=F)=false:=by simpa using h
  have er:(λr:List Gs=> !decide ((r.length:Int)=F)) l=false:=by simp[h]
  rw[er];clear er h;go_enter Tryz.func190,Tryz.ntmps190;go_wp2;go_ret;exact⟨rfl,ai⟩
 ·have e1:((l.length:Int)!=F)=true:=by simpa using h
  have er:(λr:List Gs=> !decide ((r.length:Int)=F)) l=true:=by simp[h]
  rw[er];clear er h;go_enter Tryz.func190,Tryz.ntmps190;go_wp2;go_ret;exact⟨rfl,ai⟩
theorem wT (q:Nat)(V F:Int)(s:oA)(c:lI)(cap:Nat)(fs:oA)(fc:Nat)(L:List (List Gs))(w:World)(hl:L.length<=9223372036854775807)(h:RowsAt w fs L)(hp:PrAt w q V F s c cap):
  Calls pG 222 #[U fs L.length fc,.func (.func 190) #[] #[Pp (sO ⟨q,0,nO⟩)]] w λe w'=>∃n:Int,e=Rt (I Y n)/\decide (0<=n)=L.any (λr:List Gs=> !decide ((r.length:Int)=F))/\bl w w':=by
 have HF:Hid (∀(l:List Gs) (rs:oA) (rc:Nat) (wx:World),PrAt wx q V F s c cap->Calls pG 190 #[U rs l.length rc,Pp (sO ⟨q,0,nO⟩)] wx λe w'=>e=Rt (Bb ((λr:List Gs=> !decide ((r.length:Int)=F)) l))/\bl wx w'):=λl rs rc wx hx=>Cd l rs rc q V F s c cap wx hx;generalize hpp:(λr:List Gs=> !decide ((r.length:Int)=F))=pp at *;clear hpp;go_enter Tryz.func222,Tryz.ntmps222;go_wp2;go_loopw [8] (λi wr=>∃k:Nat,k<=L.length/\i=I Y k/\bl w wr/\Hid (L.any pp=(L.drop k).any pp)) (λi _=>L.length - (intOf i).toNat)
 case atStart=>exact⟨0,j6 _,rfl,bR _ _,rfl⟩
 case round=>
  obtain⟨k,hk,rfl,hbr,HA⟩:=hrel;by_cases hlt:k < L.length
  ·obtain⟨b,off,rfl,zb,rs,rc,C1,k1,m1,-⟩:=h k hlt
   have n0:(0:Int)<=(k:Int):=aa;have n1:(k:Int) < (L.length:Int):=aa;have s0:=hbr.size;have c0:wr.cell? ⟨b,off+k,nO⟩=sO (U rs L[k].length rc):=by rw[hbr.cell (by simp only;exact zb)];exact C1
   have HN:Hid ((L.drop k).any pp=(pp L[k]||(L.drop (k+1)).any pp)):=mc L pp k hlt;clear C1 h;go_wp2_with fail;refine(HF.out L[k] _ _ _ (hp.call hbr)).mono ?_;rintro e w1 ⟨rfl,hb1⟩;cases hpk:pp L[k] with
   |true=>
    have HT:Hid (L.any pp=true):=by show _=_;rw[HA.out,HN.out,hpk];rfl
    clear HN HA;go_wp2;go_ret;exact⟨_,rfl,iH,hbr.trans (hb1.mono s0)⟩
   |false=>
    have HT:Hid (L.any pp=(L.drop (k+1)).any pp):=by show _=_;rw[HA.out,HN.out,hpk];rfl
    clear HN HA;go_wp2;go_roundw
    case rel=>exact⟨k+1,aa,aJ,hbr.trans (hb1.mono s0),HT⟩
    case measure=>simp[intOf];omega
  ·go_wp2
   go_ret;exact⟨_,rfl,ia,hbr⟩
theorem rQ (q:Nat)(V F:Int)(s:oA)(c:lI)(cap:Nat)(fs:oA)(fc:Nat)(L:List (List Gs))(w:World)(hl:L.length<=9223372036854775807)(h:RowsAt w fs L)(hp:PrAt w q V F s c cap):
  Calls pG 191 #[U fs L.length fc,.func (.func 190) #[] #[Pp (sO ⟨q,0,nO⟩)]] w λe w'=>e=Rt (Bb (L.any (λr:List Gs=> !decide ((r.length:Int)=F))))/\bl w w':=by
 have HI:=ae (wT q V F s c cap fs fc L w hl h hp);generalize L.any (λr:List Gs=> !decide ((r.length:Int)=F))=res at *;go_enter Tryz.func191,Tryz.ntmps191;go_wp2_with fail;refine HI.out.mono ?_;rintro e w1 ⟨n,rfl,hn,hb1⟩;subst hn;go_wp2;go_ret;exact⟨rfl,hb1⟩
theorem yj (V F:Int)(s:oA)(c:lI)(cap:Nat)(vq:List Gs)(fq:List (List Gs))(vs:oA)(vc:Nat)(fs:oA)(fc:Nat)(w:World):
  Calls pG 137 #[pv V F s c cap,xv ⟨true,vq,fq⟩ vs vc fs fc] w λe w'=>e=Rt (Bb (decide (vq.length=0)&&decide (fq.length=0)))/\bl w w':=by
 cases vq with
 |nil=>
  cases fq with
  |nil=>
   go_enter Tryz.func137,Tryz.ntmps137;go_wp2;go_ret;exact⟨rfl,ai⟩
  |cons r fq=>
   go_enter Tryz.func137,Tryz.ntmps137;go_wp2;go_ret;exact⟨rfl,ai⟩
 |cons g vq=>
  go_enter Tryz.func137,Tryz.ntmps137;go_wp2;go_ret;exact⟨rfl,ai⟩
theorem wW (V F:Int)(s:oA)(c:lI)(cap:Nat)(vq:List Gs)(fq:List (List Gs))(vs:oA)(vc:Nat)(fs:oA)(fc:Nat)(w:World)(h:¬(vq.length:Int)=V):
  Calls pG 137 #[pv V F s c cap,xv ⟨false,vq,fq⟩ vs vc fs fc] w λe w'=>e=Rt (Bb false)/\bl w w':=by
 have hmf:∀(fn:Fn) (first cp:Array Value) (w:World),(Instr.makeFunc fn first cp).run pG w=.ok (.func fn first cp) w:=λ_ _ _ _=>rfl;have n1:((vq.length:Int)==V)=false:=cj;clear h;go_enter Tryz.func137,Tryz.ntmps137;go_wp2;go_ret;exact⟨rfl,ai⟩
theorem yD (V F:Int)(s:oA)(c:lI)(cap:Nat)(vq:List Gs)(fq:List (List Gs))(vs:oA)(vc:Nat)(fs:oA)(fc:Nat)(w:World)(h:¬fq.length=c.length):
  Calls pG 137 #[pv (vq.length:Int) F s c cap,xv ⟨false,vq,fq⟩ vs vc fs fc] w λe w'=>e=Rt (Bb false)/\bl w w':=by
 have hmf:∀(fn:Fn) (first cp:Array Value) (w:World),(Instr.makeFunc fn first cp).run pG w=.ok (.func fn first cp) w:=λ_ _ _ _=>rfl;have n1:((fq.length:Int)==(c.length:Int))=false:=an;clear h;go_enter Tryz.func137,Tryz.ntmps137;go_wp2;go_ret;exact⟨rfl,ai⟩
theorem yd (V F:Int)(s:oA)(c:lI)(cap:Nat)(vq:List Gs)(fq:List (List Gs))(vs:oA)(vc:Nat)(fs:oA)(fc:Nat)(w:World)(hR:RowsAt w fs fq)(h:fq.length=c.length)(h60:c.length<=60):
  Calls pG 137 #[pv (vq.length:Int) F s c cap,xv ⟨false,vq,fq⟩ vs vc fs fc] w λe w'=>e=Rt (Bb (!(fq.any (λr:List Gs=> !decide ((r.length:Int)=F)))))/\bl w w':=by
 have hmf:∀(fn:Fn) (first cp:Array Value) (w:World),(Instr.makeFunc fn first cp).run pG w=.ok (.func fn first cp) w:=λ_ _ _ _=>rfl;have n1:((fq.length:Int)==(c.length:Int))=true:=an;have hl:fq.length<=9223372036854775807:=aa;have B0:Below w.heap.size w ((w.alloc (Cc #[I Y (vq.length:Int),I Y F,U s c.length cap] 24)).alloc (Cc #[Bb false,U vs vq.length vc,U fs fq.length fc] 28)):=ai;have P0:=(PrAt.new w (vq.length:Int) F s c cap).call (w':=((w.alloc (Cc #[I Y (vq.length:Int),I Y F,U s c.length cap] 24)).alloc (Cc #[Bb false,U vs vq.length vc,U fs fq.length fc] 28))) ai;have HC:=ae (rQ w.heap.size (vq.length:Int) F s c cap fs fc fq ((w.alloc (Cc #[I Y (vq.length:Int),I Y F,U s c.length cap] 24)).alloc (Cc #[Bb false,U vs vq.length vc,U fs fq.length fc] 28)) hl (hR.below B0 (lR _)) P0);generalize fq.any (λr:List Gs=> !decide ((r.length:Int)=F))=q at *;clear hR h P0;go_enter Tryz.func137,Tryz.ntmps137;go_wp2_with fail;refine HC.out.mono ?_;rintro e w1 ⟨rfl,hb1⟩;go_wp2;go_ret;exact⟨rfl,B0.trans (hb1.mono B0.size)⟩

theorem nZ (V F:Int)(s:oA)(c:lI)(cap:Nat)(x:Pic)(vs:oA)(vc:Nat)(fs:oA)(fc:Nat)(w:World)(hP:PicAt w x vs fs)(h60:c.length<=60):
  Calls pG 137 #[pv V F s c cap,xv x vs vc fs fc] w λe w'=>e=Rt (Bb (bH V F c x))/\bl w w':=by
 obtain⟨n,vq,fq⟩:=x;cases n with
 |true=>exact yj V F s c cap vq fq vs vc fs fc w
 |false=>
  by_cases h1:(vq.length:Int)=V
  ·by_cases h2:fq.length=c.length
   ·have e1:bH V F c ⟨false,vq,fq⟩= !(fq.any (λr:List Gs=> !decide ((r.length:Int)=F))):=by
     unfold bH;simp[h1,h2]
    rw[e1];have h:=yd V F s c cap vq fq vs vc fs fc w hP.2 h2 h60;rw[h1] at h;exact h
   ·have e1:bH V F c ⟨false,vq,fq⟩=false:=by
     unfold bH;simp[h2]
    rw[e1];have h:=yD V F s c cap vq fq vs vc fs fc w h2;rw[h1] at h;exact h
  ·have e1:bH V F c ⟨false,vq,fq⟩=false:=by
    unfold bH;simp[h1]
   rw[e1];exact wW V F s c cap vq fq vs vc fs fc w h1
theorem yE (ls:oA)(L:List Gs)(lc:Nat)(w:World)(hl:L.length<=9223372036854775807)(hL:GsAt w ls L):
  Calls pG 193 #[U ls L.length lc,.func (.func 139) #[] #[]] w λe w'=>∃n:Int,e=Rt (I Y n)/\decide (0<=n)=L.any cP/\bl w w':=by
 have HF:=ae li;generalize cP=p at *;go_enter Tryz.func193,Tryz.ntmps193;go_wp2;go_loopw [8] (λi wr=>∃k:Nat,k<=L.length/\i=I Y k/\GsAt wr ls L/\bl w wr/\Hid (L.any p=(L.drop k).any p)) (λi _=>L.length - (intOf i).toNat)
 case atStart=>exact⟨0,j6 _,rfl,hL,bR _ _,rfl⟩
 case round=>
  obtain⟨k,hk,rfl,hR,hbr,HA⟩:=hrel;by_cases hlt:k < L.length
  ·obtain⟨b,off,rfl,ss,gc,hG,hI,l1,l2⟩:=hR k hlt
   obtain⟨⟨g0,g1,g2,g3,g4,g5,g6⟩,gz⟩:=id hG;have n0:(0:Int)<=(k:Int):=aa;have n1:(k:Int) < (L.length:Int):=aa;have s0:=hbr.size;have HN:Hid ((L.drop k).any p=(p L[k]||(L.drop (k+1)).any p)):=mc L p k hlt;go_wp2_with fail;refine(HF.out L[k] ss gc _ hI (lT l1 l2)).mono ?_;rintro e w1 ⟨rfl,hb1⟩;cases hp:p L[k] with
   |true=>
    have HT:Hid (L.any p=true):=fI;clear HN HA;go_wp2;go_ret;exact⟨_,rfl,iH,hbr.trans (hb1.mono s0)⟩
   |false=>
    have HT:Hid (L.any p=(L.drop (k+1)).any p):=fI;have hR':=hR.call hb1;clear HN HA;go_wp2;go_roundw
    case rel=>exact⟨k+1,aa,aJ,hR',hbr.trans (hb1.mono s0),HT⟩
    case measure=>simp[intOf];omega
  ·go_wp2
   go_ret;exact⟨_,rfl,ia,hbr⟩
theorem rN (ls:oA)(L:List Gs)(lc:Nat)(w:World)(hl:L.length<=9223372036854775807)(hL:GsAt w ls L):
  Calls pG 141 #[U ls L.length lc,.func (.func 139) #[] #[]] w λe w'=>e=Rt (Bb (L.any cP))/\bl w w':=by
 have HI:=ae (yE ls L lc w hl hL);generalize L.any cP=res at *;go_enter Tryz.func141,Tryz.ntmps141;go_wp2_with fail;refine HI.out.mono ?_;rintro e w1 ⟨n,rfl,hn,hb1⟩;subst hn;go_wp2;go_ret;exact⟨rfl,hb1⟩
theorem iY {V F:Int}{c:lI}{x:Pic}(h0:aw V F c=0)(h:bH V F c x=true):(bO x).length<=1000/\x.fq.length<=c.length:=by
 obtain⟨⟨hV1,hV8⟩,⟨hF0,hF3⟩,h60⟩:=bI h0;unfold bH at h;unfold bO;cases hn:x.none with
 |true=>
  rw[hn] at h;simp only[if_true,Bool.and_eq_true,decide_eq_true_eq] at h;have e1:x.vq=[]:=j9 h.1;have e2:x.fq=[]:=j9 h.2;rw[e1,e2];simp
 |false=>
  rw[hn] at h;simp only[Bool.false_eq_true,if_false,Bool.and_eq_true,decide_eq_true_eq,Bool.not_eq_true',List.any_eq_false] at h;obtain⟨f,rfl⟩:=Int.eq_ofNat_of_zero_le hF0;have hr:∀r∈x.fq,r.length=f:=λr hr=>by have:=h.2.2 r hr;simp at this;omega
  rw[j7,nz hr];have h2:=h.2.1;have:x.fq.length * f<=60 * 3:=Nat.mul_le_mul aa aa;omega
theorem EQ {V F:Int}{c:lI}{g:Gs}(h0:aw V F c=0):aY V F c [g]=aE c g:=by
 unfold aY;rw[if_pos h0];unfold bZ;split
 ·rename_i h;rw[h];rfl
 ·rfl
theorem Hx {c:lI}{k:Nat}(h:k < c.length):b9 c (k:Int)=decide (c[k].k=11):=by
 unfold b9;simp[h,j8]
theorem tR (V F:Int)(s:oA)(c:lI)(cap:Nat)(x:Pic)(vs:oA)(vc:Nat)(fs:oA)(fc:Nat)(w:World)(hc:CodeAt w s c)(hP:PicAt w x vs fs)(hvc:x.vq.length<=vc)(hvm:vc<=maxLen)(h0:aw V F c=0)(hf:bH V F c x=false):
  Calls pG 80 #[pv V F s c cap,xv x vs vc fs fc] w λe w'=>e=Rt (I Y (aK V F c x))/\bl w w':=by
 obtain⟨-,-,h60⟩:=bI h0;have B0:Below w.heap.size w ((w.alloc (Cc #[I Y V,I Y F,U s c.length cap] 24)).alloc (Cc #[Bb x.none,U vs x.vq.length vc,U fs x.fq.length fc] 28)):=ai;have HI:=ae (nZ V F s c cap x vs vc fs fc ((w.alloc (Cc #[I Y V,I Y F,U s c.length cap] 24)).alloc (Cc #[Bb x.none,U vs x.vq.length vc,U fs x.fq.length fc] 28)) (hP.below B0 (lR _)) h60);have er:aK V F c x=1:=by unfold aK;rw[if_pos hf]
 rw[er];rw[hf] at HI;clear hP hc er hf;go_enter Tryz.func80,Tryz.ntmps80;go_wp2_with fail;refine HI.out.mono ?_;rintro e w1 ⟨rfl,hb1⟩;go_wp2;go_ret;exact⟨rfl,B0.trans (hb1.mono B0.size)⟩

theorem vi (V F:Int)(s:oA)(c:lI)(cap:Nat)(x:Pic)(vs:oA)(vc:Nat)(fs:oA)(fc:Nat)(w:World)(hc:CodeAt w s c)(hP:PicAt w x vs fs)(hvc:x.vq.length<=vc)(hvm:vc<=maxLen)(h0:aw V F c=0)(hf:bH V F c x=true):
  Calls pG 80 #[pv V F s c cap,xv x vs vc fs fc] w λe w'=>e=Rt (I Y (aK V F c x))/\bl w w':=by
 obtain⟨-,-,h60⟩:=bI h0;obtain⟨hal,hfl⟩:=iY h0 hf;have B0:Below w.heap.size w ((w.alloc (Cc #[I Y V,I Y F,U s c.length cap] 24)).alloc (Cc #[Bb x.none,U vs x.vq.length vc,U fs x.fq.length fc] 28)):=ai;have P0:=(PrAt.new w V F s c cap).call (w':=((w.alloc (Cc #[I Y V,I Y F,U s c.length cap] 24)).alloc (Cc #[Bb x.none,U vs x.vq.length vc,U fs x.fq.length fc] 28))) ai;have A0:=XAt.new (w.alloc (Cc #[I Y V,I Y F,U s c.length cap] 24)) x vs vc fs fc;rw[zA] at A0;have PX:=hP.below B0 (lR _);have HI:=ae (nZ V F s c cap x vs vc fs fc ((w.alloc (Cc #[I Y V,I Y F,U s c.length cap] 24)).alloc (Cc #[Bb x.none,U vs x.vq.length vc,U fs x.fq.length fc] 28)) PX h60);rw[hf] at HI;have HA:Hid (∀wx,PicAt wx x vs fs->Calls pG 138 #[xv x vs vc fs fc] wx λe w'=>sd w' e (bO x)/\bl wx w'):=λwx hx=>rS x vs vc fs fc wx hx hvc hvm aa hal;have HS:=ae li;have HG:Hid (∀g ss gc wx,CodeAt wx s c->IntsAt wx ss g.s->g.s.length<=gc->gc<=maxLen->Calls pG 140 #[pv V F s c cap,gv g ss gc] wx λe w'=>e=Rt (I Y (aE c g))/\bl wx w'):=λg ss gc wx h1 h2 h3 h4=>by rw[<-EQ (V:=V) (F:=F) h0];exact DY V F s c cap g ss gc wx h1 h2 h3 h4
 have HCS:=ae rN;obtain⟨res,HR,hres⟩:∃r,Hid (r=if bZ c (bO x)≠0 then bZ c (bO x) else if dA c cP 0 x.fq then 4 else 0)/\aK V F c x=r:=⟨_,rfl,by rw[Fw,hf];rfl⟩;rw[hres];have HC:=ae (hc.below B0 (lR _));clear hres hP hc hf hvc hvm;obtain⟨all,eall⟩:∃all,all=bO x:=⟨_,rfl⟩;rw[<-eall] at HR HA hal;clear eall;go_enter Tryz.func80,Tryz.ntmps80;go_wp2_with fail;generalize ((w.alloc (Cc #[I Y V,I Y F,U s c.length cap] 24)).alloc (Cc #[Bb x.none,U vs x.vq.length vc,U fs x.fq.length fc] 28))=w1 at *;refine HI.out.mono ?_;rintro e w2 ⟨rfl,hb2⟩;clear HI;obtain⟨⟨a0,a1,a2⟩,az,-⟩:=id (A0.call hb2);go_wp2_with fail;refine(HA.out _ (PX.call hb2)).mono ?_;rintro e w3 ⟨⟨rs,rc,rfl,GA,k1,k2⟩,hb3⟩;clear HA a0 a1 a2 az;have hb13:=hb2.trans (hb3.mono hb2.size);have P3:=P0.call hb13;have A3:=A0.call hb13;have C3:=HC.out.call hb13;have R3:=PX.2.below hb13 (lR _);have B3:=B0.trans (hb13.mono B0.size);clear P0 A0 PX HC hb13 hb2 hb3 B0;go_wp2;go_loopw [17] (λi wr=>∃k:Nat,k<=all.length/\i=I Y k/\bl w3 wr/\Hid (bZ c all=bZ c (all.drop k))) (λi _=>all.length - (intOf i).toNat)
 case atStart=>exact⟨0,j6 _,rfl,bR _ _,rfl⟩
 case round=>
  obtain⟨k,hk,rfl,hbr,HK⟩:=hrel;by_cases hlt:k < all.length
  ·have n0:(0:Int)<=(k:Int):=by omega
   have n1:(k:Int) < (all.length:Int):=aa;obtain⟨b,off,rfl,ss,gc,GR,IR,g1,g2⟩:=GA.below hbr (lR _) k hlt;have HD:=ae (su c all k hlt);obtain⟨⟨q0,q1,q2,q3,q4,q5,q6⟩,qz⟩:=id GR;have G4:=GuAt.new wr all[k] ss gc;have hb4:Below wr.heap.size wr (wr.alloc (Cc #[Bb all[k].n,Bb all[k].sp.n,I Y all[k].sp.lo,I Y all[k].sp.hi,Bb all[k].t,Bb all[k].f,U ss all[k].s.length gc] 91)):=ai;have I4:=IR.call hb4;go_wp2_with fail;generalize wr.alloc (Cc #[Bb all[k].n,Bb all[k].sp.n,I Y all[k].sp.lo,I Y all[k].sp.hi,Bb all[k].t,Bb all[k].f,U ss all[k].s.length gc] 91)=w4 at *;refine(HS.out all[k] ss gc _ I4 (lT g1 g2)).mono ?_;rintro e w5 ⟨rfl,hb5⟩;clear q0 q1 q2 q3 q4 q5 q6 qz GR IR;have G5:=G4.call hb5;have I5:=I4.call hb5;have hb45:bl wr w5:=hb4.trans (hb5.mono hb4.size);have hb35:=hbr.trans (hb45.mono hbr.size);clear hb4 hb5 G4 I4;rcases (show cP all[k]=false\/cP all[k]=true by cases cP all[k]<;>simp) with hs|hs<;>have HSG:=ae hs<;>rw[hs]<;>clear hs
   ·have HZ:Hid (aE c all[k]=0):=by
     show _=_;have h1:=HSG.out;unfold cP at h1;have h2:du all[k] noneG=true:=fJ;rw[sameGs_iff.1 h2];rfl
    go_wp2;go_roundw
    case rel=>exact⟨k+1,aa,aJ,hb35,by show _=_;rw[HK.out,HD.out,if_pos HZ.out]⟩
    case measure=>simp[intOf];omega
   ·obtain⟨⟨p0,p1,p2⟩,pz⟩:=id (P3.call hb35)
    obtain⟨⟨q0,q1,q2,q3,q4,q5,q6⟩,qz⟩:=id G5;simp only[Nat.zero_add] at q0 q1 q2 q3 q4 q5 q6;go_wp2_with fail;refine(HG.out all[k] ss gc _ (C3.call hb35) I5 g1 g2).mono ?_;rintro e w6 ⟨rfl,hb6⟩;have hb36:=hb35.trans (hb6.mono hb35.size);clear p0 p1 p2 pz q0 q1 q2 q3 q4 q5 q6 qz;generalize aE c all[k]=ce at *;by_cases hz:ce=0
    ·have e1:(ce !=0)=false:=by simpa using hz
     go_wp2;go_roundw
     case rel=>exact⟨k+1,aa,aJ,hb36,by show _=_;rw[HK.out,HD.out,if_pos hz]⟩
     case measure=>simp[intOf];omega
    ·have e1:(ce !=0)=true:=by simpa using hz
     go_wp2;go_ret;refine⟨bP ?_,B3.trans (hb36.mono B3.size)⟩;rw[HR.out,HK.out,HD.out,if_neg hz,if_pos hz]
  ·have n1:¬(k:Int) < (all.length:Int):=by omega
   have HZ:Hid (bZ c all=0):=by show _=_;rw[HK.out,z5 (by omega)];rfl
   have HR2:Hid (res=if dA c cP 0 x.fq then 4 else 0):=by show _=_;rw[HR.out,HZ.out];rfl
   have P4:=P3.call hbr;have A4:=A3.call hbr;have C4:=C3.call hbr;have R4:=R3.below hbr (lR _);have B4:=B3.trans (hbr.mono B3.size);generalize wr=w4 at *;clear wr P3 A3 C3 R3 B3 HK HR HZ GA hbr;obtain⟨⟨a0,a1,a2⟩,az,-⟩:=id A4;go_wp2;clear a0 a1 a2 az;go_loopw [34] (λi wr=>∃k:Nat,k<=x.fq.length/\i=I Y k/\bl w4 wr/\Hid (dA c cP 0 x.fq=dA c cP k (x.fq.drop k))) (λi _=>x.fq.length - (intOf i).toNat)
   case atStart=>exact⟨0,j6 _,rfl,bR _ _,rfl⟩
   case round=>
    obtain⟨k2,hk2,rfl,hbq,HT⟩:=hrel;by_cases hlt2:k2 < x.fq.length
    ·have n0:(0:Int)<=(k2:Int):=by omega
     have n2:(k2:Int) < (x.fq.length:Int):=aa;have hkc:k2 < c.length:=aa;have n3:(k2:Int) < (c.length:Int):=aa;have HU:=ae (Au c cP x.fq k2 hlt2);obtain⟨⟨p0,p1',p2⟩,pz⟩:=id (P4.call hbq);obtain⟨p1,q1,e1,zp1,r1,rc1,D1,l1,l2,J1⟩:=(R4.below hbq (lR _)) k2 hlt2;obtain⟨cb,co,e2,zc,hcc⟩:=(C4.call hbq).get k2 hkc;subst e1 e2;obtain⟨i0,-⟩:=hcc k2 hkc;have HST:=ae (Hx hkc);have hrl:x.fq[k2].length<=9223372036854775807:=by unfold maxLen at l2;omega
     clear hcc;by_cases h11:c[k2].k=11
     ·have e11:(c[k2].k !=11)=false:=by simpa using h11
      go_wp2;go_roundw
      case rel=>exact⟨k2+1,aa,aJ,hbq,by show _=_;rw[HT.out,HU.out,HST.out,decide_eq_true h11];rfl⟩
      case measure=>simp[intOf];omega
     ·have e11:(c[k2].k !=11)=true:=by simpa using h11
      go_wp2_with fail;refine(HCS.out r1 x.fq[k2] rc1 _ hrl J1).mono ?_;rintro e w5 ⟨rfl,hb5⟩;have hb45:=hbq.trans (hb5.mono hbq.size);rcases (show x.fq[k2].any cP=false\/x.fq[k2].any cP=true by cases x.fq[k2].any cP<;>simp) with hs|hs<;>have HSG:=ae hs<;>rw[hs]<;>clear hs
      ·go_wp2
       go_roundw
       case rel=>exact⟨k2+1,aa,aJ,hb45,by show _=_;rw[HT.out,HU.out,HSG.out];simp⟩
       case measure=>simp[intOf];omega
      ·go_wp2
       go_ret;refine⟨bP ?_,B4.trans (hb45.mono B4.size)⟩;rw[HR2.out,HT.out,HU.out,HSG.out,HST.out,decide_eq_false h11];rfl
    ·have n2:¬(k2:Int) < (x.fq.length:Int):=by omega
     go_wp2;go_ret;refine⟨bP ?_,B4.trans (hbq.mono B4.size)⟩;rw[HR2.out,HT.out,z5 aa];rfl

theorem sE (V F:Int)(s:oA)(c:lI)(cap:Nat)(x:Pic)(vs:oA)(vc:Nat)(fs:oA)(fc:Nat)(w:World)(hc:CodeAt w s c)(hP:PicAt w x vs fs)(hvc:x.vq.length<=vc)(hvm:vc<=maxLen)(h0:aw V F c=0):
  Calls pG 80 #[pv V F s c cap,xv x vs vc fs fc] w λe w'=>e=Rt (I Y (aK V F c x))/\bl w w':=by
 rcases (show bH V F c x=false\/bH V F c x=true by cases bH V F c x<;>simp) with hf|hf
 ·exact tR V F s c cap x vs vc fs fc w hc hP hvc hvm h0 hf
 ·exact vi V F s c cap x vs vc fs fc w hc hP hvc hvm h0 hf
end
end Go.Proofs.YtmapdpcfanecdabGreatDoor
