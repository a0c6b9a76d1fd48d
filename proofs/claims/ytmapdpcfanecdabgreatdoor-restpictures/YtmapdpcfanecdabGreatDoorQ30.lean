/- For every program, place, two pictures and run that the law RestPictures is handed, it returns true and leaves them as they were: what Join, Widen, Step of a picture, Step of a run and Solve answer may be changed, and that changes nothing that was handed in, nor what comes next. No condition but the row's own: the xI package-level variables hold what the program's text lays, and what is handed in fits in a machine's memory. -/
import Derived.Test.YtmapdpcfanecdabGreatDoorQ29
import Derived.RangeFuncBound
import Derived.RangeFuncCalls
import Derived.OwnWalkIn
import Derived.TacticsInMore
import Derived.LoopNIn
import Derived.LoopIn
import Derived.Test.YtmapdpcfanecdabGreatDoorQ19
import Derived.Test.YtmapdpcfanecdabGreatDoorQ20
import Derived.Test.YtmapdpcfanecdabGreatDoorQ23
import Derived.Test.YtmapdpcfanecdabGreatDoorQ22
import Derived.Test.YtmapdpcfanecdabGreatDoorQ24
import Derived.Test.YtmapdpcfanecdabGreatDoorQ17
import Derived.Test.YtmapdpcfanecdabGreatDoorQ25
import Derived.ChangeMaps5
open List renaming length→X,all_eq_false→Q0,all_eq_true→J9,append_toArray→J0,cons_append→J2,foldl_append→q8,getElem_mem→gM,length_cons→z7,length_nil→z8,mem_append→Q6,mem_cons→J3,mem_map→Q7,mem_range→J4,nil_append→J1,push_toArray→x9,range→j4,range_succ→q7,setIfInBounds_toArray→q5,set_cons_succ→j9,set_cons_zero→j8,size_toArray→q9
open Array renaming size→R,getElem?_eq_some_iff→J5,replicate_succ→x7,replicate_zero→x8
open Go.World renaming heap→M,block_lt_of_cell?→Q5,cell?→Q4,cell?_of_block→Q3,putObj→J7,putObj_heap_other→j5,putObj_heap_same→J6,size_alloc→zA
open Bool renaming eq_false_or_eq_true→j6,false→d,true→W5
open Go.Ending renaming returned→Rt
open Go.IntKind renaming i64→Y
open Go.Obj renaming cells→A
open Go.Proofs.Tryz renaming prog→pG,prog→f
open Go.RowKit.Below renaming refl→bR
open Go.Value renaming agg→Ag,int→I,pointer→Pp,slice→U,tuple→Tu,bool→O
open Int renaming eq_ofNat_of_zero_le→j7
open Nat renaming le_refl→lR,le_trans→lT,lt_of_lt_of_le→lL,mul_one→J8,reduceAdd→z9,reduceSub→x6,zero_le→j3
open Option renaming isSome_iff_exists→q6,none→nO,some→Q8,some→sO,none→E,some→G
open Go.RowKit renaming Below→n4
open Go renaming Value→mh,World→kl,World→C
set_option linter.all false
open Go.Proofs.Tryz
set_option maxHeartbeats 80000000
set_option maxRecDepth 100000
namespace Go.Proofs.YtmapdpcfanecdabGreatDoor
variable {S Ch T:Nat->Prop}(os:Os){σ H:Type}(r:St){w W a W':C}(b:Nat){V F:Int}(vs:oA){s:oA}{c:lI}(vc:Nat){cap B sb m pb D:Nat}{i:Ins}{n:Int}{x:Pic}
section
open Go.RowKit
attribute [local go_sem ↓] Go.wp_at_zero Go.wp_at_succ
def a7n (Ch:Nat->Prop)(W W':World):Prop:=R (M W)<=R (M W')/\∀b,¬Ch b->b < R (M W)->W'.heap[b]? =W.heap[b]?
def a7n.refl (Ch:Nat->Prop)(W:C):a7n Ch W W:=⟨lR _,λ_ _ _=>rfl⟩
def a7n.trans{B C:kl}(h:a7n Ch a B)(k:a7n Ch B C):a7n Ch a C:=⟨lT h.1 k.1,λb u T=>(k.2 b u (lL T h.1)).trans (h.2 b u T)⟩
def a7n.of{B:C}(h:bl a B):a7n Ch a B:=⟨h.size,λb _ T=>h.block b T⟩
def a7n.cells{B:C}(h:a7n Ch a B){b:Nat}{cs:List mh}(z:sT a b cs)(u:¬Ch b):sT B b cs:=z.same (h.2 b u z.2.1) h.1
def rL {σ:Type}(c:lI)(pics:σ->List Pic)(due:σ->Nat->Bool)(next:Nat->Edg->σ->σ)(t:σ)(k:Nat):σ:=if due t k then(cZ c k (bp (pics t) k)).foldl (λt e=>next k e t) t else t
def iU {σ:Type}(c:lI)(pics:σ->List Pic)(due:σ->Nat->Bool)(next:Nat->Edg->σ->σ)(t:σ)(k:Nat):σ:=(j4 k).foldl (rL c pics due next) t
def rX{pics:σ->List Pic}{due:σ->Nat->Bool}{next:Nat->Edg->σ->σ}{t:σ}{k:Nat}:iU c pics due next t (k+1)=rL c pics due next (iU c pics due next t k) k:=by unfold iU;rw[q7,q8];rfl
def FQ{ib lb l n fd lc:Nat}{ls:oA}{cs:Array mh}{ar:mh->Array mh}(ch:∀p,#[p]++cs=ar p)(hf:∀args wx,Sem.run f (callFunc fd args) wx=.ok (.enter fd args) wx){pics:σ->List Pic}{due:σ->Nat->Bool}{next:Nat->Edg->σ->σ}{St:σ->C->Prop}{Stop:C->Prop}{Ch:Nat->Prop}(g:aA V F c=0)(t0:σ)(W:C)(bf:∀t W W',St t W->bl W W'->St t W')(a1:∀t W,St t W->a8k W ls (pics t)/\a8c V F c (pics t))(a0:∀t W (k:Nat),St t W->k < X c->Calls f fd (ar (I Y (k:Int))) W λe W'=>e=Rt (O (due t k))/\bl W W')(D:∀t W (k:Nat) (e:Edg) vs vc fs fc,St t W->k < X c->(∃t1,e∈cZ c k (bp (pics t1) k))->kT V F c e->a7d (λb=>¬Ch b) W e.pic vs fs->(X e.pic.vq<=vc/\vc<=maxLen)->(X e.pic.fq<=fc/\fc<=maxLen)->YieldAt Fence.wide (n - 1) f l #[I Y (k:Int),Ag #[I Y e.tgt,O e.pic.none,U vs (X e.pic.vq) vc,U fs (X e.pic.fq) fc]] W λr W'=>(r=Rt (O W5)/\St (next k e t) W'/\a7n Ch W W')\/(r=Rt (O d)/\Stop W'))(al:∀W W',a7n Ch W W'->a2r W s c->a2r W' s c)(b5:∀b,Ch b->b < R (M W))(L:¬Ch pb)(N:¬Ch ib)(b6:¬Ch lb)(hW:St t0 W)(hP:sT W pb [I Y V,I Y F,U s (X c) cap])(hI:sT W ib [.func (.func fd) #[] cs])(o:sT W lb [U ls (X c+1) lc])(hC:a2r W s c):
  CallsIn Fence.wide n f 103 #[.func (.yield l) #[] #[],Pp (G ⟨pb,0,nO⟩),Pp (G ⟨ib,0,nO⟩),Pp (G ⟨lb,0,nO⟩)] W λe W'=>(∃v,e=Rt v)/\((St (iU c pics due next t0 (X c)) W'/\a7n Ch W W')\/Stop W'):=by
 have cl:=(dM g).2.2;have a7:=ag bf;have bg:=ag a1;have bt:=ag a0;have HY:=ag D;have cb:=ag al;have HW:=ag hW;have bm:=ag g;clear bf a1 a0 D al hW g;refine callsIn_of_wp Tryz.func103 rfl trivial (wpIn_wide.2 ?_);simp only[Tryz.ntmps103,q9,z7,z8,z9,x6,x7,x8,x9,J0,J1,J2];have p2:=hP.1 2 _ rfl;go_wp2;clear p2;go_loopw [15] (λi wr=>∃k:Nat,k<=X c/\i=I Y k/\Hid (St (iU c pics due next t0 k) wr)/\a7n Ch W wr) (λi _=>X c - (intOf i).toNat)
 case atStart=>exact⟨0,j3 _,rfl,HW.out,a7n.refl _ _⟩
 case round=>
  obtain⟨k,Z,rfl,HS,af⟩:=hrel;have P1:=af.cells hP L;have I1:=af.cells hI N;have L1:=af.cells o b6;by_cases T:k < X c;rotate_left
  .have n1:=vM
   have ek:k=X c:=aa;have HF:Hid (St (iU c pics due next t0 (X c)) wr):=by show St _ _;rw[<-ek];exact HS.out
   clear ek HS;go_wp2;go_end0;exact⟨⟨_,rfl⟩,.inl ⟨HF.out,af⟩⟩
  have n0:=bG;have n1:=kA;have i0:=I1.1 0 _ rfl;go_wp2_with fail;go_call bt.out _ wr k HS.out T as e w1 ⟨rfl,am⟩;have k1:=af.trans (a7n.of am);have ak:=ag (a7.out _ _ _ HS.out am);have P2:=P1.call am;have L2:=L1.call am;clear HS am i0 P1 I1 L1;obtain⟨t,et⟩:∃t,t=iU c pics due next t0 k:=⟨_,rfl⟩
  have HT:=ag (rX (c:=c) (pics:=pics) (due:=due) (next:=next) (t:=t0) (k:=k));rw[<-et] at ak HT |-;clear et;rcases j6 (due t k) with hd|hd;rotate_left
  .have HD:=ag hd
   rw[hd];clear hd;go_wp2;go_roundw
   case rel=>exact⟨k+1,aa,aJ,by show St _ _;rw[HT.out];unfold rL;rw[HD.out];exact ak.out,k1⟩
   case measure=>exact aK
  .have HD:=ag hd
   rw[hd];clear hd;obtain⟨hX,a2⟩:=bg.out _ _ ak.out;have a6:k < X (pics t):=by rw[a2.len];omega
   obtain⟨rb,ro,cc,a5,vx,az,fx,ap,⟨q0,q1,q2⟩,a4,a9,bb⟩:=hX k a6;obtain⟨x,ex⟩:∃x,x=(pics t)[k]:=⟨_,rfl⟩;have ah:aO V F c x=0:=by rw[ex];exact a2.ck _ (gM a6)
   have bs:Hid (bp (pics t) (k:Int)=x):=by show _=_;rw[ku a6,ex]
   rw[<-ex] at q0 q1 q2 a4 a9 bb;clear ex;have C1:=cb.out _ _ k1 hC;have bx:Hid (∀wx,bl w1 wx->Calls f 15 #[pv V F s c cap,I Y (k:Int),xv x vx az fx ap] wx λe w'=>(∃m ec,e=Rt (Tu #[U m (X (cZ c k x)) ec,O (aD (bS c k) k x).2.1,O (aD (bS c k) k x).2.2,I Y 0])/\a8e (λb=>R (M w1)<=b) w' m (cZ c k x))/\bl wx w'):=λwx u=>by
    have hu:aF V F c [x]=0:=by unfold aF;rw[if_pos bm.out];unfold cN;rw[if_pos ah];rfl
    have e0:lw V F c (k:Int) x=0:=by unfold lw;rw[if_pos hu,if_neg (by omega)]
    have e1:iL V F c (k:Int) x=aD (bS c k) k x:=by unfold iL;rw[if_pos e0]
    have h:=yT V F s c cap (k:Int) x vx az fx ap wx (C1.below u (lR _)) (a4.below u (lR _)) a9 bb;rw[e0,e1] at h;go_call h as e w' ⟨⟨m,ec,rfl,hE⟩,bz⟩;exact⟨⟨m,ec,rfl,hE.mono λb h _=>lT u.size h⟩,bz⟩
   have b0:=ag (kW bm.out ah T);subst cc;have bc:Hid (∀wx,bl w1 wx->(wx.cell? ⟨pb,0,nO⟩=G (I Y V)/\wx.cell? ⟨pb,1,nO⟩=G (I Y F)/\wx.cell? ⟨pb,2,nO⟩=G (U s (X c) cap))/\wx.cell? ⟨lb,0,nO⟩=G (U (G ⟨rb,ro,nO⟩) (X c+1) lc)/\(wx.cell? ⟨rb,ro+k * 3,nO⟩=G (O x.none)/\wx.cell? ⟨rb,ro+k * 3+1,nO⟩=G (U vx (X x.vq) az)/\wx.cell? ⟨rb,ro+k * 3+2,nO⟩=G (U fx (X x.fq) ap))):=λwx u=>by
    have p:=P2.call u;have q:=L2.call u;refine⟨⟨p.1 0 _ rfl,p.1 1 _ rfl,p.1 2 _ rfl⟩,q.1 0 _ rfl,?_,?_,?_⟩
    .rw[u.cell (by simp only;exact a5)];exact q0
    .rw[u.cell (by simp only;exact a5)];exact q1
    .rw[u.cell (by simp only;exact a5)];exact q2
   have ab:=iO;have m1:(k:Int) < (X c:Int)+1:=aa;generalize (aD (bS c k) k x).2.1=sw at *;generalize (aD (bS c k) k x).2.2=sf at *;have b7:Hid (rL c pics due next t k=(cZ c k x).foldl (λt e=>next k e t) t):=by show _=_;unfold rL;rw[HD.out,if_pos rfl,bs.out]
   have bv:Hid (X (cZ c k x)<=10):=lT (rU _ _ _) an;have HM:Hid (∀e∈cZ c k x,∃t1,e∈cZ c k (bp (pics t1) k)):=λe he=>⟨t,by rw[bs.out];exact he⟩;generalize cZ c k x=E at *;go_upto_region 4 with fail
   refine XK [] ac bc.out ab (λa8=> ?_);generalize w1.drew=w2 at *;refine QU ?_;refine QN 5 ?_;refine av (i:=6) rfl ac (λK hK=> ?_);go_simp;go_at_call 15;go_call bx.out w2 ab as e w3 ⟨⟨m,ec,rfl,E3⟩,ay⟩;go_wp2_with fail;refine hK.out _ _ (bc.out _ (ab.trans (ay.mono ab.size))) (λa8=> ?_);clear hK K;refine sm ?_;refine QN 7 ?_;refine QS ?_;refine XH ?_;refine aB ac ?_ _;have a3:=ag (a7.out _ _ _ ak.out (ab.trans (ay.mono ab.size)));have k3:=k1.trans (a7n.of (ab.trans (ay.mono ab.size)));have HN:Hid (∀b,R (M w1)<=b->¬Ch b):=λb u z=>by have:=b5 b z;have:=k1.1;omega
   have b2:Hid (X E<=10):=bv.out;clear ab ay ak P2 L2 hX a2 C1 bx bc q0 q1 q2 a4 a9 bb ah;go_wp2;go_loopw [36] (λi wr=>∃j:Nat,j<=X E/\i=I Y j/\Hid (St ((E.take j).foldl (λt e=>next k e t) t) wr)/\a7n Ch w3 wr) (λi _=>X E - (intOf i).toNat)
   case atStart=>exact⟨0,j3 _,rfl,a3.out,a7n.refl _ _⟩
   case round=>
    obtain⟨j,hj,rfl,ao,ax⟩:=hrel;have cg:=b2.out;by_cases ad:j < X E;rotate_left
    .have n2:¬(j:Int) < (X E:Int):=by omega
     have HF:Hid (St (iU c pics due next t0 (k+1)) wr):=by
      show St _ _;have h:=ao.out;rw[List.take_of_length_le aa] at h;rw[HT.out,b7.out];exact h
     have k4:=k3.trans ax;clear ao a3;go_wp2;go_roundw
     case rel=>exact⟨k+1,aa,aJ,HF.out,k4⟩
     case measure=>exact aK
    have j0:(0:Int)<=(j:Int):=aa;have j1:(j:Int) < (X E:Int):=aa;have EJ:=E3.same (w':=wr) (λb u T=>ax.2 b (HN.out b u) T) ax.1;obtain⟨eb,eo,ce,cm,co,vs,vc,fs,fc,⟨c0,c1,c2,c3⟩,be,cf,b3⟩:=EJ j ad;have ba:n4 (R (M wr)) wr (wr.alloc (A #[I Y E[j].tgt,O E[j].pic.none,U vs E[j].pic.vq.length vc,U fs E[j].pic.fq.length fc] 45)):=ai;obtain⟨fn,tmps,assign,body,hy,hR⟩:=HY.out _ _ k E[j] vs vc fs fc (a7.out _ _ _ ao.out ba) T (HM.out _ (gM ad)) (b0.out _ (gM ad)) ((be.mono λb u _=>HN.out b u).call ba) cf b3;have ca:Hid ((E.take (j+1)).foldl (λt e=>next k e t) t=next k E[j] ((E.take j).foldl (λt e=>next k e t) t)):=by show _=_;rw[List.take_succ_eq_append_getElem ad,q8];rfl
    have b4:=ax.trans (a7n.of ba);subst ce;have NX:=sT.new wr 45 [I Y E[j].tgt,O E[j].pic.none,U vs E[j].pic.vq.length vc,U fs E[j].pic.fq.length fc];clear EJ be ao a3;go_upto_region 8 with fail
    clear c0 c1 c2 c3;generalize wr.alloc _=wy at *;obtain⟨c0,c1,c2⟩:=NX.c3;have c3:=NX.1 3 _ rfl;refine(wpIn_wide (n:=n)).1 ?_
    gi_wp2
    refine⟨λh=>(by cases h),hR.mono ?_⟩;rintro e W3 (⟨rfl,hS4,hk4⟩|⟨rfl,hstop⟩)
    .have b8:=ag hS4
     clear hS4 hR hy c0 c1 c2 c3 NX;have k5:=b4.trans hk4
     gi_wp2
     go_wp2;go_roundw
     case rel=>exact⟨j+1,aa,aJ,by show St _ _;rw[ca.out];exact b8.out,k5⟩
     case measure=>exact aK
    .clear hR hy c0 c1 c2 c3 NX
     have b1:=ag hstop;clear hstop
     gi_wp2
     go_wp2;refine bodyPost_ret (results_none rfl _ _ _) rfl ?_;exact⟨⟨_,rfl⟩,.inr b1.out⟩
def a1b (V F:Int)(s:oA)(c:lI)(cap:Nat)(ls:oA)(o pc dc sb db g l k:Nat)(n:Int)(D:List Int)(w:C)(m:sT w g [Pp (G ⟨sb,0,E⟩)])(r:sT w l [I Y n])(z:sT w sb [I Y V,I Y F,U s (X c) cap,U ls o pc,U (G ⟨db,0,E⟩) (X D) dc])(j:a8s w db D)(Z:k < X D)(K:X D<=maxLen):
  Calls f 99 #[I Y (k:Int),Pp (G ⟨g,0,E⟩),Pp (G ⟨l,0,E⟩)] w λe w'=>e=Rt (O (D[k]==n))/\bl w w':=by
 have L:Hid (w.drew.cell? ⟨g,0,E⟩=G (Pp (G ⟨sb,0,E⟩))/\w.drew.cell? ⟨l,0,E⟩=G (I Y n)/\w.drew.cell? ⟨sb,4,E⟩=G (U (G ⟨db,0,E⟩) (X D) dc)/\w.drew.cell? ⟨db,k,E⟩=G (I Y D[k])):=by
  have b:=pI;exact⟨(m.call b).1 0 _ rfl,(r.call b).1 0 _ rfl,(z.call b).1 4 _ rfl,(j.call b).get Z⟩
 have N:=pI;generalize D[k]=d at *;have m0:=bG;have m1:(k:Int) < (X D:Int):=aa;go_enter Tryz.func99,Tryz.ntmps99;go_upto_region 1 with fail
 refine aC (S:=(λu=>u.cell? ⟨g,0,E⟩=G (Pp (G ⟨sb,0,E⟩))/\u.cell? ⟨l,0,E⟩=G (I Y n)/\u.cell? ⟨sb,4,E⟩=G (U (G ⟨db,0,E⟩) (X D) dc)/\u.cell? ⟨db,k,E⟩=G (I Y d))) [] ac L.out (λT=> ?_);refine QQ ?_;refine QN 8 ?_;refine QN 9 ?_;refine aB ac ?_ _;go_wp2;go_ret;exact⟨rfl,N⟩
def Gf (V F:Int)(s:oA)(c:lI)(cap:Nat)(ls:oA)(len lc fd:Nat)(cs:Array mh)(w:C):
  Calls f 53 #[pv V F s c cap,U ls len lc,.func (.func fd) #[] cs] w λe w'=>e=Rt (.func (.func 103) #[] #[Pp (G ⟨R (M w),0,E⟩),Pp (G ⟨R (M w)+1+1,0,E⟩),Pp (G ⟨R (M w)+1,0,E⟩)])/\(sT w' (R (M w)) [I Y V,I Y F,U s (X c) cap]/\sT w' (R (M w)+1) [U ls len lc]/\sT w' (R (M w)+1+1) [.func (.func fd) #[] cs])/\bl w w':=by
 go_enter Tryz.func53,Tryz.ntmps53;go_wp2;go_ret;refine⟨rfl,⟨(sT.new w _ [_,_,_]).call ai,?_,?_⟩,ai⟩
 .have h:=sT.new (w.alloc (A #[I Y V,I Y F,U s (X c) cap] 24)) 47 [U ls len lc]
  rw[zA] at h;exact h.call ai
 .have h:=sT.new ((w.alloc (A #[I Y V,I Y F,U s (X c) cap] 24)).alloc (A #[U ls len lc] 47)) 70 [.func (.func fd) #[] cs]
  rw[zA,zA] at h;exact h
def VO {P:Program}{o:Code}{K:Act->C->Prop}{Q:Exit->Act->C->Prop}{a:Act}{w:C}(h:o.wp P (Exit.then K (λ_ _ _=>False)) a w):o.wp P (Exit.then K Q) a w:=wp_mono h λe a w q=>by
 cases e<;>first|exact q|exact q.elim
def Ld(g:aA V F c=0):∀{L:List Pic},hU V F c L=0->∀x∈L,aO V F c x=0
 |[],_,x,l=>by simp at l
 |y::r,h,x,l=>by
  unfold hU at h;by_cases e:aF V F c [y]=0
  .rw[if_pos e] at h
   rcases J3.1 l with rfl|l
   .exact(uj e).2
   .exact Ld g h x l
  .rw[if_neg e] at h
   exact absurd h e
def a3X{L:List Pic}(g:aA V F c=0)(h:(if X L=X c+1 then hU V F c L else 1)=0):a8c V F c L:=by
 by_cases e:X L=X c+1
 .rw[if_pos e] at h
  exact⟨e,Ld g h⟩
 .rw[if_neg e] at h
  cases h
def WQ (k:Int)(w:C):Calls f 52 #[I Y k] w λe w'=>e=Rt (O W5)/\bl w w':=by
 go_enter Tryz.func52,Tryz.ntmps52;go_wp2;go_ret;exact pW
def a8a (w:World)(V F:Int)(s:oA)(c:lI)(cap:Nat)(ls:oA)(len lc:Nat)(W:World):Prop:=bl w W/\sT W (R (M w)) [I Y V,I Y F,U s (X c) cap]/\sT W (R (M w)+1) [U ls len lc]/\sT W (R (M w)+1+1) [O false]/\sT W (R (M w)+1+1+1) [I Y 0]
section
variable {w W W':World} {V F:Int} {s:oA} {c:lI} {cap:Nat} {ls:oA} {len lc:Nat}
def a8a.below (h:a8a w V F s c cap ls len lc W)(u:bl W W'):a8a w V F s c cap ls len lc W':=⟨h.1.trans (u.mono h.1.size),h.2.1.call u,h.2.2.1.call u,h.2.2.2.1.call u,h.2.2.2.2.call u⟩
def a8a.put {l:Nat}{o:Obj}(o':Obj)(h:a8a w V F s c cap ls len lc W)(a:W.heap[l]? =G o)(z:o.isCells=d)(L:o.isWalk=d)(K:R (M w)+1+1+1 < l):a8a w V F s c cap ls len lc (W.putObj l o'):=by
 have i:R (M W)<=R (M (W.putObj l o')):=Bx;exact⟨h.1.trans (belowK_b (w:=w) (lR _) W l o o' aa a z L),h.2.1.same (j5 aa) i,h.2.2.1.same (j5 aa) i,h.2.2.2.1.same (j5 aa) i,h.2.2.2.2.same (j5 aa) i⟩
end
def Fy{g:C}{a N:Nat}{b:Bool}{e:Int}{tmps:Array mh}(j:g.heap[D]? =G (.deferred (G [])))(m:sT g a [O b])(L:sT g N [I Y e])(v:bl w g)(i:R (M w)<=D)(P:tmps[4]?.getD undef=Pp (G ⟨a,0,E⟩))(o:tmps[5]?.getD undef=Pp (G ⟨N,0,E⟩))(r:a≠D)(k:N≠D):
  bodyPostM Fence.wide 5 f Tryz.f18 (λq w'=>q=Rt (Tu #[O b,I Y e])/\bl w w') .ret ⟨tmps,[{target:=.collected D,args:=#[]}]⟩ g:=by
 have hs:R (M g)<=R (M (g.putObj D (.deferred E))):=Bx;have l:=(m.same (w':=g.putObj D (.deferred E)) (j5 r) hs).1 0 _ rfl;have Q:=(L.same (w':=g.putObj D (.deferred E)) (j5 k) hs).1 0 _ rfl;exact⟨ae,.inl ⟨D,_,rfl,run_takeDeferred j,Tu #[O b,I Y e],by simp[results,Tryz.results18,go_sem,P,o,l,Q],rfl,v.trans (belowK_b (w:=w) (lR _) g D _ _ i j rfl rfl)⟩⟩
def Id {c:lI}{L:List Pic}:∀{k:Nat},iU c (λ_:Bool=>L) (λ_ _=>W5) (λ_ e t=>t&&bu e.pic (bp L e.tgt)) W5 k=(j4 k).all λi=>(cZ c i (bp L i)).all λe=>bu e.pic (bp L e.tgt)
 |0=>rfl
 |k+1=>by
  have D:∀(E:List Edg) (t:Bool),E.foldl (λt e=>t&&bu e.pic (bp L e.tgt)) t=(t&&E.all λe=>bu e.pic (bp L e.tgt)):=by
   intro E;induction E with
   |nil=>intro t;simp
   |cons e r ih=>intro t;rw[List.foldl_cons,ih,List.all_cons,Bool.and_assoc]
  rw[rX,Id,q7,List.all_append];unfold rL;rw[if_pos rfl,D];simp
def mi (V F:Int)(c:lI)(L:List Pic):Int:=if aA V F c=0 then(if X L=X c+1 then hU V F c L else 1) else aA V F c
def gQ (V F:Int)(c:lI)(L:List Pic):Bool:=decide (mi V F c L=0)&&Bv V F c L
def a1S{ls:oA}{L:List Pic}{lc:Nat}{w w5 T i:C}{fn:FuncId}{tmps:Array mh}{a:Array Tmp}{assign body:Code}(z:a2r w s c)(o:a8k w ls L)(ad:a8c V F c L)(g:aA V F c=0)(u:bl T i)(K:a7h i (R (M T)+1) (R (M T)) (dH fn tmps a assign body (R (M T)) .ready E))(hF:a8a w V F s c cap ls (X L) lc i)(j:sT T (R (M w5)) [I Y V,I Y F,U s (X c) cap])(m:sT T (R (M w5)+1) [U ls (X L) lc])(EF:sT T (R (M w5)+1+1) [.func (.func 52) #[] #[]])(ab:(iU c (λ_:Bool=>L) (λ_ _=>W5) (λ_ e t=>t&&bu e.pic (bp L e.tgt)) W5 (X c)=W5->gQ V F c L=W5)/\∀k e,k < X c->e∈cZ c k (bp L k)->bu e.pic (bp L e.tgt)=d->gQ V F c L=d)(hY:∀W (k:Nat) (e:Edg) vs vc fs fc,a7h W (R (M T)+1) (R (M T)) (dH fn tmps a assign body (R (M T)) .ready E)->a8a w V F s c cap ls (X L) lc W->kT V F c e->a4r W e.pic vs fs->(X e.pic.vq<=vc/\vc<=maxLen)->(X e.pic.fq<=fc/\fc<=maxLen)->YieldAt Fence.wide (5 - 1 - 1) f (R (M T)+1) #[I Y (k:Int),Ag #[I Y e.tgt,O e.pic.none,U vs (X e.pic.vq) vc,U fs (X e.pic.fq) fc]] W λr W'=>(r=Rt (O W5)/\bu e.pic (bp L e.tgt)=W5/\a7h W' (R (M T)+1) (R (M T)) (dH fn tmps a assign body (R (M T)) .ready E)/\a8a w V F s c cap ls (X L) lc W'/\a7n (λ_=>False) W W')\/(r=Rt (O d)/\bu e.pic (bp L e.tgt)=d/\a7h W' (R (M T)+1) (R (M T)) (dH fn tmps a assign body (R (M T)) .done (G .ret))/\a8a w V F s c cap ls (X L) lc W')):
  CallsIn Fence.wide (5 - 1) f 103 (#[.func (.yield (R (M T)+1)) #[] #[]]++#[Pp (G ⟨R (M w5),0,E⟩),Pp (G ⟨R (M w5)+1+1,0,E⟩),Pp (G ⟨R (M w5)+1,0,E⟩)]) i λe W'=>(∃v,e=Rt v)/\((a7h W' (R (M T)+1) (R (M T)) (dH fn tmps a assign body (R (M T)) .ready E)/\a8a w V F s c cap ls (X L) lc W'/\gQ V F c L=W5)\/∃q,a7h W' (R (M T)+1) (R (M T)) (dH fn tmps a assign body (R (M T)) .done (G q))/\q=.ret/\a8a w V F s c cap ls (X L) lc W'/\gQ V F c L=d):=by
 refine(FQ (σ:=Bool) (V:=V) (F:=F) (s:=s) (c:=c) (cap:=cap) (pb:=R (M w5)) (ib:=R (M w5)+1+1) (lb:=R (M w5)+1) (l:=R (M T)+1) (n:=5 - 1) (fd:=52) (lc:=lc) (ls:=ls) (cs:=#[]) (ar:=λp=>#[p]) (λ_=>ae) (enters_of Tryz.func52 ac rfl) (pics:=λ_=>L) (due:=λ_ _=>W5) (next:=λ_ e t=>t&&bu e.pic (bp L e.tgt))
  (St:=λb W=>b=W5/\a7h W (R (M T)+1) (R (M T)) (dH fn tmps a assign body (R (M T)) .ready E)/\a8a w V F s c cap ls (X L) lc W)
  (Stop:=λW=>a7h W (R (M T)+1) (R (M T)) (dH fn tmps a assign body (R (M T)) .done (G .ret))/\a8a w V F s c cap ls (X L) lc W/\gQ V F c L=d)
  (Ch:=λ_=>False) g W5 i ?_ ?_ ?_ ?_ ?_ (λ_ h=>h.elim) id id id ⟨rfl,K,hF⟩ (j.call u) (EF.call u) (by rw[<-ad.len];exact m.call u) (z.below hF.1 (lR _))).mono ?_
 .exact λt W W' h u=>⟨h.1,h.2.1.below u,h.2.2.below u⟩
 .exact λt W h=>⟨o.below h.2.2.1 (lR _),ad⟩
 .exact λt W k h Z=>WQ _ _
 .rintro t W k e vs vc fs fc ⟨rfl,ak,af⟩ Z ⟨t1,he⟩ ah hp hv hf
  refine(hY W k e vs vc fs fc ak af ah hp.at hv hf).mono ?_;rintro r W' (⟨e1,e2,e3,e4,e5⟩|⟨e1,e2,e3,e4⟩)
  .exact .inl ⟨e1,⟨by rw[e2];rfl,e3,e4⟩,e5⟩
  .exact .inr ⟨e1,e3,e4,ab.2 k e Z he e2⟩
 .exact λW W' h z=>(a7g.blocks h.1 λb u=>h.2 b id u).code z
 .rintro e W' ⟨hv,⟨⟨N,D,Q⟩,P⟩|⟨N,D,Q⟩⟩
  .exact⟨hv,.inl ⟨D,Q,ab.1 N⟩⟩
  .exact⟨hv,.inr ⟨_,N,rfl,D,Q⟩⟩
attribute [local go_sem] Oper.semAt_some
def YU (V F:Int)(s:oA)(c:lI)(cap:Nat)(ls:oA)(L:List Pic)(lc:Nat)(w:C)(z:a2r w s c)(hL:a8k w ls L)(hl:L.length<=maxLen)(hG:gQ V F c L=W5):
  Calls pG 18 #[pv V F s c cap,U ls L.length lc] w λe w'=>e=Rt (Tu #[O (gQ V F c L),I Y (mi V F c L)])/\bl w w':=by
 have HG:=ag hG;clear hG;refine callsIn_wide.1 (callsIn_of_wp_marks (n:=5) Tryz.func18 rfl trivial (wpIn_wide.2 ?_) rfl);simp only[Tryz.ntmps18,q9,z7,z8,z9,x6,x7,x8,x9,J0,J1,J2];go_upto_region 1 with fail
 have B0:n4 (R (M w)) w ((((w.alloc (A #[I Y V,I Y F,U s c.length cap] 24)).alloc (A #[U ls L.length lc] 47)).alloc (A #[O d] 4)).alloc (A #[I Y 0] 36)):=ai;have P0:sT ((((w.alloc (A #[I Y V,I Y F,U s c.length cap] 24)).alloc (A #[U ls L.length lc] 47)).alloc (A #[O d] 4)).alloc (A #[I Y 0] 36)) (R (M w)) [I Y V,I Y F,U s c.length cap]:=(sT.new w _ [_,_,_]).call ai;have L0:sT ((((w.alloc (A #[I Y V,I Y F,U s c.length cap] 24)).alloc (A #[U ls L.length lc] 47)).alloc (A #[O d] 4)).alloc (A #[I Y 0] 36)) (R (M w)+1) [U ls L.length lc]:=by
  have h:=sT.new (w.alloc (A #[I Y V,I Y F,U s c.length cap] 24)) 47 [U ls L.length lc];rw[zA] at h;exact h.call ai
 have R0:sT ((((w.alloc (A #[I Y V,I Y F,U s c.length cap] 24)).alloc (A #[U ls L.length lc] 47)).alloc (A #[O d] 4)).alloc (A #[I Y 0] 36)) (R (M w)+1+1) [O d]:=by
  have h:=sT.new ((w.alloc (A #[I Y V,I Y F,U s c.length cap] 24)).alloc (A #[U ls L.length lc] 47)) 4 [O d];rw[zA,zA] at h;exact h.call ai
 have E0:sT ((((w.alloc (A #[I Y V,I Y F,U s c.length cap] 24)).alloc (A #[U ls L.length lc] 47)).alloc (A #[O d] 4)).alloc (A #[I Y 0] 36)) (R (M w)+1+1+1) [I Y 0]:=by
  have h:=sT.new (((w.alloc (A #[I Y V,I Y F,U s c.length cap] 24)).alloc (A #[U ls L.length lc] 47)).alloc (A #[O d] 4)) 36 [I Y 0];rw[zA,zA,zA] at h;exact h
 have C0:=z.below B0 (lR _);have X0:=hL.below B0 (lR _);have c0:=ag z;have c3:=ag hL;clear z hL;generalize ((((w.alloc _).alloc _).alloc _).alloc _)=w0 at *;obtain⟨p0,p1,p2⟩:=P0.c3;have a4:=ag (Bk V F s c cap w0 C0);go_wp2_with fail;go_call a4.out as e w1 ⟨⟨bs,bc,bf,be,rfl,PB,bv,bz⟩,vZ⟩;clear a4 p0 p1 p2;have B1:=it;have P1:=gF;have L1:=L0.call vZ;have R1:=R0.call vZ;have E1:=E0.call vZ;have C1:=C0.call vZ;have X1:=X0.below vZ (lR _);clear P0 L0 R0 E0 C0 X0 B0 vZ;by_cases h0:aA V F c=0;rotate_left
 .have h:mi V F c L=aA V F c:=by unfold mi;rw[if_neg h0]
  have g:=HG.out;unfold gQ at g;rw[h] at g;simp[h0] at g
 obtain⟨⟨d1,d0⟩,⟨dz,dr⟩,c8⟩:=fX;rw[if_pos h0] at PB bv bz;have HZ:Hid (aA V F c=0):=h0;have c1:Hid (∀q:Int,mi V F c L=(if L.length=c.length+1 then hU V F c L else 1)):=λ_=>by unfold mi;rw[if_pos h0]
 rw[h0,if_pos rfl];have az:=(Cx h0).ck;obtain⟨bg,cm⟩:∃b,b=bK V F c:=⟨_,rfl⟩;have a4:=ag cm;rw[<-cm] at PB bv bz az |-;clear cm h0;have zG:=wO;have G2:=RB;have cr:=PB.at.call zG;have P2:=P1.call zG;have L2:=L1.call zG;have R2:=R1.call zG;have E2:=E1.call zG;have C2:=C1.call zG;have X2:=X1.below zG (lR _);have B2:=ul;have zn:=P1.2.1;have zl:=L1.2.1;have zr:=R1.2.1;have ze:=E1.2.1;clear P1 L1 R1 E1 C1 X1 B1 PB;go_upto_region 4 with fail
 generalize w1.alloc _=w2 at *;have c4:=ag (Mm V F s c cap ls L lc w2 C2 X2 hl c8);obtain⟨p0,p1,p2⟩:=P2.c3;have l0:=L2.1 0 _ rfl;go_wp2_with fail;go_call c4.out as e w3 ⟨rfl,xp⟩;clear c4 p0 p1 p2 l0;obtain⟨r,er⟩:∃r,r=(if L.length=c.length+1 then hU V F c L else 1):=⟨_,rfl⟩;have HR:Hid (mi V F c L=r):=by show _=_;rw[c1.out 0,er]
 have ct:=ag λ(h:r=0)=>a3X HZ.out (by rw[<-er];exact h);rw[<-er];clear er c1;have P3:=P2.call xp;have L3:=L2.call xp;have R3:=R2.call xp;have E3:=E2.call xp;have G3:=G2.call xp;have c2:=cr.call xp;have C3:=C2.call xp;have X3:=X2.below xp (lR _);have B3:=ir;clear P2 L2 R2 E2 G2 cr C2 X2 B2 xp;by_cases hr:r=0;rotate_left
 .have g:=HG.out;unfold gQ at g;rw[HR.out] at g;simp[hr] at g
 have a2:=ct.out hr;have a1:Hid (mi V F c L=0):=by show _=_;rw[HR.out,hr]
 subst hr;have b3:0 < L.length:=by rw[a2.len];omega
 obtain⟨rb,ro,cc,zrb,vx,a9,fx,a6,⟨q0,q1,q2⟩,bx,b8,cf⟩:=X3 0 b3;simp only[Nat.zero_mul,Nat.add_zero] at q0 q1 q2;obtain⟨x,ex⟩:∃x,x=L[0]:=⟨_,rfl⟩;have df:Hid (bp L 0=x):=by show _=_;rw[ex];exact ku b3
 have bb:aO V F c x=0:=by rw[ex];exact a2.ck _ (gM b3)
 rw[<-ex] at q0 q1 q2 bx b8 cf;clear ex;subst cc;have ah:aF V F c [bg,x]=0:=by unfold aF;rw[if_pos HZ.out];unfold cN;rw[if_pos az];unfold cN;rw[if_pos bb];rfl
 have ax:Hid (∀u,bl w3 u->Calls pG 51 #[pv V F s c cap,xv bg bs bc bf be,xv x vx a9 fx a6] u λe w'=>e=Rt (O (bu bg x))/\bl u w'):=λu hb=>by
  have h:=nW V F s c cap bg bs bc bf be x vx a9 fx a6 u (C3.below hb (lR _)) (c2.below hb (lR _)) bv bz (bx.below hb (lR _)) b8 cf;rw[if_pos ah] at h;exact h
 have al:Hid (∀u,bl w3 u->(u.cell? ⟨R (M w),0,E⟩=G (I Y V)/\u.cell? ⟨R (M w),1,E⟩=G (I Y F)/\u.cell? ⟨R (M w),2,E⟩=G (U s c.length cap))/\(u.cell? ⟨R (M w1),0,E⟩=G (O bg.none)/\u.cell? ⟨R (M w1),1,E⟩=G (U bs bg.vq.length bc)/\u.cell? ⟨R (M w1),2,E⟩=G (U bf bg.fq.length be))/\u.cell? ⟨R (M w)+1,0,E⟩=G (U (G ⟨rb,ro,E⟩) L.length lc)/\(u.cell? ⟨rb,ro,E⟩=G (O x.none)/\u.cell? ⟨rb,ro+1,E⟩=G (U vx x.vq.length a9)/\u.cell? ⟨rb,ro+2,E⟩=G (U fx x.fq.length a6))):=λu hb=>by
  have p:=P3.call hb;have q:=L3.call hb;have g:=G3.call hb;exact⟨⟨p.1 0 _ rfl,p.1 1 _ rfl,p.1 2 _ rfl⟩,⟨g.1 0 _ rfl,g.1 1 _ rfl,g.1 2 _ rfl⟩,q.1 0 _ rfl,VH,Us,VE⟩
 have xW:=vK;have m0:(0:Int) < (L.length:Int):=aa;have ay:Hid (bu (bK V F c) (bp L 0)=bu bg x):=by show _=_;rw[<-a4.out,df.out]
 generalize bu bg x=ib at *;go_upto_region 7 with fail
 refine VO ?_;refine XK [] ac al.out xW (λT=> ?_);generalize w3.drew=w4 at *;refine QU ?_;refine av (i:=5) rfl ac (λK hK=> ?_);go_simp;go_at_call 51;go_call ax.out w4 xW as e w5 ⟨rfl,xw⟩;go_wp2_with fail;refine hK.out _ _ (al.out _ (xW.trans (xw.mono xW.size))) (λT=> ?_);clear hK K;refine sm ?_;refine QN 6 ?_;refine aB ac ?_ _;have ad:=tG;have P5:=P3.call ad;have L5:=L3.call ad;have R5:=R3.call ad;have E5:=E3.call ad;have B5:=B3.trans (ad.mono B3.size);have C5:=C3.call ad;have X5:=X3.below ad (lR _);clear P3 L3 R3 E3 G3 c2 C3 X3 B3 ad xW xw al ax bx b8 cf bb az ah q0 q1 q2 T;rcases j6 ib with af|af;rotate_left
 .have g:=HG.out;unfold gQ Bv at g;rw[ay.out,af] at g;simp at g
 have HI:=ag af;rw[af];clear af;obtain⟨p0,p1,p2⟩:=P5.c3;have l0:=L5.1 0 _ rfl;go_wp2_with fail;go_call Gf V F s c cap _ L.length lc 52 #[] w5 as e w6 ⟨rfl,⟨EP,EL,EF⟩,ap⟩;clear p0 p1 p2 l0;have a5:Hid (a8a w V F s c cap (G ⟨rb,ro,E⟩) L.length lc w6):=⟨B5.trans (ap.mono B5.size),P5.call ap,L5.call ap,R5.call ap,E5.call ap⟩;have z5:=E5.2.1;have z6:=EF.2.1;have ao:Hid ((iU c (λ_:Bool=>L) (λ_ _=>W5) (λ_ e t=>t&&bu e.pic (bp L e.tgt)) W5 c.length=W5->gQ V F c L=W5)/\∀k e,k < c.length->e∈cZ c k (bp L k)->bu e.pic (bp L e.tgt)=d->gQ V F c L=d):=by
  have e:gQ V F c L=(j4 c.length).all λi=>(cZ c i (bp L i)).all λe=>bu e.pic (bp L e.tgt):=by unfold gQ Bv;rw[a1.out,ay.out,HI.out];simp
  rw[Id,e];refine⟨id,λk q Z hq hf=> ?_⟩;rw[Q0];exact⟨k,J4.2 Z,by rw[Bool.not_eq_true,Q0];exact⟨q,hq,by rw[hf];decide⟩⟩
 have ch:=ag a2;clear P5 L5 R5 E5 B5 C5 X5 ap ct a2;go_wp2;refine wpIn_wide.1 (H7 (n:=5) (gf:=103) (lb:=#[Pp (G ⟨R (M w5),0,E⟩),Pp (G ⟨R (M w5)+1+1,0,E⟩),Pp (G ⟨R (M w5)+1,0,E⟩)]) rfl (enters_of Tryz.func103 ac rfl) (λ_ _ _ W=>a8a w V F s c cap (G ⟨rb,ro,E⟩) L.length lc W/\gQ V F c L=W5) (λ_ _ _ c' W=>c'=.ret/\a8a w V F s c cap (G ⟨rb,ro,E⟩) L.length lc W/\gQ V F c L=d) ?hit ?hdone ?hstop)
 case hdone=>
  rintro r W hl ⟨hF,ak⟩ r';have b2:=hF.put r' hl.lp rfl rfl aa;have j:=Es;have ar:=ag ak;clear ak hF hl ao a5 EP EL EF;generalize W.putObj (R (M w6)+1) r'=X at *;obtain⟨hB,-,-,m,hE⟩:=b2;have r0:=m.1 0 _ rfl;have r1:=m.2.2 0;have s0:=hE.1 0 _ rfl;have s1:=hE.2.2 0;go_simp;go_wp2;obtain⟨wq,D⟩:∃q,q=bd X (R (M w)+1+1) 0 [O W5]:=⟨_,rfl⟩;have PQ:=bC m 0 _ D;simp only[bd] at D;rw[<-D];obtain⟨wz,ab⟩:∃q,q=bd wq (R (M w)+1+1+1) 0 [I Y 0]:=⟨_,rfl⟩;have PZ:=bC (PQ.keep hE) 0 _ ab;simp only[bd] at ab;rw[<-ab];have cl:sT wz (R (M w)+1+1) [O (gQ V F c L)]:=by rw[ar.out];exact PZ.keep PQ.cells
  have b6:sT wz (R (M w)+1+1+1) [I Y (mi V F c L)]:=by rw[a1.out];exact PZ.cells
  exact Fy (((PZ.far _ aa).trans (PQ.far _ aa)).trans j) cl b6 (PZ.low aa (PQ.low aa hB)) aa rfl rfl aa aa
 case hstop=>
  rintro r c' W hl ⟨rfl,hF,ak⟩ r';rw[HG.out] at ak;cases ak
 case hit=>
  intro fn W1 hl b5;refine a1S c0.out c3.out ch.out HZ.out b5 hl (a5.out.below b5) EP EL EF ao.out ?_;clear hl b5 ao a5 EP EL EF W1;intro W k e vs vc fs fc hl hF a8 hp N hf;refine RG hl rfl ?_
  gi_wp2
  have zG:=ND;have bt:=Rv;have ds:=uO;have Hl:=ag hl;refine CF hl aa zG ?_;clear hl;intro W2 cz hO;have Fa:=hF.below zG;have zO:=hO.size;have za:=zG.size;have a3:=hO.low aa Fa.1;have cg:=Fa.2.1.same (hO.far _ aa) aa;have b4:=Fa.2.2.1.same (hO.far _ aa) aa;have c7:=Fa.2.2.2.1.same (hO.far _ aa) aa;have c6:=Fa.2.2.2.2.same (hO.far _ aa) aa;have ce:=bt.same (hO.far _ aa) aa;have cp:=hO.kept.picW (hp.call zG);have X2:=c3.out.below a3 (lR _);have C2:=c0.out.below a3 (lR _);obtain⟨q,hq⟩:=j7 a8.2.1;have b7:q < L.length:=by have:=ch.out.len;have:=a8.2.2;omega
  obtain⟨dv,dq,cc,zrb,vy,a7,fy,ba,⟨q0,q1,q2⟩,cb,ca,b1⟩:=X2 q b7;cases cc;obtain⟨y,ey⟩:∃y,y=L[q]:=⟨_,rfl⟩;have c5:Hid (bp L e.tgt=y):=by show _=_;rw[hq,ey];exact ku b7
  have bm:aO V F c y=0:=by rw[ey];exact ch.out.ck _ (gM b7)
  rw[<-ey] at q0 q1 q2 cb ca b1;clear ey;have ah:aF V F c [e.pic,y]=0:=by unfold aF;rw[if_pos HZ.out];unfold cN;rw[if_pos a8.1];unfold cN;rw[if_pos bm];rfl
  have ax:Hid (∀u,bl W2 u->Calls pG 51 #[pv V F s c cap,xv e.pic vs vc fs fc,xv y vy a7 fy ba] u λe' w'=>e'=Rt (O (bu e.pic y))/\bl u w'):=λu hb=>by
   have h:=nW V F s c cap _ vs vc fs fc y vy a7 fy ba u (C2.below hb (lR _)) (cp.below hb (lR _)) N hf (cb.below hb (lR _)) ca b1;rw[if_pos ah] at h;exact h
  rw[hq] at ce;have al:Hid (∀u,bl W2 u->(u.cell? ⟨R (M w),0,E⟩=G (I Y V)/\u.cell? ⟨R (M w),1,E⟩=G (I Y F)/\u.cell? ⟨R (M w),2,E⟩=G (U s c.length cap))/\(u.cell? ⟨R (M W),0,E⟩=G (I Y (q:Int))/\u.cell? ⟨R (M W),1,E⟩=G (O e.pic.none)/\u.cell? ⟨R (M W),2,E⟩=G (U vs e.pic.vq.length vc)/\u.cell? ⟨R (M W),3,E⟩=G (U fs e.pic.fq.length fc))/\u.cell? ⟨R (M w)+1,0,E⟩=G (U (G ⟨rb,ro,E⟩) L.length lc)/\(u.cell? ⟨rb,ro+q * 3,E⟩=G (O y.none)/\u.cell? ⟨rb,ro+q * 3+1,E⟩=G (U vy y.vq.length a7)/\u.cell? ⟨rb,ro+q * 3+2,E⟩=G (U fy y.fq.length ba))):=λu hb=>by
   have p:=cg.call hb;have l:=b4.call hb;have g:=ce.call hb;exact⟨⟨p.1 0 _ rfl,p.1 1 _ rfl,p.1 2 _ rfl⟩,⟨g.1 0 _ rfl,g.1 1 _ rfl,g.1 2 _ rfl,g.1 3 _ rfl⟩,l.1 0 _ rfl,VH,Us,VE⟩
  have xW:bl W2 W2.drew:=(bR _ _).drew;have m0:=fO;have m1:(q:Int) < (L.length:Int):=aa;have ay:Hid (bu e.pic (bp L e.tgt)=bu e.pic y):=by show _=_;rw[c5.out]
  generalize bu e.pic y=ib at *;refine wpIn_block (wpIn_seq (Am ?_));refine Vx (S:=(λu=>(u.cell? ⟨R (M w),0,E⟩=G (I Y V)/\u.cell? ⟨R (M w),1,E⟩=G (I Y F)/\u.cell? ⟨R (M w),2,E⟩=G (U s c.length cap))/\(u.cell? ⟨R (M W),0,E⟩=G (I Y (q:Int))/\u.cell? ⟨R (M W),1,E⟩=G (O e.pic.none)/\u.cell? ⟨R (M W),2,E⟩=G (U vs e.pic.vq.length vc)/\u.cell? ⟨R (M W),3,E⟩=G (U fs e.pic.fq.length fc))/\u.cell? ⟨R (M w)+1,0,E⟩=G (U (G ⟨rb,ro,E⟩) L.length lc)/\(u.cell? ⟨rb,ro+q * 3,E⟩=G (O y.none)/\u.cell? ⟨rb,ro+q * 3+1,E⟩=G (U vy y.vq.length a7)/\u.cell? ⟨rb,ro+q * 3+2,E⟩=G (U fy y.fq.length ba)))) [] ac (by simp[Bz]) a1z (al.out _ xW) (λT=> ?_);generalize W2.drew=w4 at *;refine QQ ?_;refine av (i:=8) rfl ac (λK hK=> ?_);go_simp;go_at_call 51;go_call ax.out w4 xW as e5 cv ⟨rfl,xw⟩;go_wp2_with fail;refine hK.out _ _ (al.out _ (xW.trans (xw.mono xW.size))) (λT=> ?_);clear hK K;refine sm ?_;refine QN 9 ?_;refine aB ac ?_ _;have am:=tG;have F5:a8a w V F s c cap (G ⟨rb,ro,E⟩) L.length lc cv:=a8a.below ⟨a3,cg,b4,c7,c6⟩ am;have a0:=cz.below am;have co:=ag (a0r Hl.out zG hO am);clear Hl zG hO am xW xw T al ax bm ah cb ca b1 q0 q1 q2 zrb a3 cg b4 c7 c6 ce cp X2 C2 bt Fa cz c5 hp N hf a8;rcases j6 ib with af|af
  .subst af
   refine wpIn_cond_false rfl (wpIn_skip ?_);exact⟨a0,ay.out,a0.put aa _,F5.put _ a0.lp rfl rfl aa,co.out.1,λb _ hb=>co.out.2 b hb⟩
  .subst af
   refine wpIn_cond_true rfl ?_;have c9:=ag a0;clear a0;obtain⟨B5,P5,L5,R5,E5⟩:=F5;have r0:=R5.1 0 _ rfl;have r1:=R5.2.2 0;have s0:=E5.1 0 _ rfl;have s1:=E5.2.2 0
   gi_wp2
   obtain⟨wq,D⟩:∃q,q=bd cv (R (M w)+1+1) 0 [O d]:=⟨_,rfl⟩;have PQ:=bC R5 0 _ D;simp only[bd] at D;rw[<-D];obtain⟨wz,ab⟩:∃q,q=bd wq (R (M w)+1+1+1) 0 [I Y 0]:=⟨_,rfl⟩;have PZ:=bC (PQ.keep E5) 0 _ ab;simp only[bd] at ab;rw[<-ab];have b0:=c9.out.far ((PZ.far _ aa).trans (PQ.far _ aa)) ((PZ.far _ aa).trans (PQ.far _ aa));have F6:a8a w V F s c cap (G ⟨rb,ro,E⟩) L.length lc wz:=⟨PZ.low aa (PQ.low aa B5),PZ.keep (PQ.keep P5),PZ.keep (PQ.keep L5),PZ.keep PQ.cells,PZ.cells⟩;exact⟨b0,ay.out,b0.put aa _,F6.put _ b0.lp rfl rfl aa⟩
end
section
open Go.RowKit
attribute [local go_sem ↓] Go.wp_at_zero Go.wp_at_succ
def a4y{t:List Pic×List Int×Bool}{k:Nat}:rL c (λt:List Pic×List Int×Bool=>t.1) (λt k=>t.2.1.getD k 0==n) (λk e t=>dk n k t e) t k=kY c n t k:=by
 unfold rL kY;by_cases h:t.2.1.getD k 0=n
 .rw[if_pos h,if_pos cn]
 .rw[if_neg h,if_neg cn]
def On{t:List Pic×List Int×Bool}:∀{k:Nat},iU c (λt:List Pic×List Int×Bool=>t.1) (λt k=>t.2.1.getD k 0==n) (λk e t=>dk n k t e) t k=(j4 k).foldl (kY c n) t
 |0=>rfl
 |k+1=>by rw[rX,On,a4y,q7,q8];rfl
def a2t(g:aA V F c=0){n i:Int}{t:List Pic×List Int×Bool}{e:Edg}(h:a8c V F c t.1)(r:X t.2.1=X c+1)(o:kT V F c e):a8c V F c (dk n i t e).1/\X (dk n i t e).2.1=X c+1:=by
 obtain⟨D,-⟩:=tU (n:=n) (i:=i) (s:=(t.1,t.2.2)) g h o;have Z:(cB n i (t.1,t.2.2) e).1=(dk n i t e).1:=by rw[<-tu]
 rw[Z] at D;refine⟨D,?_⟩;unfold dk;split
 .exact r
 .simpa using r
def a7n.code(h:a7n Ch W W')(hs:∀a,s=G a->¬Ch a.block)(z:a2r W s c):a2r W' s c:=by
 rcases z with hi|⟨b,q,e,u,z⟩
 .exact .inl hi
 .refine .inr ⟨b,q,e,lL u h.1,λk Z=> ?_⟩
  obtain⟨g,N,D,Q,P,o⟩:=z k Z;have v:=h.2 b (hs _ e) u;refine⟨?_,?_,?_,?_,?_,?_⟩<;>rw[Q3 v]<;>assumption
def a7n.mono{a:Nat->Prop}{W W':C}(h:a7n Ch W W')(hs:∀b,Ch b->a b):a7n a W W':=⟨h.1,λb u T=>h.2 b (λz=>u (hs b z)) T⟩
def YN{db cb:Nat}(j:a2r w s c)(g:c≠[]->∀a,s=G a->a.block≠pb/\a.block≠db)(i:R (M w)<=cb):∀W W',a7n (λb=>b=pb\/b=db\/b=cb) W W'->a2r W s c->a2r W' s c:=by
 by_cases k:c=[]
 .exact λ_ _ _ _=>.inl k
 .rcases j with h|⟨b,q,e,u,-⟩
  .exact absurd h k
  intro W W' Z h;refine Z.code (λa r=> ?_) h;have N:=g k a r;have D:a.block=b:=by rw[e] at r;cases r;rfl
  rintro (h|h|h)
  .exact N.1 h
  .exact N.2 h
  .omega
def a7d.drop{vs fs:oA}{l:Nat}{r:Loop}(h:a7d S W x vs fs)(K:W.heap[l]? =G (.loop r)):a7d (λb=>S b/\b≠l) W x vs fs:=λg D i=>by
 have m:=(J5.1 K).1;have Q:a9s (g.putObj l (.loop r)) x vs fs:=h _ (λb u T=>by
  by_cases e:b=l
  .subst e;rw[J6 aa,K]
  .rw[j5 e];exact D b ⟨u,e⟩ T) (by simpa[J7] using i)
 have q:∀b o v,(g.putObj l (.loop r)).cell? ⟨b,o,E⟩=G v->b≠l:=λb o v N e=>by
  subst e;have j:(g.putObj b (.loop r)).heap[b]? =G (.loop r):=J6 aa;simp only[Q4,j] at N;cases N
 refine a7g.pic (W:=g.putObj l (.loop r)) ⟨by simp[J7],λb k v N=> ?_⟩ (λb k v N P=>P.same (j5 (q b k v N)).symm) Q;rw[Q3 (a:=⟨b,k,E⟩) (j5 (q b k v N))] at N;exact N
def a2T {F:Fence}{m:Nat}{P:Program}{c o:Code}{Q:Exit->Act->C->Prop}{a:Act}{w:C}(h:∀K:Act->C->Prop,Hid (∀a w,o.wpIn F m P Q a w->K a w)->c.wpIn F m P (Exit.then K (λ_ _ _=>False)) a w):(c.seq o).wpIn F m P Q a w:=wpIn_seq (Am (h _ λ_ _ h=>h))
def Sa{y:Pic}{xh:oA}{xf:Nat}{xk:oA}{xi:Nat}{xq:oA}{xm:Nat}{xr:oA}{xo:Nat}{w:C}(h0:aA V F c=0)(zL:aO V F c x=0)(hy0:aO V F c y=0)(b:a2r w s c)(l:a4r w x xh xk)(N:X x.vq<=xf/\xf<=maxLen)(D:X x.fq<=xi/\xi<=maxLen)(a:a4r w y xq xr)(Q:X y.vq<=xm/\xm<=maxLen)(P:X y.fq<=xo/\xo<=maxLen):Calls f 32 #[pv V F s c cap,xv x xh xf xk xi,xv y xq xm xr xo] w λe w'=>a9d (R (M w)) w' e (aI (aj d) x y) 0/\bl w w':=by
 have Z:aF V F c [x,y]=0:=VP;have h:=RK V F s c cap x xh xf xk xi y xq xm xr xo w b l N D a Q P;rw[if_pos Z,Z,(nF h0 zL hy0).1] at h;exact h
def a2K{y:Pic}{xh:oA}{xf:Nat}{xk:oA}{xi:Nat}{xq:oA}{xm:Nat}{xr:oA}{xo:Nat}{w:C}(h0:aA V F c=0)(zL:aO V F c x=0)(hy0:aO V F c y=0)(b:a2r w s c)(l:a4r w x xh xk)(N:X x.vq<=xf/\xf<=maxLen)(D:X x.fq<=xi/\xi<=maxLen)(a:a4r w y xq xr)(Q:X y.vq<=xm/\xm<=maxLen)(P:X y.fq<=xo/\xo<=maxLen):Calls f 33 #[pv V F s c cap,xv x xh xf xk xi,xv y xq xm xr xo] w λe w'=>a9d (R (M w)) w' e (aI (aj W5) x y) 0/\bl w w':=by
 have Z:aF V F c [x,y]=0:=VP;have h:=YZ V F s c cap x xh xf xk xi y xq xm xr xo w b l N D a Q P;rw[if_pos Z,Z,(nF h0 zL hy0).2] at h;exact h
structure a8l (S:Nat->Prop) (w:World) (V F:Int) (s:oA) (c:lI) (cap sb pb pc db dc:Nat) (n:Int) (t:List Pic×List Int×Bool) (W:World):Prop where
 vs:sT W w.heap.size [Pp (G ⟨sb,0,E⟩)]
 vn:sT W (w.heap.size+1) [I Y n]
 vc:sT W (w.heap.size+1+1) [O t.2.2]
 st:sT W sb [I Y V,I Y F,U s c.length cap,U (G ⟨pb,0,E⟩) t.1.length pc,U (G ⟨db,0,E⟩) t.2.1.length dc]
 pr:a8f S W pb t.1
 dr:a8s W db t.2.1
 xs:a8c V F c t.1
 ln:t.2.1.length=c.length+1
 kp:a7n (λb=>b=pb\/b=db) w W
 lo:∀{B:Nat} {a:World},B<=pb->B<=db->B<=w.heap.size->Below B a w->Below B a W
section
variable {S:Nat->Prop} {w W W':World} {V F:Int} {s:oA} {c:lI} {cap sb pb pc db dc:Nat} {n:Int} {t:List Pic×List Int×Bool}
def a8l.below (h:a8l S w V F s c cap sb pb pc db dc n t W)(u:bl W W'):a8l S w V F s c cap sb pb pc db dc n t W':=⟨h.vs.call u,h.vn.call u,h.vc.call u,h.st.call u,h.pr.call u,h.dr.call u,h.xs,h.ln,h.kp.trans (a7n.of u),λN D Q P=>(h.lo N D Q P).trans (u.mono (lT Q h.kp.1))⟩
def a8l.mono {S':Nat->Prop}(h:a8l S w V F s c cap sb pb pc db dc n t W)(hs:∀b,S b->b < R (M W)->S' b):a8l S' w V F s c cap sb pb pc db dc n t W:=⟨h.vs,h.vn,h.vc,h.st,h.pr.mono hs,h.dr,h.xs,h.ln,h.kp,h.lo⟩
def a8l.round {l:Nat}(h:a8l S w V F s c cap sb pb pc db dc n t W)(Z:a9c l W W')(K:R (M w)+1+1 < l)(e:sb≠l)(L:pb≠l)(a:db≠l)(r:∀b,S b->b≠l):a8l S w V F s c cap sb pb pc db dc n t W':=
 have i:R (M W)<=R (M W'):=by rw[Z.size];exact lR _
 ⟨h.vs.same (Z.far _ aa) i,h.vn.same (Z.far _ aa) i,h.vc.same (Z.far _ aa) i,h.st.same (Z.far _ e) i,h.pr.far (Z.far _ L) (λb u _=>Z.far b (r b u)) i,h.dr.far (Z.far _ a) i,h.xs,h.ln,⟨lT h.kp.1 i,λb u T=>(Z.far b aa).trans (h.kp.2 b u T)⟩,λN D Q P=>Z.low aa (h.lo N D Q P)⟩
def a2m {g a k:C}{L:List Pic}{D:List Int}(h:a8l S w V F s c cap sb pb pc db dc n t g)(e:Hid (a=bd g (R (M w)+1+1) 0 [O W5]))(hs:kI S a k pb db L D)(hn:pb < R (M w)/\db < R (M w)/\sb≠pb/\sb≠db/\sb < R (M w))(hl:X L=X t.1/\X D=X t.2.1)(l:a8c V F c L/\X D=X c+1)(r:∀b,S b->b≠R (M w)+1+1):
  a8l S w V F s c cap sb pb pc db dc n (L,D,W5) k/\a7n (λb=>b=pb\/b=db\/b=R (M w)+1+1) g k/\∀b,b≠pb->b≠db->b≠R (M w)+1+1->b < R (M g)->k.heap[b]? =g.heap[b]? :=by
 have j:=bC h.vc 0 _ e.out;obtain⟨z,K,s3,s4,s5⟩:=hs;obtain⟨i,a2,m,a4,v⟩:=hn;have F:∀b,b≠pb->b≠db->b≠R (M w)+1+1->b < R (M g)->k.heap[b]? =g.heap[b]? :=λb N h2 Q P=>(s3 b N h2 (lL P j.size)).trans (j.far b Q);have Z:=lT j.size s4;refine⟨⟨h.vs.same (F _ aa aa aa h.vs.2.1) Z,h.vn.same (F _ aa aa aa h.vn.2.1) Z,j.cells.same (s3 _ aa aa j.cells.2.1) s4,?_,z,K,l.1,l.2,⟨lT h.kp.1 Z,λb hb T=> ?_⟩,λN h2 Q P=>s5 N h2 (lT Q (lT h.kp.1 j.size)) (j.low aa (h.lo N h2 Q P))⟩,⟨Z,λb hb T=> ?_⟩,F⟩
 .have q:=h.st.same (F sb m a4 aa h.st.2.1) Z
  rw[<-hl.1,<-hl.2] at q;exact q
 .have u:¬(b=pb\/b=db):=hb
  have:=h.kp.1;rw[F b aa aa aa aa];exact h.kp.2 b hb T
 .have u:¬(b=pb\/b=db\/b=R (M w)+1+1):=hb
  exact F b aa aa aa T
def If {Ch:Nat->Prop}{i a g:C}{l D:Nat}{r:Loop}(hl:a7h W l D r)(u:bl W i)(Z:a9c l i a)(Q:a7n Ch a g):a7n Ch W (g.putObj l (.loop r)):=by
 have z:=lT u.size (by rw[<-Z.size];exact Q.1);have m:=uO;refine⟨by simpa[J7] using z,λb j T=> ?_⟩;by_cases e:b=l
 .subst e
  rw[J6 aa,hl.lp]
 .rw[j5 e,Q.2 b j (by rw[Z.size];have:=u.size;omega),Z.far b e,u.block b T]
end
def a0a{pc db dc:Nat}{n:Int}{L:List Pic}{D:List Int}{w o T W1:C}{fn:FuncId}{tmps:Array mh}{a:Array Tmp}{assign body:Code}(g:aA V F c=0)(j:a2r w s c)(Q:∀W W',a7n (λb=>b=pb\/b=db\/b=R (M w)+1+1) W W'->a2r W s c->a2r W' s c)(i:R (M w)+1+1 < R (M o))(al:pb < R (M w))(ak:db < R (M w))(u:bl T W1)(K:a7h W1 (R (M T)+1) (R (M T)) (dH fn tmps a assign body (R (M T)) .ready E))(m:a8l S w V F s c cap sb pb pc db dc n (L,D,d) W1)(EP:sT T (R (M o)) [I Y V,I Y F,U s (X c) cap])(EL:sT T (R (M o)+1) [U (G ⟨pb,0,E⟩) (X L) pc])(z:sT T (R (M o)+1+1) [.func (.func 99) #[] #[Pp (G ⟨R (M w),0,E⟩),Pp (G ⟨R (M w)+1,0,E⟩)]])(hY:∀(t:List Pic×List Int×Bool) W (k:Nat) (e:Edg) vs vc fs fc,a8l S w V F s c cap sb pb pc db dc n t W->a7h W (R (M T)+1) (R (M T)) (dH fn tmps a assign body (R (M T)) .ready E)->kT V F c e->a7d (λb=>¬(b=pb\/b=db\/b=R (M w)+1+1)) W e.pic vs fs->(X e.pic.vq<=vc/\vc<=maxLen)->(X e.pic.fq<=fc/\fc<=maxLen)->YieldAt Fence.wide (5 - 1 - 1) f (R (M T)+1) #[I Y (k:Int),Ag #[I Y e.tgt,O e.pic.none,U vs (X e.pic.vq) vc,U fs (X e.pic.fq) fc]] W λr W'=>r=Rt (O W5)/\a7h W' (R (M T)+1) (R (M T)) (dH fn tmps a assign body (R (M T)) .ready E)/\a8l S w V F s c cap sb pb pc db dc n (dk n k t e) W'/\a7n (λb=>b=pb\/b=db\/b=R (M w)+1+1) W W'):
  CallsIn Fence.wide (5 - 1) f 103 (#[.func (.yield (R (M T)+1)) #[] #[]]++#[Pp (G ⟨R (M o),0,E⟩),Pp (G ⟨R (M o)+1+1,0,E⟩),Pp (G ⟨R (M o)+1,0,E⟩)]) W1 λe W'=>(∃v,e=Rt v)/\((a7h W' (R (M T)+1) (R (M T)) (dH fn tmps a assign body (R (M T)) .ready E)/\a8l S w V F s c cap sb pb pc db dc n (ia c n (L,D)) W')\/∃c',a7h W' (R (M T)+1) (R (M T)) (dH fn tmps a assign body (R (M T)) .done (G c'))/\False):=by
 have ah:=z.2.1;have ao:=u.size;refine(FQ (σ:=List Pic×List Int×Bool) (V:=V) (F:=F) (s:=s) (c:=c) (cap:=cap) (pb:=R (M o)) (ib:=R (M o)+1+1) (lb:=R (M o)+1) (l:=R (M T)+1) (n:=5 - 1) (fd:=99) (lc:=pc) (ls:=G ⟨pb,0,E⟩) (cs:=#[Pp (G ⟨R (M w),0,E⟩),Pp (G ⟨R (M w)+1,0,E⟩)]) (ar:=λp=>#[p,Pp (G ⟨R (M w),0,E⟩),Pp (G ⟨R (M w)+1,0,E⟩)]) (λ_=>ae) (enters_of Tryz.func99 ac rfl) (pics:=λt=>t.1) (due:=λt k=>t.2.1.getD k 0==n) (next:=λk e t=>dk n k t e)
  (St:=λt W=>a8l S w V F s c cap sb pb pc db dc n t W/\a7h W (R (M T)+1) (R (M T)) (dH fn tmps a assign body (R (M T)) .ready E))
  (Stop:=λ_=>False)
  (Ch:=λb=>b=pb\/b=db\/b=R (M w)+1+1) g (L,D,d) W1 ?_ ?_ ?_ ?_ Q (λb h=>aa) aa aa aa ⟨m,K⟩ (EP.call u) (z.call u) (by rw[<-m.xs.len];exact EL.call u) (Q _ _ (m.kp.mono λb h=>h.imp id Or.inl) j)).mono ?_
 .exact λt W W' h u=>⟨h.1.below u,h.2.below u⟩
 .exact λt W h=>⟨h.1.pr.xs,h.1.xs⟩
 .intro t W k h Z
  have ab:k < X t.2.1:=by rw[h.1.ln];omega
  have am:=(dM g).2.2;have q:=a1b V F s c _ _ _ pc dc sb db _ _ k n _ W h.1.vs h.1.vn h.1.st h.1.dr ab (by rw[h.1.ln];unfold maxLen;omega);have e:t.2.1.getD k 0=t.2.1[k]:=by simp[List.getD,ab]
  rw[e];exact q
 .rintro t W k e vs vc fs fc ⟨af,ad⟩ Z - jp hp hv hf
  refine(hY t W k e vs vc fs fc af ad jp hp hv hf).mono ?_;rintro r W' ⟨e1,e2,e3,e4⟩;exact .inl ⟨e1,⟨e3,e2⟩,e4⟩
 .rintro e W' ⟨hv,⟨⟨N,h2⟩,P⟩|h⟩
  .rw[On] at N
   exact⟨hv,.inl ⟨h2,N⟩⟩
  .exact h.elim
def TA{g:C}{a:Nat}{b:Bool}{tmps:Array mh}{R:Ending->C->Prop}(j:g.heap[a]? =G (.deferred (G [])))(P:tmps[4]?.getD undef=O b)(m:R (Rt (O b)) (g.putObj a (.deferred E))):
  bodyPostM Fence.wide 5 f Tryz.f49 R .ret ⟨tmps,[{target:=.collected a,args:=#[]}]⟩ g:=
 ⟨ae,.inl ⟨a,_,rfl,run_takeDeferred j,O b,by simp[results,Tryz.results49,go_sem,P],m⟩⟩
attribute [local go_sem] Oper.semAt_some
def uT {p:Prop}(h:p:=by
 gi_wp2_with fail
 refine⟨trivial,(CallsIn.inRound _ (callsIn_wide.2 HCL.out)).mono ?_⟩;rintro e6 W6 ⟨⟨ve,rfl⟩,SS⟩;obtain⟨N1,N2,N3⟩:=a2m R5 ewq0 SS ⟨hpb,hdb,jO.1,jO.2,hsb⟩ ⟨ae,ae⟩ (by have:=a2t (n:=n) (i:=k) h0 R5.xs R5.ln jp;rw[HED.out] at this;exact this) (λb hb=>(hS b hb).2.2.1);have hl6:=hl5.far (N3 _ aa aa aa hlz5) (N3 _ aa aa aa hDz5);clear HCL SS
 gi_wp2
 exact⟨hl6,hl6.put aa _,by rw[HED.out];exact N1.round (hl6.round _) (by omega) (by omega) (by omega) (by omega) (λb hb=>(hS b hb).2.2.2),If Hl.out HBA.out HO.out ((a7n.of HB25.out).trans N2)⟩):p:=h
def VZ {S0:Nat->Prop}(V F:Int)(s:oA)(c:lI)(cap sb pb pc db dc:Nat)(n:Int)(L:List Pic)(D:List Int)(w:C)(h0:aA V F c=0)(z:sT w sb [I Y V,I Y F,U s c.length cap,U (G ⟨pb,0,E⟩) L.length pc,U (G ⟨db,0,E⟩) D.length dc])(hP:a8f S0 w pb L)(bg:a8s w db D)(j:a2r w s c)(a6:pb≠db)(jO:sb≠pb/\sb≠db)(b7:∀b,S0 b->b≠pb/\b≠db)(ar:∀b,R (M w)<=b->S0 b)(ch:c≠[]->∀a,s=G a->a.block≠pb/\a.block≠db)(hX:a8c V F c L)(cr:D.length=c.length+1)(b5:IntKind.i64.wrap (n+1)=n+1):
  Calls pG 49 #[Pp (G ⟨sb,0,E⟩),I Y n] w λe w'=>e=Rt (O (ia c n (L,D)).2.2)/\kI S0 w w' pb db (ia c n (L,D)).1 (ia c n (L,D)).2.1:=by
 have hpb:=pY;have hdb:=bg.choose_spec.1.2.1;have hsb:=z.2.1;have bm:=YN j ch (cb:=R (M w)+1+1) aa;have cz:=(dM h0).2.2;have c0:61<=maxLen:=an;have R3:a8l (λb=>S0 b/\b < R (M w)) w V F s c cap sb pb pc db dc n (L,D,d) (((w.alloc (A #[Pp (G ⟨sb,0,E⟩)] 103)).alloc (A #[I Y n] 3)).alloc (A #[O d] 4)):=by
  have B:n4 (R (M w)) w (((w.alloc (A #[Pp (G ⟨sb,0,E⟩)] 103)).alloc (A #[I Y n] 3)).alloc (A #[O d] 4)):=ai;refine⟨(sT.new w _ [_]).call ai,?_,?_,z.call B,(hP.mono λb N h2=>⟨N,h2⟩).call B,bg.call B,hX,cr,a7n.of B,λN h2 h3 h4=>h4.trans (B.mono h3)⟩
  .have h:=sT.new (w.alloc (A #[Pp (G ⟨sb,0,E⟩)] 103)) 3 [I Y n]
   rw[zA] at h;exact h.call ai
  .have h:=sT.new ((w.alloc (A #[Pp (G ⟨sb,0,E⟩)] 103)).alloc (A #[I Y n] 3)) 4 [O d]
   rw[zA,zA] at h;exact h
 obtain⟨t1,b1⟩:∃t,t=ia c n (L,D):=⟨_,rfl⟩;have cg:=ag b1;rw[<-b1];clear b1;refine callsIn_wide.1 (callsIn_of_wp_marks (n:=5) Tryz.func49 rfl trivial (wpIn_wide.2 ?_) rfl);simp only[Tryz.ntmps49,q9,z7,z8,z9,x6,x7,x8,x9,J0,J1,J2];go_upto_region 3 with fail
 generalize (((w.alloc _).alloc _).alloc _)=w3 at *;have ah:Hid (∀u,bl w3 u->u.cell? ⟨R (M w),0,E⟩=G (Pp (G ⟨sb,0,E⟩))/\(u.cell? ⟨sb,0,E⟩=G (I Y V)/\u.cell? ⟨sb,1,E⟩=G (I Y F)/\u.cell? ⟨sb,2,E⟩=G (U s c.length cap)/\u.cell? ⟨sb,3,E⟩=G (U (G ⟨pb,0,E⟩) L.length pc))):=λu hb=>by
  have v:=R3.vs.call hb;have p:=R3.st.call hb;exact⟨v.1 0 _ rfl,p.1 0 _ rfl,p.1 1 _ rfl,p.1 2 _ rfl,p.1 3 _ rfl⟩
 have xW:=vK;have b3:=ag R3;have z3:=R3.vc.2.1;clear R3;refine VO ?_;refine XK [] ac ah.out xW (λad=> ?_);generalize w3.drew=w4 at *;refine QQ ?_;refine QN 8 ?_;refine av (i:=9) rfl ac (λK hK=> ?_);go_simp;go_at_call 53;go_call Gf V F s c cap _ L.length pc 99 #[Pp (G ⟨R (M w),0,E⟩),Pp (G ⟨R (M w)+1,0,E⟩)] w4 as e w6 ⟨rfl,⟨EP,EL,EF⟩,bv⟩;go_wp2_with fail;refine hK.out _ _ (ah.out _ (xW.trans (bv.mono xW.size))) (λad=> ?_);clear hK K;refine sm ?_;refine aB ac ?_ _;have a5:=xW.trans (bv.mono xW.size);have z4:=xW.size;have z6:=EF.2.1;have b2:=ag (b3.out.below a5);have a3:=ag z;clear b3 ah ad a5 bv z hP bg;go_wp2;refine wpIn_wide.1 (H7 (n:=5) (gf:=103) (lb:=#[Pp (G ⟨R (M w4),0,E⟩),Pp (G ⟨R (M w4)+1+1,0,E⟩),Pp (G ⟨R (M w4)+1,0,E⟩)]) rfl (enters_of Tryz.func103 ac rfl) (λ_ _ _ W=>a8l (λb=>S0 b/\b≠R (M w)+1+1/\b≠R (M w6)+1/\b≠R (M w6)) w V F s c cap sb pb pc db dc n t1 W) (λ_ _ _ _ _=>False) ?hit ?hdone ?hstop)
 case hstop=>
  intro r c' W hl hf;exact hf.elim
 case hdone=>
  rintro r W hl m r';have ap:=hl.round r';have al:=m.round ap aa aa aa aa (λb hb=>hb.2.2.1);have hD:=Es;clear m hl ap EP EL EF b2 a3;generalize W.putObj (R (M w6)+1) r'=X at *;have r0:=al.vc.1 0 _ rfl;go_simp;go_wp2;refine TA hD rfl ?_;have hs:R (M X)<=R (M (X.putObj (R (M w6)) (.deferred E))):=Bx;have far:∀b,b≠R (M w6)->(X.putObj (R (M w6)) (.deferred E)).heap[b]? =X.heap[b]? :=λb hb=>j5 hb;refine⟨rfl,?_,al.dr.far (far db aa) hs,λb N h2 T=>(far b aa).trans (al.kp.2 b aa T),lT al.kp.1 hs,λ{B} {a} N h2 h3 h4=>(al.lo N h2 h3 h4).trans (belowK_b (n₀:=B) (w:=w) h3 X (R (M w6)) _ _ aa hD rfl rfl)⟩;exact(al.pr.far (far pb aa) (λb hb _=>far b hb.2.2.2) hs).mono λb hb _=>hb.1
 case hit=>
  intro fn W1 hl be;rw[cg.out];refine a0a (S:=λb=>S0 b/\b≠R (M w)+1+1/\b≠R (M w6)+1/\b≠R (M w6)) h0 j bm aa hpb hdb be hl ((b2.out.mono λb hb _=>⟨hb.1,aa,aa,aa⟩).below be) EP EL EF ?_;clear hl be b2 EP EL EF W1 a3;obtain⟨S,hSe⟩:∃S:Nat->Prop,S=λb=>S0 b/\b≠R (M w)+1+1/\b≠R (M w6)+1/\b≠R (M w6):=⟨_,rfl⟩;have ar:∀b,R (M w6)+1 < b->S b:=λb hb=>by rw[hSe];exact⟨ar b (by omega),by omega,by omega,by omega⟩
  have hS:∀b,S b->b≠pb/\b≠db/\b≠R (M w)+1+1/\b≠R (M w6)+1:=λb hb=>by rw[hSe] at hb;exact⟨(b7 b hb.1).1,(b7 b hb.1).2,hb.2.1,hb.2.2.1⟩
  rw[<-hSe];clear hSe;have hpb:pb < R (M w):=hpb;intro t W k e vs vc fs fc m hl jp hp hv hf;refine RG hl rfl ?_
  gi_wp2
  have af:=ND;have a4:=Rv;have cv:=uO;have Hl:=ag hl;refine CF hl aa af ?_;clear hl;intro W2 ap Z;have zO:=Z.size;have za:=af.size;have zc:=m.vc.2.1;have R2:=(m.below af).round Z aa aa aa aa (λb hb=>(hS b hb).2.2.2);have a0:=a4.same (Z.far _ aa) aa;have a9:=(((hp.drop Hl.out.lp).call af).same (λb hb _=>Z.far b hb.2) aa).mono λb hb _=>hb.1;have C2:=bm _ _ (R2.kp.mono λb hb=>hb.imp id Or.inl) j;obtain⟨q,hq⟩:=j7 jp.2.1;have am:q < t.1.length:=by have:=R2.xs.len;have:=jp.2.2;omega
  obtain⟨vy,ax,fy,a1,⟨q0,q1,q2⟩,bx,bt,bs,bf,-⟩:=R2.pr.cell am;obtain⟨y,ey⟩:∃y,y=t.1[q]:=⟨_,rfl⟩;have az:Hid (bp t.1 e.tgt=y):=by show _=_;rw[hq,ey];exact ku am
  have ak:aO V F c y=0:=by rw[ey];exact R2.xs.ck _ (gM am)
  rw[<-ey] at q0 q1 q2 bx bt bs;have a8:=ag ey;clear ey;have b4:aF V F c [e.pic,y]=0:=by unfold aF;rw[if_pos h0];unfold cN;rw[if_pos jp.1];unfold cN;rw[if_pos ak];rfl
  have ca:Hid (∀u,bl W2 u->Calls pG 51 #[pv V F s c cap,xv e.pic vs vc fs fc,xv y vy ax fy a1] u λe' w'=>e'=Rt (O (bu e.pic y))/\bl u w'):=λu hb=>by
   have h:=nW V F s c cap _ vs vc fs fc y vy ax fy a1 u (C2.below hb (lR _)) (a9.at.below hb (lR _)) hv hf (bx.at.below hb (lR _)) bt bs;rw[if_pos b4] at h;exact h
  rw[hq] at a0;have ah:Hid (∀u,bl W2 u->u.cell? ⟨R (M w),0,E⟩=G (Pp (G ⟨sb,0,E⟩))/\(u.cell? ⟨sb,0,E⟩=G (I Y V)/\u.cell? ⟨sb,1,E⟩=G (I Y F)/\u.cell? ⟨sb,2,E⟩=G (U s c.length cap)/\u.cell? ⟨sb,3,E⟩=G (U (G ⟨pb,0,E⟩) t.1.length pc))/\(u.cell? ⟨R (M W),0,E⟩=G (I Y (q:Int))/\u.cell? ⟨R (M W),1,E⟩=G (O e.pic.none)/\u.cell? ⟨R (M W),2,E⟩=G (U vs e.pic.vq.length vc)/\u.cell? ⟨R (M W),3,E⟩=G (U fs e.pic.fq.length fc))/\(u.cell? ⟨pb,q * 3,E⟩=G (O y.none)/\u.cell? ⟨pb,q * 3+1,E⟩=G (U vy y.vq.length ax)/\u.cell? ⟨pb,q * 3+2,E⟩=G (U fy y.fq.length a1))):=λu hb=>by
   have v:=R2.vs.call hb;have p:=R2.st.call hb;have g:=a0.call hb;exact⟨v.1 0 _ rfl,⟨p.1 0 _ rfl,p.1 1 _ rfl,p.1 2 _ rfl,p.1 3 _ rfl⟩,⟨g.1 0 _ rfl,g.1 1 _ rfl,g.1 2 _ rfl,g.1 3 _ rfl⟩,by rw[hb.cell bf];exact q0,by rw[hb.cell bf];exact q1,by rw[hb.cell bf];exact q2⟩
  have xW:bl W2 W2.drew:=(bR _ _).drew;have m0:=fO;have m1:(q:Int) < (t.1.length:Int):=aa;have ay:Hid (bu e.pic (bp t.1 e.tgt)=bu e.pic y):=by show _=_;rw[az.out]
  generalize bu e.pic y=ib at *;refine wpIn_block (wpIn_seq (wpIn_seq (Am ?_)));refine Vx (S:=(λu=>u.cell? ⟨R (M w),0,E⟩=G (Pp (G ⟨sb,0,E⟩))/\(u.cell? ⟨sb,0,E⟩=G (I Y V)/\u.cell? ⟨sb,1,E⟩=G (I Y F)/\u.cell? ⟨sb,2,E⟩=G (U s c.length cap)/\u.cell? ⟨sb,3,E⟩=G (U (G ⟨pb,0,E⟩) t.1.length pc))/\(u.cell? ⟨R (M W),0,E⟩=G (I Y (q:Int))/\u.cell? ⟨R (M W),1,E⟩=G (O e.pic.none)/\u.cell? ⟨R (M W),2,E⟩=G (U vs e.pic.vq.length vc)/\u.cell? ⟨R (M W),3,E⟩=G (U fs e.pic.fq.length fc))/\(u.cell? ⟨pb,q * 3,E⟩=G (O y.none)/\u.cell? ⟨pb,q * 3+1,E⟩=G (U vy y.vq.length ax)/\u.cell? ⟨pb,q * 3+2,E⟩=G (U fy y.fq.length a1)))) [] ac (by simp[Bz]) a1z (ah.out _ xW) (λad=> ?_);generalize W2.drew=w4 at *;refine QQ ?_;refine QS ?_;refine av (i:=14) rfl ac (λK hK=> ?_);go_simp;go_at_call 51;go_call ca.out w4 xW as e5 b6 ⟨rfl,xw⟩;go_wp2_with fail;refine hK.out _ _ (ah.out _ (xW.trans (xw.mono xW.size))) (λad=> ?_);clear hK K;refine sm ?_;refine aB ac ?_ _;have ab:=tG;have R5:=R2.below ab;have hl5:=ap.below ab;have ce:=a0.call ab;have cl:=a9.call ab;have C5:=C2.call ab;have cm:=If (Ch:=λb=>b=pb\/b=db\/b=R (M w)+1+1) Hl.out af Z (a7n.of ab);have HO:=ag Z;have HBA:=ag af;have HB25:=ag ab;clear Z af ab xW xw ad ah ca bx bt bs q0 q1 q2 R2 a0 a9 C2 a4 ap hp m;rcases j6 ib with a7|a7
  .subst a7
   have HE:Hid (dk n k t e=t):=by show _=_;unfold dk;rw[if_pos ay.out]
   refine wpIn_cond_true rfl (wpIn_exit ?_);show _/\_;refine⟨hl5,?_⟩;exact⟨hl5.put aa _,by rw[HE.out];exact R5.round (hl5.round _) (by omega) (by omega) (by omega) (by omega) (λb hb=>(hS b hb).2.2.2),cm⟩
  .subst a7
   refine wpIn_cond_false rfl (wpIn_skip ?_);refine a2T (λK hK=> ?_);have r0:=R5.vc.1 0 _ rfl;have r1:=R5.vc.2.2 0
   gi_wp2
   refine hK.out _ _ ?_;clear hK K r0 r1;have ct:=R5.vc.2.1;obtain⟨wq,ao⟩:∃q',q'=bd b6 (R (M w)+1+1) 0 [O W5]:=⟨_,rfl⟩;have ewq0:=ag ao;have PQ:=bC R5.vc 0 _ ao;simp only[bd] at ao;rw[<-ao];clear ao;have bb:=PQ.keep R5.st aa;have b0:=R5.pr.far (PQ.far pb aa) (λb hb _=>PQ.far b (hS b hb).2.2.1) PQ.size;have ba:=R5.dr.far (PQ.far db aa) PQ.size;have Bq:a7n (λb=>b=R (M w)+1+1) b6 wq:=⟨PQ.size,λb hb _=>PQ.far b hb⟩;have Cq:a2r wq s c:=bm _ _ (Bq.mono λb hb=>.inr (.inr hb)) C5;have cp:=PQ.keep R5.vs aa;have cf:=PQ.keep R5.vn aa;have a2:=PQ.keep ce aa;have bz:a4r wq e.pic vs fs:=(cl.same (λb hb _=>PQ.far b λe=>hb.1 (.inr (.inr e))) PQ.size).at;have hlz5:=(J5.1 hl5.lp).1;have hDz5:=(J5.1 hl5.dfr).1;have zq:=PQ.size;have z5:=HB25.out.size;have v0:=cp.1 0 _ rfl;have v1:=cf.1 0 _ rfl;obtain⟨x0,x1,x2⟩:=a2.c3;have x3:=a2.1 3 _ rfl;by_cases co:(k:Int) < (q:Int)
   .have HED:Hid (dk n k t e=(t.1.set q (aI (aj d) y e.pic),t.2.1.set q (n),W5)):=by
     show _=_;unfold dk dV;rw[ay.out,if_neg an,az.out,hq];rw[if_pos aa,show decide ((q:Int)<=(k:Int))=d by simpa using co,Bool.and_false];rfl
    have HCL:=ag (a2Y (S:=S) V F s c cap sb pb pc db dc q n t.1 t.2.1 e.pic vs vc fs fc (aI (aj d) y e.pic) wq bb b0 ba a6 jO.1 (λb hb=>⟨(hS b hb).1,(hS b hb).2.1⟩) (λb hb=>ar b aa) am K7 (by have:=R5.ln;omega) (λu vx cc fx b8 hb k1 k2 k3=>by
     have l:=a8.out;rw[<-l] at k1 k2 k3 |-;exact Sa h0 ak jp.1 (Cq.below hb (lR _)) k1 k2 k3 (bz.below hb (lR _)) hv hf))
    have g1:(k:Int) < (q:Int):=aa;exact uT
   .by_cases bc:n < 4
    .have HED:Hid (dk n k t e=(t.1.set q (aI (aj d) y e.pic),t.2.1.set q (n+1),W5)):=by
      show _=_;unfold dk dV;rw[ay.out,if_neg an,az.out,hq];rw[if_neg aa,show decide ((4:Int)<=n)=d by simpa using bc,Bool.false_and];rfl
     have HCL:=ag (Ub (S:=S) V F s c cap sb pb pc db dc q n t.1 t.2.1 e.pic vs vc fs fc (aI (aj d) y e.pic) wq bb b0 ba a6 jO.1 (λb hb=>⟨(hS b hb).1,(hS b hb).2.1⟩) (λb hb=>ar b aa) am K7 (by have:=R5.ln;omega) bc b5 (λu vx cc fx b8 hb k1 k2 k3=>by
      have l:=a8.out;rw[<-l] at k1 k2 k3 |-;exact Sa h0 ak jp.1 (Cq.below hb (lR _)) k1 k2 k3 (bz.below hb (lR _)) hv hf))
     have g1:¬(k:Int) < (q:Int):=aa;exact uT
    .have HED:Hid (dk n k t e=(t.1.set q (aI (aj W5) y e.pic),t.2.1.set q (n+1),W5)):=by
      show _=_;unfold dk dV;rw[ay.out,if_neg an,az.out,hq];rw[if_neg aa,show decide ((4:Int)<=n)=W5 by simp;omega,show decide ((q:Int)<=(k:Int))=W5 by simp;omega,Bool.true_and];rfl
     have HCL:=ag (Tz (S:=S) V F s c cap sb pb pc db dc q n t.1 t.2.1 e.pic vs vc fs fc (aI (aj W5) y e.pic) wq bb b0 ba a6 jO.1 (λb hb=>⟨(hS b hb).1,(hS b hb).2.1⟩) (λb hb=>ar b aa) am K7 (by have:=R5.ln;omega) bc b5 (λu vx cc fx b8 hb k1 k2 k3=>by
      have l:=a8.out;rw[<-l] at k1 k2 k3 |-;exact a2K h0 ak jp.1 (Cq.below hb (lR _)) k1 k2 k3 (bz.below hb (lR _)) hv hf))
     have g1:¬(k:Int) < (q:Int):=aa;exact uT
end
section
open Go.RowKit
attribute [local go_sem ↓] Go.wp_at_zero Go.wp_at_succ
def a5e (V F:Int)(c:lI)(e:Ending)(w':World):Prop:=(aA V F c≠0/\e=Rt (Tu #[U E 0 0,I Y 0,I Y (aA V F c)]))\/(aA V F c=0/\∃(m pb pc:Nat),a7x V F c m/\m<=200000000000000/\e=Rt (Tu #[U (G ⟨pb,0,E⟩) (X c+1) pc,I Y ((m+1:Nat):Int),I Y 0])/\a8k w' (G ⟨pb,0,E⟩) (bj V F c m))
def VC (B:Nat)(V F:Int)(c:lI)(e:Ending)(w':World):Prop:=(aA V F c≠0/\e=Rt (Tu #[U E 0 0,I Y 0,I Y (aA V F c)]))\/(aA V F c=0/\∃(m pb pc:Nat),a7x V F c m/\m<=200000000000000/\e=Rt (Tu #[U (G ⟨pb,0,E⟩) (X c+1) pc,I Y ((m+1:Nat):Int),I Y 0])/\B<=pb/\a8f (λb=>B<=b/\b≠pb) w' pb (bj V F c m))
structure a9u (w:World) (V F:Int) (s:oA) (c:lI) (cap sb pb pc db dc m:Nat) (W:World):Prop where
 st:sT W sb [I Y V,I Y F,U s c.length cap,U (G ⟨pb,0,E⟩) (c.length+1) pc,U (G ⟨db,0,E⟩) (c.length+1) dc]
 pr:a8f (λb=>w.heap.size<=b/\b≠pb/\b≠db) W pb (bj V F c m)
 dr:∃D,a8s W db D/\Due V F c ((m+1:Nat):Int) 0 (bj V F c m) D
 all:∀k,k < m->(eC c ((k+1:Nat):Int) (bj V F c k)).2=true
 lo:bl w W
def a9u.next{pc db dc m:Nat}{D:List Int}(g:aA V F c=0)(h:a9u w V F s c cap sb pb pc db dc m W)(j:Due V F c ((m+1:Nat):Int) 0 (bj V F c m) D)(hs:kI (λb=>R (M w)<=b/\b≠pb/\b≠db) W W' pb db (ia c ((m+1:Nat):Int) (bj V F c m,D)).1 (ia c ((m+1:Nat):Int) (bj V F c m,D)).2.1)(a:sb≠pb/\sb≠db)(o:R (M w)<=pb/\R (M w)<=db):
  sT W' sb [I Y V,I Y F,U s (X c) cap,U (G ⟨pb,0,E⟩) (X c+1) pc,U (G ⟨db,0,E⟩) (X c+1) dc]/\bl w W'/\a8f (λb=>R (M w)<=b/\b≠pb/\b≠db) W' pb (bj V F c (m+1))/\((eC c ((m+1:Nat):Int) (bj V F c m)).2=W5->a9u w V F s c cap sb pb pc db dc (m+1) W'):=by
 obtain⟨z,K,q,l,u⟩:=hs;obtain⟨T,r,L⟩:=CT g j;rw[r] at z;have v:=h.st.same (q sb a.1 a.2 h.st.2.1) l;have i:=u o.1 o.2 h.lo.size h.lo;refine⟨v,i,z,λP=>⟨v,z,⟨_,K,?_⟩,λk Z=> ?_,i⟩⟩
 .rw[r] at T
  exact T
 .by_cases e:k=m
  .rw[e];exact P
  .exact h.all k aa
def Iy (V F:Int)(s:oA)(c:lI)(cap:Nat)(w:C)(z:a2r w s c):
  Calls f 17 #[pv V F s c cap] w λe w'=>VC w.heap.size V F c e w'/\bl w w':=by
 have B0:=mY;have P0:=sT.new w 24 [I Y V,I Y F,U s (X c) cap];have C0:=z.call B0;have HC:=ag z;clear z;go_enter Tryz.func17,Tryz.ntmps17;go_upto_region 1 with fail
 generalize w.alloc _=w0 at *;obtain⟨N,L,K⟩:=P0.c3;have T:=ag (Bk V F s c cap w0 C0);go_wp2_with fail;go_call T.out as e w1 ⟨⟨bs,bc,bf,be,rfl,PB,ad,af⟩,vZ⟩;clear T N L K;have B1:=it;have P1:=gF;have C1:=C0.call vZ;have bb:=ag B0.size;clear P0 C0 B0 vZ;by_cases h0:aA V F c=0;rotate_left
 .have HE:Hid (∀w',VC w.heap.size V F c (Rt (Tu #[U E 0 0,I Y 0,I Y (aA V F c)])) w'):=λw'=>.inl ⟨h0,rfl⟩
  generalize (if aA V F c=0 then bK V F c else gx)=bg at *;generalize aA V F c=r at *;have f1:(r !=0)=true:=kG;clear h0;go_upto_region 3 with fail
  have zG:=wO;have B2:=ul;clear P1 C1 B1 PB zG;generalize w1.alloc _=w2 at *;go_wp2;refine bodyPost_ret (v:=Tu #[U E 0 0,I Y 0,I Y r]) (by simp[results,Tryz.results17,go_sem]) rfl ?_;exact⟨HE.out _,B2⟩
 obtain⟨⟨b4,b0⟩,⟨bv,bz⟩,Q⟩:=fX;rw[if_pos h0] at PB ad af;have HZ:Hid (aA V F c=0):=h0;rw[h0,if_pos rfl];obtain⟨bg,ar⟩:∃b,b=bK V F c:=⟨_,rfl⟩;have T:=ag ar;rw[<-ar] at PB ad af |-;clear ar h0;have zG:=wO;have G2:=RB;have a0:=(PB.mono (S':=λb=>w.heap.size<=b) λb u _=>lT bb.out u).call zG;have P2:=P1.call zG;have C2:=C1.call zG;have B2:=ul;clear P1 C1 B1 PB zG;go_upto_region 4 with fail
 generalize w1.alloc _=w2 at *;obtain⟨N,L,K⟩:=P2.c3;obtain⟨g0,g1,g2⟩:=G2.c3;have a4:=ag (a1F V F s c cap bg bs bc bf be w2 a0 ad af Q);go_wp2_with fail;go_call a4.out as e w3 ⟨pb,pc,db,dc,rfl,ao,a1,a3,al,ab,xp⟩;clear a4 N L K g0 g1 g2;have z2:=B2.size;have B3:=ir;obtain⟨sb,a2⟩:∃sb,sb=w2.heap.size+1+1+1+1:=⟨_,rfl⟩;rw[<-a2] at ao ab |-;have b2:w.heap.size<=sb:=aa;clear a2;have HN:Hid (w.heap.size<=pb/\w.heap.size<=db):=⟨aa,aa⟩;have am:Hid (pb≠db/\sb≠pb/\sb≠db):=⟨ab.1,Ne.symm ab.2.1,Ne.symm ab.2.2⟩;have ba:Hid (c≠[]->∀a,s=G a->a.block≠pb/\a.block≠db):=λa5 a ha=>by
  rcases HC.out with h|⟨b,q,e,u,-⟩
  .exact absurd h a5
  .rw[e] at ha;cases ha
   have:=HN.out;exact⟨aw,aw⟩
 have S3:a9u w V F s c cap sb pb pc db dc 0 w3:=by
  refine⟨ao,?_,⟨_,a3,?_⟩,λk Z=>absurd Z aa,B3⟩
  .have e:bj V F c 0=bg::List.replicate (X c) a7q:=by rw[T.out];rfl
   rw[e];exact a1.mono λb u _=>⟨u.1,by have:=al.1;omega,by have:=al.2;omega⟩
  .exact V3 HZ.out
 clear ao a1 a3 xp B3 G2 a0 P2 C2 B2 ad af T al ab;go_wp2;obtain⟨M,hM⟩:∃M:Nat,M=200000000000003:=⟨_,rfl⟩;have HM:=ag hM;clear hM;have a8:Hid (∀m:Nat,m<=200000000000000->m+2 < M):=λm h=>by rw[HM.out];exact Nat.lt_of_le_of_lt (Nat.add_le_add_right h 2) (by decide)
 clear HM;go_loopw [8] (λi wr=>∃m:Nat,i=I Y ((m+1:Nat):Int)/\Hid (a9u w V F s c cap sb pb pc db dc m wr)) (λi _=>M - (intOf i).toNat)
 case atStart=>exact⟨0,rfl,S3⟩
 case round=>
  clear S3;obtain⟨m,rfl,HS⟩:=hrel;obtain⟨D,ap,g⟩:=HS.out.dr;have ax:=n8 HZ.out HS.out.all;have l:IntKind.i64.wrap (((m+1:Nat):Int)+1)=((m+1:Nat):Int)+1:=pt;have ah:=eJ HZ.out m;have ay:Hid (Calls f 49 #[Pp (G ⟨sb,0,E⟩),I Y ((m+1:Nat):Int)] wr λe w'=>e=Rt (O (ia c ((m+1:Nat):Int) (bj V F c m,D)).2.2)/\kI (λb=>w.heap.size<=b/\b≠pb/\b≠db) wr w' pb db (ia c ((m+1:Nat):Int) (bj V F c m,D)).1 (ia c ((m+1:Nat):Int) (bj V F c m,D)).2.1):=by
   have j:=HC.out.below HS.out.lo (lR _);have b1:=HS.out.pr.choose_spec.1.2.1;have b3:=ap.choose_spec.1.2.1;have a6:sT wr sb [I Y V,I Y F,U s (X c) cap,U (G ⟨pb,0,E⟩) (X (bj V F c m)) pc,U (G ⟨db,0,E⟩) (X D) dc]:=by rw[ah.len,g.len];exact HS.out.st
   exact VZ V F s c _ sb pb pc db dc _ _ D wr HZ.out a6 HS.out.pr ap j am.out.1 am.out.2 (λb u=>u.2) (λb u=>⟨lT HS.out.lo.size u,aa,aa⟩) ba.out ah g.len l
  have a7:=ag (CT HZ.out g);have ak:Hid (m<=200000000000000):=by show _<=_;omega
  have bt:=ag (a8.out m ak.out);have bx:(m:Int)<=200000000000000:=by have:=ak.out;omega
  go_wp2_with fail;go_call ay.out as e o ⟨rfl,SS⟩;obtain⟨N1,N2,N3,N4⟩:=HS.out.next HZ.out g SS am.out.2 HN.out;rw[a7.out.2.2];clear ay SS g ap ax ah;rcases j6 (eC c ((m+1:Nat):Int) (bj V F c m)).2 with P|P
  .have a9:=ag (N4 P)
   rw[P];clear P N1 N2 N3 N4;go_wp2;go_roundw
   case rel=>exact⟨m+1,aJ,a9.out⟩
   case measure=>have:=bt.out;simp[intOf];omega
  .have az:Hid (a7x V F c m):=⟨HS.out.all,P⟩
   rw[P];clear P N4;have q3:=N1.1 3 _ rfl;have bm:Hid (w.heap.size<=pb/\a8f (λb=>w.heap.size<=b/\b≠pb) o pb (bj V F c m)):=by
    refine⟨HN.out.1,?_⟩;rw[<-(sd HZ.out az.out).1];exact N3.mono λb u _=>⟨u.1,u.2.1⟩
   clear N3 N1 HS;go_wp2;refine bodyPost_ret (v:=Tu #[U (G ⟨pb,0,E⟩) (X c+1) pc,I Y ((m+1:Nat):Int),I Y 0]) (by simp[results,Tryz.results17,go_sem]) rfl ?_;exact⟨.inr ⟨HZ.out,m,pb,pc,az.out,ak.out,rfl,bm.out⟩,N2⟩
def Wo (V F:Int)(s:oA)(c:lI)(cap:Nat)(w:C)(z:a2r w s c):
  Calls f 17 #[pv V F s c cap] w λe w'=>a5e V F c e w'/\bl w w':=by
 go_call Iy V F s c cap w z as e w' ⟨h|⟨g,m,pb,pc,N,D,Q,-,h4⟩,hb⟩
 .exact⟨.inl h,hb⟩
 .exact⟨.inr ⟨g,m,pb,pc,N,D,Q,h4.xs⟩,hb⟩
end
section
open Go.RowKit
def a6e (w:C)(g:Gs)(ss:oA)(a:Nat)(h:Gs)(i:oA)(z:Nat)(hs:yv w ss g.s)(l:X g.s<=9223372036854775807)(P:yv w i h.s)(b:X h.s<=9223372036854775807):
  Calls f 115 #[I Y 9,gv g ss a,gv h i z] w λe w'=>e=Rt (if (aq g||aq h)=W5 then Tu #[gv a4q E 0,O d] else Tu #[gv ⟨d,⟨W5,0,0⟩,(g.n&&h.n)||(!(aS g.sp h.sp).n||((g.t&&h.t)||((g.f&&h.f)||g.s.any λx=>h.s.contains x))),!dw g h,[]⟩ E 0,O d])/\bl w w':=by
 have v:g.n=W5\/g.n=false:=by cases g.n<;>simp
 have o:h.n=W5\/h.n=false:=by cases h.n<;>simp
 by_cases r:cx g < 0\/cx g≠cx h
 .rcases v with Z|Z
  .rcases o with j|j
   .exact a1r w g ss a h i z hs l P b Z j r
   .exact a0z w g ss a h i z hs l P b Z j r
  .exact YO w g ss a h i z hs l P b Z r
 .have N:¬cx g < 0:=λh=>r (.inl h)
  have D:cx g=cx h:=Classical.byContradiction λh=>r (.inr h);rcases v with Z|Z
  .rcases o with j|j
   .exact YA w g ss a h i z hs l P b Z j N D
   .exact a0I w g ss a h i z hs l P b Z j N D
  .exact Yt w g ss a h i z hs l P b Z N D
def vF {p:Prop}(h:p:=by
 rintro e w' ⟨rfl,hb⟩;cases hn:(aq g||aq h)
 .exact⟨E,0,by rw[if_neg (by simp),Sv (by omega) hn],.inl ⟨by rw[Sv (by omega) hn],rfl,rfl⟩,hb⟩
 .exact⟨E,0,IU,.inl ⟨Kr,rfl,rfl⟩,hb⟩):p:=h
def a3q(g:Gs)(ss:oA)(a:Nat)(h:Gs)(i:oA)(z:Nat)(k:Int)(w:C)(hs:yv w ss g.s)(l:X g.s<=9223372036854775807)(P:yv w i h.s)(b:X h.s<=9223372036854775807)(j:aY V F c [g,h]=0)(Z:¬(k < 4\/10 < k)):
  Calls f 115 #[I Y k,gv g ss a,gv h i z] w λe w'=>∃vs vc,e=Rt (Tu #[gv (de k g h).1 vs vc,O (de k g h).2])/\(((de k g h).1.s=[]/\vs=E/\vc=0)\/(vs=ss/\vc=a/\(de k g h).1.s=g.s))/\bl w w':=by
 obtain⟨-,K,q⟩:=wH j;have m:=ckSp_ok.mp (mb K);have o:=ckSp_ok.mp (mb q);have r:=OG;rcases r with rfl|rfl|rfl|rfl|rfl|rfl|rfl
 .refine(a5V w g ss a h i z).mono ?_
  rintro e w' ⟨rfl,hb⟩;cases hn:aq g
  .exact⟨ss,a,by rw[if_neg (by simp),MF],.inr ⟨rfl,rfl,by rw[MF]⟩,hb⟩
  .exact⟨E,0,by rw[if_pos rfl,MF,uk hn K],.inl ⟨by rw[MF,uk hn K];rfl,rfl,rfl⟩,hb⟩
 .refine(a6r w g ss a h i z m o).mono ?_
  exact vF
 .refine(a5U w g ss a h i z m o).mono ?_
  exact vF
 .refine(a5T w g ss a h i z m o).mono ?_
  exact vF
 .refine(a6D w g ss a h i z).mono ?_
  rintro e w' ⟨rfl,hb⟩;cases hn:(aq g||aq h)
  .exact⟨E,0,by rw[if_neg (by simp),a2s hn],.inl ⟨by rw[a2s hn],rfl,rfl⟩,hb⟩
  .exact⟨E,0,IU,.inl ⟨Kr,rfl,rfl⟩,hb⟩
 .refine(a6e w g ss a h i z hs l P b).mono ?_
  rintro e w' ⟨rfl,hb⟩;cases hn:(aq g||aq h)
  .exact⟨E,0,by rw[if_neg (by simp),a2c hn],.inl ⟨by rw[a2c hn],rfl,rfl⟩,hb⟩
  .exact⟨E,0,IU,.inl ⟨Kr,rfl,rfl⟩,hb⟩
 .refine(a5r w g ss a h i z).mono ?_
  rintro e w' ⟨rfl,hb⟩;cases hn:aq g
  .exact⟨E,0,by rw[if_neg (by simp),Ii],.inl ⟨by rw[Ii],rfl,rfl⟩,hb⟩
  .exact⟨E,0,by rw[if_pos rfl,Ii,uk hn K,no_none.1,no_none.2];rfl,.inl ⟨by rw[Ii],rfl,rfl⟩,hb⟩
end
section
open Go.RowKit
attribute [local go_sem ↓] Go.wp_at_zero Go.wp_at_succ
def G8 {p:Prop}(h:p:=by
 have a0:=AP.1 0 _ rfl;have e0:=EP.1 0 _ rfl;have a1:=AP.1 1 _ rfl;have e1:=EP.1 1 _ rfl;have a2:=AP.1 2 _ rfl;have e2:=EP.1 2 _ rfl;have a3:=AP.1 3 _ rfl;have e3:=EP.1 3 _ rfl;have a4:=AP.1 4 _ rfl;have e4:=EP.1 4 _ rfl;have a5:=AP.1 5 _ rfl;have e5:=EP.1 5 _ rfl;have a6:=AP.1 6 _ rfl;have e6:=EP.1 6 _ rfl;go_wp2_with fail;refine(HDO.out wp BP).mono ?_;rintro e wd ⟨ss,cp,rfl,HJ0,Qs⟩;have HJ:=ag HJ0;clear HJ0 HDO a0 e0 a1 e1 a2 e2 a3 e3 a4 e4 a5 e5 a6 e6 i0 q19 q18 q16 q15 q17 q13 q12 q11 q1 q14 q2 q3;have TQ:=TP.call Qs;have IQ:=IP.call Qs;have YQ:=YP.call Qs;have OQ:=OP.call Qs;have BQ:=BP.trans (Qs.mono BP.size);have YWQ:=YW.trans (Qs.mono YW.size);clear TP IP YP OP BP YW Qs PP XP AP EP;have TP:=TQ;have IP:=IQ;have YP:=YQ;have OP:=OQ;have BP:=BQ;have YW:=YWQ;clear TQ IQ YQ OQ BQ YWQ;have z0:=TP.1 0 _ rfl;have fz0:=TP.2.2 0;have z1:=TP.1 1 _ rfl;have fz1:=TP.2.2 1;have z2:=TP.1 2 _ rfl;have fz2:=TP.2.2 2;have z3:=TP.1 3 _ rfl;have fz3:=TP.2.2 3;have z4:=TP.1 4 _ rfl;have fz4:=TP.2.2 4;have z5:=TP.1 5 _ rfl;have fz5:=TP.2.2 5;have z6:=TP.1 6 _ rfl;have fz6:=TP.2.2 6;go_upto_region 84 with fail
 clear z0 fz0 z1 fz1 z2 fz2 z3 fz3 z4 fz4 z5 fz5 z6 fz6;obtain⟨wx,qr⟩:∃q,q=bd wd (R (M xl)) 0 [O gg.n,O gg.sp.n,I Y gg.sp.lo,I Y gg.sp.hi,O gg.t,O gg.f,U ss (X gg.s) cp]:=⟨_,rfl⟩;have PU:=bC TP 0 _ qr;simp only[bd] at qr;rw[<-qr];clear qr;have TX:=PU.cells;have IX:=PU.keep IP;have YX:=PU.keep YP;have OX:=PU.keep OP;have BX:=PU.low aa BP;have jh:=PU.low aa YW;have qQ:Hid (a7c (λb=>(T b/\b < R (M w))\/R (M w3)<=b) wx ss gg.s):=(PU.ints HJ.out.1 (λq hq=>aa)).mono λb hb _=>.inl hb;have HCP:Hid (X gg.s<=cp/\cp<=maxLen):=HJ.out.2;clear PU HJ HGW;rcases Bool.eq_false_or_eq_true (aq gg) with hn0|hn0
 .have qw:=ag hn0
  clear hn0;have jQ:=RJ;have t0:=TX.1 0 _ rfl;have t1:=TX.1 1 _ rfl;have t2:=TX.1 2 _ rfl;have t3:=TX.1 3 _ rfl;have t4:=TX.1 4 _ rfl;have t5:=TX.1 5 _ rfl;have t6:=TX.1 6 _ rfl;go_wp2_with fail;refine((jQ.out wx).mono ?_);rintro e wy ⟨rfl,xU⟩;clear t0 t1 t2 t3 t4 t5 t6;have TY:=TX.call xU
  have IY:=IX.call xU
  have YY:=YX.call xU
  have OY:=OX.call xU
  have BY:=nj;have qB:=pT;have qx:=mZ;clear TX IX YX OX BX jh jQ qQ;clear TY IY YY OY qB qx;go_wp2;refine bodyPost_ret (v:=Tu #[U E 0 0,O wr,O false]) fT rfl ⟨?_,BY⟩;rw[jR.out,if_pos qw.out];exact tB
 .have qw:=ag hn0
  clear hn0;have jQ:=wQ;have t0:=TX.1 0 _ rfl;have t1:=TX.1 1 _ rfl;have t2:=TX.1 2 _ rfl;have t3:=TX.1 3 _ rfl;have t4:=TX.1 4 _ rfl;have t5:=TX.1 5 _ rfl;have t6:=TX.1 6 _ rfl;go_wp2_with fail;refine((jQ.out wx).mono ?_);rintro e wy ⟨rfl,xU⟩;clear t0 t1 t2 t3 t4 t5 t6;have TY:=TX.call xU
  have IY:=IX.call xU
  have YY:=YX.call xU
  have OY:=OX.call xU
  have BY:=nj;have qB:=pT;have qx:=mZ;clear TX IX YX OX BX jh jQ qQ;have GP:=Eb;have GC:=vX;have jE:kt < X v.l:=AM;obtain⟨vb,zM,jC,hvb,zvb⟩:=mG;have GP2:=uQ;have GS:=GP2.setV zM jE GC;have GU:=uP;obtain⟨⟨u0,u1,u2,u3,u4,u5,u6⟩,uz⟩:=GU;have TH:=GP.vq.thaw zM;have f0:=TH (kt * 7);have f1:=TH (kt * 7+1);have f2:=TH (kt * 7+2);have f3:=TH (kt * 7+3);have f4:=TH (kt * 7+4);have f5:=TH (kt * 7+5);have f6:=TH (kt * 7+6);have y1:=YY.1 1 _ rfl;rw[zM] at y1;have i1:=IY.1 1 _ rfl;rw[jk.out] at i1;have t0:=TY.1 0 _ rfl;have t1:=TY.1 1 _ rfl;have t2:=TY.1 2 _ rfl;have t3:=TY.1 3 _ rfl;have t4:=TY.1 4 _ rfl;have t5:=TY.1 5 _ rfl;have t6:=TY.1 6 _ rfl;have q0:=uy;have q1:=yB;have HEV:=ag zM;have OS:=El;have BS:=uv;have HF:Hid (cC (λb=>T b\/R (M w)<=b) (cR wy vb kt ⟨gg,ss,cp⟩) (Rt (Tu #[U (G ⟨R (M w4),0,E⟩) 1 1,O wr,O false])) (aD i (m:Int) x)):=by
   show cC _ _ _ _;rw[jR.out,if_neg BJ];refine⟨G ⟨R (M w4),0,E⟩,1,rfl,?_⟩;refine mI (S:=(λb=>T b\/R (M w)<=b)) (v:=⟨v.rs,v.rc,v.l.set kt ⟨gg,ss,cp⟩⟩) (L:=L) Ca (.inr aa) GS (λb hb=>hb) (λb hb=>.inr aa) ?_;rw[fQ,<-zY.out,jk.out]
  clear GP GC GP2 GS TH TY IY YY OY OS BY qx zH qB zY zM;obtain⟨wv,jo⟩:∃q,q=cR wy vb kt ⟨gg,ss,cp⟩:=⟨_,rfl⟩;have HF2:=tV;rw[<-jo] at HF2;go_upto_region 87 with fail
  clear u0 u1 u2 u3 u4 u5 u6 uz f0 f1 f2 f3 f4 f5 f6 t0 t1 t2 t3 t4 t5 t6 y1 i1 HF BS;simp only[cR] at jo;rw[<-jo];clear jo;go_wp2;refine bodyPost_ret (v:=Tu #[U (G ⟨R (M w4),0,E⟩) 1 1,O wr,O false]) fT rfl HF2.out):p:=h
def Fw {p:Prop}(h:p:=by
 rw[<-jT] at h;refine h.mono ?_;rintro e w' ⟨ss,cp,h1,h2,h3⟩;refine⟨ss,cp,h1,?_,h3⟩;rcases h2 with⟨e1,rfl,rfl⟩|⟨rfl,rfl,e1⟩
 .exact⟨.inl e1,by rw[e1];exact Nat.zero_le _,Nat.zero_le _⟩
 .have e2:gg.s=x.vq[ka].s:=e1
  rw[e2];exact⟨hga.call h3,GAI.2⟩):p:=h
def Iq {p:Prop}(h:p:=by
 show _=_;unfold aD;rw[e,if_neg sU,if_neg aa,if_neg aa,if_neg aa,if_neg aa,if_neg aa,if_neg aa,if_neg (show¬i.k=11 by omega)]):p:=h
def a0L{vs:oA}{vc:Nat}{fs:oA}{fc:Nat}{w:C}{w3 w4 j xl wp:C}{v:Ro}{gs:oA}{gc:Nat}{L:List Ro}(hx:a7d T w x vs fs)(K:a7l V F c x vc fc i (m:Int))(Z:4<=i.k/\i.k<=10){ka:Nat}{qu:oA}{g:Nat}(qL:ka < X x.vq)(xR:i.a=(ka:Int)){l:Nat}{r:oA}{z:Nat}(D:l < X x.vq)(N:i.b=(l:Int))(a:Hid (a8x T V F s c cap (m:Int) i x vs vc fs fc w wp (R (M w)+1+1) (R (M w3)) (R (M w4)) (R (M j)) (R (M j)+1) (R (M xl)) w3 v gs gc L x.vq[ka] qu g x.vq[l] r z)):SwT (λe w'=>cC (λb=>T b\/R (M w)<=b) w' e (aD i (m:Int) x)/\bl w w') m w w3 w4 j xl wp:=by
 have qW:=fI;have al:=ag N;have xG:=ag Z;clear Z;have HK:=ag K;have HX:=cX;have Q:=K.lens.2.1;have n0:=fa;have n1:=eX;have hm:=dn;have ap:=dF;clear K hx xR N;refine kd rfl λz0 z2 z4 u=> ?_;simp only[j4,j4.loop,List.map];obtain⟨BP,PP,XP,IP,YP,OP,AP,EP,TP,GAI,ab,zH,YW,-,zE,-,o2,o3,o4,o5,o6⟩:=a.out;have zY:=eU;clear zE;have i0:=eH;have ao:=xG.out.1;have am:=xG.out.2;have q19:(i.k==19)=false:=au;have q18:(i.k==18)=false:=au;have q16:(i.k==16)=false:=au;have q15:(i.k==15)=false:=au;have q17:(i.k==17)=false:=au;have q13:(i.k==13)=false:=au;have q12:(i.k==12)=false:=au;have q11:(i.k==11)=false:=au;have q1:(i.k==1)=false:=au;have q14:(i.k==14)=false:=au;have q2:(i.k==2)=false:=au;have q3:(i.k==3)=false:=au;clear ao am;obtain⟨kt,ak,jx⟩:=HK.out.varTo Uq;have jk:=ag ak;clear ak;have ad:=nv;have ah:gAt x i.b=x.vq[l]:=by rw[al.out,la D]
 obtain⟨⟨gg,wr⟩,jT⟩:∃q,q=de i.k x.vq[ka] x.vq[l]:=⟨_,rfl⟩;have HGW:=ag jT;have jR:Hid (aD i (m:Int) x=if aq gg then([],wr,d) else([⟨(m:Int)+1,bq x i.tgt gg⟩],wr,d)):=by
  have hr:=xG.out;have e:br i (m:Int) x=(gg,wr):=by
   unfold br;rw[if_neg aa,if_neg aa,if_neg aa,if_neg aa,if_neg aa,if_neg aa,ad,ah];exact jT.symm
  exact Iq
 have HDO:Hid (∀wx,bl w wx->Calls pG 115 #[I Y i.k,Ag #[O x.vq[ka].n,O x.vq[ka].sp.n,I Y x.vq[ka].sp.lo,I Y x.vq[ka].sp.hi,O x.vq[ka].t,O x.vq[ka].f,U qu (X x.vq[ka].s) g],Ag #[O x.vq[l].n,O x.vq[l].sp.n,I Y x.vq[l].sp.lo,I Y x.vq[l].sp.hi,O x.vq[l].t,O x.vq[l].f,U r (X x.vq[l].s) z]] wx λe w'=>∃ss cp,e=Rt (Tu #[Ag #[O gg.n,O gg.sp.n,I Y gg.sp.lo,I Y gg.sp.hi,O gg.t,O gg.f,U ss (X gg.s) cp],O wr])/\(a7c (λb=>T b/\b < R (M w)) w' ss gg.s/\X gg.s<=cp/\cp<=maxLen)/\bl wx w'):=λwx qC=>by
  have hr:=xG.out;have af:=uL;have P:yv wx r (x.vq[l]:Gs).s/\X (x.vq[l]:Gs).s<=9223372036854775807:=⟨(ab.1.same (w':=wx) (λb hb xy=>qC.block b xy) qC.size).at,by have:=ab.2.1;have:=ab.2.2;unfold maxLen at *;omega⟩
  have hga:=Rl;have h:=a3q (V:=V) (F:=F) (c:=c) x.vq[ka] qu g x.vq[l] r z i.k wx hga.at UE P.1 P.2 (HK.out.duo af (HK.out.kx.gv _ (gM D))) aa;exact Fw
 clear jT ad ah;exact G8
def a0V{vs:oA}{vc:Nat}{fs:oA}{fc:Nat}{w:C}{w3 w4 j xl wp:C}{v:Ro}{gs:oA}{gc:Nat}{L:List Ro}(hx:a7d T w x vs fs)(K:a7l V F c x vc fc i (m:Int))(Z:4<=i.k/\i.k<=10)(l:nB i.k=d){ka:Nat}{qu:oA}{g:Nat}(qL:ka < X x.vq)(xR:i.a=(ka:Int))(a:Hid (a8x T V F s c cap (m:Int) i x vs vc fs fc w wp (R (M w)+1+1) (R (M w3)) (R (M w4)) (R (M j)) (R (M j)+1) (R (M xl)) w3 v gs gc L x.vq[ka] qu g a4q E 0)):SwT (λe w'=>cC (λb=>T b\/R (M w)<=b) w' e (aD i (m:Int) x)/\bl w w') m w w3 w4 j xl wp:=by
 have qW:=fI;have xG:=ag Z;have ad:=ag l;clear Z l;have HK:=ag K;have HX:=cX;have Q:=K.lens.2.1;have n0:=fa;have n1:=eX;have hm:=dn;have ak:=dF;clear K hx xR;refine kd rfl λz0 z2 z4 u=> ?_;simp only[j4,j4.loop,List.map];obtain⟨BP,PP,XP,IP,YP,OP,AP,EP,TP,GAI,N,zH,YW,-,zE,-,o2,o3,o4,o5,o6⟩:=a.out;have zY:=eU;clear zE;have i0:=eH;have ah:=xG.out.1;have af:=xG.out.2;have q19:(i.k==19)=false:=au;have q18:(i.k==18)=false:=au;have q16:(i.k==16)=false:=au;have q15:(i.k==15)=false:=au;have q17:(i.k==17)=false:=au;have q13:(i.k==13)=false:=au;have q12:(i.k==12)=false:=au;have q11:(i.k==11)=false:=au;have q1:(i.k==1)=false:=au;have q14:(i.k==14)=false:=au;have q2:(i.k==2)=false:=au;have q3:(i.k==3)=false:=au;clear ah af;obtain⟨kt,D,jx⟩:=HK.out.varTo Uq;have jk:=ag D;clear D;have r:=nv;obtain⟨⟨gg,wr⟩,jT⟩:∃q,q=de i.k x.vq[ka] a4q:=⟨_,rfl⟩;have HGW:=ag jT;have ab:Hid (∀h,de i.k x.vq[ka] h=de i.k x.vq[ka] a4q):=λh=>by
  have hb:=ad.out;have hr:=xG.out;have:i.k=4\/i.k=10:=by unfold nB btw at hb;simp at hb;omega
  rcases this with e|e<;>rw[e]<;>simp[de]
 have jR:Hid (aD i (m:Int) x=if aq gg then([],wr,d) else([⟨(m:Int)+1,bq x i.tgt gg⟩],wr,d)):=by
  have hr:=xG.out;have e:br i (m:Int) x=(gg,wr):=by
   unfold br;rw[if_neg aa,if_neg aa,if_neg aa,if_neg aa,if_neg aa,if_neg aa,r,ab.out];exact jT.symm
  exact Iq
 have HDO:Hid (∀wx,bl w wx->Calls pG 115 #[I Y i.k,Ag #[O x.vq[ka].n,O x.vq[ka].sp.n,I Y x.vq[ka].sp.lo,I Y x.vq[ka].sp.hi,O x.vq[ka].t,O x.vq[ka].f,U qu (X x.vq[ka].s) g],Ag #[O d,O W5,I Y 0,I Y 0,O d,O d,U E 0 0]] wx λe w'=>∃ss cp,e=Rt (Tu #[Ag #[O gg.n,O gg.sp.n,I Y gg.sp.lo,I Y gg.sp.hi,O gg.t,O gg.f,U ss (X gg.s) cp],O wr])/\(a7c (λb=>T b/\b < R (M w)) w' ss gg.s/\X gg.s<=cp/\cp<=maxLen)/\bl wx w'):=λwx qC=>by
  have hr:=xG.out;have z:=uL;have P:yv wx E (a4q:Gs).s/\X (a4q:Gs).s<=9223372036854775807:=⟨.inl rfl,j3 _⟩;have hga:=Rl;have h:=a3q (V:=V) (F:=F) (c:=c) x.vq[ka] qu g a4q E 0 i.k wx hga.at UE P.1 P.2 (HK.out.duo z (rfl)) aa;exact Fw
 clear jT r ab;exact G8
def WR(V F:Int)(s:oA)(c:lI)(cap:Nat)(at_:Int)(i:Ins)(x:Pic)(vs:oA)(vc:Nat)(fs:oA)(fc:Nat)(w:C)(hn:x.none=W5):
  Calls f 59 #[pv V F s c cap,I Y at_,xv x vs vc fs fc] w λe w'=>cC S w' e (aD i at_ x)/\bl w w':=by
 have e:aD i at_ x=([],d,d):=by unfold aD;rw[if_pos hn]
 have a:xv x vs vc fs fc=Ag #[O W5,U vs (X x.vq) vc,U fs (X x.fq) fc]:=Vc;rw[e,a];clear e a hn;go_enter Tryz.func59,Tryz.ntmps59;go_wp2;refine bodyPost_ret (v:=Tu #[U E 0 0,O d,O d]) fT rfl ⟨⟨E,0,rfl,a8e.nil⟩,ai⟩
def a4j{vs:oA}{vc:Nat}{fs:oA}{fc:Nat}{w:C}(z:a2r w s c)(l:a7d T w x vs fs)(K:a7l V F c x vc fc i (m:Int)):
  Calls f 59 #[pv V F s c cap,I Y (m:Int),xv x vs vc fs fc] w λe w'=>cC (λb=>T b\/R (M w)<=b) w' e (aD i (m:Int) x)/\bl w w':=by
 have Z:=(b9 K.one).1;unfold btw at Z;simp only[Bool.and_eq_true,decide_eq_true_eq] at Z;by_cases N:i.k=1
 .exact iS z l K (by rw[N];rfl) (by rw[N];rfl) (λ_ _ _ _ _ _ _ _ _ a=>a4G l K N a)
 by_cases D:i.k=2
 .exact iS z l K (by rw[D];rfl) (by rw[D];rfl) (λ_ _ _ _ _ _ _ _ _ a=>a3Y l K D a)
 by_cases Q:i.k=3
 .exact iS z l K (by rw[Q];rfl) (by rw[Q];rfl) (λ_ _ _ _ _ _ _ _ _ a=>a3v l K Q a)
 by_cases ah:i.k=11
 .exact iS z l K (by rw[ah];rfl) (by rw[ah];rfl) (λ_ _ _ _ _ _ _ _ _ a=>a2E l K ah a)
 by_cases L:i.k=12
 .exact mg z l K (by rw[L];rfl) (by rw[L];rfl) (λ_ _ _ _ _ _ _ _ _ _ _ _ r g a=>a1Z l K L r g a)
 by_cases ad:i.k=13
 .exact Iv z l K (by rw[ad];rfl) (by rw[ad];rfl) (λ_ _ _ _ _ _ _ _ _ _ _ _ r g _ _ _ u eb a=>a2h l K ad r g u eb a)
 by_cases o:i.k=14
 .exact iS z l K (by rw[o];rfl) (by rw[o];rfl) (λ_ _ _ _ _ _ _ _ _ a=>a1G l K o a)
 by_cases P:i.k=15
 .exact mg z l K (by rw[P];rfl) (by rw[P];rfl) (λ_ _ _ _ _ _ _ _ _ _ _ _ r g a=>a2Z l K P r g a)
 by_cases k:i.k=16
 .exact iS z l K (by rw[k];rfl) (by rw[k];rfl) (λ_ _ _ _ _ _ _ _ _ a=>a2v l K k a)
 by_cases af:i.k=17
 .exact mg z l K (by rw[af];rfl) (by rw[af];rfl) (λ_ _ _ _ _ _ _ _ _ _ _ _ r g a=>a2X l K af r g a)
 by_cases ab:i.k=18
 .exact mg z l K (by rw[ab];rfl) (by rw[ab];rfl) (λ_ _ _ _ _ _ _ _ _ _ _ _ r g a=>a2D l K ab r g a)
 by_cases q:i.k=19
 .exact iS z l K (by rw[q];rfl) (by rw[q];rfl) (λ_ _ _ _ _ _ _ _ _ a=>a1O l K q a)
 have j:4<=i.k/\i.k<=10:=aa;have hA:nA i.k=true:=by unfold nA btw;simp;omega
 rcases j6 (nB i.k) with v|v
 .exact Iv z l K hA v (λ_ _ _ _ _ _ _ _ _ _ _ _ r g _ _ _ u eb a=>a0L l K j r g u eb a)
 .exact mg z l K hA v (λ_ _ _ _ _ _ _ _ _ _ _ _ r g a=>a0V l K j v r g a)
def a0e (T:Nat->Prop)(V F:Int)(s:oA)(c:lI)(cap:Nat)(at_:Int)(x:Pic)(vs:oA)(vc:Nat)(fs:oA)(fc:Nat)(w:C)(z:a2r w s c)(l:a7d T w x vs fs)(g:aA V F c=0)(j:aO V F c x=0)(a:0<=at_)(i:at_ < X c)(N:X x.vq<=vc/\vc<=maxLen)(D:X x.fq<=fc/\fc<=maxLen):
  Calls f 59 #[pv V F s c cap,I Y at_,xv x vs vc fs fc] w λe w'=>cC (λb=>T b\/R (M w)<=b) w' e (aD (bS c at_) at_ x)/\bl w w':=by
 rcases j6 x.none with o|o
 .exact WR V F s c _ _ (bS c at_) x vs vc fs fc w o
 .obtain⟨m,rfl⟩:=j7 a
  exact a4j z l ⟨g,cO j o,rfl,a,i,N,D⟩
def a1M:Pc:=by
 intro V F s c cap w h0;obtain⟨⟨k,j⟩,⟨b,g⟩,l⟩:=fX;obtain⟨v,rfl⟩:=j7 (show 0<=V by omega);obtain⟨f,rfl⟩:=j7 b;go_call Ti v f s c cap w aa aa l as e w' ⟨⟨a,T,fs,i,N,D,Q⟩,u⟩;exact⟨⟨a,T,fs,i,N,D.mono λ_ _ _=>trivial,Q⟩,u⟩
def a3L:UN:=λT V F s c cap at_ x vs vc fs fc w z l g j a i N D=>a0e T V F s c cap at_ x vs vc fs fc w z l g j a i N D
def a4d:Vt:=λS V F c b x y xh xf xk xi xq xm xr xo w l a L K Q i g N D=>by
 cases b with
 |false=>
  have h:=rA d _ (Fe g) x y xh xf xk xi xq xm xr xo w S l a L K Q i g N D;rw[(nF g N D).1] at h;exact h
 |true=>
  have h:=rA W5 _ (a2b g) x y xh xf xk xi xq xm xr xo w S l a L K Q i g N D;rw[(nF g N D).2] at h;exact h
def T8 (V F:Int)(s:oA)(c:lI)(cap:Nat)(w:C)(z:a2r w s c)(g:aA V F c=0):
  Calls f 31 #[pv V F s c cap] w λe w'=>RM V F c e w'/\bl w w':=Wt a1M a3L a4d V F s c cap w z g
end
section
open Go.RowKit
section
variable {B:Nat} {w w':World}
def a9e (B:Nat)(w:World)(vs:oA)(n:Nat):Prop:=∀k,k < n->∃b off a z,vs=G ⟨b,off,E⟩/\B<=b/\b < R (M w)/\Thw w b/\w.cell? ⟨b,off+k * 2,E⟩=G (I Y a)/\w.cell? ⟨b,off+k * 2+1,E⟩=G (I Y z)
def a9v (B:Nat)(w:World)(ts:oA)(n:Nat):Prop:=∀k,k < n->∃b off f m c,ts=G ⟨b,off,E⟩/\w.cell? ⟨b,off+k * 2+1,E⟩=G (U f m c)/\m<=maxLen/\a9e B w f m
def a9x (B:Nat)(w:World)(ls:oA)(n:Nat):Prop:=∀k,k < n->∃b off t,ls=G ⟨b,off,E⟩/\B<=b/\b < R (M w)/\Thw w b/\w.cell? ⟨b,off+k,E⟩=G (.string t)
def a9q (B:Nat)(w:World)(vs:oA)(vn:Nat)(ts:oA)(tn:Nat)(ls:oA)(ln:Nat):Prop:=(vn<=maxLen/\tn<=maxLen/\ln<=maxLen)/\a9e B w vs vn/\a9v B w ts tn/\a9x B w ls ln
def a9e.soft (h:a7m B w w'){vs:oA}{n:Nat}(hi:a9e B w vs n):a9e B w' vs n:=λk Z=>by
 obtain⟨b,q,a,z,e,v,u,P,g,N⟩:=hi k Z;obtain⟨l,r⟩:=h.int g;obtain⟨j,i⟩:=h.int N;exact⟨b,q,l,j,e,v,lL u h.low.size,h.thw b u P,r,i⟩
def a9v.soft (h:a7m B w w'){T:oA}{n:Nat}(hi:a9v B w T n):a9v B w' T n:=λk Z=>by
 obtain⟨b,q,f,m,c,e,z,K,N⟩:=hi k Z;exact⟨b,q,f,m,c,e,h.slice z,K,N.soft h⟩
def a9x.soft (h:a7m B w w'){ls:oA}{n:Nat}(hi:a9x B w ls n):a9x B w' ls n:=λk Z=>by
 obtain⟨b,q,t,e,v,u,P,z⟩:=hi k Z;obtain⟨g,a⟩:=h.string z;exact⟨b,q,g,e,v,lL u h.low.size,h.thw b u P,a⟩
def a9q.soft (h:a7m B w w'){vs T ls:oA}{i l o:Nat}(hi:a9q B w vs i T l ls o):a9q B w' vs i T l ls o:=⟨hi.1,hi.2.1.soft h,hi.2.2.1.soft h,hi.2.2.2.soft h⟩
def a9e.mono {C:Nat}(j:C<=B){vs:oA}{n:Nat}(hi:a9e B w vs n):a9e C w vs n:=λk Z=>by
 obtain⟨b,q,a,z,e,v,h⟩:=hi k Z;exact⟨b,q,a,z,e,lT j v,h⟩
def a9q.mono {C:Nat}{vs T ls:oA}{i l o:Nat}(hi:a9q B w vs i T l ls o)(j:C<=B):a9q C w vs i T l ls o:=⟨hi.1,hi.2.1.mono j,λk Z=>by
 obtain⟨b,q,f,m,c,e,z,K,N⟩:=hi.2.2.1 k Z;exact⟨b,q,f,m,c,e,z,K,N.mono j⟩,λk Z=>by
 obtain⟨b,q,t,e,v,h⟩:=hi.2.2.2 k Z;exact⟨b,q,t,e,lT j v,h⟩⟩
def yY {e:TypeId}{z n m c:Nat}{s:oA}{xs:List mh}(h:w.ownsRow B e z (U s n c) m xs):n<=maxLen:=by
 rcases h.2 with⟨e,a⟩|⟨g,cap,r,e,u,K,j,k,_⟩
 .cases e;exact j3 _
 .cases e;exact lT j k
def a7o.g {v:mh}{l:List Val}(h:a7o w B v l):∃vs vc,v=U vs (X l) vc/\X l<=maxLen/\a9e B w vs (X l):=by
 obtain⟨vs,vc,rfl,r⟩:=h.at;refine⟨vs,vc,rfl,yY h,λk Z=> ?_⟩;rcases r with rfl|⟨b,q,rfl,u,z⟩
 .cases Z
 .exact⟨b,q,_,_,rfl,(aU h rfl).2,u,Thw.own h rfl,(z k Z).1,(z k Z).2⟩
def a7f.g {s:St}{a L l:mh}{o:List mh}(h:a7f w B s a L l o):∃vs vc T m ls lc,a=U vs (X s.vq) vc/\L=U T (X s.things) m/\l=U ls (X s.lines) lc/\a9q B w vs (X s.vq) T (X s.things) ls (X s.lines):=by
 obtain⟨vs,vc,e1,j,N⟩:=h.vq.g;obtain⟨ls,lc,rfl,Q⟩:=StrRow.at h.lines;have P:=h.things;have v:∃T m,L=U T (X s.things) m/\a9v B w T (X s.things):=by
  rcases P.2 with⟨hv,hn⟩|⟨g,cap,r,hv,u,hg,_⟩
  .exact⟨E,0,m8,λk Z=>aa⟩
  .subst hv
   refine⟨G ⟨g,0,E⟩,cap,rfl,λk Z=> ?_⟩;obtain⟨f,i,e,K,hf⟩:=(h.fields k Z).g;refine⟨g,0,f,_,i,rfl,?_,K,hf⟩;rw[Nat.zero_add,P.cellAt (k * 2+1) aa,gr _ _ mS k (by rw[h.count];exact Z),e]
 obtain⟨T,m,rfl,D⟩:=v;refine⟨vs,vc,T,m,ls,lc,e1,rfl,rfl,⟨j,yY P,yY h.lines⟩,N,D,λk Z=> ?_⟩;rcases Q with e|⟨b,q,rfl,u,z⟩
 .rw[e] at Z;cases Z
 .exact⟨b,q,_,rfl,(aU h.lines rfl).2,u,Thw.own h.lines rfl,z k Z⟩
def a9k (B:Nat)(w:World)(es:oA)(n:Nat):Prop:=∀k,k < n->∃b off nn vs vn vc fs fn fc,es=G ⟨b,off,E⟩/\(w.cell? ⟨b,off+k * 4+1,E⟩=G (O nn)/\w.cell? ⟨b,off+k * 4+2,E⟩=G (U vs vn vc)/\w.cell? ⟨b,off+k * 4+3,E⟩=G (U fs fn fc))/\vn<=maxLen/\fn<=1000/\a9g B w vs vn fs fn
def a9f (B:Nat)(w:World)(es:oA)(n:Nat):Prop:=∀k,k < n->∃b off nn vs vn vc fs fn fc,es=G ⟨b,off,E⟩/\(w.cell? ⟨b,off+k * 3,E⟩=G (O nn)/\w.cell? ⟨b,off+k * 3+1,E⟩=G (U vs vn vc)/\w.cell? ⟨b,off+k * 3+2,E⟩=G (U fs fn fc))/\vn<=maxLen/\fn<=1000/\a9g B w vs vn fs fn
def GO {p:Prop}(h:p:=by
 obtain⟨b,off,nn,vs,vn,vc,fs,fn,fc,e,⟨c1,c2,c3⟩,hv,hf,hp⟩:=hi k hk;obtain⟨nn',c1'⟩:=h.bool c1;exact⟨b,off,nn',vs,vn,vc,fs,fn,fc,e,⟨c1',h.slice c2,h.slice c3⟩,hv,hf,hp.soft h⟩):p:=h
def a9k.soft (h:a7m B w w'){m:oA}{n:Nat}(hi:a9k B w m n):a9k B w' m n:=λk hk=>by
 exact GO
def a9f.soft (h:a7m B w w'){m:oA}{n:Nat}(hi:a9f B w m n):a9f B w' m n:=λk hk=>by
 exact GO
def GE {p:Prop}(h:p:=by
 obtain⟨b,off,nn,vs,vn,vc,fs,fn,fc,e,hc,hv,hf,hp⟩:=hi k hk;exact⟨b,off,nn,vs,vn,vc,fs,fn,fc,e,hc,hv,hf,hp.mono hC⟩):p:=h
def a9k.mono {C:Nat}{m:oA}{n:Nat}(hi:a9k B w m n)(hC:C<=B):a9k C w m n:=λk hk=>by
 exact GE
def a9f.mono {C:Nat}{m:oA}{n:Nat}(hi:a9f B w m n)(hC:C<=B):a9f C w m n:=λk hk=>by
 exact GE
end
section
variable {V F:Int} {c:lI}
def Mu {x:Pic}(g:aA V F c=0)(h:aO V F c x=0):X x.fq<=1000:=by
 have Q:=(dM g).2.2;cases hn:x.none with
 |false=>have:=(iH h hn).2.1;omega
 |true=>
  unfold aO at h;split at h
  .cases h
  .rename_i hf
   simp[bW,hn] at hf;simp[hf.2]
def a1p {j:Gs->Gs->Gs}{x y:Pic}(h:aF V F c [x,y]=0):X (aI j x y).fq<=1000:=by
 obtain⟨g,N,D⟩:=tT h;have a:=Mu g N;have b:=Mu g D;unfold aI;split
 .exact b
 .split
  .exact a
  .simp;omega
end
def a2P (B:Nat)(e:Ending)(w':World):Prop:=∃nn us un uc gs gn gc er,e=Rt (Tu #[Ag #[O nn,U us un uc,U gs gn gc],I Y er])/\un<=maxLen/\gn<=1000/\a9g B w' us un gs gn
def a9d.g{e:Ending}{w':C}{x:Pic}{er:Int}(h:a9d B w' e x er)(K:X x.fq<=1000):a2P B e w':=by
 obtain⟨a,T,fs,i,Z,N,D,Q⟩:=h;exact⟨_,a,_,T,fs,_,i,er,Z,lT D.1 D.2,K,N.g λb u=>u⟩
section
variable (V F:Int) (s:oA) (c:lI) (cap:Nat) (x:Pic) (xh:oA) (xf:Nat) (xk:oA) (xi:Nat) (y:Pic) (xq:oA) (xm:Nat) (xr:oA) (xo:Nat) (w:World)
def a6u (b:a2r w s c)(l:a4r w x xh xk)(N:X x.vq<=xf/\xf<=maxLen)(D:X x.fq<=xi/\xi<=maxLen)(a:a4r w y xq xr)(Q:X y.vq<=xm/\xm<=maxLen)(P:X y.fq<=xo/\xo<=maxLen):
  Calls f 32 #[pv V F s c cap,xv x xh xf xk xi,xv y xq xm xr xo] w λe w'=>a2P (R (M w)) e w'/\bl w w':=by
 refine(RK V F s c cap x xh xf xk xi y xq xm xr xo w b l N D a Q P).mono λe w' h=>⟨h.1.g ?_,h.2⟩;split
 .rename_i h0;exact a1p h0
 .exact j3 _
def a6i (b:a2r w s c)(l:a4r w x xh xk)(N:X x.vq<=xf/\xf<=maxLen)(D:X x.fq<=xi/\xi<=maxLen)(a:a4r w y xq xr)(Q:X y.vq<=xm/\xm<=maxLen)(P:X y.fq<=xo/\xo<=maxLen):
  Calls f 33 #[pv V F s c cap,xv x xh xf xk xi,xv y xq xm xr xo] w λe w'=>a2P (R (M w)) e w'/\bl w w':=by
 refine(YZ V F s c cap x xh xf xk xi y xq xm xr xo w b l N D a Q P).mono λe w' h=>⟨h.1.g ?_,h.2⟩;split
 .rename_i h0;exact a1p h0
 .exact j3 _
def a6h (at_:Int)(z:a2r w s c)(l:a4r w x xh xk)(N:X x.vq<=xf/\xf<=maxLen)(D:X x.fq<=xi/\xi<=maxLen):
  Calls f 15 #[pv V F s c cap,I Y at_,xv x xh xf xk xi] w λe w'=>(∃m n j a b er,e=Rt (Tu #[U m n j,O a,O b,I Y er])/\n<=maxLen/\a9k (R (M w)) w' m n)/\bl w w':=by
 go_call yT V F s c cap at_ x xh xf xk xi w z l N D as e w' ⟨⟨m,j,rfl,L⟩,u⟩;have Q:∀e∈(iL V F c at_ x).1,X e.pic.fq<=1000:=λe o=>by
  unfold iL at o;split at o
  .rename_i h
   unfold lw at h;split at h
   .rename_i Z
    obtain⟨g,P⟩:=uj Z;split at h
    .cases h
    .obtain⟨i,rfl⟩:=j7 (show 0<=at_ by omega)
     exact Mu g (kW g P aa e o).1
   .exact absurd h cD
  .cases o
 have v:X (iL V F c at_ x).1<=maxLen:=by
  have K:2<=maxLen:=an;unfold iL;split
  .exact lT (rU _ _ _) K
  .exact j3 _
 refine⟨⟨m,_,j,_,_,_,rfl,v,λk Z=> ?_⟩,u⟩;obtain⟨b,q,e,r,hz,vs,T,fs,fc,⟨-,k1,k2,k3⟩,P,hv,hf⟩:=L k Z;exact⟨b,q,_,vs,_,T,fs,_,fc,e,⟨k1,k2,k3⟩,lT hv.1 hv.2,Q _ (gM Z),P.g λb u=>u⟩
end
def a8f.g{w:C}{L:List Pic}(h:a8f S w pb L)(r:∀b,S b->B<=b)(K:∀x∈L,X x.fq<=1000):a9f B w (G ⟨pb,0,E⟩) (X L):=λk Z=>by
 obtain⟨a,T,fs,i,⟨Q,v,o⟩,P,N,D,-⟩:=h.cell Z;exact⟨pb,0,_,a,_,T,fs,_,i,rfl,by simpa using⟨Q,v,o⟩,lT N.1 N.2,K _ (gM Z),P.g r⟩
section
variable (V F:Int) (s:oA) (c:lI) (cap:Nat) (w:World)
def a6I (z:a2r w s c):Calls f 17 #[pv V F s c cap] w λe w'=>(∃a n pc m L,e=Rt (Tu #[U a n pc,I Y m,I Y (aA V F c)])/\n=X L/\n<=maxLen/\a9f (R (M w)) w' a n/\a8k w' a L/\(aA V F c≠0->L=[])/\(aA V F c=0->∃m,a7x V F c m/\L=bj V F c m))/\bl w w':=by
 go_call Iy V F s c cap w z as e w' ⟨⟨q,rfl⟩|⟨g,m,pb,pc,N,D,rfl,Q,P⟩,u⟩
 .exact⟨⟨E,0,0,0,[],rfl,rfl,j3 _,(λk Z=>by cases Z),(λi hi=>by cases hi),λ_=>rfl,λh=>absurd h q⟩,u⟩
 .have j:=eJ g m
  have o:=(dM g).2.2;have K:61<=maxLen:=an;refine⟨⟨G ⟨pb,0,E⟩,_,pc,_,bj V F c m,by rw[g],j.len.symm,aa,?_,P.xs,λh=>absurd g h,λ_=>⟨m,N,rfl⟩⟩,u⟩;rw[<-j.len];exact P.g (λb u=>u.1) λx l=>Mu g (j.ck x l)
def a6F (r:St)(vs:oA)(vc:Nat)(T:oA)(m:Nat)(ls:oA)(lc:Nat)(z:a2r w s c)(K:gY r)(j:a7s w r vs T ls)(b:Tab w)(h:(X r.lines+1) * 16<=140737488355328):
  Calls pG 14 #[pv V F s c cap,dA r vs vc T m ls lc,U E 0 0] w λe w'=>(∃a vs i vc T l m k ls o lc f er,e=Rt (Tu #[Ag #[I Y a,U vs i vc,U T l m,I Y k,U ls o lc,I Y f],I Y er])/\a9q (R (M w)) w' vs i T l ls o)/\bl w w':=by
 by_cases g:cu V F c r=0
 .have p:aA V F c=0:=by
   unfold cu at g;split at g
   .assumption
   .exact g
  have P:=cU p;obtain⟨v,rfl⟩:=j7 (show 0<=V by have:=P.v1;omega);obtain⟨f,rfl⟩:=j7 P.f0;go_call Hg v f s c cap r vs vc T m ls lc E 0 [] w z K j (.inl rfl) b h g as e w' ⟨vv,L,lv,fv,rfl,OR,u⟩;obtain⟨xq,xm,Q,N,D,ab,rfl,rfl,rfl,q⟩:=OR.g;exact⟨⟨_,_,_,_,_,_,_,_,_,_,_,_,_,rfl,q⟩,u⟩
 .refine(TU V F s c cap r vs vc T m ls lc E 0 [] w z K j g).mono ?_
  rintro e w' ⟨rfl,u⟩;exact⟨⟨_,E,0,0,E,0,0,_,E,0,0,_,_,rfl,⟨j3 _,j3 _,j3 _⟩,(λk Z=>by cases Z),(λk Z=>by cases Z),(λk Z=>by cases Z)⟩,u⟩
end
def a3o (x:Pic)(xh:oA)(xf:Nat)(xk:oA)(xi:Nat)(xq:oA)(xm:Nat)(xr:oA)(xo:Nat)(w:C)(K:Aa x)(N:a4r w x xh xk)(D:a4r w x xq xr):Calls f 34 #[xv x xh xf xk xi,xv x xq xm xr xo] w λe w'=>e=Rt (O W5)/\bl w w':=by
 go_call mk x x xh xf xk xi xq xm xr xo w K N D as e w' ⟨⟨b,rfl,h⟩,u⟩;rw[h.2 rfl];exact⟨rfl,u⟩
def a5X (a:List Pic)(z:oA)(v:Nat)(K:oA)(o:Nat)(w:C)(r:X a<=maxLen)(N:a8k w z a)(D:a8k w K a):Calls f 36 #[U z (X a) v,U K (X a) o] w λe w'=>e=Rt (O W5)/\bl w w':=by
 go_call DN a a z v K o w r N D as e w' ⟨⟨b,rfl,h⟩,u⟩;rw[h.2 rfl];exact⟨rfl,u⟩
def a9y (r:St):Prop:=X r.vq<=8796093021952/\(∀t∈r.things,X t.fs<=8796093021952)/\X r.things<=4398046510976/\(X r.lines+1) * 16<=140737488355328
def a9y.len {r:St}(h:a9y r):gY r:=by
 have K:9000000000000<=maxLen:=an;obtain⟨N,D,Q,P⟩:=h;exact⟨aa,aa,aa,λt a=>by have:=D t a;omega⟩
def a6o(T:oA)(m:Nat)(ls:oA)(lc:Nat)(w:C)(j:a7s w r vs T ls)(u:a9y r):
  Calls f 30 #[dA r vs vc T m ls lc] w λe w'=>∃t,e=Rt t/\OnS (λb=>R (M w)<=b) w' (Oi r t)/\bl w w':=by
 obtain⟨N,D,Q,P⟩:=u;go_call Sf r vs vc T m ls lc w j N D Q aa as e w' ⟨a,L,l,o,rfl,v,u⟩;refine⟨_,rfl,λg D i=> ?_,u⟩;obtain⟨xq,xm,z,ad,ab,K,rfl,rfl,rfl,q⟩:=(v.same (w':=g) λk Z=>D k (v.lt Z).2 (v.lt Z).1).at;exact⟨_,_,_,_,_,_,rfl,q⟩
end
section
open Go.RowKit
attribute [local go_sem ↓] Go.wp_at_zero Go.wp_at_succ
def Fg:Pic:=⟨false,[dt],[[],[]]⟩
def TC(w:C)(z:a2r w (G ⟨b,0,E⟩) aV):
  Calls f 38 #[pv 1 0 (G ⟨b,0,E⟩) aV 2] w λe w'=>∃vs vc fs fc,e=Rt (Tu #[(Ag #[O d,U vs 1 vc,U fs 2 fc]),I Y 0])/\a4r w' Fg vs fs/\(1<=vc/\vc<=maxLen)/\(2<=fc/\fc<=maxLen)/\bl w w':=by
 have h:=Bk 1 0 _ aV 2 w z;have k:=tE;rw[k,if_pos rfl,show bK 1 0 aV=Fg from rfl] at h;go_call h as e w' ⟨⟨vs,vc,fs,fc,rfl,P,D,Q⟩,u⟩;exact⟨vs,vc,fs,fc,rfl,P.at,D,Q,u⟩
def a6q (w:World)(es:oA):Prop:=∃b off,es=G ⟨b,off,E⟩/\∃vs vc vb vo,w.cell? ⟨b,off,E⟩=G (I Y 1)/\w.cell? ⟨b,off+2,E⟩=G (U vs 1 vc)/\vs=G ⟨vb,vo,E⟩/\w.cell? ⟨vb,vo+1,E⟩=G (O false)/\w.cell? ⟨vb,vo+2,E⟩=G (I Y 5)/\w.cell? ⟨vb,vo+3,E⟩=G (I Y 5)
def W0(fs:oA)(fc:Nat)(w:C)(z:a2r w (G ⟨b,0,E⟩) aV)(P:a4r w Fg vs fs)(N:1<=vc/\vc<=maxLen)(D:2<=fc/\fc<=maxLen):
  Calls f 15 #[pv 1 0 (G ⟨b,0,E⟩) aV 2,I Y 0,(Ag #[O d,U vs 1 vc,U fs 2 fc])] w λe w'=>(∃m j,e=Rt (Tu #[U m 1 j,O d,O d,I Y 0])/\a6q w' m)/\bl w w':=by
 have h:=yT 1 0 _ aV 2 0 Fg vs vc fs fc w z P N D;have k:lw 1 0 aV 0 Fg=0:=cI;have Z:iL 1 0 aV 0 Fg=([⟨1,⟨d,[⟨d,⟨d,5,5⟩,d,d,[]⟩],[[],[]]⟩⟩],d,d):=by unfold iL;rw[k,if_pos rfl];rfl
 rw[k,Z] at h;go_call h as e w' ⟨⟨m,j,rfl,L⟩,u⟩;refine⟨⟨m,j,rfl,?_⟩,u⟩;obtain⟨b,q,Z,_,_,us,uc,gs,a,⟨Q,v,o,l⟩,i,_⟩:=L 0 ae;obtain⟨g,vo,e2,ss,sc,⟨⟨d0,T,r,K,_⟩,_⟩,_⟩:=i.at.1 0 ae;simp only[Nat.zero_mul,Nat.add_zero] at Q o T r K;exact⟨b,q,Z,us,uc,g,vo,Q,o,e2,T,r,K⟩
def Mo (w:C):Calls f 10 #[] w λe w'=>e=Rt (O W5)/\bl w w':=by
 go_enter Tryz.func10,Tryz.ntmps10;go_wp2_with fail;go_call dI _ as e w1 ⟨D,rfl,Z,vZ⟩;go_wp2_with fail;go_call TC _ _ Z as e w2 ⟨vs,vc,fs,fc,rfl,af,N,hf,xj⟩;have B2:=lK;have xp:=Oy;have ad:=X3.new w2 28 (O d) (U vs 1 vc) (U fs 2 fc);have ak:=af.call xp;have L:=ir;clear vZ xj Z af B2 xp;go_upto_region 2 with fail
 generalize w2.alloc _=w3 at *;generalize (R (M w2))=xb at *;have X4:X3 w3.drew xb (O d) (U vs 1 vc) (U fs 2 fc):=ad;have ah:a4r w3.drew Fg vs fs:=ak;have B4:=L.drew;refine wp_region_held_drew (S:=(λu=>(u.cell? ⟨xb,0,E⟩=G (O d)/\u.cell? ⟨xb,1,E⟩=G (U vs 1 vc)/\u.cell? ⟨xb,2,E⟩=G (U fs 2 fc)))) ac X4.1 (λao=> ?_);clear ad ak L;generalize w3.drew=w4 at *;refine QO 1 ?_;refine rH1 0 λK r=> ?_;go_simp;go_call dI _ as e w5 ⟨b5,rfl,C5,l⟩;have X5:=X4.call l;have ab:=ah.call l;have z:=B4.trans (l.mono (B4.size));refine r.out _ _ (X5.1) (λam=> ?_);clear r K l X4 ah B4;refine sm ?_;refine rH1 2 λK r=> ?_;go_simp;go_call W0 _ vs vc fs fc w5 C5 ab N hf as e T ⟨⟨m,j,rfl,ES⟩,b⟩;have X6:=X5.call b;have ap:=ab.call b;have C6:=C5.call b;have B6:=z.trans (b.mono (z.size));refine r.out _ _ (X6.1) (λal=> ?_);clear r K b X5 ab C5 z;refine sm ?_;refine XE ?_;refine QO 5 ?_;refine QO 6 ?_;refine QO 7 ?_;refine XD ?_;refine QO 11 ?_;refine wpAnyH_done ac ?_ _;obtain⟨eb,eo,rfl,us,uc,g,vo,k0,k,rfl,d1,d2,d3⟩:=ES;go_wp2;refine bodyPost_ret (v:=O W5) ac rfl ⟨rfl,B6⟩
def rp:a7x 1 0 aV 1:=by
 refine⟨λk Z=> ?_,cI⟩;have:k=0:=aa;subst this;decide+kernel
def tX:aA 1 0 aV=0:=cI
def Ls {V F:Int}{c:lI}(g:aA V F c=0):∀{L:List Pic},(∀x∈L,aO V F c x=0)->hU V F c L=0
 |[],_=>rfl
 |y::r,h=>by
  have e:aF V F c [y]=0:=by unfold aF;rw[if_pos g];unfold cN;rw[if_pos (h y (by simp))];rfl
  unfold hU;rw[if_pos e];exact Ls g λx l=>h x (by simp[l])
def YH(g:aA V F c=0)(h:a7x V F c m):mi V F c (bj V F c m)=0/\gQ V F c (bj V F c m)=true:=by
 have l:=eJ g m;have e:mi V F c (bj V F c m)=0:=by unfold mi;rw[if_pos g,if_pos l.len];exact Ls g l.ck
 refine⟨e,?_⟩;unfold gQ;rw[e,(sd g h).2];rfl
def Wl(w:C)(z:a2r w (G ⟨b,0,E⟩) aV):Calls f 17 #[pv 1 0 (G ⟨b,0,E⟩) aV 2] w λe w'=>(∃pb pc:Nat,e=Rt (Tu #[U (G ⟨pb,0,E⟩) 3 pc,I Y 2,I Y 0])/\Hid (a8k w' (G ⟨pb,0,E⟩) (bj 1 0 aV 1))/\w'.cell? ⟨pb,6,E⟩=G (O d))/\bl w w':=by
 go_call Wo 1 0 _ aV 2 w z as e w' ⟨h,u⟩;refine⟨?_,u⟩;rcases h with⟨h,_⟩|⟨_,m,pb,pc,hs,_,rfl,l⟩
 .exact absurd tX h
 .obtain rfl:=hs.one rp
  refine⟨pb,pc,rfl,l,?_⟩;obtain⟨g,o,j,_,a,T,fs,i,⟨Q,_⟩,_⟩:=l 2 cI;cases j;have k:((bj 1 0 aV 1)[2]'(by decide+kernel)).none=false:=cI;rw[k] at Q;simpa using Q
def YG(pb pc:Nat)(w:C)(z:a2r w (G ⟨b,0,E⟩) aV)(l:a8k w (G ⟨pb,0,E⟩) (bj 1 0 aV 1)):Calls f 18 #[pv 1 0 (G ⟨b,0,E⟩) aV 2,U (G ⟨pb,0,E⟩) 3 pc] w λe w'=>e=Rt (Tu #[O W5,I Y 0])/\bl w w':=by
 have h:=YU 1 0 _ aV 2 _ _ pc w z l cI (YH tX rp).2;rw[(YH tX rp).1,(YH tX rp).2,show X (bj 1 0 aV 1)=3 by decide+kernel] at h;exact h
def KI (w:C):Calls f 16 #[] w λe w'=>e=Rt (O W5)/\bl w w':=by
 go_enter Tryz.func16,Tryz.ntmps16;go_wp2_with fail;go_call dI _ as e b ⟨D,rfl,Z,vZ⟩;go_wp2_with fail;go_call Wl _ _ Z as e g ⟨⟨pb,pc,rfl,X2,k⟩,xj⟩;have B2:=lK;have o:=Q5 g _ k;clear Z vZ xj;go_wp2_with fail;go_call dI _ as e w3 ⟨q,rfl,a,xp⟩;have X3:=ag (X2.out.below xp (lR _));have r:w3.cell? ⟨pb,6,E⟩=G (O d):=by rw[xp.cell (by simp only;exact o)];exact k
 have B3:=ir;have m:=xp.size;clear X2 k B2 xp;go_wp2_with fail;go_call YG _ _ _ _ a X3.out as e i ⟨rfl,xD⟩;have l:i.cell? ⟨pb,6,E⟩=G (O d):=by rw[xD.cell (by simp only;omega)];exact r
 have j:=ug;clear X3 a r B3 xD;go_wp2;refine bodyPost_ret (v:=O W5) ac rfl ⟨rfl,j⟩
def cpQ (x y:Pic)(r:St)(i:Nat)(t:Value)(w:World):Prop:=match i with|0=>tR x t w|1=>tR y t w|_=>Oi r t w
def cpZ (i:Nat):List Value:=match i with|0=>[O false,U E 0 0,U E 0 0]|1=>[O false,U E 0 0,U E 0 0]|_=>[I Y 0,U E 0 0,U E 0 0,I Y 0,U E 0 0,I Y 0]
def cpT (i:Nat):TypeId:=match i with|0=>28|1=>28|_=>33
def uq {p:Prop}(h:p:=by
 rintro e w' ⟨t,rfl,hq,qC⟩;have hk:=jq _ _ (hK t w' qC hq);clear jq hK;rw[jr] at hk;simp only[Act.put,List.setIfInBounds_toArray,List.set_cons_zero,List.set_cons_succ] at hk;go_wp2_with fail;exact hk):p:=h
def Gy {p:Prop}(h:p:=by
 subst e;have HP:=ag hp;clear hp;go_wp2_with fail;refine(yR wA.heap.size nn vs' vn vc' fs' fn fc' wr HP.out (lT zB SR.low.size) hv hf).mono ?_;rintro e w19 ⟨⟨e19,rfl⟩,S19⟩;have SX:=ag (SR.trans S19);go_wp2;go_roundw
 case rel=>exact⟨q+1,aa,aJ,SX.out⟩
 case measure=>exact aK):p:=h
def yA {p:Prop}(h:p:=by
 replace hK:=jq _ _ hK;clear jq;rw[jr] at hK |-;simp only[Act.put,List.setIfInBounds_toArray,List.set_cons_zero,List.set_cons_succ] at hK |-;go_simp;exact hK):p:=h
def Fh (V F:Int)(s:oA)(c:lI)(cap:Nat)(at_:Int)(x:Pic)(xh:oA)(xf:Nat)(xk:oA)(xi:Nat)(y:Pic)(xq:oA)(xm:Nat)(xr:oA)(xo:Nat)(r:St)(vs:oA)(vc:Nat)(T:oA)(tc:Nat)(ls:oA)(lc:Nat)(w:C)(z:a2r w s c)(l:a4r w x xh xk)(hy:a4r w y xq xr)(hr:a7s w r vs T ls)(c9:Wp x)(d5:Wp y)(cr:a9y r)(hT:Tab w):
  Calls pG 9 #[pv V F s c cap,I Y at_,xv x xh xf xk xi,xv y xq xm xr xo,dA r vs vc T tc ls lc] w λe w'=>e=Rt (O W5)/\bl w w':=by
 have e9:=ag λwx (hb:bl w wx)=>a3p x xh xf xk xi wx (l.below hb (lR _)) c9;have e6:=ag λwx (hb:bl w wx)=>a3p y xq xm xr xo wx (hy.below hb (lR _)) d5
 have ff:=ag λwx (hb:bl w wx)=>a6o r vs vc T tc ls lc wx (hr.below hb (lR _)) cr;unfold xv dA;have B0:n4 w.heap.size w ((((w.alloc (A #[I Y V,I Y F,U s (X c) cap] 24)).alloc (A #[O x.none,U xh (X x.vq) xf,U xk (X x.fq) xi] 28)).alloc (A #[O y.none,U xq (X y.vq) xm,U xr (X y.fq) xo] 28)).alloc (A #[I Y r.at_,U vs (X r.vq) vc,U T (X r.things) tc,I Y r.taken,U ls (X r.lines) lc,I Y r.fin] 33)):=ai;have P0:=(sT.new w 24 [I Y V,I Y F,U s (X c) cap]).call (w':=((((w.alloc (A #[I Y V,I Y F,U s (X c) cap] 24)).alloc (A #[O x.none,U xh (X x.vq) xf,U xk (X x.fq) xi] 28)).alloc (A #[O y.none,U xq (X y.vq) xm,U xr (X y.fq) xo] 28)).alloc (A #[I Y r.at_,U vs (X r.vq) vc,U T (X r.things) tc,I Y r.taken,U ls (X r.lines) lc,I Y r.fin] 33))) ai;have X0:=(sT.new (w.alloc (A #[I Y V,I Y F,U s (X c) cap] 24)) 28 [O x.none,U xh (X x.vq) xf,U xk (X x.fq) xi]).call (w':=((((w.alloc (A #[I Y V,I Y F,U s (X c) cap] 24)).alloc (A #[O x.none,U xh (X x.vq) xf,U xk (X x.fq) xi] 28)).alloc (A #[O y.none,U xq (X y.vq) xm,U xr (X y.fq) xo] 28)).alloc (A #[I Y r.at_,U vs (X r.vq) vc,U T (X r.things) tc,I Y r.taken,U ls (X r.lines) lc,I Y r.fin] 33))) ai;have Y0:=(sT.new ((w.alloc (A #[I Y V,I Y F,U s (X c) cap] 24)).alloc (A #[O x.none,U xh (X x.vq) xf,U xk (X x.fq) xi] 28)) 28 [O y.none,U xq (X y.vq) xm,U xr (X y.fq) xo]).call (w':=((((w.alloc (A #[I Y V,I Y F,U s (X c) cap] 24)).alloc (A #[O x.none,U xh (X x.vq) xf,U xk (X x.fq) xi] 28)).alloc (A #[O y.none,U xq (X y.vq) xm,U xr (X y.fq) xo] 28)).alloc (A #[I Y r.at_,U vs (X r.vq) vc,U T (X r.things) tc,I Y r.taken,U ls (X r.lines) lc,I Y r.fin] 33))) ai;have R0:=sT.new (((w.alloc (A #[I Y V,I Y F,U s (X c) cap] 24)).alloc (A #[O x.none,U xh (X x.vq) xf,U xk (X x.fq) xi] 28)).alloc (A #[O y.none,U xq (X y.vq) xm,U xr (X y.fq) xo] 28)) 33 [I Y r.at_,U vs (X r.vq) vc,U T (X r.things) tc,I Y r.taken,U ls (X r.lines) lc,I Y r.fin];rw[zA] at X0;rw[zA,zA] at Y0;rw[zA,zA,zA] at R0;go_enter Tryz.func9,Tryz.ntmps9;go_upto_region 1 with fail
 generalize ((((w.alloc _).alloc _).alloc _).alloc _)=w1 at *;go_wp2_with fail;go_call Ow w1 (hT.below B0) as e w2 ⟨rfl,co⟩;go_wp2_with fail;go_call Dx w2 as e w3 ⟨rfl,d3⟩;go_wp2_with fail;go_call Mo w3 as e w4 ⟨rfl,a6⟩;go_wp2_with fail;go_call KI w4 as e w5 ⟨rfl,a9⟩;have af:=(((co.trans (d3.mono co.size)).trans (a6.mono (lT co.size d3.size))).trans (a9.mono (lT co.size (lT d3.size a6.size)))).drew;have P5:=P0.call af;have X5:=X0.call af;have Y5:=Y0.call af;have R5:=R0.call af;have B5:=B0.trans (af.mono B0.size);clear B0 P0 X0 Y0 R0 co d3 a6 a9 af;go_upto_region 3 with fail
 rename_i K9 hK9;have c3:=ag hK9;clear hK9;have cp:Hid (∀wx,n4 w5.drew.heap.size w5.drew wx->(wx.cell? ⟨w.heap.size+1,0,E⟩=G (O x.none)/\wx.cell? ⟨w.heap.size+1,1,E⟩=G (U xh (X x.vq) xf)/\wx.cell? ⟨w.heap.size+1,2,E⟩=G (U xk (X x.fq) xi))/\(wx.cell? ⟨w.heap.size+1+1,0,E⟩=G (O y.none)/\wx.cell? ⟨w.heap.size+1+1,1,E⟩=G (U xq (X y.vq) xm)/\wx.cell? ⟨w.heap.size+1+1,2,E⟩=G (U xr (X y.fq) xo))/\wx.cell? ⟨w.heap.size+1+1+1,0,E⟩=G (I Y r.at_)/\wx.cell? ⟨w.heap.size+1+1+1,1,E⟩=G (U vs (X r.vq) vc)/\wx.cell? ⟨w.heap.size+1+1+1,2,E⟩=G (U T (X r.things) tc)/\wx.cell? ⟨w.heap.size+1+1+1,3,E⟩=G (I Y r.taken)/\wx.cell? ⟨w.heap.size+1+1+1,4,E⟩=G (U ls (X r.lines) lc)/\wx.cell? ⟨w.heap.size+1+1+1,5,E⟩=G (I Y r.fin)):=λwx hb=>by
  have a:=X5.call hb;have b:=Y5.call hb;have d:=R5.call hb;exact⟨⟨a.1 0 _ rfl,a.1 1 _ rfl,a.1 2 _ rfl⟩,⟨b.1 0 _ rfl,b.1 1 _ rfl,b.1 2 _ rfl⟩,d.1 0 _ rfl,d.1 1 _ rfl,d.1 2 _ rfl,d.1 3 _ rfl,d.1 4 _ rfl,d.1 5 _ rfl⟩
 refine XK [9,10,11] ac cp.out (bR _ _) (λbg=> ?_);generalize w5.drew=wD at *;refine QN 0 ?_;refine QN 2 ?_;refine QN 4 ?_;refine a1C (p:=λa=>cH _ _ _ _ _ _ _ _ a _) (λa0 jr=> ?_);have I0:R3 wD.heap.size wD (cpQ x y r) cpZ 0 (λ_=>E) (λ_=>undef) (λ_=>undef) wD:=⟨bR _ _,lR _,λi hi=>absurd hi aa,(λj b h=>bU),(λj k b h=>bU)⟩;have ea:a0=(λv u:Nat->Value=>((((((a0.put (G 51) (v 0)).put (G 53) (v 1)).put (G 55) (v 2)).put (G 11) (u 0)).put (G 12) (u 1)).put (G 13) (u 2))) (λ_=>undef) (λ_=>undef):=by
  rw[jr];simp only[Act.put,q5,j8,j9]
 rw[ea];refine a6H (N:=wD.heap.size) (wD:=wD) (q:=cpQ x y r) (Z:=cpZ) (ty:=cpT) (λv u:Nat->Value=>((((((a0.put (G 51) (v 0)).put (G 53) (v 1)).put (G 55) (v 2)).put (G 11) (u 0)).put (G 12) (u 1)).put (G 13) (u 2))) ?_ cp.out ?_ ?_ ?_ 6 0 (λ_=>E) (λ_=>undef) (λ_=>undef) wD rfl aa I0
 .clear c3 ea jr
  intro n p hn;unfold rY W8;generalize (p 0).isSome=c0;generalize (p 1).isSome=c1;generalize (p 2).isSome=c2
  match n,hn with
  |0,_=>cases c0<;>cases c1<;>cases c2<;>(show _=_;kernel_rfl)
  |1,_=>cases c0<;>cases c1<;>cases c2<;>(show _=_;kernel_rfl)
  |2,_=>cases c0<;>cases c1<;>cases c2<;>(show _=_;kernel_rfl)
  |3,_=>cases c0<;>cases c1<;>cases c2<;>(show _=_;kernel_rfl)
 .intro n hn v u wx hb K hK
  clear ea c3 I0 bg cp P5 X5 Y5 R5;obtain rfl|rfl|rfl:n=0\/n=1\/n=2:=aa
  .refine wpOp_step rfl (λK' jq=> ?_)
   rw[jr];simp only[Act.put,q5,j8,j9];go_simp;go_at_call 29;refine(e9.out wx (B5.trans (hb.mono B5.size))).mono ?_;exact uq
  .refine wpOp_step rfl (λK' jq=> ?_)
   rw[jr];simp only[Act.put,q5,j8,j9];go_simp;go_at_call 29;refine(e6.out wx (B5.trans (hb.mono B5.size))).mono ?_;exact uq
  .refine wpOp_step rfl (λK' jq=> ?_)
   rw[jr];simp only[Act.put,q5,j8,j9];go_simp;go_at_call 30;refine(ff.out wx (B5.trans (hb.mono B5.size))).mono ?_;exact uq
 .intro j hj v u wx K hK
  clear ea c3 I0 bg cp e9 e6 ff P5 X5 Y5 R5 B5;obtain rfl|rfl|rfl:j=0\/j=1\/j=2:=aa
  .refine wpOp_step rfl (λK' jq=> ?_)
   exact yA
  .refine wpOp_step rfl (λK' jq=> ?_)
   exact yA
  .refine wpOp_step rfl (λK' jq=> ?_)
   exact yA
 .intro p v u wq h hp
  clear ea I0 bg cp e9 e6 ff;obtain⟨b0,e0⟩:=q6.1 (hp 0 aa);obtain⟨b1,e1⟩:=q6.1 (hp 1 aa);obtain⟨b2,e2⟩:=q6.1 (hp 2 aa);obtain⟨u0,n0,c0⟩:=h.bx 0 b0 e0;obtain⟨u1,n1,c1⟩:=h.bx 1 b1 e1;obtain⟨u2,n2,c2⟩:=h.bx 2 b2 e2;have e4:b0≠b1:=λe=>by have:=h.ne 0 1 b0 e0 (by rw[e];exact e1);omega
  have ez:b0≠b2:=λe=>by have:=h.ne 0 2 b0 e0 (by rw[e];exact e2);omega
  have fd:b1≠b2:=λe=>by have:=h.ne 1 2 b1 e1 (by rw[e];exact e2);omega
  obtain⟨bs,b7,bm,b6,e8,dq,dv,-⟩:tR x (v 0) wq:=h.cp 0 aa wq (λ_ _ _=>rfl) (lR _);obtain⟨cg,c5,ca,c4,e3,fg,e5,-⟩:tR y (v 1) wq:=h.cp 1 aa wq (λ_ _ _=>rfl) (lR _);obtain⟨rv,ds,rt,d4,rl,c8,e7,-⟩:Oi r (v 2) wq:=h.cp 2 aa wq (λ_ _ _=>rfl) (lR _);have fq:Hid (∀w2:C,(∀b,wD.heap.size<=b->b≠b0->b≠b1->b≠b2->b < wq.heap.size->w2.heap[b]? =wq.heap[b]?)->wq.heap.size<=w2.heap.size->a4r w2 x bs bm):=λw2 D hz=>by
   obtain⟨_,_,_,_,e,-,-,hp⟩:tR x (v 0) w2:=h.cp 0 aa w2 (λb hb b8=>D b hb.1 (λe=>hb.2 0 (by rw[e0,e])) (λe=>hb.2 1 (by rw[e1,e])) (λe=>hb.2 2 (by rw[e2,e])) b8) hz;rw[e8] at e;obtain⟨rfl,rfl⟩:=YJ e;exact hp
  have ga:Hid (∀w2:C,(∀b,wD.heap.size<=b->b≠b0->b≠b1->b≠b2->b < wq.heap.size->w2.heap[b]? =wq.heap[b]?)->wq.heap.size<=w2.heap.size->a4r w2 y cg ca):=λw2 D hz=>by
   obtain⟨_,_,_,_,e,-,-,hp⟩:tR y (v 1) w2:=h.cp 1 aa w2 (λb hb b8=>D b hb.1 (λe=>hb.2 0 (by rw[e0,e])) (λe=>hb.2 1 (by rw[e1,e])) (λe=>hb.2 2 (by rw[e2,e])) b8) hz;rw[e3] at e;obtain⟨rfl,rfl⟩:=YJ e;exact hp
  have g4:Hid (∀w2:C,(∀b,wD.heap.size<=b->b≠b0->b≠b1->b≠b2->b < wq.heap.size->w2.heap[b]? =wq.heap[b]?)->wq.heap.size<=w2.heap.size->a7s w2 r rv rt rl):=λw2 D hz=>by
   obtain⟨_,_,_,_,_,_,e,hp⟩:Oi r (v 2) w2:=h.cp 2 aa w2 (λb hb b8=>D b hb.1 (λe=>hb.2 0 (by rw[e0,e])) (λe=>hb.2 1 (by rw[e1,e])) (λe=>hb.2 2 (by rw[e2,e])) b8) hz;rw[e7] at e;obtain⟨rfl,rfl,rfl⟩:=a2a e;exact hp
  have BX:=h.lo;rw[jr];simp only[Act.put,q5,j8,j9];rw[u0,u1,u2,e8,e3,e7];clear h hp e0 e1 e2 u0 u1 u2 e8 e3 e7 jr;unfold xv dA;refine aM (i:=9) rfl ac ac (λK hK=> ?_);have k0:=c0.1 0 _ rfl;have f0:=c0.2.2 0;have k1:=c0.1 1 _ rfl;have f1:=c0.2.2 1;have k2:=c0.1 2 _ rfl;have f2:=c0.2.2 2;go_simp;obtain⟨w1,ab⟩:∃q,q=bd wq b0 0 [O x.none,U bs (X x.vq) b7,U bm (X x.fq) b6]:=⟨_,rfl⟩;have bc:=bC c0 0 _ ab (by simp[cpZ]);simp only[bd] at ab;rw[<-ab];refine hK.out _ _ ?_;clear hK K ab k0 f0 k1 f1 k2 f2;refine sm ?_;replace c1:=c1.same (bc.far b1 (Ne.symm e4)) bc.size;replace c2:=c2.same (bc.far b2 (Ne.symm ez)) bc.size;refine aM (i:=10) rfl ac ac (λK hK=> ?_);have k0:=c1.1 0 _ rfl;have f0:=c1.2.2 0;have k1:=c1.1 1 _ rfl;have f1:=c1.2.2 1;have k2:=c1.1 2 _ rfl;have f2:=c1.2.2 2;go_simp;obtain⟨w2,ab⟩:∃q,q=bd w1 b1 0 [O y.none,U cg (X y.vq) c5,U ca (X y.fq) c4]:=⟨_,rfl⟩;have be:=bC c1 0 _ ab (by simp[cpZ]);simp only[bd] at ab;rw[<-ab];refine hK.out _ _ ?_;clear hK K ab k0 f0 k1 f1 k2 f2;refine sm ?_;replace c2:=c2.same (be.far b2 (Ne.symm fd)) be.size;refine aM (i:=11) rfl ac ac (λK hK=> ?_);have k0:=c2.1 0 _ rfl;have f0:=c2.2.2 0;have k1:=c2.1 1 _ rfl;have f1:=c2.2.2 1;have k2:=c2.1 2 _ rfl;have f2:=c2.2.2 2;have k3:=c2.1 3 _ rfl;have f3:=c2.2.2 3;have k4:=c2.1 4 _ rfl;have f4:=c2.2.2 4;have k5:=c2.1 5 _ rfl;have f5:=c2.2.2 5;go_simp;obtain⟨w3,ab⟩:∃q,q=bd w2 b2 0 [I Y r.at_,U rv (X r.vq) ds,U rt (X r.things) d4,I Y r.taken,U rl (X r.lines) c8,I Y r.fin]:=⟨_,rfl⟩;have a8:=bC c2 0 _ ab (by simp[cpZ]);simp only[bd] at ab;rw[<-ab];refine hK.out _ _ ?_;clear hK K ab k0 f0 k1 f1 k2 f2 k3 f3 k4 f4 k5 f5;refine sm ?_;refine aB ac ?_ _;have far:∀b,b≠b0->b≠b1->b≠b2->w3.heap[b]? =wq.heap[b]? :=λb g h1 D=>(a8.far b D).trans ((be.far b h1).trans (bc.far b g));have hz:=lT bc.size (lT be.size a8.size);have QX:=fq.out w3 (λb _ g h1 D _=>far b g h1 D) hz;have QY:=ga.out w3 (λb _ g h1 D _=>far b g h1 D) hz;have QR:=g4.out w3 (λb _ g h1 D _=>far b g h1 D) hz;have BL:=a8.low n2 (be.low n1 (bc.low n0 BX));have P3:=P5.call BL;have fh:=X5.call BL;have Y3:=Y5.call BL;have gz:=R5.call BL;have AX:=(bc.cells.same (be.far b0 e4) be.size).same (a8.far b0 ez) a8.size;have AY:=be.cells.same (a8.far b1 fd) a8.size;have AR:=a8.cells;have BW:=B5.trans (BL.mono B5.size);simp only[mj,cpZ,j8,j9] at AX AY AR;clear far hz fq ga g4 bc be a8 c0 c1 c2 BL BX P5 X5 Y5 R5 B5 n0 n1 n2 e4 ez fd;refine c3.out _ _ ?_;clear c3;have HM:Hid (∀wx,bl w3 wx->(sT wx w.heap.size [I Y V,I Y F,U s (X c) cap]/\sT wx (w.heap.size+1) [O x.none,U xh (X x.vq) xf,U xk (X x.fq) xi]/\sT wx (w.heap.size+1+1) [O y.none,U xq (X y.vq) xm,U xr (X y.fq) xo]/\sT wx (w.heap.size+1+1+1) [I Y r.at_,U vs (X r.vq) vc,U T (X r.things) tc,I Y r.taken,U ls (X r.lines) lc,I Y r.fin])/\sT wx b0 [O x.none,U bs (X x.vq) b7,U bm (X x.fq) b6]/\sT wx b1 [O y.none,U cg (X y.vq) c5,U ca (X y.fq) c4]/\sT wx b2 [I Y r.at_,U rv (X r.vq) ds,U rt (X r.things) d4,I Y r.taken,U rl (X r.lines) c8,I Y r.fin]):=λwx hb=>⟨⟨P3.call hb,fh.call hb,Y3.call hb,gz.call hb⟩,AX.call hb,AY.call hb,AR.call hb⟩;have HB:Hid (∀wx,bl w3 wx->bl w wx):=λwx hb=>BW.trans (hb.mono BW.size);have fz:Aa x:=by have hm:9000000000000<=maxLen:=(by decide);have:=c9.1;have:=c9.2.1;exact⟨aa,aa⟩
  have gt:Aa y:=by have hm:9000000000000<=maxLen:=(by decide);have:=d5.1;have:=d5.2.1;exact⟨aa,aa⟩
  have fc:=ag (λwx (hb:bl w3 wx)=>EB V F s cap c wx (z.below (HB.out wx hb) (lR _)));have gb:=ag (λ(g:aA V F c=0) wx (hb:bl w3 wx)=>T8 V F s c cap wx (z.below (HB.out wx hb) (lR _)) g);have HJ:=ag (λwx (hb:bl w3 wx)=>a6u V F s c cap x bs b7 bm b6 y cg c5 ca c4 wx (z.below (HB.out wx hb) (lR _)) (QX.below hb (lR _)) dq dv (QY.below hb (lR _)) fg e5);have HW:=ag (λwx (hb:bl w3 wx)=>a6i V F s c cap x bs b7 bm b6 y cg c5 ca c4 wx (z.below (HB.out wx hb) (lR _)) (QX.below hb (lR _)) dq dv (QY.below hb (lR _)) fg e5);have HS:=ag (λwx (hb:bl w3 wx)=>a6h V F s c cap x bs b7 bm b6 wx at_ (z.below (HB.out wx hb) (lR _)) (QX.below hb (lR _)) dq dv);have HR:=ag (λwx (hb:bl w3 wx)=>a6F V F s c cap wx r rv ds rt d4 rl c8 (z.below (HB.out wx hb) (lR _)) cr.len (QR.below hb (lR _)) (hT.below (HB.out wx hb)) cr.2.2.2);have HV:=ag (λwx (hb:bl w3 wx)=>a6I V F s c cap wx (z.below (HB.out wx hb) (lR _)));have h6:=ag (λwx (hb:bl w3 wx)=>a3o x bs b7 bm b6 xh xf xk xi wx fz (QX.below hb (lR _)) (l.below (HB.out wx hb) (lR _)));have h8:=ag (λwx (hb:bl w3 wx)=>a3o y cg c5 ca c4 xq xm xr xo wx gt (QY.below hb (lR _)) (hy.below (HB.out wx hb) (lR _)));have h3:=ag (λwx (hb:bl w3 wx)=>Tw r rv ds rt d4 rl c8 vs vc T tc ls lc wx cr.len (QR.below hb (lR _)) (hr.below (HB.out wx hb) (lR _)));clear z l hy hr c9 d5 cr hT dq dv fg e5 QX QY QR P3 fh Y3 gz AX AY AR BW fz gt;generalize hu:aA V F c=u at fc HV;have HU:=ag hu;clear hu;have B3:=bR w3.heap.size w3;obtain⟨M,-⟩:=HM.out w3 B3;have p0:=M.1.1 0 _ rfl;have p1:=M.1.1 1 _ rfl;have p2:=M.1.1 2 _ rfl;clear M;go_wp2_with fail;go_call fc.out w3 B3 as e w4 ⟨rfl,a6⟩;clear p0 p1 p2 fc;go_upto_if 59 with fail
  go_cut [15] (λt wc=>∃ps n pc L,t=U ps n pc/\n=X L/\n<=maxLen/\a8k wc ps L/\(u≠0->L=[])/\(u=0->∃m,a7x V F c m/\L=bj V F c m)/\bl w3 wc)
  case first=>
   by_cases g:u=0
   .subst g
    obtain⟨M,-⟩:=HM.out w4 a6;have p0:=M.1.1 0 _ rfl;have p1:=M.1.1 1 _ rfl;have p2:=M.1.1 2 _ rfl;clear M;go_wp2_with fail;go_call gb.out HU.out w4 a6 as e w5 ⟨⟨m,pb,pc,h1,-,rfl,D⟩,a9⟩;clear p0 p1 p2;go_wp2_with fail;go_meet;have ok:=eJ HU.out m;have i0:=(dM HU.out).2.2;have hm:61<=maxLen:=an;exact⟨_,_,_,bj V F c m,rfl,ok.len.symm,aa,D,λh=>absurd rfl h,λ_=>⟨m,h1,rfl⟩,a6.trans (a9.mono a6.size)⟩
   .have f1:(u==0)=false:=by simpa using g
    go_wp2_with fail;go_meet;exact⟨_,_,_,[],rfl,rfl,j3 _,(λi hi=>by cases hi),λ_=>rfl,λh=>absurd h g,a6⟩
  obtain⟨ps,pn,pc,L,rfl,hn,h9,hL,fl,fp,BC⟩:=hcut;have h7:Hid (∀L',(u≠0->L'=[])->(u=0->∃m,a7x V F c m/\L'=bj V F c m)->L'=L):=λL' h1 D=>by
   by_cases g:u=0
   .obtain⟨m,q1,rfl⟩:=D g
    obtain⟨m',q2,rfl⟩:=fp g;rw[q1.one q2]
   .rw[h1 g,fl g]
  have he:Hid (∀wx,bl wc wx->∀s1 c1,a8k wx s1 L->Calls pG 36 #[U s1 pn c1,U ps pn pc] wx λe w'=>e=Rt (O W5)/\bl wx w'):=λwx hb s1 c1 h=>by
   rw[hn];exact a5X L s1 c1 ps pc wx (by rw[<-hn];exact h9) h (hL.below hb (lR _))
  have h5:=ag hn;clear hn hL fl fp gb HU a6;go_wp2;go_loopw [16] (λi wr=>∃k:Nat,k<=2/\i=I Y k/\bl wc wr) (λi _=>2 - (intOf i).toNat)
  case atStart=>exact⟨0,aa,rfl,bR _ _⟩
  case round=>
   obtain⟨k,hk,rfl,BA⟩:=hrel;by_cases b8:k < 2;rotate_left
   .have n1:¬(k:Int) < 2:=by omega
    go_wp2;go_ret;exact⟨rfl,HB.out _ (BC.trans (BA.mono BC.size))⟩
   have n1:(k:Int) < 2:=aa;have B3:=BC.trans (BA.mono BC.size);have al:Hid (∀wx,bl wr wx->bl w3 wx):=λwx hb=>B3.trans (hb.mono B3.size);obtain⟨⟨MP,-,-,-⟩,MA,MB,-⟩:=HM.out wr B3;obtain⟨p0,p1,p2⟩:=MP.c3;obtain⟨a0,a1,a2⟩:=MA.c3;obtain⟨c0,c1,c2⟩:=MB.c3;clear MP MA MB;go_wp2_with fail;go_call HJ.out wr B3 as e w5 ⟨⟨jn,ju,cb,cm,jg,b3,cv,i5,rfl,jm,jl,JH⟩,a9⟩;clear p0 p1 p2 a0 a1 a2 c0 c1 c2;go_upto_region 12 with fail
   have hj:n4 w5.heap.size w5 (w5.alloc (A #[O jn,U ju cb cm,U jg b3 cv] 28)):=ai;have JC:=sT.new w5 28 [O jn,U ju cb cm,U jg b3 cv];have B6:=a9.trans (hj.mono a9.size);have gf:=JH.soft (a7m.call hj a9.size);clear hj JH a9;generalize w5.alloc _=w6 at *;generalize w5.heap.size=jb at *;obtain⟨⟨MP,-,-,-⟩,MA,MB,-⟩:=HM.out w6 (al.out w6 B6);obtain⟨p0,p1,p2⟩:=MP.c3;obtain⟨a0,a1,a2⟩:=MA.c3;obtain⟨c0,c1,c2⟩:=MB.c3;clear MP MA MB;go_wp2_with fail;go_call HW.out w6 (al.out w6 B6) as e w7 ⟨⟨zn,zu,cf,c6,zg,b5,ct,jc,rfl,zm,zl,ZH⟩,d7⟩;clear p0 p1 p2 a0 a1 a2 c0 c1 c2;go_upto_region 13 with fail
   have hj:n4 w7.heap.size w7 (w7.alloc (A #[O zn,U zu cf c6,U zg b5 ct] 28)):=ai;have ZC:=sT.new w7 28 [O zn,U zu cf c6,U zg b5 ct];have d1:=d7.trans (hj.mono d7.size);have B8:=B6.trans (d1.mono B6.size);have gy:=JC.call d1;have fo:=gf.soft (a7m.call d1 B6.size);have g1:=(ZH.mono B6.size).soft (a7m.call hj (lT B6.size d7.size));clear hj d1 JC gf ZH d7;generalize w7.alloc _=w8 at *;generalize w7.heap.size=zb at *;obtain⟨⟨MP,-,-,-⟩,MA,MB,-⟩:=HM.out w8 (al.out w8 B8);obtain⟨p0,p1,p2⟩:=MP.c3;obtain⟨a0,a1,a2⟩:=MA.c3;clear MP MA MB;go_wp2_with fail;go_call HS.out w8 (al.out w8 B8) as e w9 ⟨⟨es,en,ec,i9,i3,je,rfl,em,EH⟩,cl⟩;clear p0 p1 p2 a0 a1 a2;have B9:=B8.trans (cl.mono B8.size);have fy:=gy.call cl;have gc:=fo.soft (a7m.call cl B8.size);have gn:=ZC.call cl;have gm:=g1.soft (a7m.call cl B8.size);have ft:=EH.mono B8.size;clear gy fo ZC g1 EH cl B8 B6;obtain⟨⟨MP,-,-,-⟩,-,-,MR⟩:=HM.out w9 (al.out w9 B9);obtain⟨p0,p1,p2⟩:=MP.c3;obtain⟨a0,a1,a2⟩:=MR.c3;have a3:=MR.1 3 _ rfl;have a4:=MR.1 4 _ rfl;have a5:=MR.1 5 _ rfl;clear MP MR;go_wp2_with fail;go_call HR.out w9 (al.out w9 B9) as e ce ⟨⟨sa,sv,ay,d2,st,ax,d6,sk,sl,az,dz,sf,ic,rfl,SH⟩,bx⟩;clear p0 p1 p2 a0 a1 a2 a3 a4 a5;go_upto_region 15 with fail
   have hj:n4 ce.heap.size ce (ce.alloc (A #[I Y sa,U sv ay d2,U st ax d6,I Y sk,U sl az dz,I Y sf] 33)):=ai;have SC:=sT.new ce 33 [I Y sa,U sv ay d2,U st ax d6,I Y sk,U sl az dz,I Y sf];have h:=bx.trans (hj.mono bx.size);have ar:=B9.trans (h.mono B9.size);have et:=fy.call h;have ev:=gc.soft (a7m.call h B9.size);have d8:=gn.call h;have ee:=gm.soft (a7m.call h B9.size);have ei:=ft.soft (a7m.call h B9.size);have ek:=(SH.mono B9.size).soft (a7m.call hj (lT B9.size bx.size));clear fy gc gn gm ft SH h hj bx B9;generalize ce.alloc _=xl at *;generalize ce.heap.size=sb at *;obtain⟨⟨MP,-,-,-⟩,-,-,-⟩:=HM.out xl (al.out xl ar);obtain⟨p0,p1,p2⟩:=MP.c3;clear MP;go_wp2_with fail;go_call HV.out xl (al.out xl ar) as e ak ⟨⟨qs,qn,qc,qm,L',rfl,qe,ja,QH,QX,Q1,Q2⟩,ad⟩;clear p0 p1 p2;have am:=ar.trans (ad.mono ar.size);have eg:=et.call ad;have ex:=ev.soft (a7m.call ad ar.size);have ef:=d8.call ad;have ew:=ee.soft (a7m.call ad ar.size);have ej:=ei.soft (a7m.call ad ar.size);have el:=SC.call ad;have ep:=ek.soft (a7m.call ad ar.size);have ey:=QH.mono ar.size;clear et ev d8 ee ei SC ek QH ad ar;obtain rfl:=h7.out L' Q1 Q2;obtain rfl:qn=pn:=by rw[qe,h5.out]
   clear Q1 Q2 qe;obtain⟨⟨-,MX,MY,MR⟩,MA,MB,MC⟩:=HM.out ak (al.out ak am);have eo:Hid ((sT ak jb [O jn,U ju cb cm,U jg b3 cv]/\a9g wr.heap.size ak ju cb jg b3)/\(sT ak zb [O zn,U zu cf c6,U zg b5 ct]/\a9g wr.heap.size ak zu cf zg b5)/\a9k wr.heap.size ak es en/\(sT ak sb [I Y sa,U sv ay d2,U st ax d6,I Y sk,U sl az dz,I Y sf]/\a9q wr.heap.size ak sv ay st ax sl az)/\a9f wr.heap.size ak qs qn):=⟨⟨eg,ex⟩,⟨ef,ew⟩,ej,⟨el,ep⟩,ey⟩;clear eg ex ef ew ej el ep ey;obtain⟨x0,x1,x2⟩:=MX.c3;obtain⟨a0,a1,a2⟩:=MA.c3;go_wp2_with fail;go_call h6.out ak (al.out ak am) as e fv ⟨rfl,a7⟩;clear x0 x1 x2 a0 a1 a2 MX MA;have bz:=MY.call a7;have bv:=MB.call a7;obtain⟨x0,x1,x2⟩:=bz.c3;obtain⟨a0,a1,a2⟩:=bv.c3;have g0:=am.trans (a7.mono am.size);go_wp2_with fail;go_call h8.out fv (al.out fv g0) as e g5 ⟨rfl,eb⟩;clear x0 x1 x2 a0 a1 a2 MY MB bz bv;have b4:=a7.trans (eb.mono a7.size);have f9:=am.trans (b4.mono am.size);have ap:=MR.call b4;have ao:=MC.call b4;obtain⟨x0,x1,x2⟩:=ap.c3;have x3:=ap.1 3 _ rfl;have x4:=ap.1 4 _ rfl;have x5:=ap.1 5 _ rfl;obtain⟨a0,a1,a2⟩:=ao.c3;have a3:=ao.1 3 _ rfl;have a4:=ao.1 4 _ rfl;have a5:=ao.1 5 _ rfl;go_wp2_with fail;go_call h3.out g5 (al.out g5 f9) as e hg ⟨rfl,af⟩;clear x0 x1 x2 x3 x4 x5 a0 a1 a2 a3 a4 a5 MR MC ap ao;have cz:=b4.trans (af.mono b4.size);have gg:=am.trans (cz.mono am.size);have eu:=QX.below cz (lR _);go_wp2_with fail;go_call he.out hg (BA.trans (gg.mono BA.size)) qs qc eu as e bb ⟨rfl,d9⟩;have cc:=cz.trans (d9.mono cz.size);have fb:=am.trans (cc.mono am.size);have ch:=a7m.call cc am.size;obtain⟨⟨JC,JH⟩,⟨ZC,ZH⟩,EH,⟨SC,SH⟩,QH⟩:=eo.out;replace JC:=JC.call cc;replace ZC:=ZC.call cc;replace SC:=SC.call cc;have g2:=ag (JH.soft ch);have fs:=ag (ZH.soft ch);have ht:=ag (EH.soft ch);have df:=ag (SH.soft ch);have ho:=ag (QH.soft ch);have d0:=ag ZC;have dr:=ag SC;have gl:=ag fb;have zB:=fb.size;clear QX eu b4 cz cc a7 eb af d9 am g0 f9 gg fb ch eo JH ZH EH SH QH ZC SC;obtain⟨j0,j1,j2⟩:=JC.c3;go_wp2_with fail;go_call yR _ jn ju cb cm jg b3 cv bb g2.out zB jm jl as e h4 ⟨⟨i1,rfl⟩,bf⟩;clear j0 j1 j2 JC g2;obtain⟨g6,z0⟩:=bf.bool (d0.out.1 0 _ rfl);have z1:=bf.slice (d0.out.1 1 _ rfl);have z2:=bf.slice (d0.out.1 2 _ rfl);go_wp2_with fail;go_call yR _ g6 zu cf c6 zg b5 ct h4 (fs.out.soft bf) (lT zB bf.low.size) zm zl as e jd ⟨⟨i2,rfl⟩,c7⟩;clear z0 z1 z2 d0 fs;replace c7:=bf.trans c7;clear bf;have mx:=iT;obtain⟨mv,mt,ml⟩:=df.out.1;generalize wr=wA at *;clear wr;go_wp2;go_loopw [30] (λi wv=>∃q:Nat,q<=en/\i=I Y q/\a7m wA.heap.size bb wv) (λi _=>en - (intOf i).toNat)
   case atStart=>exact⟨0,j3 _,rfl,c7⟩
   case round=>
    clear c7;obtain⟨q,hq,rfl,SR⟩:=hrel;by_cases ah:q < en
    .have q0:=pQ
     have q1:(q:Int) < (en:Int):=aa;obtain⟨b,ba,nn,vs',vn,vc',fs',fn,fc',e,⟨k1,k2,k3⟩,hv,hf,hp⟩:=(ht.out.soft SR) q ah;exact Gy
    have q1:¬(q:Int) < (en:Int):=aa;have S19:=SR;clear SR;generalize wr=wB at *;clear wr;go_wp2;clear q1 hq ah;go_loopw [31] (λi wv=>∃q:Nat,q<=qn/\i=I Y q/\a7m wA.heap.size bb wv) (λi _=>qn - (intOf i).toNat)
    case atStart=>exact⟨0,j3 _,rfl,S19⟩
    case round=>
     clear S19;obtain⟨q,hq,rfl,SR⟩:=hrel;by_cases ah:q < qn
     .have q0:=pQ
      have q1:(q:Int) < (qn:Int):=aa;obtain⟨b,ba,nn,vs',vn,vc',fs',fn,fc',e,⟨k1,k2,k3⟩,hv,hf,hp⟩:=(ho.out.soft SR) q ah;exact Gy
     have q1:¬(q:Int) < (qn:Int):=aa;have f6:=SR;clear SR;generalize wr=wC at *;clear wr;go_wp2;clear q1 hq ah;go_loopw [32] (λi wv=>∃q:Nat,q<=ay/\i=I Y q/\a7m wA.heap.size bb wv) (λi _=>ay - (intOf i).toNat)
     case atStart=>exact⟨0,j3 _,rfl,f6⟩
     case round=>
      clear f6;obtain⟨q,hq,rfl,SR⟩:=hrel;have s1:=SR.slice (dr.out.1 1 _ rfl);by_cases ah:q < ay
      .have q0:=pQ
       have q1:(q:Int) < (ay:Int):=aa;obtain⟨b,ba,va,vz,e,hBb,gq,bt,k0,k1⟩:=(df.out.soft SR).2.1 q ah;subst e;have f0:=bt (ba+q * 2);have f1:=bt (ba+q * 2+1);have S1:=Ov;obtain⟨z',kz⟩:=S1.int k1;have SX:=OM;clear S1 kz;go_wp2;go_roundw
       case rel=>exact⟨q+1,aa,aJ,SX.out⟩
       case measure=>exact aK
      have q1:¬(q:Int) < (ay:Int):=aa;have f7:=SR;clear SR;generalize wr=wE at *;clear wr;go_wp2;clear q1 hq ah s1;go_loopw [33] (λi wv=>∃q:Nat,q<=ax/\i=I Y q/\a7m wA.heap.size bb wv) (λi _=>ax - (intOf i).toNat)
      case atStart=>exact⟨0,j3 _,rfl,f7⟩
      case round=>
       clear f7;obtain⟨q,hq,rfl,SR⟩:=hrel;have s2:=SR.slice (dr.out.1 2 _ rfl);by_cases ah:q < ax
       .have q0:=pQ
        have q1:(q:Int) < (ax:Int):=aa;obtain⟨tb,ib,f,fm,i4,e,kf,ih,g3⟩:=df.out.2.2.1 q ah;subst e;have ha:=ag g3;have hh:=ag kf;have fx:=SR;clear SR g3 kf;generalize wr=wF at *;clear wr;go_wp2;clear s2;go_loopw [34] (λi wv=>∃p:Nat,p<=fm/\i=I Y p/\a7m wA.heap.size bb wv) (λi _=>fm - (intOf i).toNat)
        case atStart=>exact⟨0,j3 _,rfl,fx⟩
        case round=>
         clear fx;obtain⟨p,hp,rfl,SR⟩:=hrel;have s2:=SR.slice (dr.out.1 2 _ rfl);have kf:=SR.slice hh.out;by_cases hd:p < fm
         .have p0:(0:Int)<=(p:Int):=by omega
          have p1:(p:Int) < (fm:Int):=aa;obtain⟨b,ba,va,vz,e,hBb,gq,bt,k0,k1⟩:=(ha.out.soft SR) p hd;subst e;have f0:=bt (ba+p * 2);have f1:=bt (ba+p * 2+1);have S1:=Ov;obtain⟨z',kz⟩:=S1.int k1;have SX:=OM;clear S1 kz;go_wp2;go_roundw
          case rel=>exact⟨p+1,aa,aJ,SX.out⟩
          case measure=>exact aK
         have p1:¬(p:Int) < (fm:Int):=aa;go_wp2;go_roundw
         case rel=>exact⟨q+1,aa,aJ,SR⟩
         case measure=>exact aK
       have q1:¬(q:Int) < (ax:Int):=aa;have f8:=SR;clear SR;generalize wr=wG at *;clear wr;go_wp2;clear q1 hq ah s2;go_loopw [35] (λi wv=>∃q:Nat,q<=az/\i=I Y q/\a7m wA.heap.size bb wv) (λi _=>az - (intOf i).toNat)
       case atStart=>exact⟨0,j3 _,rfl,f8⟩
       case round=>
        clear f8;obtain⟨q,hq,rfl,SR⟩:=hrel;have s4:=SR.slice (dr.out.1 4 _ rfl);by_cases ah:q < az
        .have q0:=pQ
         have q1:(q:Int) < (az:Int):=aa;obtain⟨b,ba,lt,e,hBb,gq,bt,k0⟩:=(df.out.soft SR).2.2.2 q ah;subst e;have f0:=bt (ba+q);have SX:=ag (SR.trans (a7m.set (B:=wA.heap.size) (v:=.string ⟨#[63]⟩) k0 (.inr (.inr (.inr ⟨_,_,rfl,rfl⟩))) hBb));go_wp2;go_roundw
         case rel=>exact⟨q+1,aa,aJ,SX.out⟩
         case measure=>exact aK
        have q1:¬(q:Int) < (az:Int):=aa;have BE:=BA.trans ((gl.out.trans SR.low).mono BA.size);go_wp2;go_roundw
        case rel=>exact⟨k+1,aa,aJ,BE⟩
        case measure=>exact aK
end
section
open Go.RowKit Go.ChangeShapes Go.WideShapes Go.Joins Go.Deep
def pU {H:Type}(t:TypeId)(d:DataW H):Prop:=∀m∈d.weights f t,m<=reachBytes
def UM{e:TypeId}:∀{l:List (DataW H)} {o:DataW H},o∈l->(∀m∈DataW.weightsAll f e l,m<=reachBytes)->pU e o
 |d0::l,o,r,h=>by
  simp only[DataW.weightsAll,Q6] at h;rcases J3.1 r with rfl|r
  .exact λm K=>h m (.inl K)
  .exact UM r λm K=>h m (.inr K)
section
variable {H:Type} {enc:TypeId×Value->H} {w:World} {base:Nat} {spare:Nat->Bool} {qg:Bool}
def kS {α:Type}{t e:TypeId}{n:Nat}(o:0 < n)(P:Tryz.prog.underlying t=G (.slice e))(Z:Tryz.prog.cellsOf e=n)(Q:α->List mh->Prop)(ax:Nonempty α)
  (af:∀T cs x,DataW.trod enc pG w base spare qg T e cs=G x->pU e x.1->∃q,Q q cs){T:Nat}{v:mh}{x:DataW H×List MemPlace}(h:DataW.trod enc pG w base spare qg T t [v]=G x)(L:pU t x.1):
  ∃(s:oA) (cap:Nat) (l:List α),v=U s (X l) cap/\X l<=cap/\cap<=maxLen/\(l=[]\/∃b off,s=G ⟨b,off,E⟩/\b < R (M w)/\∀k (hk:k < X l),∃cs,(∀j,j < n->w.cell? ⟨b,off+k * n+j,E⟩=cs[j]?)/\Q l[k] cs)/\X l * Tryz.prog.bytesOf e<=reachBytes/\∀q∈l,∃cs,Q q cs:=by
 rcases open_slice P h with⟨hv,_⟩|⟨a,len,cap,m,n',D,Pl,hv,u,K,hm,al,hx,hi⟩
 .simp at hv
  subst hv;exact⟨E,0,[],rfl,lR _,cL,.inl rfl,ae,λq hq=>by cases hq⟩
 .simp at hv
  subst hv;have ay:len<=m:=by rw[al];split<;>omega
  subst hx;have ad:X ((j4 len).map D) * Tryz.prog.bytesOf e<=reachBytes/\∀m∈DataW.weightsAll pG e ((j4 len).map D),m<=reachBytes:=by
   unfold pU at L;simp only[DataW.weights,P,J3,Q6] at L;refine⟨lT (Nat.mul_le_mul_right _ (Nat.le_add_right _ _)) (L _ (.inl rfl)),λm hm=>L m (.inr (.inl hm))⟩
  have ea:∀i,i < len->∃q:α,∃cs,(∀j,j < n->w.cell? (a.add (i * n+j))=cs[j]?)/\X cs=n/\Q q cs:=by
   intro i ap;obtain⟨am,N,h2⟩:=hi i aa;rw[Z] at N;obtain⟨_,ah,ab⟩:=World.cells?_some N;obtain⟨q,hq⟩:=af _ _ _ h2 (UM (Q7.2 ⟨i,J4.2 ap,rfl⟩) ad.2);refine⟨q,am,λj hj=> ?_,ah,hq⟩;rw[<-Deep.add_add];exact ab j hj
  obtain⟨f,hf⟩:=a0A ax ea;refine⟨G a,cap,(j4 len).map f,ae,by simpa using K,hm,?_,by simpa using ad.1,λq hq=> ?_⟩
  .by_cases g:len=0
   .left;subst g;rfl
   .right
    obtain⟨az,ao,a0,-⟩:=hf 0 aa;have r:=ao 0 o;rw[List.getElem?_eq_getElem aa] at r;simp[Addr.add] at r;obtain⟨b,off,sp⟩:=a;have ar:sp=none:=by
     cases sp with
     |none=>rfl
     |some z=>simp[Q4] at r;split at r<;>simp_all
    subst ar;refine⟨b,off,rfl,Q5 w _ r,λk hk=> ?_⟩;have ak:k < len:=gw;obtain⟨cs,hc,o,hq⟩:=hf k ak;have pl:=Sb;refine⟨cs,λj hj=> ?_,by simpa using hq⟩;have:=hc j hj;rw[pl] at this;rw[Nat.add_assoc];exact this
  .obtain⟨k,hk,rfl⟩:=Q7.1 hq
   obtain⟨cs,-,-,h3⟩:=hf k (J4.1 hk);exact⟨cs,h3⟩
def lM {t:TypeId}{fs:Array Field}{a:List (DataW H)}(P:Tryz.prog.underlying t=G (.struct fs))(h:pU t (.agg a)){j:Nat}{u:TypeId}{o:DataW H}(N:(fs.toList.map (·.type))[j]? =G u)(D:a[j]? =G o):pU u o:=λm K=>by
 refine h m ?_;simp only[DataW.weights,P];exact DataW.weights_mem_each N D m K
def bytes_w:Tryz.prog.bytesOf 3=8/\Tryz.prog.bytesOf 91=64/\Tryz.prog.bytesOf 25=24/\Tryz.prog.bytesOf 82=16/\Tryz.prog.bytesOf 84=32/\Tryz.prog.bytesOf 9=16:=⟨ac,ac,ac,ac,ac,ac⟩
def Tc {T:Nat}{cs:List mh}{x:DataW H×List MemPlace}(h:DataW.trod enc f w base spare qg T 91 cs=G x)(L:pU 91 x.1):
  ∃(g:Gs) (ss:oA) (a:Nat),cs=[O g.n,O g.sp.n,I Y g.sp.lo,I Y g.sp.hi,O g.t,O g.f,U ss (X g.s) a]/\X g.s<=a/\a<=maxLen/\yv w ss g.s/\X g.s<=17592186043904:=by
 obtain⟨xs,n,_,r,K,hx,D⟩:=DataW.trod_struct Tryz.underlying91 h;rw[Cs] at K;obtain⟨c0,v,o,c3,c4,c5,c6,rfl⟩:=Wf cs K;obtain⟨y0,y1,y2,y3,y4,rfl⟩:=a0T xs hx;have g0:=D 0 _ rfl;have P:=D 1 _ rfl;have g2:=D 2 _ rfl;have g3:=D 3 _ rfl;have g4:=D 4 _ rfl;simp[FF,sj,Hb,WU] at g0 P g2 g3 g4;obtain⟨a0,e0,_⟩:=DataW.trod_bool Tryz.underlying4 g0;obtain⟨sp,e1⟩:=a0B P;obtain⟨N,e2,_⟩:=DataW.trod_bool Tryz.underlying4 g2;obtain⟨a3,e3,_⟩:=DataW.trod_bool Tryz.underlying4 g3;subst r;obtain⟨ss,a,l,e4,Q,i,q3,q4,-⟩:=kS (n:=1) aa Tryz.underlying34 oY (λ(q:Int) cs=>cs=[I Y q]) ⟨0⟩ (λT cs x h _=>by
  obtain⟨q,e,_,_⟩:=DataW.trod_int Tryz.underlying3 h;exact⟨q,e⟩) g4 (lM Tryz.underlying91 L (j:=4) rfl rfl)
 rw[bytes_w.1] at q4;have hr:=reachBytes_lt;simp at e0 e1 e2 e3;obtain⟨r1,r2,r3⟩:=e1;subst e0 r1 r2 r3 e2 e3 e4;refine⟨⟨a0,sp,N,a3,l⟩,ss,a,rfl,Q,i,?_,by unfold reachBytes at q4;simp only;omega⟩;rcases q3 with q3|⟨b,ab,rfl,u,z⟩
 .exact .inl q3
 .refine .inr ⟨b,ab,rfl,u,λk Z=> ?_⟩
  obtain⟨cs,m,rfl⟩:=z k Z;have h0:=m 0 aa;rw[J8] at h0;exact h0
def yH {T:Nat}{v:mh}{x:DataW H×List MemPlace}(h:DataW.trod enc f w base spare qg T 25 [v]=G x)(L:pU 25 x.1):
  ∃(s:oA) (cap:Nat) (l:List Gs),v=U s (X l) cap/\X l<=cap/\cap<=maxLen/\a7r w s l/\X l<=2199023255488/\∀g∈l,X g.s<=17592186043904:=by
 obtain⟨s,cap,l,rfl,N,D,Q,P,o⟩:=kS (n:=7) aa Tryz.underlying25 Cs (λ(g:Gs) e=>∃(Z:oA) (a:Nat),e=[O g.n,O g.sp.n,I Y g.sp.lo,I Y g.sp.hi,O g.t,O g.f,U Z (X g.s) a]/\X g.s<=a/\a<=maxLen/\yv w Z g.s/\X g.s<=17592186043904) ⟨a4q⟩ (λT e x h L=>Tc h L) h L;rw[bytes_w.2.1] at P;refine⟨s,cap,l,rfl,N,D,?_,by unfold reachBytes at P;omega,λg K=>by obtain⟨_,_,_,-,-,-,-,h⟩:=o g K;exact h⟩;rcases Q with Q|⟨b,q,rfl,u,z⟩
 .subst Q
  exact λi hi=>absurd hi ae
 .intro i hi
  obtain⟨e,m,Z,a,rfl,j,k,r,-⟩:=z i hi;exact⟨b,q,rfl,Z,a,⟨⟨m 0 aa,m 1 aa,m 2 aa,m 3 aa,m 4 aa,m 5 aa,m 6 aa⟩,u⟩,r,j,k⟩
def yE {r:Reach}{P:Nat}{v:mh}{o:DataW H}{p:List MemPlace}(N:Value.okWide f w r P 28 v)(h:DataW.Trod enc f w base spare qg 28 v o p)(L:pU 28 o):
  ∃(q:Pic) (vs:oA) (vc:Nat) (fs:oA) (fc:Nat),v=xv q vs vc fs fc/\Wp q/\a4r w q vs fs:=by
 obtain⟨cs,rfl,al⟩:=okWide_struct Tryz.underlying28 N;obtain⟨T,hf⟩:=h;obtain⟨xs,n,_,hd,K,hx,hf⟩:=DataW.trod_struct Tryz.underlying28 hf;rw[KV] at K;obtain⟨c0,c1,c2,ad⟩:=oq _ K;obtain⟨y0,y1,y2,rfl⟩:=oq xs hx;have ak:cs.toList=[c0,c1,c2]:=by simpa[Value.cells] using ad
 have e:cs=#[c0,c1,c2]:=by cases cs;simp_all
 subst e;have g0:=hf 0 _ rfl;have g1:=hf 1 _ rfl;have g2:=hf 2 _ rfl;simp[sj,te,T9,Value.cells] at g0 g1 g2;injection hd with ah am
 rw[ah] at L;obtain⟨a0,e0,_⟩:=DataW.trod_bool Tryz.underlying4 g0;obtain⟨vs,vc,l1,Z,k1,m1,p1,b1,s1⟩:=yH g1 (lM Tryz.underlying28 L (j:=1) rfl rfl);obtain⟨fs,fc,l2,e2,k2,m2,Q,b2,s2⟩:=kS (n:=1) aa Tryz.underlying26 te (λ(r:List Gs) cs=>∃(rs:oA) (rc:Nat),cs=[U rs (X r) rc]/\X r<=rc/\rc<=maxLen/\a7r w rs r/\X r<=2199023255488/\∀g∈r,X g.s<=17592186043904) ⟨[]⟩ (λT cs x h L=>by
  have K:X cs=1:=by
   rcases open_slice Tryz.underlying25 h with⟨N,_⟩|⟨a,len,cap,m,n',D,Pl,N,_⟩
   .rw[N];rfl
   .rw[N];rfl
  obtain⟨v,rfl⟩:∃v,cs=[v]:=by
   match cs,K with
   |[v],_=>exact⟨v,rfl⟩
  obtain⟨s,cap,l,rfl,k⟩:=yH h L;exact⟨l,s,cap,rfl,k⟩) g2 (lM Tryz.underlying28 L (j:=2) rfl rfl)
 rw[bytes_w.2.2.1] at b2;simp at e0;subst e0 Z e2;refine⟨⟨a0,l1,l2⟩,vs,vc,fs,fc,rfl,⟨b1,by unfold reachBytes at b2;simp only;omega,λi hi=> ?_,s1,λi hi=> ?_⟩,p1,?_⟩
 .obtain⟨_,_,_,-,-,-,-,h,-⟩:=s2 _ (gM hi);exact h
 .obtain⟨_,_,_,-,-,-,-,-,h⟩:=s2 _ (gM hi);exact h
 .rcases Q with Q|⟨b,af,rfl,u,z⟩
  .subst Q
   exact λi hi=>absurd hi ae
  .intro i hi
   obtain⟨cs,ab,rs,rc,rfl,k1,k2,k3,-⟩:=z i hi;have h0:=ab 0 aa;rw[J8] at h0;exact⟨b,af,rfl,u,rs,rc,h0,k1,k2,k3⟩
def Hr {T:Nat}{v:mh}{x:DataW H×List MemPlace}(h:DataW.trod enc f w base spare qg T 29 [v]=G x)(L:pU 29 x.1):
  ∃(s:oA) (cap:Nat) (c:List Val),v=U s (X c) cap/\a7j w s c/\X c<=8796093021952:=by
 obtain⟨s,cap,l,rfl,N,D,Q,P,-⟩:=kS (n:=2) aa Tryz.underlying29 Ao (λ(q:Val) e=>e=[I Y q.k,I Y q.n]) ⟨⟨0,0⟩⟩ (λT e x h _=>a1q h) h L;rw[bytes_w.2.2.2.1] at P;refine⟨s,cap,l,rfl,?_,by unfold reachBytes at P;omega⟩;rcases Q with Q|⟨b,a,rfl,u,z⟩
 .exact .inl Q
 .refine .inr ⟨b,a,rfl,u,λk Z=> ?_⟩
  obtain⟨e,m,rfl⟩:=z k Z;exact⟨m 0 aa,m 1 aa⟩
def a1m {r:Reach}{b0:Nat}{v:mh}{o:DataW H}{p:List MemPlace}(N:Value.okWide pG w r b0 33 v)(h:DataW.Trod enc pG w base spare qg 33 v o p)(L:pU 33 o):
  ∃(i:St) (vs:oA) (vc:Nat) (T:oA) (m:Nat) (ls:oA) (lc:Nat),v=dA i vs vc T m ls lc/\a9y i/\a7s w i vs T ls:=by
 obtain⟨cs,rfl,am⟩:=okWide_struct Tryz.underlying33 N;obtain⟨ad,D⟩:=h;obtain⟨xs,n,_,hd,K,hx,D⟩:=DataW.trod_struct Tryz.underlying33 D;rw[VW] at K;obtain⟨c0,c1,c2,c3,c4,c5,ah⟩:=Lr _ K;obtain⟨y0,y1,y2,y3,y4,y5,rfl⟩:=Lr xs hx;have al:cs.toList=[c0,c1,c2,c3,c4,c5]:=by simpa[Value.cells] using ah
 have e:cs=#[c0,c1,c2,c3,c4,c5]:=by cases cs;simp_all
 subst e;have g0:=D 0 _ rfl;have g1:=D 1 _ rfl;have g2:=D 2 _ rfl;have g3:=D 3 _ rfl;have g4:=D 4 _ rfl;have g5:=D 5 _ rfl;simp[oY,yJ,Mq,Ka,Value.cells] at g0 g1 g2 g3 g4 g5;injection hd with ak ao
 rw[ak] at L;obtain⟨a,e0,_,_⟩:=vW;obtain⟨vs,vc,l1,e1,p1,b1⟩:=Hr g1 (lM Tryz.underlying33 L (j:=1) rfl rfl);obtain⟨T,m,l2,e2,-,-,Q,b2,s2⟩:=kS (n:=2) aa Tryz.underlying30 Ac (λ(q:Thg) cs=>∃f fc,cs=[I Y q.site,U f (X q.fs) fc]/\a7j w f q.fs/\X q.fs<=8796093021952) ⟨⟨0,[]⟩⟩ (λad cs x h L=>by
  obtain⟨xs,n,_,hd,K,hx,D⟩:=DataW.trod_struct Tryz.underlying84 h;rw[Ac] at K;obtain⟨c0,c1,rfl⟩:=rT cs K;obtain⟨y0,y1,rfl⟩:=rT xs hx;have g0:=D 0 _ rfl;have g1:=D 1 _ rfl;simp[oY,yJ] at g0 g1;subst hd;obtain⟨a,e0,_,_⟩:=vW;obtain⟨f,fc,l,e1,q⟩:=Hr g1 (lM Tryz.underlying84 L (j:=1) rfl rfl);simp at e0;subst e0 e1;exact⟨⟨a,l⟩,f,fc,rfl,q⟩) g2 (lM Tryz.underlying33 L (j:=2) rfl rfl)
 obtain⟨a3,e3,_,_⟩:=DataW.trod_int Tryz.underlying3 g3;obtain⟨ls,lc,l4,e4,-,-,P,b4,-⟩:=kS (n:=1) aa Tryz.underlying31 Mb (λ(q:ByteArray) cs=>cs=[.string q]) ⟨⟨#[]⟩⟩ (λad cs x h _=>by
  obtain⟨q,e,_,_⟩:=DataW.trod_string Tryz.underlying9 h;exact⟨q,e⟩) g4 (lM Tryz.underlying33 L (j:=4) rfl rfl)
 obtain⟨a5,e5,_,_⟩:=DataW.trod_int Tryz.underlying3 g5;rw[bytes_w.2.2.2.2.1] at b2;rw[bytes_w.2.2.2.2.2] at b4;unfold reachBytes at b2 b4;simp at e0 e3 e5;subst e0 e1 e2 e3 e4 e5;refine⟨⟨a,l1,l2,a3,l4,a5⟩,vs,vc,T,m,ls,lc,rfl,⟨b1,λt ht=> ?_,aw,aw⟩,p1,?_,?_⟩
 .obtain⟨_,_,_,-,-,h⟩:=s2 t ht;exact h
 .rcases Q with Q|⟨b,af,rfl,u,z⟩
  .exact .inl Q
  .refine .inr ⟨b,af,rfl,u,λk Z=> ?_⟩
   obtain⟨cs,ab,f,fc,rfl,hq,-⟩:=z k Z;exact⟨ab 0 aa,f,fc,ab 1 aa,hq⟩
 .rcases P with P|⟨b,af,rfl,u,z⟩
  .exact .inl P
  .refine .inr ⟨b,af,rfl,u,λk Z=> ?_⟩
   obtain⟨cs,ab,rfl⟩:=z k Z;have g:=ab 0 aa;rw[J8] at g;exact g
end
end
section
open Go.ChangeShapes Go.WideShapes Go.ChangeAt Go.RowKit
namespace restPictures

def contract (H:Type)(enc:TypeId×mh->H)(W:C)(base:Nat)(args:Array mh)(ds gs:List (DataW H))(Z:List MemPlace)
  (k:∀(j:Nat) t v,Tryz.f9.params[j]? =G t->args[j]? =G v->Value.okWide f W .any base t v)
  (a:DataW.Whole enc f Tryz.f9.params.toList Rows.restPicturesSpec.vars d W args.toList ds gs Z)(o:laidMetH f Rows.restPicturesRow.laid W)(r:W.ShapedOpen f)(i:(DataW.weightsEach f (Tryz.f9.params.toList++(OpenSpec.ofChange Rows.restPicturesSpec).bare.plain.varTypes f) (ds++gs)).all (· <=reachBytes)=W5):
  Calls f 9 args W λe W'=>∃v,e=Rt v/\Rows.restPicturesSpec.post enc f Tryz.f9 d W5 d d W args v W':=by
 have T:=a.lt;have am:=a;obtain⟨p,q,ax,hV,rfl,a9,a4⟩:=a;have hA:DataW.TrodAll enc f W 0 (λ_=>W5) W5 Tryz.f9.params.toList args.toList ds p:=ax;rw[Tryz.params9] at hA k;obtain⟨v0,a3,d0,bb,p0,q0,e0,rfl,rfl,g,ak⟩:=trodAll_cons hA;obtain⟨v1,xh,d1,a6,L,q1,e1,rfl,rfl,N,ar⟩:=trodAll_cons ak;obtain⟨v2,xq,d2,a8,p2,q2,e2,rfl,rfl,D,az⟩:=trodAll_cons ar;obtain⟨v3,ba,d3,a5,p3,q3,e3,rfl,rfl,Q,a0⟩:=trodAll_cons az;obtain⟨v4,bc,d4,a7,p4,q4,e4,rfl,rfl,P,af⟩:=trodAll_cons a0;obtain⟨rfl,rfl,rfl⟩:=trodAll_nil af;subst e1;subst e2;subst e3;subst e4;have ea:args=#[v0,v1,v2,v3,v4]:=by cases args;simp_all
 subst ea;obtain⟨rfl,rfl⟩:=trodVars_none hV;obtain⟨V,F,s,cap,c,rfl,a1,a2,z,-⟩:=Pe (k 0 24 v0 rfl rfl) g;obtain⟨at_,rfl,-⟩:=open_int Tryz.underlying3 (k 1 3 v1 rfl rfl) N;obtain⟨x,xa,xb,xd,xe,rfl,ap,al⟩:=yE (k 2 28 v2 rfl rfl) D (λm K=>by simpa using J9.1 i _ (DataW.weights_mem_each (j:=2) rfl rfl _ K));obtain⟨y,ya,yb,yd,ye,rfl,ao,ay⟩:=yE (k 3 28 v3 rfl rfl) Q (λm K=>by simpa using J9.1 i _ (DataW.weights_mem_each (j:=3) rfl rfl _ K));obtain⟨st,ra,rb,rd,re,rf,rg,rfl,ad,ab⟩:=a1m (k 4 33 v4 rfl rfl) P (λm K=>by simpa using J9.1 i _ (DataW.weights_mem_each (j:=4) rfl rfl _ K));have ah:laidMet f (("math/bits.deBruijn32tab",Rows.laid_math_bits_deBruijn32tab)::("math/bits.deBruijn64tab",Rows.laid_math_bits_deBruijn64tab)::("internal/strconv.uint64pow10",Rows.laid_internal_strconv_uint64pow10)::[]) W:=o;have b:=a5k ah.tail.tail;refine(Fh V F s c cap at_ x xa xb xd xe y ya yb yd ye st ra rb rd re rf rg W z al ay ab ap ao ad b).mono λe W' ⟨he,u⟩=> ?_;subst he;refine⟨_,rfl,_,_,_,[],p0++(L++(p2++(p3++(p4++[])))),[],am,?_,?_,?_,u.frame _,λh=>by cases h⟩
 .exact trodAll_mk1 (shut_bool Tryz.underlying4 _)
 .rw[Tryz.params9]
  exact trodAll_cons_mk (Below.trod (by kernel_rfl) (by kernel_rfl) (of_decide_eq_true (by kernel_rfl)) g u (λx l=>T x (by simp[l]))) (trodAll_cons_mk (Below.trod (by kernel_rfl) (by kernel_rfl) (of_decide_eq_true (by kernel_rfl)) N u (λx l=>T x (by simp[l]))) (trodAll_cons_mk (Below.trod (by kernel_rfl) (by kernel_rfl) (of_decide_eq_true (by kernel_rfl)) D u (λx l=>T x (by simp[l]))) (trodAll_cons_mk (Below.trod (by kernel_rfl) (by kernel_rfl) (of_decide_eq_true (by kernel_rfl)) Q u (λx l=>T x (by simp[l]))) (trodAll_cons_mk (Below.trod (by kernel_rfl) (by kernel_rfl) (of_decide_eq_true (by kernel_rfl)) P u (λx l=>T x (by simp[l]))) (rfl)))))
 .rfl

def witness_row(enc:TypeId×mh->H):
  (OpenSpec.ofChange Rows.restPicturesSpec).preRow enc f Tryz.f9 Rows.restPicturesRow.domain d Rows.restPicturesRow.laid ((nQ f os).forCall (λ_ _=>0) ⟨#[],#[Ag #[I Y 0,I Y 0,U E 0 0],I Y 0,Ag #[O d,U E 0 0,U E 0 0],Ag #[O d,U E 0 0,U E 0 0],Ag #[I Y 0,U E 0 0,U E 0 0,I Y 0,U E 0 0,I Y 0]],[]⟩).memory #[Ag #[I Y 0,I Y 0,U E 0 0],I Y 0,Ag #[O d,U E 0 0,U E 0 0],Ag #[O d,U E 0 0,U E 0 0],Ag #[I Y 0,U E 0 0,U E 0 0,I Y 0,U E 0 0,I Y 0]]:=by
 have L:(DataW.whole enc f ((nQ f os).forCall (λ_ _=>0) ⟨#[],#[Ag #[I Y 0,I Y 0,U E 0 0],I Y 0,Ag #[O d,U E 0 0,U E 0 0],Ag #[O d,U E 0 0,U E 0 0],Ag #[I Y 0,U E 0 0,U E 0 0,I Y 0,U E 0 0,I Y 0]],[]⟩).memory Tryz.f9.params.toList Rows.restPicturesSpec.vars d #[Value.agg #[I Y 0,I Y 0,U E 0 0],I Y 0,Ag #[O d,U E 0 0,U E 0 0],Ag #[O d,U E 0 0,U E 0 0],Ag #[I Y 0,U E 0 0,U E 0 0,I Y 0,U E 0 0,I Y 0]].toList 8).isSome=true:=by kernel_rfl
 obtain⟨x,l⟩:=q6.1 L;exact OpenSpec.preRow_of_cond 8 l rfl (λk Z=>by cases Z) (by kernel_rfl) (a0E os _)

def lifted(b:os.Started)(H:Type)(enc:TypeId×mh->H)(F:Stop.Interp):
  ReturnsInHanded {} Tryz.checked os 9 .any ((OpenSpec.ofChange Rows.restPicturesSpec).preRow enc f Tryz.f9 Rows.restPicturesRow.domain d Rows.restPicturesRow.laid) (((OpenSpec.ofChange Rows.restPicturesSpec).at F).post enc f Tryz.f9 d W5 d d):=by
 refine returnsInHanded_of_row (C:=Tryz.checked) (s:=OpenSpec.ofChange Rows.restPicturesSpec) own b (by kernel_rfl) Tryz.func9
  (witness_row_atRef (enc:=enc) (C:=Tryz.checked) d (nQ f os) #[Ag #[I Y 0,I Y 0,U E 0 0],I Y 0,Ag #[O d,U E 0 0,U E 0 0],Ag #[O d,U E 0 0,U E 0 0],Ag #[I Y 0,U E 0 0,U E 0 0,I Y 0,U E 0 0,I Y 0]] rfl (by kernel_rfl) (by kernel_rfl) (by kernel_rfl) (witness_row os enc)) ?_
 intro W base args e gs Z k a _ _ i o r _;exact contract H _ W base _ e gs Z k a o r i

def and_t {a b:Bool}(h:a=W5)(k:b=W5):(a&&b)=true:=by rw[h,k];rfl
def closed:joinedFacts f 9 Tryz.f9 (OpenSpec.ofChange Rows.restPicturesSpec).bare Rows.restPicturesRow=true:=by
 unfold joinedFacts;repeat' (with_reducible refine and_t ?_ ?_)
 all_goals (as_aux_lemma=>kernel_rfl)

def said:Rows.RestPicturesSaid:=
 OpenClaim.holds_of_cond 9 Tryz.f9 rfl rfl rfl rfl rfl rfl rfl ⟨rfl,rfl,rfl,rfl,rfl⟩ rfl rfl rfl rfl rfl (by kernel_rfl) Tryz.func9 closed
  (of_decide_eq_true (by kernel_rfl)) (by unfold Func.isWrapper;first|(rw[if_pos (by decide+kernel)];kernel_rfl)|(rw[if_neg (by decide+kernel)];exact⟨rfl,rfl⟩))
  (λa b H enc _ F=>by rw[OpenClaim.pre_eq_preRow];exact lifted a b H enc F)

def plain (f:FuncId)(fn:Func)(D:Tryz.pinned.checked.prog.funcNamed "soundings/soundingslaw.RestPictures" =G f)(a:Tryz.pinned.checked.prog.funcs[f]? =G fn):
  W5=Tryz.pinned.checked.prog.looks []/\∀(j:Nat) t,fn.params[j]? =G t->Tryz.pinned.checked.prog.wantsStandIn t=false:=by
 obtain rfl:f=9:=Q8.inj ((show Tryz.prog.funcNamed "soundings/soundingslaw.RestPictures" =G 9 by kernel_rfl).symm.trans D) |>.symm;obtain rfl:fn=Tryz.f9:=(Q8.inj (Tryz.func9.symm.trans a)).symm;refine⟨by kernel_rfl,λj t P=> ?_⟩;rw[Tryz.params9] at P;have K:t=24\/t=3\/t=28\/t=28\/t=33:=by simpa using Array.mem_of_getElem? P
 rcases K with rfl|rfl|rfl|rfl|rfl
 .exact(show Tryz.prog.wantsStandIn 24=d by kernel_rfl)
 .exact(show Tryz.prog.wantsStandIn 3=d by kernel_rfl)
 .exact(show Tryz.prog.wantsStandIn 28=d by kernel_rfl)
 .exact(show Tryz.prog.wantsStandIn 28=d by kernel_rfl)
 .exact(show Tryz.prog.wantsStandIn 33=d by kernel_rfl)
end restPictures

theorem restPictures_holds:Rows.RestPicturesCardSaid:=
 Claim7.holds_tied_plain_at .later [] _ _ _ _ restPictures.said (λ_ h=>by cases h) (by kernel_rfl) (λ_ h=>by cases h) restPictures_row_tie rfl ⟨rfl,rfl⟩ (by kernel_rfl) rfl restPictures.plain (by kernel_rfl)
end
end Go.Proofs.YtmapdpcfanecdabGreatDoor
