import Derived.Test.YtmapdpcfanecdabGreatDoorQ11
open List renaming length→X,Pairwise→j3,append_nil→q6,eq_nil_of_length_eq_zero→z0,filter_cons→q4,filter_nil→q5,getElem_mem→gM,map_append→j8,map_cons→j9,map_nil→q3,mem_cons→j4,mem_filter→j1,mem_map→q7,mem_range→j2,pairwise_lt_range→q9,pairwise_map→q8,take_of_length_le→z4,take_succ_eq_append_getElem→z1
open Array renaming size→R
open Go.World renaming heap→M,size_alloc→zA
open Bool renaming eq_false_or_eq_true→j6,false→BT,false→d,true→W5
open Go.Ending renaming returned→Rt
open Go.IntKind renaming i64→Y
open Go.Obj renaming cells→A
open Go.Proofs.Tryz renaming prog→pG,prog→f
open Go.RowKit.Below renaming heap_setCell→hSe,refl→bR
open Go.Value renaming agg→Ag,int→I,slice→U,tuple→Tu,pointer→Pp,bool→O
open Nat renaming le_refl→lR,le_trans→lT,lt_of_lt_of_le→lL,zero_add→j0,zero_le→j5
open Option renaming some→sO,none→E,some→G
open Go.RowKit renaming Below→n4
open Go renaming Value→mh,World→C
set_option linter.all false
open Go.Proofs.Tryz
set_option maxHeartbeats 8000000
set_option maxRecDepth 100000
namespace Go.Proofs.YtmapdpcfanecdabGreatDoor
variable (w:C)(V F:Int)(s:oA)(l a b:List Int)(c:lI)(cap:Nat)(g:Gs)(ss:oA)(i gc:Nat)(h:Gs)(j st:oA)(k hc:Nat)(vk vn x:Int)
variable {p:Prop}
section
open Go.RowKit
def Yq(w:C)(a:a2r w s c)(hs:yv w ss g.s)(m:X g.s<=i)(r:i<=maxLen):
  Calls f 140 #[pv V F s c cap,gv g ss i] w λe w'=>e=Rt (I Y (aY V F c [g]))/\bl w w':=by
 have B0:n4 (R (M w)) w (pgW w V F s c cap g ss i):=ai;have j:=a7r.new1 (pgW w V F s c cap g ss i) g ss i ((hs.alloc _).alloc _) m r;simp only[zA] at j;have l:=ag (fA V F s c cap (G ⟨R (M w)+1+1,0,E⟩) [g] 1 _ (((a.alloc _).alloc _).alloc _) j ae);generalize aY V F c [g]=ce at l |-;clear a hs j;go_enter func140,ntmps140;go_wp2_with fail;go_call l.out as e x ⟨rfl,vZ⟩;go_wp2;go_ret;exact Ez

section
variable (w:C)(xC:a2r w s c)(hs:yv w ss g.s)(m:X g.s<=gc)(r:gc<=maxLen)(ht:yv w st h.s)(l:X h.s<=hc)(q:hc<=maxLen)(k:aY V F c [g,h]=0)(a:X ([g,h].flatMap Gs.s)<=1000000)
def a2e:
  Calls f 72 #[pv V F s c cap,gv g ss gc,gv h st hc] w λe w'=>∃v,e=Rt (Tu #[Ag #[O (g.n||h.n),O (bw g.sp h.sp).n,I Y (bw g.sp h.sp).lo,I Y (bw g.sp h.sp).hi,O (g.t||h.t),O (g.f||h.f),v],I Y 0])/\w'.ownsRow (R (M w)) 3 1 v (X (dd [g,h])) ((dd [g,h]).map (.int .i64))/\bl w w':=by
 obtain⟨K,G0,Z,S,N⟩:=fN;have B0:=fJ;have P:=fM;have Q:=fH;have J0:=fE;have b:=ag (Km V F s c cap g ss gc h st hc _ P Q m r J0 l q k a);clear k a xC hs ht P Q J0;generalize bw g.sp h.sp=J at b |-;generalize dd [g,h]=T at b |-;go_enter func72,ntmps72;go_wp2_with fail;go_call b.out as e x ⟨v,rfl,xK,o⟩;have t:=S.call o;have u:=N.call o;have H:=B0.trans (o.mono B0.size);simp only[zA] at xK;have O1:=xK;obtain⟨vs,vc,rfl,-,-,-,-⟩:=kv;clear o S N B0 b xK;obtain⟨⟨B,W,i,D,y,j,r6⟩,L⟩:=id t;simp only[j0,bT] at B W i D y j r6;have z:=u.1;go_wp2;refine bodyPost_ret (v:=Tu #[Ag #[O (g.n||h.n),O J.n,I Y J.lo,I Y J.hi,O (g.t||h.t),O (g.f||h.f),U vs (X T) vc],I Y 0]) (by simp[results,results72,go_sem,B,W,i,D,y,j,r6]) rfl ⟨_,rfl,?_,?_⟩
 .exact iz (iE O1 aa) aa
 .exact bP H aa

def a2U:
  Calls f 73 #[pv V F s c cap,gv g ss gc,gv h st hc] w λe w'=>∃v,e=Rt (Tu #[Ag #[O (g.n||h.n),O (bH g.sp h.sp).n,I Y (bH g.sp h.sp).lo,I Y (bH g.sp h.sp).hi,O (g.t||h.t),O (g.f||h.f),v],I Y 0])/\w'.ownsRow (R (M w)) 3 1 v (X (dd [g,h])) ((dd [g,h]).map (.int .i64))/\bl w w':=by
 obtain⟨K,G0,Z,S,N⟩:=fN;have B0:=fJ;have P:=fM;have Q:=fH;have J0:=fE;have b:=ag (Kg V F s c cap g ss gc h st hc _ P Q m r J0 l q k a);clear k a xC hs ht P Q J0;generalize bH g.sp h.sp=J at b |-;generalize dd [g,h]=T at b |-;go_enter func73,ntmps73;go_wp2_with fail;go_call b.out as e x ⟨v,rfl,xK,o⟩;have t:=S.call o;have u:=N.call o;have H:=B0.trans (o.mono B0.size);simp only[zA] at xK;have O1:=xK;obtain⟨vs,vc,rfl,-,-,-,-⟩:=kv;clear o S N B0 b xK;obtain⟨⟨B,W,i,D,y,j,r6⟩,L⟩:=id t;simp only[j0,bT] at B W i D y j r6;have z:=u.1;go_wp2;refine bodyPost_ret (v:=Tu #[Ag #[O (g.n||h.n),O J.n,I Y J.lo,I Y J.hi,O (g.t||h.t),O (g.f||h.f),U vs (X T) vc],I Y 0]) (by simp[results,results73,go_sem,B,W,i,D,y,j,r6]) rfl ⟨_,rfl,?_,?_⟩
 .exact iz (iE O1 aa) aa
 .exact bP H aa
end
abbrev Kl (w:World)(V F:Int)(s:oA)(c:lI)(cap:Nat)(g:Gs)(ss:oA)(gc:Nat)(h:Gs)(st:oA)(hc:Nat):World:=
 ((w.alloc (A #[I Y V,I Y F,U s c.length cap] 24)).alloc (A #[O g.n,O g.sp.n,I Y g.sp.lo,I Y g.sp.hi,O g.t,O g.f,U ss g.s.length gc] 91)).alloc (A #[O h.n,O h.sp.n,I Y h.sp.lo,I Y h.sp.hi,O h.t,O h.f,U st h.s.length hc] 91)
def Uo:
  a7b (Kl w V F s c cap g ss i h j k) (R (M w)+1) 0 g ss i/\a7b (Kl w V F s c cap g ss i h j k) (R (M w)+1+1) 0 h j k/\bl w (Kl w V F s c cap g ss i h j k):=by
 refine⟨?_,?_,ai⟩
 .have:=a7b.new (w.alloc (A #[I Y V,I Y F,U s (X c) cap] 24)) g ss i
  rw[zA] at this;exact this.alloc _
 .have:=a7b.new ((w.alloc (A #[I Y V,I Y F,U s (X c) cap] 24)).alloc (A #[O g.n,O g.sp.n,I Y g.sp.lo,I Y g.sp.hi,O g.t,O g.f,U ss (X g.s) i] 91)) h j k
  simp only[zA] at this;exact this

def iy {a c:Bool}{b e:Int}(h:a=c)(g:b=e):Ending.returned (Tu #[O a,I Y b])=Rt (Tu #[O c,I Y e]):=by rw[h,g]
def iI (a b:Bool):(a=W5/\b=d)\/a=d\/(a=W5/\b=W5):=by cases a<;>cases b<;>simp

def a2M {s t:Sp}(hs:s.Ok)(l:t.Ok):@decide _ ((aS s t).dq s)=gP s t:=by
 obtain⟨n,lo,hi⟩:=s;obtain⟨v,c,b⟩:=t;obtain⟨-,-,u,o⟩:=hs;obtain⟨-,-,q,a⟩:=l;cases n with
 |true=>
  obtain⟨m,r⟩:=u rfl;simp only at m r;subst m r;rfl
 |false=>
  cases v with
  |true=>
   have e:aS ⟨d,lo,hi⟩ ⟨W5,c,b⟩=⟨W5,0,0⟩:=rfl;rw[e];simp[gP,Sp.has]
  |false=>
   simp only at o a;rw[Bool.eq_iff_iff,@decide_eq_true_eq _ (Sp.dq _ _)];unfold aS gP Sp.has;simp only[Bool.false_or,Bool.not_false,Bool.true_and,decide_eq_true_eq,Bool.and_eq_true];constructor
   .intro h
    split at h
    .cases h
    .simp only[Sp.mk.injEq,true_and] at h
     omega
   .intro h
    rw[if_neg aa];simp only[Sp.mk.injEq,true_and];omega

section
variable (w:C)(xC:a2r w s c)(hs:yv w ss g.s)(h1:X g.s<=gc)(h2:gc<=maxLen)(ht:yv w st h.s)(h3:X h.s<=hc)(h4:hc<=maxLen)
def Uf(k:aY V F c [g,h]≠0):
  Calls f 161 #[pv V F s c cap,gv g ss gc,gv h st hc] w λe w'=>e=Rt (Tu #[O d,I Y (aY V F c [g,h])])/\bl w w':=by
 obtain⟨a,Z,B0⟩:=Uo w V F s c cap g ss gc h st hc;have I0:=Nq;have J0:=Sc;have L0:=Pf;simp only[zA] at L0;have l:=SE;have n:(aY V F c [g,h]!=0)=true:=by simpa using k
 generalize aY V F c [g,h]=ce at l n |-;clear k xC hs ht I0 J0 L0 a;go_enter func161,ntmps161;go_wp2_with fail;go_call l.out as e x ⟨rfl,vZ⟩;go_wp2
 go_ret2
 exact Ez

def ie(h:p:=by
 rintro e w2 ⟨rfl,xj⟩;rw[Cu];have G2:=G1.call xj;have H2:=H1.call xj;have B2:=fU;clear xj G1 H1 B1 I1 J1 g0 g1 g2 g3 g4 g5 g6 gz k0 k1 k2 k3 k4 k5 k6 kz;obtain⟨⟨g0,g1,g2,g3,g4,g5,g6⟩,gz⟩:=id G2;obtain⟨⟨k0,k1,k2,k3,k4,k5,k6⟩,kz⟩:=id H2;simp only[Nat.zero_add] at g0 g1 g2 g3 g4 g5 g6 k0 k1 k2 k3 k4 k5 k6;generalize hA:(sl.all λx=>h'.contains x)=al at *;have HA:=ag hA;clear hA;cases al with
 |false=>
  go_wp2
  go_ret2
  exact⟨iy (by rw[HR.out];simp) rfl,B2⟩
 |true=>
  go_wp2_with fail;refine(HW.out _).mono ?_;rintro e w3 ⟨rfl,xp⟩;go_wp2
  go_ret2
  exact⟨iy (by rw[HR.out];simp) rfl,B2.trans (xp.mono B2.size)⟩):=h
def Hi(k:aY V F c [g,h]=0):
  Calls pG 161 #[pv V F s c cap,gv g ss gc,gv h st hc] w λe w'=>e=Rt (Tu #[O (dX g h),I Y 0])/\bl w w':=by
 obtain⟨G0,H0,B0⟩:=Uo w V F s c cap g ss gc h st hc;have I0:=Nq;have J0:=Sc;have L0:=Pf;simp only[zA] at L0;have l:=SE;obtain⟨j,i⟩:=ckSps_ok.1 (gK k);have m:=λw=>VY g.sp h.sp w;rw[gK k,show (decide ((0:Int)=0)&&@decide _ ((aS g.sp h.sp).dq g.sp))=gP g.sp h.sp by rw[a2M j i];rfl] at m;have HW:=ag m;have u:X g.s<=9223372036854775807:=by unfold maxLen at h2;omega
 have xy:X h.s<=9223372036854775807:=by unfold maxLen at h4;omega
 have HR:Hid (dX g h=(!(g.n&& !h.n)&&(!(g.t&& !h.t)&&(!(g.f&& !h.f)&&(gP g.sp h.sp&&g.s.all λx=>h.s.contains x))))):=rfl;generalize dX g h=res at HR |-;generalize gP g.sp h.sp=si at HR HW;rw[k] at l;clear k xC hs ht L0 m j i;go_enter func161,ntmps161;go_wp2_with fail;go_call l.out as e w1 ⟨rfl,vZ⟩;have G1:=dG;have H1:=gL;have I1:=eh;have J1:=ik;have B1:=dB;clear vZ G0 H0 I0 J0 B0 l;obtain⟨⟨g0,g1,g2,g3,g4,g5,g6⟩,gz⟩:=id G1;obtain⟨⟨k0,k1,k2,k3,k4,k5,k6⟩,kz⟩:=id H1;simp only[j0] at g0 g1 g2 g3 g4 g5 g6 k0 k1 k2 k3 k4 k5 k6;obtain⟨n,sp,t,f,sl⟩:=g;obtain⟨v,b,y,r,h'⟩:=h;simp only at u xy;rcases iI n v with⟨rfl,rfl⟩|rfl|⟨rfl,rfl⟩
 .go_wp2
  go_ret2
  exact lJ
 .rcases iI t y with⟨rfl,rfl⟩|rfl|⟨rfl,rfl⟩
  .go_wp2
   go_ret2
   exact lJ
  .rcases iI f r with⟨rfl,rfl⟩|rfl|⟨rfl,rfl⟩
   .go_wp2
    go_ret2
    exact lJ
   .go_wp2_with fail
    refine(dm (R (M w)+1+1) (λx=> !h'.contains x) ss gc sl _ aa I1 λx B a=>kh x _ _ st hc B (H1.call a) (J1.call a) fj).mono ?_;exact ie
   .go_wp2_with fail
    refine(dm (R (M w)+1+1) (λx=> !h'.contains x) ss gc sl _ aa I1 λx B a=>kh x _ _ st hc B (H1.call a) (J1.call a) fj).mono ?_;exact ie
  .rcases iI f r with⟨rfl,rfl⟩|rfl|⟨rfl,rfl⟩
   .go_wp2
    go_ret2
    exact lJ
   .go_wp2_with fail
    refine(dm (R (M w)+1+1) (λx=> !h'.contains x) ss gc sl _ aa I1 λx B a=>kh x _ _ st hc B (H1.call a) (J1.call a) fj).mono ?_;exact ie
   .go_wp2_with fail
    refine(dm (R (M w)+1+1) (λx=> !h'.contains x) ss gc sl _ aa I1 λx B a=>kh x _ _ st hc B (H1.call a) (J1.call a) fj).mono ?_;exact ie
 .rcases iI t y with⟨rfl,rfl⟩|rfl|⟨rfl,rfl⟩
  .go_wp2
   go_ret2
   exact lJ
  .rcases iI f r with⟨rfl,rfl⟩|rfl|⟨rfl,rfl⟩
   .go_wp2
    go_ret2
    exact lJ
   .go_wp2_with fail
    refine(dm (R (M w)+1+1) (λx=> !h'.contains x) ss gc sl _ aa I1 λx B a=>kh x _ _ st hc B (H1.call a) (J1.call a) fj).mono ?_;exact ie
   .go_wp2_with fail
    refine(dm (R (M w)+1+1) (λx=> !h'.contains x) ss gc sl _ aa I1 λx B a=>kh x _ _ st hc B (H1.call a) (J1.call a) fj).mono ?_;exact ie
  .rcases iI f r with⟨rfl,rfl⟩|rfl|⟨rfl,rfl⟩
   .go_wp2
    go_ret2
    exact lJ
   .go_wp2_with fail
    refine(dm (R (M w)+1+1) (λx=> !h'.contains x) ss gc sl _ aa I1 λx B a=>kh x _ _ st hc B (H1.call a) (J1.call a) fj).mono ?_;exact ie
   .go_wp2_with fail
    refine(dm (R (M w)+1+1) (λx=> !h'.contains x) ss gc sl _ aa I1 λx B a=>kh x _ _ st hc B (H1.call a) (J1.call a) fj).mono ?_;exact ie
end
def Ik {V F:Int}{c:lI}{g:Gs}(z:aY V F c [g]=0):aA V F c=0/\aH c g=0:=by
 unfold aY at z;by_cases t:aA V F c=0
 .rw[if_pos t] at z
  have e:cG c [g]=if aH c g=0 then 0 else aH c g:=rfl
  rw[e] at z;by_cases i:aH c g=0
  .exact⟨t,i⟩
  .rw[if_neg i] at z;exact absurd z i
 .rw[if_neg t] at z;exact absurd z t
def mb {c:lI}{g:Gs}(h:aH c g=0):cY g.sp=0:=by
 unfold aH at h;split at h
 .assumption
 .rename_i hn;exact Decidable.not_not.1 hn
def a5J:a7b (pgW w V F s c cap g ss i) (R (M w)+1) 0 g ss i/\bl w (pgW w V F s c cap g ss i):=by
 refine⟨?_,ai⟩;have:=a7b.new (w.alloc (A #[I Y V,I Y F,U s (X c) cap] 24)) g ss i;rw[zA] at this;exact this

def Yu(w:C)(a:a2r w s c)(hs:yv w ss g.s)(m:X g.s<=gc)(r:gc<=maxLen)(k:aY V F c [g]=0):
  Calls f 160 #[pv V F s c cap,gv g ss gc] w λe w'=>e=Rt (Tu #[O (cM g),O (dp g),I Y 0])/\bl w w':=by
 obtain⟨G0,B0⟩:=lU;have Q:=hs.below B0 (lR _);have j:=a7r.new1 _ g ss gc Q m r;simp only[zA] at j;have l:=ag (fA V F s c cap (G ⟨R (M w)+1+1,0,E⟩) [g] 1 _ ((a.below B0 (lR _)).alloc _) j ae);have b:=ag (λw=>Hj g ss gc w (mb (Ik k).2));rw[k] at l;generalize cM g=y at b |-;generalize dp g=n at b |-;clear k a hs Q j;go_enter func160,ntmps160;go_wp2_with fail;go_call l.out as e w1 ⟨rfl,vZ⟩;have T:=dG;have H:=dB;clear vZ l G0 B0;obtain⟨⟨W,D,x,L,z,N,Z⟩,P⟩:=id T;simp only[j0] at W D x L z N Z;go_wp2_with fail;go_call b.out _ as e q ⟨rfl,o⟩;go_wp2
 go_ret3
 exact⟨rfl,H.trans (o.mono H.size)⟩

def mw(h:p:=by
 rw[vZ.cell ae,World.cell?_alloc_old _ _ _ ae];exact v0):=h
section
variable (b a:Int)(w:C)(xC:a2r w s c)(hs:yv w ss g.s)(h1:X g.s<=gc)(h2:gc<=maxLen)(k:aY V F c [g]=0)
def Tg:
  Calls f 81 #[pv V F s c cap,gv g ss gc,Ag #[I Y 0,I Y b],I Y a] w λe w'=>e=Rt (Tu #[O (g.n),I Y 0])/\bl w w':=by
 obtain⟨i,zD⟩:=lU;have G0:=i.alloc (A #[I Y 0,I Y b] 82);have B0:=zD.alloc zD.size (A #[I Y 0,I Y b] 82);have I0:=(hs.below zD (lR _)).alloc (A #[I Y 0,I Y b] 82);have L0:=mU;simp only[zA] at L0;have v0:((pgW w V F s c cap g ss gc).alloc (A #[I Y 0,I Y b] 82)).cell? ⟨R (M w)+1+1,0,E⟩=G (I Y 0):=aE;have v1:((pgW w V F s c cap g ss gc).alloc (A #[I Y 0,I Y b] 82)).cell? ⟨R (M w)+1+1,1,E⟩=G (I Y b):=aE;have l:=mW;rw[k] at l;clear xC hs L0 i zD;go_enter func81,ntmps81;go_wp2_with fail;go_call l.out as e w1 ⟨rfl,vZ⟩;have T:=dG;have H:=dB;have u0:w1.cell? ⟨R (M w)+1+1,0,E⟩=G (I Y 0):=by
  exact mw
 have v:=pL;clear vZ l G0 I0 B0 v0 v1;obtain⟨⟨W,D,x,_⟩,P⟩:=id T;simp only[j0] at W x;go_wp2
 go_ret2
 exact⟨rfl,H⟩

end
section
variable {w w':C}{e:Option Nat}{b:Nat}
def a7b.grown{o:Nat}{g:Gs}{ss:oA}{cap:Nat}(i:w.grownBy w' e)(h:a7b w b o g ss cap)(n:G b≠e):a7b w' b o g ss cap:=by
 obtain⟨⟨t,m,r,l,q,k,x⟩,u⟩:=h;have z:=i.block b u n;have c:∀j,w'.cell? ⟨b,j,E⟩=w.cell? ⟨b,j,E⟩:=λj=>World.cell?_of_block (a:=⟨b,j,E⟩) z;exact⟨⟨by rw[c];exact t,by rw[c];exact m,by rw[c];exact r,by rw[c];exact l,by rw[c];exact q,by rw[c];exact k,by rw[c];exact x⟩,lL u i.size⟩
def Fr7.grown(i:w.grownBy w' e)(h:Fr7 w b)(n:G b≠e):Fr7 w' b:=by
 have z:=i.block b h.2 n;exact⟨λj=>by rw[World.frozen?_of_block (a:=⟨b,j,E⟩) z];exact h.1 j,lL h.2 i.size⟩
end
section
variable {w:C}{b:Nat}
def a7b.setFar{s o j:Nat}{g:Gs}{ss:oA}{cap:Nat}{v:mh}(h:a7b w b o g ss cap)(n:b≠s):a7b (w.setCell ⟨s,j,E⟩ v) b o g ss cap:=by
 obtain⟨⟨t,m,r,l,q,k,x⟩,hz⟩:=h;have c:∀i,(w.setCell ⟨s,j,E⟩ v).cell? ⟨b,i,E⟩=w.cell? ⟨b,i,E⟩:=λi=>World.cell?_setCell_far _ ⟨s,j,E⟩ ⟨b,i,E⟩ _ (λe=>n e.symm);exact⟨⟨by rw[c];exact t,by rw[c];exact m,by rw[c];exact r,by rw[c];exact l,by rw[c];exact q,by rw[c];exact k,by rw[c];exact x⟩,mT⟩
def a7b.setS{g:Gs}{ss c:oA}{cap a:Nat}{e:List Int}(h:a7b w b 0 g ss cap):a7b (w.setCell ⟨b,6,E⟩ (U c (X e) a)) b 0 ⟨g.n,g.sp,g.t,g.f,e⟩ c a:=by
 obtain⟨⟨t,m,r,l,q,k,x⟩,hz⟩:=h;simp only[j0] at t m r l q k x;refine⟨?_,mT⟩;simp[go_sem,t,m,r,l,q,k,x]
def Fr7.set{s j:Nat}{v:mh}(h:Fr7 w b):Fr7 (w.setCell ⟨s,j,E⟩ v) b:=⟨λi=>by simp[go_sem,h.1 i],by simpa using h.2⟩
end
def sx {w:C}{B n b j z:Nat}{e:TypeId}{v u:mh}{xs:List mh}(h:w.ownsRow B e z v n xs)(q:b < B):(w.setCell ⟨b,j,E⟩ u).ownsRow B e z v n xs:=
 ⟨h.1,h.2.imp id λ⟨g,a,c,W,i,D,y⟩=>⟨g,a,c,W,i,by rw[hSe _ _ _ _ (by show g≠b;omega)];exact D,y⟩⟩

def bY (a b:List Int)(k:Nat):List Int:=((List.range k).map λn:Nat=>(n:Int)).filter λx=>a.contains x||b.contains x
def Tp:bY a b (k+1)=bY a b k++(if (a.contains (k:Int)||b.contains (k:Int))=W5 then [(k:Int)] else []):=by
 unfold bY;rw[List.range_succ,j8,List.filter_append];congr 1;by_cases h:(a.contains (k:Int)||b.contains (k:Int))=W5
 .simp only[j9,q3,q4,h,if_true,q5]
 .simp only[j9,q3,q4,h,if_false,q5,Bool.false_eq_true]
def Yk:X (bY a b k)<=k:=by
 unfold bY;exact lT (List.length_filter_le _ _) ae
def WJ (w:World)(g:Gs)(ss:oA)(gc:Nat)(h:Gs)(st:oA)(hc:Nat)(w':World):Prop:=
 (w'.cell? ⟨R (M w),0,E⟩=G (O g.n)/\w'.cell? ⟨R (M w),1,E⟩=G (O g.sp.n)/\w'.cell? ⟨R (M w),2,E⟩=G (I Y g.sp.lo)/\w'.cell? ⟨R (M w),3,E⟩=G (I Y g.sp.hi)/\w'.cell? ⟨R (M w),4,E⟩=G (O g.t)/\w'.cell? ⟨R (M w),5,E⟩=G (O g.f)/\w'.cell? ⟨R (M w),6,E⟩=G (U ss (X g.s) gc))/\
 (w'.cell? ⟨R (M w)+1,0,E⟩=G (O h.n)/\w'.cell? ⟨R (M w)+1,1,E⟩=G (O h.sp.n)/\w'.cell? ⟨R (M w)+1,2,E⟩=G (I Y h.sp.lo)/\w'.cell? ⟨R (M w)+1,3,E⟩=G (I Y h.sp.hi)/\w'.cell? ⟨R (M w)+1,4,E⟩=G (O h.t)/\w'.cell? ⟨R (M w)+1,5,E⟩=G (O h.f)/\w'.cell? ⟨R (M w)+1,6,E⟩=G (U st (X h.s) hc))
def Ho(h:p:=by
 have hln:=HL.out k;go_wp2_with (at_builtin;refine wpList_append_own _ rfl _ _ 34 rfl (R (M W)) 3 ti (I Y 0) 1 8 underlying34 hi xS qo qt rfl an _ _ _ rfl (OR.alloc _) ⟨R (M wr),0,E⟩ 1 1 [I Y (k:Int)] rfl rfl (cell_one_new _ _ _) (λx hx=>sQ) cL aa au ?_;intro v' w3 hown' jL hnil3;have Qw:∀b,b < R (M W)->G b≠(Value.slice vs (X (bY sl h.s k)) vc).ownBlock:=(λb hb e=>by have:=pO OR e.symm;omega);have O3:w3.ownsRow (R (M W)) 3 1 v' (X (bY sl h.s (k+1))) ((bY sl h.s (k+1)).map (.int .i64)):=(by rw[HT.out,List.map_append,List.length_append];exact hown');obtain⟨vs',vc',hv',-⟩:=yv.own O3;subst hv';have G3:=((GR.alloc _).grown jL (Qw _ aa));have H3:=((HR.alloc _).grown jL (Qw _ aa));have R3:=((RR.alloc _).grown jL (Qw _ aa));have F3:=((FR.alloc _).grown jL (Qw _ aa));have U3:=((UR.alloc _).grown jL (Qw _ aa));have X3:=((XR.alloc _).grown jL (Qw _ aa));have B3:=((BR.alloc BR.size _).grown jL (by simp;have:=BR.size;omega) (λj hj=>by have:=pO OR hj;omega));have z3:=jL.size;simp only[zA] at z3;obtain⟨⟨u0,u1,u2,u3,u4,u5,u6⟩,uz⟩:=id U3;simp only[Nat.zero_add] at u0 u1 u2 u3 u4 u5 u6;have fz3:=X3.1);go_roundw
 case rel=>exact⟨k+1,vs',vc',aa,aJ,G3.setFar aa,H3.setFar aa,R3.setFar aa,F3.set,U3.setS,X3.set,sx O3 aa,au,B3.setCell (by show R (M w)<=ob;omega) _⟩
 case measure=>exact aK):=h
def Gq(h:p:=by
 go_wp2_with fail;refine(Dt (k:Int) ss gc sl _ hgl IR).mono ?_;rintro e w5 ⟨rfl,hw5⟩;have hw6:=hw5.symm;subst hw6;have HD:Hid (sl.contains (k:Int)=sl.contains (k:Int)):=rfl;generalize hd:sl.contains (k:Int)=d at *;have HE:=ag hd;clear hd HD hw5;cases d with
 |true=>
  have HT:Hid (bY sl h.s (k+1)=bY sl h.s k++[(k:Int)]):=by show _=_;rw[HS.out k,if_pos];simp only[HE.out,Bool.true_or]
  exact Ho
 |false=>
  go_wp2_with fail;refine(Dt (k:Int) st hc h.s _ hlt' JR).mono ?_;rintro e w5 ⟨rfl,hw5⟩;have hw6:=hw5.symm;subst hw6;generalize hd2:h.s.contains (k:Int)=d2 at *;have HE2:=ag hd2;clear hd2 hw5;cases d2 with
  |true=>
   have HT:Hid (bY sl h.s (k+1)=bY sl h.s k++[(k:Int)]):=by show _=_;rw[HS.out k,if_pos];simp only[HE.out,HE2.out,Bool.false_or]
   exact Ho
  |false=>
   have HT:Hid (bY sl h.s (k+1)=bY sl h.s k):=by show _=_;rw[HS.out k,if_neg (by simp only[HE.out,HE2.out];simp),List.append_nil]
   go_wp2;go_roundw
   case rel=>exact⟨k+1,vs,vc,aa,aJ,GR,HR,RR,FR,by rw[HT.out];exact UR,XR,by rw[HT.out];exact OR,zR,BR⟩
   case measure=>exact aK):=h
def Fr(h:p:=by
 have HS:=ag (Tp g.s h.s);have HL:=ag (Yk g.s h.s);clear G0 H0 B0;go_enter func114,ntmps114;go_wp2;generalize ((w.alloc (A #[O g.n,O g.sp.n,I Y g.sp.lo,I Y g.sp.hi,O g.t,O g.f,U ss (X g.s) gc] 91)).alloc (A #[O h.n,O h.sp.n,I Y h.sp.lo,I Y h.sp.hi,O h.t,O h.f,U st (X h.s) hc] 91)).alloc (A #[O false,O false,I Y 0,I Y 0,O false,O false,U E 0 0] 91)=w1 at *;have KS:∀wx,a7b wx (R (M w)) 0 g ss gc->a7b wx (R (M w)+1) 0 h st hc->WJ w g ss gc h st hc wx:=λwx a b=>⟨by simpa using a.1,by simpa using b.1⟩;unfold WJ at KS;obtain⟨n,sp,t,f,sl⟩:=g;refine wp_region_held_drew (S:=WJ w ⟨n,sp,t,f,sl⟩ ss gc h st hc) ac (KS _ G1.drew H1.drew) (λxX=> ?_);unfold WJ at xX |-;refine XI ?_;refine wpAnyH_take (i:=3) (v:=if n=true then undef else Pp (G ⟨R (M w)+1,0,E⟩)) rfl ac ac ac (λ_ _ _ h=>h) ?_ cD ?_
 .cases n
  .refine Or.inl ⟨?_,?_⟩
   .rfl
   ·(intro w xB;(try dsimp only at xB);first|(go_simp;done)|(go_simp;with_reducible rfl))
  .exact dR
 refine sm ?_;refine wpAnyH_take (i:=4) (v:=if n=true then undef else O h.n) rfl ac ac ac (λ_ _ _ h=>h) ?_ cD ?_
 .cases n
  .refine Or.inl ⟨?_,?_⟩
   .rfl
   ·(intro w xB;(try dsimp only at xB);first|(go_simp;done)|(go_simp;with_reducible rfl))
  .exact dR
 refine sm ?_;refine wpAnyH_take (i:=5) (v:=O (n||h.n)) rfl ac ac ac (λ_ _ _ h=>h) ?_ cD ?_
 .cases n
  .refine Or.inl ⟨?_,?_⟩
   .rfl
   ·(intro w xB;(try dsimp only at xB);first|(go_simp;done)|(go_simp;with_reducible rfl))
  .refine Or.inl ⟨?_,?_⟩
   .rfl
   ·(intro w xB;(try dsimp only at xB);first|(go_simp;done)|(go_simp;with_reducible rfl))
 refine sm ?_;refine QO 6 ?_;refine QO 7 ?_;refine XD ?_;refine QO 12 ?_;refine QO 13 ?_;refine QO 18 ?_;refine QO 19 ?_;refine wpAnyH_ready (rs:=[11,25]) ac ae ?_;refine AllReadyH.cons rfl (λK hK=> ?_) (AllReadyH.cons rfl (λK hK=> ?_) AllReadyH.nil)
 .go_simp
  refine(HJ.out _).mono ?_;rintro e w2 ⟨rfl,xj⟩;have G2:=G1.drew.call xj;have H2:=H1.drew.call xj;have R2:=R1.drew.call xj;have F2:=F1.drew.call xj;have B2:bl w w2:=B1.drew.trans (xj.mono B1.size);clear xj G1 H1 R1 F1 B1;refine hK.out _ _ (KS _ G2 H2) (λxX=> ?_);clear hK K;refine sm ?_;refine QO 14 ?_;refine wpAnyH_take (i:=15) (v:=if t=true then undef else Pp (G ⟨R (M w)+1,4,E⟩)) rfl ac ac ac (λ_ _ _ h=>h) ?_ cD ?_
  .cases t
   .refine Or.inl ⟨?_,?_⟩
    .rfl
    ·(intro w xB;(try dsimp only at xB);first|(go_simp;done)|(go_simp;with_reducible rfl))
   .exact dR
  refine sm ?_;refine wpAnyH_take (i:=16) (v:=if t=true then undef else O h.t) rfl ac ac ac (λ_ _ _ h=>h) ?_ cD ?_
  .cases t
   .refine Or.inl ⟨?_,?_⟩
    .rfl
    ·(intro w xB;(try dsimp only at xB);first|(go_simp;done)|(go_simp;with_reducible rfl))
   .exact dR
  refine sm ?_;refine wpAnyH_take (i:=17) (v:=O (t||h.t)) rfl ac ac ac (λ_ _ _ h=>h) ?_ cD ?_
  .cases t
   .refine Or.inl ⟨?_,?_⟩
    .rfl
    ·(intro w xB;(try dsimp only at xB);first|(go_simp;done)|(go_simp;with_reducible rfl))
   .refine Or.inl ⟨?_,?_⟩
    .rfl
    ·(intro w xB;(try dsimp only at xB);first|(go_simp;done)|(go_simp;with_reducible rfl))
  refine sm ?_;refine QO 20 ?_;refine wpAnyH_take (i:=21) (v:=if f=true then undef else Pp (G ⟨R (M w)+1,5,E⟩)) rfl ac ac ac (λ_ _ _ h=>h) ?_ cD ?_
  .cases f
   .refine Or.inl ⟨?_,?_⟩
    .rfl
    ·(intro w xB;(try dsimp only at xB);first|(go_simp;done)|(go_simp;with_reducible rfl))
   .exact dR
  refine sm ?_;refine wpAnyH_take (i:=22) (v:=if f=true then undef else O h.f) rfl ac ac ac (λ_ _ _ h=>h) ?_ cD ?_
  .cases f
   .refine Or.inl ⟨?_,?_⟩
    .rfl
    ·(intro w xB;(try dsimp only at xB);first|(go_simp;done)|(go_simp;with_reducible rfl))
   .exact dR
  refine sm ?_;refine wpAnyH_take (i:=23) (v:=O (f||h.f)) rfl ac ac ac (λ_ _ _ h=>h) ?_ cD ?_
  .cases f
   .refine Or.inl ⟨?_,?_⟩
    .rfl
    ·(intro w xB;(try dsimp only at xB);first|(go_simp;done)|(go_simp;with_reducible rfl))
   .refine Or.inl ⟨?_,?_⟩
    .rfl
    ·(intro w xB;(try dsimp only at xB);first|(go_simp;done)|(go_simp;with_reducible rfl))
  refine sm ?_;refine QO 24 ?_;refine rH1 25 λK hK=> ?_;go_simp;refine hK.out _ _ (KS _ (G2.alloc _) (H2.alloc _)) (λxX=> ?_);clear hK K;refine sm ?_;refine rH1 26 λK hK=> ?_;go_simp;refine hK.out _ _ (KS _ (G2.alloc _) (H2.alloc _)) (λxX=> ?_);clear hK K;refine sm ?_;have GW:=G2.alloc (A #[O (n||h.n),O J.n,I Y J.lo,I Y J.hi,O (t||h.t),O (f||h.f),U E 0 0] 91);have HW:=H2.alloc (A #[O (n||h.n),O J.n,I Y J.lo,I Y J.hi,O (t||h.t),O (f||h.f),U E 0 0] 91);have RW:=R2.alloc (A #[O (n||h.n),O J.n,I Y J.lo,I Y J.hi,O (t||h.t),O (f||h.f),U E 0 0] 91);have FW:=F2.alloc (A #[O (n||h.n),O J.n,I Y J.lo,I Y J.hi,O (t||h.t),O (f||h.f),U E 0 0] 91);have BW:=B2.alloc B2.size (A #[O (n||h.n),O J.n,I Y J.lo,I Y J.hi,O (t||h.t),O (f||h.f),U E 0 0] 91);have UW:a7b (w2.alloc (A #[O (n||h.n),O J.n,I Y J.lo,I Y J.hi,O (t||h.t),O (f||h.f),U E 0 0] 91)) (R (M w2)) 0 ⟨n||h.n,J,t||h.t,f||h.f,bY sl h.s 0⟩ E 0:=a7b.new w2 ⟨n||h.n,J,t||h.t,f||h.f,[]⟩ E 0;have XW:Fr7 (w2.alloc (A #[O (n||h.n),O J.n,I Y J.lo,I Y J.hi,O (t||h.t),O (f||h.f),U E 0 0] 91)) (R (M w2)):=⟨λj=>aE,ae⟩;have zo:R (M w)+1+1 < R (M w2):=F2.2;have zw:=XW.2;clear G2 H2 R2 F2 B2;generalize w2.alloc (A #[O (n||h.n),O J.n,I Y J.lo,I Y J.hi,O (t||h.t),O (f||h.f),U E 0 0] 91)=W at *;generalize (R (M w2))=ob at *;refine wpAnyH_done ac ?_ _;generalize (if n=true then undef else(Pp (G ⟨R (M w)+1,0,E⟩):Value))=y0;generalize (if n=true then undef else(O h.n:Value))=y1;generalize (if t=true then undef else(Pp (G ⟨R (M w)+1,4,E⟩):Value))=y2;generalize (if t=true then undef else(O h.t:Value))=y3;generalize (if f=true then undef else(Pp (G ⟨R (M w)+1,5,E⟩):Value))=y4;generalize (if f=true then undef else(O h.f:Value))=y5;clear xX KS HJ;go_wp2;go_loopw [8] (λi wr=>∃(k:Nat) (vs:oA) (vc:Nat),k<=60/\i=I Y k/\a7b wr (R (M w)) 0 ⟨n,sp,t,f,sl⟩ ss gc/\a7b wr (R (M w)+1) 0 h st hc/\a7b wr (R (M w)+1+1) 0 bT E 0/\Fr7 wr (R (M w)+1+1)/\a7b wr ob 0 ⟨n||h.n,J,t||h.t,f||h.f,bY sl h.s k⟩ vs vc/\Fr7 wr ob/\wr.ownsRow (R (M W)) 3 1 (U vs (X (bY sl h.s k)) vc) (X (bY sl h.s k)) ((bY sl h.s k).map (.int .i64))/\R (M W)<=R (M wr)/\bl w wr) (λi _=>60 - (intOf i).toNat)
  case atStart=>exact⟨0,E,0,aa,rfl,GW,HW,RW,FW,UW,XW,⟨by simp[bY],.inl ⟨rfl,by simp[bY]⟩⟩,lR _,BW⟩
  case round=>
   obtain⟨k,vs,vc,hk,rfl,GR,HR,RR,FR,UR,XR,OR,zR,BR⟩:=hrel;clear GW HW RW FW UW XW BW;have IR:=hs.below BR (lR _);have JR:=ht.below BR (lR _);obtain⟨⟨g0,g1,g2,g3,g4,g5,g6⟩,gz⟩:=id GR;obtain⟨⟨k0,k1,k2,k3,k4,k5,k6⟩,kz⟩:=id HR;obtain⟨⟨u0,u1,u2,u3,u4,u5,u6⟩,uz⟩:=id UR;simp only[Nat.zero_add] at g0 g1 g2 g3 g4 g5 g6 k0 k1 k2 k3 k4 k5 k6 u0 u1 u2 u3 u4 u5 u6;by_cases xy:k < 60
   .have n1:(k:Int) < 60:=by omega
    exact Gq
   .have hk':k=60:=by omega
    subst hk';obtain⟨⟨r0,r1,r2,r3,r4,r5,r6⟩,rz⟩:=id RR;simp only[Nat.zero_add,bT] at r0 r1 r2 r3 r4 r5 r6;have fz:=FR.1;go_wp2;refine bodyPost_ret (v:=.agg #[O (n||h.n),O J.n,I Y J.lo,I Y J.hi,O (t||h.t),O (f||h.f),U vs (X (bY sl h.s 60)) vc]) U8 rfl ⟨_,rfl,?_,?_⟩
    .exact iz (iE OR aa) aa
    .exact bP BR aa
 .go_simp
  have GA:=(G1.alloc (A #[O false,O false,I Y 0,I Y 0,O false,O false,U E 0 0] 91)).drew;have HA:=(H1.alloc (A #[O false,O false,I Y 0,I Y 0,O false,O false,U E 0 0] 91)).drew;have RA:=(R1.alloc (A #[O false,O false,I Y 0,I Y 0,O false,O false,U E 0 0] 91)).drew;have FA:=(F1.alloc (A #[O false,O false,I Y 0,I Y 0,O false,O false,U E 0 0] 91)).drew;have BA:=(B1.alloc B1.size (A #[O false,O false,I Y 0,I Y 0,O false,O false,U E 0 0] 91)).drew;have UA:a7b (w1.alloc (A #[O false,O false,I Y 0,I Y 0,O false,O false,U E 0 0] 91)).drew (R (M w1)) 0 bT E 0:=(a7b.new w1 bT E 0).drew;have XA:Fr7 (w1.alloc (A #[O false,O false,I Y 0,I Y 0,O false,O false,U E 0 0] 91)).drew (R (M w1)):=Fr7.drew ⟨λj=>aE,ae⟩;have zo:R (M w)+1+1 < R (M w1):=F1.2;refine hK.out _ _ (KS _ GA HA) (λxX=> ?_);clear hK K G1 H1 R1 F1 B1;refine sm ?_;refine rH1 11 λK hK=> ?_;go_simp;refine(HJ.out _).mono ?_;rintro e w2 ⟨rfl,xj⟩;have G2:=GA.call xj;have H2:=HA.call xj;have R2:=RA.call xj;have F2:=FA.call xj;have U2:=UA.call xj;have X2:=XA.call xj;have B2:bl w w2:=BA.trans (xj.mono BA.size);clear xj GA HA RA FA BA UA XA;generalize (R (M w1))=ob at *;refine hK.out _ _ (KS _ G2 H2) (λxX=> ?_);clear hK K;refine sm ?_;refine QO 14 ?_;refine wpAnyH_take (i:=15) (v:=if t=true then undef else Pp (G ⟨R (M w)+1,4,E⟩)) rfl ac ac ac (λ_ _ _ h=>h) ?_ cD ?_
  .cases t
   .refine Or.inl ⟨?_,?_⟩
    .rfl
    ·(intro w xB;(try dsimp only at xB);first|(go_simp;done)|(go_simp;with_reducible rfl))
   .exact dR
  refine sm ?_;refine wpAnyH_take (i:=16) (v:=if t=true then undef else O h.t) rfl ac ac ac (λ_ _ _ h=>h) ?_ cD ?_
  .cases t
   .refine Or.inl ⟨?_,?_⟩
    .rfl
    ·(intro w xB;(try dsimp only at xB);first|(go_simp;done)|(go_simp;with_reducible rfl))
   .exact dR
  refine sm ?_;refine wpAnyH_take (i:=17) (v:=O (t||h.t)) rfl ac ac ac (λ_ _ _ h=>h) ?_ cD ?_
  .cases t
   .refine Or.inl ⟨?_,?_⟩
    .rfl
    ·(intro w xB;(try dsimp only at xB);first|(go_simp;done)|(go_simp;with_reducible rfl))
   .refine Or.inl ⟨?_,?_⟩
    .rfl
    ·(intro w xB;(try dsimp only at xB);first|(go_simp;done)|(go_simp;with_reducible rfl))
  refine sm ?_;refine QO 20 ?_;refine wpAnyH_take (i:=21) (v:=if f=true then undef else Pp (G ⟨R (M w)+1,5,E⟩)) rfl ac ac ac (λ_ _ _ h=>h) ?_ cD ?_
  .cases f
   .refine Or.inl ⟨?_,?_⟩
    .rfl
    ·(intro w xB;(try dsimp only at xB);first|(go_simp;done)|(go_simp;with_reducible rfl))
   .exact dR
  refine sm ?_;refine wpAnyH_take (i:=22) (v:=if f=true then undef else O h.f) rfl ac ac ac (λ_ _ _ h=>h) ?_ cD ?_
  .cases f
   .refine Or.inl ⟨?_,?_⟩
    .rfl
    ·(intro w xB;(try dsimp only at xB);first|(go_simp;done)|(go_simp;with_reducible rfl))
   .exact dR
  refine sm ?_;refine wpAnyH_take (i:=23) (v:=O (f||h.f)) rfl ac ac ac (λ_ _ _ h=>h) ?_ cD ?_
  .cases f
   .refine Or.inl ⟨?_,?_⟩
    .rfl
    ·(intro w xB;(try dsimp only at xB);first|(go_simp;done)|(go_simp;with_reducible rfl))
   .refine Or.inl ⟨?_,?_⟩
    .rfl
    ·(intro w xB;(try dsimp only at xB);first|(go_simp;done)|(go_simp;with_reducible rfl))
  refine sm ?_;refine QO 24 ?_;obtain⟨⟨o0,o1,o2,o3,o4,o5,o6⟩,oz⟩:=id U2;simp only[Nat.zero_add,bT] at o0 o1 o2 o3 o4 o5 o6;have fzo:=X2.1;refine rH1 26 λK hK=> ?_;go_simp;have GW:=a7b.put7 (b:=ob) (v0:=O (n||h.n)) (v1:=O J.n) (v2:=I Y J.lo) (v3:=I Y J.hi) (v4:=O (t||h.t)) (v5:=O (f||h.f)) (v6:=U E 0 0) G2 aa;have HW:=a7b.put7 (b:=ob) (v0:=O (n||h.n)) (v1:=O J.n) (v2:=I Y J.lo) (v3:=I Y J.hi) (v4:=O (t||h.t)) (v5:=O (f||h.f)) (v6:=U E 0 0) H2 aa;have RW:=a7b.put7 (b:=ob) (v0:=O (n||h.n)) (v1:=O J.n) (v2:=I Y J.lo) (v3:=I Y J.hi) (v4:=O (t||h.t)) (v5:=O (f||h.f)) (v6:=U E 0 0) R2 aa;have FW:Fr7 (lP w2 ob (O (n||h.n)) (O J.n) (I Y J.lo) (I Y J.hi) (O (t||h.t)) (O (f||h.f)) (U E 0 0)) (R (M w)+1+1):=((((((F2.set).set).set).set).set).set).set;have XW:Fr7 (lP w2 ob (O (n||h.n)) (O J.n) (I Y J.lo) (I Y J.hi) (O (t||h.t)) (O (f||h.f)) (U E 0 0)) ob:=((((((X2.set).set).set).set).set).set).set;have UW:a7b (lP w2 ob (O (n||h.n)) (O J.n) (I Y J.lo) (I Y J.hi) (O (t||h.t)) (O (f||h.f)) (U E 0 0)) ob 0 ⟨n||h.n,J,t||h.t,f||h.f,bY sl h.s 0⟩ E 0:=⟨by simp[go_sem,lP,o0,o1,o2,o3,o4,o5,o6,bY],by rw[AL];exact oz⟩;have BW:bl w (lP w2 ob (O (n||h.n)) (O J.n) (I Y J.lo) (I Y J.hi) (O (t||h.t)) (O (f||h.f)) (U E 0 0)):=bP B2 aa;refine hK.out _ _ (KS _ GW HW) (λxX=> ?_);have zw:=XW.2;clear hK K G2 H2 R2 F2 U2 X2 B2 o0 o1 o2 o3 o4 o5 o6 fzo oz;refine sm ?_;unfold lP at GW HW RW FW XW UW BW zw;generalize ((((((w2.setCell ⟨ob,0,E⟩ (O (n||h.n))).setCell ⟨ob,1,E⟩ (O J.n)).setCell ⟨ob,2,E⟩ (I Y J.lo)).setCell ⟨ob,3,E⟩ (I Y J.hi)).setCell ⟨ob,4,E⟩ (O (t||h.t))).setCell ⟨ob,5,E⟩ (O (f||h.f))).setCell ⟨ob,6,E⟩ (U E 0 0)=W at *;refine wpAnyH_done ac ?_ _;generalize (if n=true then undef else(Pp (G ⟨R (M w)+1,0,E⟩):Value))=y0;generalize (if n=true then undef else(O h.n:Value))=y1;generalize (if t=true then undef else(Pp (G ⟨R (M w)+1,4,E⟩):Value))=y2;generalize (if t=true then undef else(O h.t:Value))=y3;generalize (if f=true then undef else(Pp (G ⟨R (M w)+1,5,E⟩):Value))=y4;generalize (if f=true then undef else(O h.f:Value))=y5;clear xX KS HJ;go_wp2;go_loopw [8] (λi wr=>∃(k:Nat) (vs:oA) (vc:Nat),k<=60/\i=I Y k/\a7b wr (R (M w)) 0 ⟨n,sp,t,f,sl⟩ ss gc/\a7b wr (R (M w)+1) 0 h st hc/\a7b wr (R (M w)+1+1) 0 bT E 0/\Fr7 wr (R (M w)+1+1)/\a7b wr ob 0 ⟨n||h.n,J,t||h.t,f||h.f,bY sl h.s k⟩ vs vc/\Fr7 wr ob/\wr.ownsRow (R (M W)) 3 1 (U vs (X (bY sl h.s k)) vc) (X (bY sl h.s k)) ((bY sl h.s k).map (.int .i64))/\R (M W)<=R (M wr)/\bl w wr) (λi _=>60 - (intOf i).toNat)
  case atStart=>exact⟨0,E,0,aa,rfl,GW,HW,RW,FW,UW,XW,⟨by simp[bY],.inl ⟨rfl,by simp[bY]⟩⟩,lR _,BW⟩
  case round=>
   obtain⟨k,vs,vc,hk,rfl,GR,HR,RR,FR,UR,XR,OR,zR,BR⟩:=hrel;clear GW HW RW FW UW XW BW;have IR:=hs.below BR (lR _);have JR:=ht.below BR (lR _);obtain⟨⟨g0,g1,g2,g3,g4,g5,g6⟩,gz⟩:=id GR;obtain⟨⟨k0,k1,k2,k3,k4,k5,k6⟩,kz⟩:=id HR;obtain⟨⟨u0,u1,u2,u3,u4,u5,u6⟩,uz⟩:=id UR;simp only[Nat.zero_add] at g0 g1 g2 g3 g4 g5 g6 k0 k1 k2 k3 k4 k5 k6 u0 u1 u2 u3 u4 u5 u6;by_cases xy:k < 60
   .have n1:(k:Int) < 60:=by omega
    exact Gq
   .have hk':k=60:=by omega
    subst hk';obtain⟨⟨r0,r1,r2,r3,r4,r5,r6⟩,rz⟩:=id RR;simp only[Nat.zero_add,bT] at r0 r1 r2 r3 r4 r5 r6;have fz:=FR.1;go_wp2;refine bodyPost_ret (v:=.agg #[O (n||h.n),O J.n,I Y J.lo,I Y J.hi,O (t||h.t),O (f||h.f),U vs (X (bY sl h.s 60)) vc]) U8 rfl ⟨_,rfl,?_,?_⟩
    .exact iz (iE OR aa) aa
    .exact bP BR aa):=h
end
section
def wK:∀(a b:List Int),a.Pairwise (· < ·)->b.Pairwise (· < ·)->(∀x,x∈a↔x∈b)->a=b
 |[],[],_,_,_=>rfl
 |[],y::b,_,_,h=>absurd ((h y).2 ae) ae
 |x::a,[],_,_,h=>absurd ((h x).1 ae) ae
 |x::a,y::b,ha,hb,h=>by
  rw[List.pairwise_cons] at ha hb;have c:x=y:=by
   have m:=(h x).1 ae;have r:=(h y).2 ae;rw[j4] at m r;rcases m with e|m
   .exact e
   .rcases r with e|r
    .exact e.symm
    .have:=ha.1 y r
     have:=hb.1 x m;omega
  subst c;rw[wK a b ha.2 hb.2 λz=> ?_];constructor
  .intro u
   have:=(h z).1 (by simp[u]);rw[j4] at this;rcases this with e|m
   .have:=ha.1 z u;omega
   .exact m
  .intro u
   have:=(h z).2 (by simp[u]);rw[j4] at this;rcases this with e|m
   .have:=hb.1 z u;omega
   .exact m

def FV:x∈bY a b k↔(0<=x/\x < k)/\(x∈a\/x∈b):=by
 unfold bY;rw[j1,q7];simp only[j2,Bool.or_eq_true,List.contains_iff_mem];constructor
 .rintro ⟨⟨n,s,rfl⟩,h⟩
  exact⟨⟨aa,aa⟩,h⟩
 .rintro ⟨⟨t,m⟩,h⟩
  exact⟨⟨x.toNat,aa,aa⟩,h⟩

def y6:(bY a b k).Pairwise (· < ·):=by
 unfold bY;refine j3.filter _ ?_;rw[q8];exact j3.imp (λh=>aa) q9

open Go.Lib in
def Kk(h:l.Pairwise (· <=·)):(compact l).Pairwise (· < ·)/\∀x,x∈compact l↔x∈l:=by
 have get:∀j (c:j < X l),l.toArray[j]! =l[j]:=λj c=>by simp[c]
 have mono:∀i j (hi:i < X l) (c:j < X l),i<=j->l[i]<=l[j]:=by
  intro i j hi c b;by_cases e:i=j
  .subst e;exact Int.le_refl _
  .exact List.pairwise_iff_getElem.1 h i j hi c aa
 constructor
 .unfold compact compactUpTo
  rw[q8];refine j3.imp_of_mem ?_ (j3.filter _ q9);intro i j hi c b;rw[j1,j2] at hi c;rw[get i hi.1,get j c.1];have z:=c.2;unfold keeps at z;rw[decide_eq_true_eq] at z;rcases z with e|n
  .omega
  .rw[get j c.1,get (j - 1) aa] at n
   have m:=mono i (j - 1) hi.1 aa aa;have r:=mono (j - 1) j aa c.1 aa;omega
 .intro x
  unfold compact compactUpTo;rw[q7];constructor
  .rintro ⟨j,c,rfl⟩
   rw[j1,j2] at c;rw[get j c.1];exact gM _
  .intro V
   obtain⟨j,c,rfl⟩:=List.getElem_of_mem V;have g:∃i,i<=j/\∃(hi:i < X l),l[i]=l[j]/\keeps l.toArray i=true:=by
    clear V;induction j with
    |zero=>exact⟨0,lR _,c,rfl,by simp[keeps]⟩
    |succ j ih=>
     by_cases e:l[j+1]=l[j]
     .obtain⟨i,hi,a,m,r⟩:=ih aa
      exact⟨i,aa,a,by rw[m,e],r⟩
     .refine⟨j+1,lR _,c,rfl,?_⟩
      unfold keeps;rw[decide_eq_true_eq];right;rw[get (j+1) c,get (j+1 - 1) aa];exact e
   obtain⟨i,-,a,m,r⟩:=g;refine⟨i,?_,by rw[get i a,m]⟩;rw[j1,j2];exact⟨a,r⟩

def oV (g h:Gs)(i:∀x∈g.s,0<=x/\x < 60)(e:∀x∈h.s,0<=x/\x < 60):dd [g,h]=bY g.s h.s 60:=by
 have hs:(([g,h].flatMap Gs.s).mergeSort λx y=>decide (x<=y)).Pairwise (· <=·):=by
  have:=List.pairwise_mergeSort (le:=λx y:Int=>decide (x<=y)) (by intro a b c;simp;omega) (by intro a b;simp;omega) ([g,h].flatMap Gs.s);exact this.imp λh=>cn
 obtain⟨m,r⟩:=Kk _ hs;refine wK _ _ m (y6 _ _ _) λx=> ?_;rw[show dd [g,h]=Go.Lib.compact (([g,h].flatMap Gs.s).mergeSort λx y=>decide (x<=y)) from rfl,r,List.mem_mergeSort,FV];simp only[List.flatMap_cons,List.flatMap_nil,q6,List.mem_append];constructor
 .rintro (h|h)
  .exact⟨i x h,.inl h⟩
  .exact⟨e x h,.inr h⟩
 .exact λh=>h.2

def a0m {c:lI}(o:X c<=60){x:Int}(h:cJ c x=W5):0<=x/\x < 60:=by
 unfold cJ at h;simp only[Bool.and_eq_true,decide_eq_true_eq] at h;omega

def dY {c:lI}{g:Gs}(o:X c<=60)(h:aH c g=0):(∀x∈g.s,0<=x/\x < 60)/\dQ g.s=true:=by
 unfold aH at h;split at h
 .contradiction
 .split at h
  .cases h
  .split at h
   .cases h
   .rename_i h1 h2
    refine⟨λx V=> ?_,mK⟩;have:g.s.all (cJ c)=true:=iA;exact a0m o (List.all_eq_true.1 this x V)
def dJ {l:List Int}(a:dQ l=W5)(q:∀x∈l,0<=x/\x < 60):X l<=60:=by
 have b:∀k (h:k < X l),(k:Int)<=l[k]:=by
  intro k;induction k with
  |zero=>intro h;exact(q _ (gM h)).1
  |succ k ih=>
   intro h;have m:=ih aa;have r:=(Gd l).1 a k h;omega
 by_cases t:X l=0
 .omega
 .have m:=b (X l - 1) aa
  have r:=(q _ (gM (show X l - 1 < X l by omega))).2;omega
end
section
open Go.RowKit
section
variable (w:C)(hs:yv w ss g.s)(hgl:X g.s<=9223372036854775807)(ht:yv w st h.s)(hlt':X h.s<=9223372036854775807)
def Lb:
  Calls pG 114 #[gv g ss gc,gv h st hc,O BT] w λe w'=>∃v,e=Rt (Ag #[O (g.n||h.n),O (bw g.sp h.sp).n,I Y (bw g.sp h.sp).lo,I Y (bw g.sp h.sp).hi,O (g.t||h.t),O (g.f||h.f),v])/\w'.ownsRow (R (M w)) 3 1 v (X (bY g.s h.s 60)) ((bY g.s h.s 60).map (.int .i64))/\bl w w':=by
 obtain⟨ti,hi,xS,qo,qt⟩:=info_parts Tryz.info_intG;obtain⟨G0,H0,B0⟩:=RU w g ss gc h st hc;have G1:=OL;have H1:=NF;have B1:=MH;have R1:a7b (((w.alloc (A #[O g.n,O g.sp.n,I Y g.sp.lo,I Y g.sp.hi,O g.t,O g.f,U ss (X g.s) gc] 91)).alloc (A #[O h.n,O h.sp.n,I Y h.sp.lo,I Y h.sp.hi,O h.t,O h.f,U st (X h.s) hc] 91)).alloc (A #[O BT,O BT,I Y 0,I Y 0,O BT,O BT,U E 0 0] 91)) (R (M w)+1+1) 0 bT E 0:=by
  have:=a7b.new ((w.alloc (A #[O g.n,O g.sp.n,I Y g.sp.lo,I Y g.sp.hi,O g.t,O g.f,U ss (X g.s) gc] 91)).alloc (A #[O h.n,O h.sp.n,I Y h.sp.lo,I Y h.sp.hi,O h.t,O h.f,U st (X h.s) hc] 91)) bT E 0;simp only[zA] at this;exact this
 have F1:=MD;have HJ:=ag (λw=>Oh g.sp h.sp w);generalize bw g.sp h.sp=J at HJ |-;exact Fr
def Kj:
  Calls pG 114 #[gv g ss gc,gv h st hc,O W5] w λe w'=>∃v,e=Rt (Ag #[O (g.n||h.n),O (bH g.sp h.sp).n,I Y (bH g.sp h.sp).lo,I Y (bH g.sp h.sp).hi,O (g.t||h.t),O (g.f||h.f),v])/\w'.ownsRow (R (M w)) 3 1 v (X (bY g.s h.s 60)) ((bY g.s h.s 60).map (.int .i64))/\bl w w':=by
 obtain⟨ti,hi,xS,qo,qt⟩:=info_parts Tryz.info_intG;obtain⟨G0,H0,B0⟩:=RU w g ss gc h st hc;have G1:=OL;have H1:=NF;have B1:=MH;have R1:a7b (((w.alloc (A #[O g.n,O g.sp.n,I Y g.sp.lo,I Y g.sp.hi,O g.t,O g.f,U ss (X g.s) gc] 91)).alloc (A #[O h.n,O h.sp.n,I Y h.sp.lo,I Y h.sp.hi,O h.t,O h.f,U st (X h.s) hc] 91)).alloc (A #[O BT,O BT,I Y 0,I Y 0,O BT,O BT,U E 0 0] 91)) (R (M w)+1+1) 0 bT E 0:=by
  have:=a7b.new ((w.alloc (A #[O g.n,O g.sp.n,I Y g.sp.lo,I Y g.sp.hi,O g.t,O g.f,U ss (X g.s) gc] 91)).alloc (A #[O h.n,O h.sp.n,I Y h.sp.lo,I Y h.sp.hi,O h.t,O h.f,U st (X h.s) hc] 91)) bT E 0;simp only[zA] at this;exact this
 have F1:=MD;have HJ:=ag (λw=>Oo g.sp h.sp w);generalize bH g.sp h.sp=J at HJ |-;exact Fr
end
section
variable (a:Int)(w:C)(xC:a2r w s c)(hs:yv w ss g.s)(h1:X g.s<=gc)(h2:gc<=maxLen)(ht:yv w st h.s)(h3:X h.s<=hc)(h4:hc<=maxLen)
def a3F(k:aY V F c [g,h]≠0):
  Calls f 164 #[pv V F s c cap,I Y a,gv g ss gc,gv h st hc] w λe w'=>e=Rt (Tu #[gv bT E 0,O d,I Y (aY V F c [g,h])])/\bl w w':=by
 obtain⟨K,G0,H0,R0,F0⟩:=fN;have B0:=fJ;have C0:=fM;have I0:=fH;have J0:=fE;have L0:=gB;simp only[zA] at L0;have l:=nw;have n:(aY V F c [g,h]!=0)=true:=by simpa using k
 generalize aY V F c [g,h]=ce at l n |-;clear k;go_enter func164,ntmps164;go_wp2_with fail;go_call l.out as e w1 ⟨rfl,vZ⟩;have T:=dG;have r:=gL;have t:=iJ;have u:=iK;have H:=dB;clear vZ G0 H0 R0 I0 J0 F0 B0 C0 L0 xC hs ht l;obtain⟨⟨W,D,x,_⟩,P⟩:=id T;obtain⟨⟨q,m,B,S,o,b,Q⟩,j⟩:=id r;simp only[j0] at x b;obtain⟨⟨r0,r1,r2,r3,r4,r5,r6⟩,rz⟩:=id t;simp only[j0,bT] at r0 r1 r2 r3 r4 r5 r6;have i:=u.1;go_wp2;refine bodyPost_ret (v:=Tu #[gv bT E 0,O d,I Y ce]) UB rfl ⟨rfl,?_⟩;exact bP H aa

def a1J(k:aY V F c [g,h]=0)(o:(a==4)=d)(j:(a==5)=d)(m:(a==6)=d)(i:(a==7)=d)(q:(a==8)=d)(n:(a==9)=d)(b:(a==10)=d):
  Calls f 164 #[pv V F s c cap,I Y a,gv g ss gc,gv h st hc] w λe w'=>e=Rt (Tu #[gv bT E 0,O d,I Y 6])/\bl w w':=by
 obtain⟨K,G0,H0,R0,F0⟩:=fN;have B0:=fJ;have C0:=fM;have I0:=fH;have J0:=fE;have L0:=gB;simp only[zA] at L0;have l:=nw;rw[k] at l;go_enter func164,ntmps164;go_wp2_with fail;go_call l.out as e w1 ⟨rfl,vZ⟩;have T:=dG;have r:=gL;have t:=iJ;have u:=iK;have H:=dB;clear vZ G0 H0 R0 I0 J0 F0 B0 C0 L0 xC hs ht l;obtain⟨⟨W,D,x,_⟩,P⟩:=id T;simp only[j0] at x;obtain⟨⟨r0,r1,r2,r3,r4,r5,r6⟩,rz⟩:=id t;simp only[j0,bT] at r0 r1 r2 r3 r4 r5 r6;have fz:=u.1;go_wp2;refine bodyPost_ret (v:=Tu #[gv bT E 0,O d,I Y 6]) UB rfl ⟨rfl,?_⟩;exact bP H aa
end
section
variable (w:C)(xC:a2r w s c)(hs:yv w ss g.s)(h1:X g.s<=gc)(h2:gc<=maxLen)(ht:yv w st h.s)(h3:X h.s<=hc)(h4:hc<=maxLen)(k:aY V F c [g,h]=0)
def a3l(y n:Bool)(a:∀wx,bl w wx->Calls f 206 #[gv g ss gc,gv h st hc] wx λe w'=>e=Rt (Tu #[O y,O n])/\bl wx w'):
  Calls f 164 #[pv V F s c cap,I Y 9,gv g ss gc,gv h st hc] w λe w'=>e=Rt (Tu #[gv ⟨d,⟨W5,0,0⟩,y,n,[]⟩ E 0,O d,I Y 0])/\bl w w':=by
 obtain⟨K,G0,H0,R0,F0⟩:=fN;have B0:=fJ;have C0:=fM;have I0:=fH;have J0:=fE;have L0:=gB;simp only[zA] at L0;have l:=nw;rw[k] at l;have i:=ag a;clear a;go_enter func164,ntmps164;go_wp2_with fail;go_call l.out as e w1 ⟨rfl,vZ⟩;have T:=dG;have r:=gL;have t:=iJ;have u:=iK;have B1:=dB;clear vZ G0 H0 R0 I0 J0 F0 B0 C0 L0 xC hs ht l;obtain⟨⟨W,D,x,L,z,N,Z⟩,P⟩:=id T;obtain⟨⟨q,m,B,S,o,b,Q⟩,kz⟩:=id r;simp only[j0] at W D x L z N Z q m B S o b Q;go_wp2_with fail;go_call i.out _ B1 as e w2 ⟨rfl,xj⟩;have H:=t.call xj;have j:=u.call xj;have B2:=fU;clear xj;go_wp2_with fail;go_call oK _ _ _ as e w3 ⟨rfl,xp⟩;have R3:=H.call xp;have F3:=j.call xp;have B3:=ir;clear xp;obtain⟨⟨r0,r1,r2,r3,r4,r5,r6⟩,rz⟩:=id R3;simp only[j0,bT] at r0 r1 r2 r3 r4 r5 r6;have fz:=F3.1;go_wp2;refine bodyPost_ret (v:=Tu #[gv ⟨d,⟨W5,0,0⟩,y,n,[]⟩ E 0,O d,I Y 0]) BN rfl ⟨rfl,?_⟩;exact bP B3 aa

def a5E(a:cY g.sp=0):
  Calls f 164 #[pv V F s c cap,I Y 10,gv g ss gc,gv h st hc] w λe w'=>e=Rt (Tu #[gv ⟨d,⟨W5,0,0⟩,dp g,cM g,[]⟩ E 0,O d,I Y 0])/\bl w w':=by
 obtain⟨K,G0,H0,R0,F0⟩:=fN;have B0:=fJ;have C0:=fM;have I0:=fH;have J0:=fE;have L0:=gB;simp only[zA] at L0;have l:=nw;rw[k] at l;have i:=ag (λw=>Hj g ss gc w a);generalize cM g=y at i |-;generalize dp g=n at i |-;clear a;go_enter func164,ntmps164;go_wp2_with fail;go_call l.out as e w1 ⟨rfl,vZ⟩;have T:=dG;have r:=gL;have t:=iJ;have u:=iK;have B1:=dB;clear vZ G0 H0 R0 I0 J0 F0 B0 C0 L0 xC hs ht l;obtain⟨⟨W,D,x,L,z,N,Z⟩,P⟩:=id T;simp only[j0] at W D x L z N Z;go_wp2_with fail;go_call i.out _ as e w2 ⟨rfl,xj⟩;have H:=t.call xj;have j:=u.call xj;have B2:=fU;clear xj;go_wp2_with fail;go_call oK _ _ _ as e w3 ⟨rfl,xp⟩;have R3:=H.call xp;have F3:=j.call xp;have B3:=ir;clear xp;obtain⟨⟨r0,r1,r2,r3,r4,r5,r6⟩,rz⟩:=id R3;simp only[j0,bT] at r0 r1 r2 r3 r4 r5 r6;have fz:=F3.1;go_wp2;refine bodyPost_ret (v:=Tu #[gv ⟨d,⟨W5,0,0⟩,n,y,[]⟩ E 0,O d,I Y 0]) BN rfl ⟨rfl,?_⟩;exact bP B3 aa
end
def Wi(cap:Nat)(l:List Int)(w:C)(o:X l<=1000000)(hs:yv w ss l):
  Calls f 179 #[U ss (X l) cap] w λe w'=>∃v,e=Rt v/\w'.ownsRow (R (M w)) 3 1 v (X l) (l.map (.int .i64))/\bl w w':=by
 cases ss with
 |none=>
  have t:l=[]:=by
   rcases hs with h|⟨_,_,h,_⟩
   .exact h
   .cases h
  subst t;go_call Tryz.slices_Clone_int_nil _ _ _ as e w' ⟨rfl,rfl⟩;exact⟨_,rfl,⟨rfl,.inl ⟨rfl,rfl⟩⟩,bR _ _⟩
 |some a=>
  by_cases t:l=[]
  .subst t
   go_call Tryz.slices_Clone_int_zero a cap w as e w' ⟨v,rfl,g,-,q⟩;exact⟨_,rfl,g,q⟩
  .obtain⟨b,i,e,q,k⟩:=hs.get 0 (List.length_pos_iff.2 t)
   cases e;refine(Tryz.slices_Clone_int b i (X l) cap l w (lR _) aa (λj c=> ?_)).mono ?_
   .rw[k j c]
    simp[List.getD,List.getElem?_eq_getElem c]
   .rintro e w' ⟨v,rfl,g,-,qC⟩
    rw[List.take_length] at g;exact⟨_,rfl,g,qC⟩

def a6B(w:C)(xC:a2r w s c)(hs:yv w ss g.s)(h1:X g.s<=gc)(h2:gc<=maxLen)(ht:yv w st h.s)(h3:X h.s<=hc)(h4:hc<=maxLen)(k:aY V F c [g,h]=0)(a:X g.s<=1000000):
  Calls f 164 #[pv V F s c cap,I Y 4,gv g ss gc,gv h st hc] w λe w'=>∃v,e=Rt (Tu #[Ag #[O g.n,O g.sp.n,I Y g.sp.lo,I Y g.sp.hi,O g.t,O g.f,v],O d,I Y 0])/\w'.ownsRow (R (M w)) 3 1 v (X g.s) (g.s.map (.int .i64))/\bl w w':=by
 obtain⟨K,G0,H0,R0,F0⟩:=fN;have B0:=fJ;have C0:=fM;have I0:=fH;have J0:=fE;have L0:=gB;simp only[zA] at L0;have l:=nw;have FG:Fr7 (pH w V F s c cap g ss gc h st hc) (R (M w)+1):=⟨λj=>aE,ae⟩;rw[k] at l;go_enter func164,ntmps164;go_wp2_with fail;go_call l.out as e w1 ⟨rfl,vZ⟩;have T:=dG;have r:=gL;have t:=iJ;have y:=eh;have u:=iK;have B1:=dB;have X1:=(FG.alloc _).call vZ;clear vZ FG G0 H0 R0 I0 J0 F0 B0 C0 L0 xC hs ht l;obtain⟨⟨W,D,x,L,z,N,Z⟩,P⟩:=id T;simp only[j0] at W D x L z N Z;go_wp2_with fail;go_call Wi ss gc _ _ a y as e w2 ⟨v,rfl,xK,xj⟩;have G2:=T.call xj;have H:=t.call xj;have F2:=u.call xj;have X2:=X1.call xj;have B2:=fU;have z2:=u.2;clear xj W D x L z N Z;have O2:=xK;obtain⟨vs,vc,hv,-,-,-,-⟩:=kv;subst hv;obtain⟨⟨W,D,x,L,z,N,Z⟩,P⟩:=id G2;simp only[j0] at W D x L z N Z;have fx:=X2.1;obtain⟨⟨r0,r1,i,r3,r4,r5,r6⟩,rz⟩:=id H;simp only[j0,bT] at r0 r1 i r3 r4 r5 r6;have fz:=F2.1;clear xK;go_wp2;refine bodyPost_ret (v:=Tu #[Ag #[O g.n,O g.sp.n,I Y g.sp.lo,I Y g.sp.hi,O g.t,O g.f,U vs (X g.s) vc],O d,I Y 0]) (by simp[results,results164,go_sem,r0,r1,i,r3,r4,r5,r6,W,D,x,L,z,N,Z]) rfl ⟨_,rfl,?_,?_⟩
 .exact iz (iE (sx O2 aa) aa) aa
 .exact bP (B2.setCell (by show R (M w)<=R (M w)+1;omega) _) aa
def a2H (w:World)(g:Gs)(ss:oA)(gc:Nat)(h:Gs)(st:oA)(hc:Nat)(w':World):Prop:=
 (w'.cell? ⟨R (M w)+1,0,E⟩=G (O g.n)/\w'.cell? ⟨R (M w)+1,1,E⟩=G (O g.sp.n)/\w'.cell? ⟨R (M w)+1,2,E⟩=G (I Y g.sp.lo)/\w'.cell? ⟨R (M w)+1,3,E⟩=G (I Y g.sp.hi)/\w'.cell? ⟨R (M w)+1,4,E⟩=G (O g.t)/\w'.cell? ⟨R (M w)+1,5,E⟩=G (O g.f)/\w'.cell? ⟨R (M w)+1,6,E⟩=G (U ss (X g.s) gc))/\
 (w'.cell? ⟨R (M w)+1+1,0,E⟩=G (O h.n)/\w'.cell? ⟨R (M w)+1+1,1,E⟩=G (O h.sp.n)/\w'.cell? ⟨R (M w)+1+1,2,E⟩=G (I Y h.sp.lo)/\w'.cell? ⟨R (M w)+1+1,3,E⟩=G (I Y h.sp.hi)/\w'.cell? ⟨R (M w)+1+1,4,E⟩=G (O h.t)/\w'.cell? ⟨R (M w)+1+1,5,E⟩=G (O h.f)/\w'.cell? ⟨R (M w)+1+1,6,E⟩=G (U st (X h.s) hc))

def Gp(h:p:=by
 refine rH1 11 λK hK=> ?_;go_simp;refine(HW.out _ 2 _ L5).mono ?_;rintro e w6 ⟨rfl,zI⟩;have G6:=G5.call zI;have H6:=H5.call zI;have R6:=R5.call zI;have F6:=F5.call zI;have L6:=L5.call zI;have B6:=B5.trans (zI.mono B5.size);refine hK.out _ _ (KS _ G6 H6) (λQJ=> ?_);clear hK K zI;refine sm ?_;obtain⟨⟨r0,r1,r2,r3,r4,r5,r6⟩,rz⟩:=id R6;simp only[Nat.zero_add,bT] at r0 r1 r2 r3 r4 r5 r6;have fz:=F6.1;refine rH1 12 λK hK=> ?_;go_simp;refine hK.out _ _ (KS _ (G6.put7 aa) (H6.put7 aa)) (λjH=> ?_);clear hK K;refine sm ?_;refine QO 13 ?_;refine QO 14 ?_;refine wpAnyH_done ac ?_ _;go_wp2;refine bodyPost_ret (v:=Tu #[gv ⟨false,⟨true,0,0⟩,y,n,[]⟩ E 0,O wr,I Y 0]) BN rfl ⟨rfl,?_⟩;exact bP B6 aa):=h
def Ge(h:p:=by
 refine rH1 7 λK hK=> ?_;go_simp;refine(oK _ _ _).mono ?_;rintro e w5 ⟨rfl,xw⟩;have G5:=G4.call xw;have H5:=H4.call xw;have R5:=R4.call xw;have F5:=F4.call xw;have L5:=L4.call xw;have B5:=B4.trans (xw.mono B4.size);refine hK.out _ _ (KS _ G5 H5) (λQv=> ?_);clear hK K xw;refine sm ?_;exact Gp):=h
def a6C(w:C)(xC:a2r w s c)(hs:yv w ss g.s)(h1:X g.s<=gc)(h2:gc<=maxLen)(ht:yv w st h.s)(h3:X h.s<=hc)(h4:hc<=maxLen)(k:aY V F c [g,h]=0):
  Calls f 164 #[pv V F s c cap,I Y 8,gv g ss gc,gv h st hc] w λe w'=>e=Rt (Tu #[gv ⟨d,⟨W5,0,0⟩,!(g.sp.n||h.sp.n)&&decide (g.sp.lo < h.sp.hi),!(g.sp.n||h.sp.n)&&decide (h.sp.lo<=g.sp.hi),[]⟩ E 0,O ([g,h].any aT&& ![g,h].any aq),I Y 0])/\bl w w':=by
 obtain⟨P0,G0,H0,R0,F0⟩:=fN;have B0:=fJ;have C0:=fM;have I0:=fH;have J0:=fE;have L0:=gB;simp only[zA] at L0;have l:=nw;rw[k] at l;have HL:=ag (λw=>a2x g.sp h.sp w);generalize (!(g.sp.n||h.sp.n)&&decide (g.sp.lo < h.sp.hi))=y at HL |-;generalize (!(g.sp.n||h.sp.n)&&decide (h.sp.lo<=g.sp.hi))=n at HL |-;have HW:=ag (λls lc w hL=>Ct ls [g,h] lc w ae hL);generalize ([g,h].any aT&& ![g,h].any aq)=wr at HW |-;go_enter func164,ntmps164;go_wp2_with fail;go_call l.out as e w1 ⟨rfl,vZ⟩;have T:=dG;have r:=gL;have t:=iJ;have u:=iK;have H:=dB;clear vZ G0 H0 R0 I0 J0 F0 B0 C0 L0 xC hs ht l;obtain⟨⟨W,D,x,_⟩,gz⟩:=id T;obtain⟨⟨k0,m,_⟩,kz⟩:=id r;simp only[j0] at x m;go_wp2;have KS:∀B,a7b B (R (M w)+1) 0 g ss gc->a7b B (R (M w)+1+1) 0 h st hc->a2H w g ss gc h st hc B:=λB a b=>⟨by simpa using a.1,by simpa using b.1⟩;have G2:=T.drew;have H2:=r.drew;have R2:=t.drew;have F2:=u.drew;have B2:=H.drew;refine wp_region_held_drew (S:=a2H w g ss gc h st hc) ac (KS _ G2 H2) (λad=> ?_);unfold a2H at ad KS |-;clear T r t u H x m;generalize w1.drew=w2 at *;refine XI ?_;refine QO 3 ?_;refine QO 8 ?_;refine QO 9 ?_;refine wpAnyH_ready (rs:=[4,10]) ac ae ?_;refine AllReadyH.cons rfl (λK hK=> ?_) (AllReadyH.cons rfl (λK hK=> ?_) AllReadyH.nil)
 .go_simp
  go_call HL.out _ as e w3 ⟨rfl,xp⟩;have G3:=G2.call xp;have H3:=H2.call xp;have R3:=R2.call xp;have F3:=F2.call xp;have B3:=ir;refine hK.out _ _ (KS _ G3 H3) (λab=> ?_);clear hK K xp;refine sm ?_;refine QO 5 ?_;refine QO 6 ?_;refine wpAnyH_ready (rs:=[7,10]) ac ae ?_;refine AllReadyH.cons rfl (λK hK=> ?_) (AllReadyH.cons rfl (λK hK=> ?_) AllReadyH.nil)
  .go_simp
   go_call oK _ _ _ as e w4 ⟨rfl,xD⟩;have G4:=G3.call xD;have H4:=H3.call xD;have R4:=R3.call xD;have F4:=F3.call xD;have B4:=ug;refine hK.out _ _ (KS _ G4 H4) (λj=> ?_);clear hK K xD;refine sm ?_;refine rH1 10 λK hK=> ?_;go_simp;have G5:=G4.alloc (A #[O g.n,O g.sp.n,I Y g.sp.lo,I Y g.sp.hi,O g.t,O g.f,U ss (X g.s) gc,O h.n,O h.sp.n,I Y h.sp.lo,I Y h.sp.hi,O h.t,O h.f,U st (X h.s) hc] 91);have H5:=H4.alloc (A #[O g.n,O g.sp.n,I Y g.sp.lo,I Y g.sp.hi,O g.t,O g.f,U ss (X g.s) gc,O h.n,O h.sp.n,I Y h.sp.lo,I Y h.sp.hi,O h.t,O h.f,U st (X h.s) hc] 91);have R5:=R4.alloc (A #[O g.n,O g.sp.n,I Y g.sp.lo,I Y g.sp.hi,O g.t,O g.f,U ss (X g.s) gc,O h.n,O h.sp.n,I Y h.sp.lo,I Y h.sp.hi,O h.t,O h.f,U st (X h.s) hc] 91);have F5:=F4.alloc (A #[O g.n,O g.sp.n,I Y g.sp.lo,I Y g.sp.hi,O g.t,O g.f,U ss (X g.s) gc,O h.n,O h.sp.n,I Y h.sp.lo,I Y h.sp.hi,O h.t,O h.f,U st (X h.s) hc] 91);have B5:=B4.alloc B4.size (A #[O g.n,O g.sp.n,I Y g.sp.lo,I Y g.sp.hi,O g.t,O g.f,U ss (X g.s) gc,O h.n,O h.sp.n,I Y h.sp.lo,I Y h.sp.hi,O h.t,O h.f,U st (X h.s) hc] 91);have L5:=a8n.new2 w4 g ss gc h st hc;refine hK.out _ _ (KS _ G5 H5) (λQv=> ?_);clear hK K;refine sm ?_;unfold yV at L5;generalize w4.alloc _=w5 at *;generalize (R (M w4))=sb at *;exact Gp
  .go_simp
   have G4:=NG;have H4:=NM;have R4:=NO;have F4:=Sj;have B4:=B3.alloc B3.size (A #[O g.n,O g.sp.n,I Y g.sp.lo,I Y g.sp.hi,O g.t,O g.f,U ss (X g.s) gc,O h.n,O h.sp.n,I Y h.sp.lo,I Y h.sp.hi,O h.t,O h.f,U st (X h.s) hc] 91);have L4:=a8n.new2 w3 g ss gc h st hc;refine hK.out _ _ (KS _ G4 H4) (λj=> ?_);clear hK K;refine sm ?_;unfold yV at L4;generalize w3.alloc _=w4 at *;generalize (R (M w3))=sb at *;exact Ge
 .go_simp
  have G3:=G2.alloc (A #[O g.n,O g.sp.n,I Y g.sp.lo,I Y g.sp.hi,O g.t,O g.f,U ss (X g.s) gc,O h.n,O h.sp.n,I Y h.sp.lo,I Y h.sp.hi,O h.t,O h.f,U st (X h.s) hc] 91);have H3:=H2.alloc (A #[O g.n,O g.sp.n,I Y g.sp.lo,I Y g.sp.hi,O g.t,O g.f,U ss (X g.s) gc,O h.n,O h.sp.n,I Y h.sp.lo,I Y h.sp.hi,O h.t,O h.f,U st (X h.s) hc] 91);have R3:=R2.alloc (A #[O g.n,O g.sp.n,I Y g.sp.lo,I Y g.sp.hi,O g.t,O g.f,U ss (X g.s) gc,O h.n,O h.sp.n,I Y h.sp.lo,I Y h.sp.hi,O h.t,O h.f,U st (X h.s) hc] 91);have F3:=F2.alloc (A #[O g.n,O g.sp.n,I Y g.sp.lo,I Y g.sp.hi,O g.t,O g.f,U ss (X g.s) gc,O h.n,O h.sp.n,I Y h.sp.lo,I Y h.sp.hi,O h.t,O h.f,U st (X h.s) hc] 91);have B3:=B2.alloc B2.size (A #[O g.n,O g.sp.n,I Y g.sp.lo,I Y g.sp.hi,O g.t,O g.f,U ss (X g.s) gc,O h.n,O h.sp.n,I Y h.sp.lo,I Y h.sp.hi,O h.t,O h.f,U st (X h.s) hc] 91);have L3:=a8n.new2 w2 g ss gc h st hc;refine hK.out _ _ (KS _ G3 H3) (λab=> ?_);clear hK K;refine sm ?_;unfold yV at L3;generalize w2.alloc _=w3 at *;generalize (R (M w2))=sb at *;refine rH1 4 λK hK=> ?_;go_simp;go_call HL.out _ as e w4 ⟨rfl,xD⟩;have G4:=G3.call xD;have H4:=H3.call xD;have R4:=R3.call xD;have F4:=F3.call xD;have L4:=L3.call xD;have B4:=ug;refine hK.out _ _ (KS _ G4 H4) (λj=> ?_);clear hK K xD;refine sm ?_;refine QO 5 ?_;refine QO 6 ?_;exact Ge
end
section
open Go.RowKit
attribute [local go_sem ↓] Go.wp_at_zero Go.wp_at_succ
def a7u (e:Ending)(p:Prop):Prop:=∃b:Bool,e=Rt (O b)/\(b=true↔p)
def a7u.no(h:¬p):a7u (Rt (O false)) p:=⟨false,rfl,⟨λe=>absurd e an,λe=>absurd e h⟩⟩
def a7u.yes(h:p):a7u (Rt (O true)) p:=⟨true,rfl,⟨λ_=>h,λ_=>rfl⟩⟩
def YF [Decidable p](h:¬p):Ending.returned (O false)=Rt (O (decide p)):=by rw[decide_eq_false h]
def a4C [Decidable p](h:p):Ending.returned (O true)=Rt (O (decide p)):=by rw[decide_eq_true h]
def Ru (g j:oA)(l o:Nat)(a b:List Int)(w:C)(u:X a<=maxLen)(q:X b<=maxLen)(m:yv w g a)(r:yv w j b):
  Calls f 184 #[U g (X a) l,U j (X b) o] w λe w'=>e=Rt (O (decide (a=b)))/\bl w w':=by
 by_cases hl:X a=X b
 .by_cases s:a=[]
  .subst s
   have Q:=z0 hl.symm;subst Q;exact Oq g j l o w
  have t:b≠[]:=λe=>by rw[e] at hl;exact s (z0 hl)
  rcases m with e|⟨Z,D,rfl,H,m⟩
  .exact absurd e s
  rcases r with e|⟨L,v,rfl,F,r⟩
  .exact absurd e t
  rw[<-hl];have HL:=ag hl;clear hl s t;unfold maxLen at u;go_enter func184,ntmps184;go_wp2;go_loopw [5] (λi wr=>∃k:Nat,k<=X a/\i=I Y k/\Hid (a.take k=b.take k)/\bl w wr) (λi _=>X a - (intOf i).toNat)
  case atStart=>exact⟨0,j5 _,rfl,rfl,bR _ _⟩
  case round=>
   obtain⟨k,z,rfl,HE,q⟩:=hrel;by_cases K:k < X a
   .have n0:=cQ
    have P:=vJ;have N:k < X b:=sX;obtain⟨x,V⟩:∃x,x=a[k]:=⟨_,rfl⟩;obtain⟨y,S⟩:∃y,y=b[k]:=⟨_,rfl⟩;have q0:wr.cell? ⟨Z,D+k,E⟩=G (I Y x):=by rw[q.cell (p:=⟨Z,_,E⟩) H,V];exact m k K
    have B:wr.cell? ⟨L,v+k,E⟩=G (I Y y):=by rw[q.cell (p:=⟨L,_,E⟩) F,S];exact r k N
    have n:=ag (And.intro V S);clear m r V S;by_cases c:x=y
    .have W:(x !=y)=false:=by simpa using c
     have T:=ag c;clear c;go_wp2
     go_quiet (fail)
     go_wp2;go_roundw
     case rel=>exact⟨k+1,aa,aJ,by show _=_;rw[z1 K,z1 N,HE.out,<-n.out.1,<-n.out.2,T.out],below_drewN q _⟩
     case measure=>exact aK
    .have W:(x !=y)=true:=by simpa using c
     have T:=ag c;clear c;go_wp2
     go_quiet (fail)
     go_wp2;go_ret;exact⟨YF λe=>by subst e;exact T.out (n.out.1.trans n.out.2.symm),below_drewN q _⟩
   .have P:=wf
    go_wp2;go_ret;exact⟨a4C KT,q⟩
 .have W:=ET
  have HL:=ag hl;clear hl;go_enter func184,ntmps184;go_wp2;go_ret;exact⟨YF λe=>HL.out mH,bR _ _⟩
def LO(w:C)(hs:yv w ss g.s)(l:yv w j h.s)(u:X g.s<=maxLen)(m:X h.s<=maxLen):
  Calls pG 126 #[gv g ss i,gv h j k] w λe w'=>a7u e (g=h)/\bl w w':=by
 obtain⟨n,⟨a,b,c⟩,t,f,K⟩:=g;obtain⟨v,⟨F,s,H⟩,y,r,z⟩:=h;have D:=ag (λB (q:bl w B)=>Ru ss j i k K z B u m (hs.below q (lR _)) (l.below q (lR _)));clear hs l;go_enter func126,ntmps126;go_wp2_with fail
 .refine(D.out _ ai).mono ?_
  rintro e x ⟨rfl,o⟩;clear D;go_wp2;go_ret;exact⟨⟨decide (K=z),rfl,by simp_all⟩,Below.trans ai (o.mono lg)⟩
 all_goals go_ret
 all_goals exact⟨a7u.no (by simp_all),ai⟩
def Ij(h:p:=by
 go_wp2;go_roundw
 case rel=>exact⟨k+1,aa,aJ,Vf,xA.trans (qi.mono xA.size)⟩
 case measure=>exact aK):=h
def rD (a b:List Gs)(g:oA)(l:Nat)(j:oA)(o:Nat)(w:C)(u:X a<=maxLen)(m:a7r w g a)(r:a7r w j b):
  Calls f 74 #[U g (X a) l,U j (X b) o] w λe w'=>a7u e (a=b)/\bl w w':=by
 have hm:=iT;by_cases hl:X a=X b
 .rw[<-hl]
  have HL:=ag hl;clear hl;go_enter func74,ntmps74;go_wp2;go_loopw [5] (λi wr=>∃k:Nat,k<=X a/\i=I Y k/\Hid (a.take k=b.take k)/\bl w wr) (λi _=>X a - (intOf i).toNat)
  case atStart=>exact⟨0,j5 _,rfl,rfl,bR _ _⟩
  case round=>
   obtain⟨k,z,rfl,HE,xA⟩:=hrel;by_cases xy:k < X a
   .have n0:=cQ
    have n1:=vJ;have hlb:k < X b:=sX;obtain⟨Z,o1,rfl,ab,D,T,y,k1,m1⟩:=m.below xA (lR _) k xy;obtain⟨L,o2,rfl,ad,x,G2,I2,k2,m2⟩:=r.below xA (lR _) k hlb;have ah:=ag (λB (q1:yv B ab a[k].s) (q2:yv B ad b[k].s)=>LO a[k] ab D b[k] ad x B q1 q2 (lT k1 m1) (lT k2 m2));have af:=ag (λB (V:bl wr B)=>And.intro (T.call V).1 (G2.call V).1);have HD:=dS;go_wp2;refine XK [] ac af.out HD (λF=> ?_);refine QQ ?_;refine av (i:=8) rfl ac (λK hK=> ?_);go_simp;go_at_call 126;go_call ah.out _ (y.call HD) (I2.call HD) as e w5 ⟨⟨bb,rfl,N⟩,xw⟩;have H:=ag N;clear N;have qi:=m9;go_wp2_with fail;refine hK.out _ _ (af.out _ qi) (λF=> ?_);clear hK K;refine sm ?_;refine QN 9 ?_;refine aB ac ?_ _;rcases j6 bb with W|W
    .have HQ:=ag (H.out.1 W)
     subst W;exact Ij
    .have HQ:Hid (¬a[k]=b[k]):=λh=>by rw[H.out.2 h] at W;cases W
     subst W;go_wp2;go_ret;exact MU
   .have n1:=wf
    go_wp2;go_ret;exact⟨a7u.yes KT,xA⟩
 .have W:=ET
  have HL:=ag hl;clear hl;go_enter func74,ntmps74;go_wp2;go_ret;exact⟨a7u.no λe=>HL.out mH,bR _ _⟩
def mk (x y:Pic)(g:oA)(j:Nat)(n:oA)(b:Nat)(l:oA)(D:Nat)(t:oA)(s:Nat)(w:C)(o:Aa x)(m:a4r w x g n)(r:a4r w y l t):
  Calls f 34 #[xv x g j n b,xv y l D t s] w λe w'=>a7u e (x=y)/\bl w w':=by
 obtain⟨ar,ay⟩:=o;have hm:=iT;have xO:n4 (R (M w)) w ((w.alloc (A #[O x.none,U g (X x.vq) j,U n (X x.fq) b] 28)).alloc (A #[O y.none,U l (X y.vq) D,U t (X y.fq) s] 28)):=ai;have A0:=(XAt.new w x g j n b).call (w':=((w.alloc (A #[O x.none,U g (X x.vq) j,U n (X x.fq) b] 28)).alloc (A #[O y.none,U l (X y.vq) D,U t (X y.fq) s] 28))) ai;have B0:=XAt.new (w.alloc (A #[O x.none,U g (X x.vq) j,U n (X x.fq) b] 28)) y l D t s;rw[zA] at B0;have ab:=m.below xO (lR _);have ad:=r.below xO (lR _);have HS:=ag (rD _ _ g j l D _ ar ab.1 ad.1);clear m r;unfold xv;obtain⟨⟨a0,a1,a2⟩,az,-⟩:=id A0;obtain⟨⟨b0,Z,L⟩,bz,-⟩:=id B0;generalize hxn:x.none=xn at *;generalize hyn:y.none=yn at *;by_cases hn:xn=yn;rotate_left
 .have HN:Hid (¬x=y):=λe=>hn (by rw[<-hxn,<-hyn,e])
  have ap:(xn=W5/\yn=d)\/(xn=d/\yn=W5):=by cases xn<;>cases yn<;>simp_all
  clear hn HS A0 B0 ab ad hxn hyn a0 a1 a2 az b0 Z L bz;rcases ap with⟨rfl,rfl⟩|⟨rfl,rfl⟩;all_goals
   go_enter func34,ntmps34;go_wp2;go_ret;exact⟨a7u.no HN.out,xO⟩
 have HN:Hid (x.none=y.none):=by show _=_;rw[hxn,hyn,hn]
 subst hn;clear hxn hyn;go_enter func34,ntmps34;go_upto_region 1 with fail
 generalize ((w.alloc _).alloc _)=w0 at *;go_wp2_with fail;go_call HS.out as e w1 ⟨⟨W,rfl,al⟩,vZ⟩;have HR:=ag al;clear HS al a0 a1 a2 az b0 Z L bz;have R1:=ab.2.below vZ (lR _);have R2:=ad.2.below vZ (lR _);have A1:=A0.call vZ;have H:=B0.call vZ;have H1:=kB;clear A0 B0 ab ad xO vZ;obtain⟨⟨a0,a1,a2⟩,az,-⟩:=id A1;obtain⟨⟨b0,Z,L⟩,bz,-⟩:=id H;rcases j6 W with er|er;rotate_left
 .have HV:Hid (¬x=y):=λe=>by have h:=HR.out.2 mH;rw[er] at h;cases h
  subst er;go_wp2;go_ret;exact⟨a7u.no HV.out,H1⟩
 have HV:=ag (HR.out.1 er);subst er;by_cases hf:X x.fq=X y.fq;rotate_left
 .have e2:((X x.fq:Int)!=(X y.fq:Int))=true:=by simpa using λh=>hf aa
  have HF:Hid (¬x=y):=λe=>hf mH;clear hf;go_wp2;go_ret;exact⟨a7u.no HF.out,H1⟩
 have e2:((X x.fq:Int)!=(X y.fq:Int))=false:=by rw[hf];simp
 have HF:=ag hf;clear hf;go_wp2;clear a0 a1 a2 az b0 Z L bz;go_loopw [5] (λi wr=>∃k:Nat,k<=X x.fq/\i=I Y k/\Hid (x.fq.take k=y.fq.take k)/\bl w1 wr) (λi _=>X x.fq - (intOf i).toNat)
 case atStart=>exact⟨0,j5 _,rfl,rfl,bR _ _⟩
 case round=>
  obtain⟨k,z,rfl,HE,xA⟩:=hrel;obtain⟨⟨a0,a1,a2⟩,az,-⟩:=id (A1.call xA);obtain⟨⟨b0,Z,L⟩,bz,-⟩:=id (H.call xA);have af:=H1.trans (xA.mono H1.size);by_cases xy:k < X x.fq
  .have n0:=cQ
   have n1:(k:Int) < (X x.fq:Int):=aa;have hlb:k < X y.fq:=Cb;have n2:(k:Int) < (X y.fq:Int):=aa;obtain⟨p1,q1,rfl,ax,W,ak,C1,k1,m1,J1⟩:=R1.below xA (lR _) k xy;obtain⟨p2,q2,rfl,ao,r2,ah,C2,k2,m2,J2⟩:=R2.below xA (lR _) k hlb;have u:=lT k1 m1;have T:Hid (∀B,bl wr B->(B.cell? ⟨R (M w),2,E⟩=G (U (G ⟨p1,q1,E⟩) (X x.fq) b)/\B.cell? ⟨p1,q1+k,E⟩=G (U W (X x.fq[k]) ak))/\(B.cell? ⟨R (M w)+1,2,E⟩=G (U (G ⟨p2,q2,E⟩) (X y.fq) s)/\B.cell? ⟨p2,q2+k,E⟩=G (U r2 (X y.fq[k]) ah))):=λB V=>⟨⟨by rw[V.cell (by simp only;exact az)];exact a2,by rw[V.cell (by simp only;exact ax)];exact C1⟩,by rw[V.cell (by simp only;exact bz)];exact L,by rw[V.cell (by simp only;exact ao)];exact C2⟩;have HD:=dS;go_wp2;refine XK [] ac T.out HD (λF=> ?_);refine QQ ?_;refine QN 8 ?_;refine QN 9 ?_;refine av (i:=10) rfl ac (λK hK=> ?_);go_simp;go_at_call 74;go_call rD _ _ W ak r2 ah _ u (J1.call HD) (J2.call HD) as e w5 ⟨⟨bb,rfl,N⟩,xw⟩;have am:=ag N;clear N;have qi:=m9;go_wp2_with fail;refine hK.out _ _ (T.out _ qi) (λF=> ?_);clear hK K;refine sm ?_;refine QN 11 ?_;refine aB ac ?_ _;rcases j6 bb with er|er
   .have HQ:=ag (am.out.1 er)
    subst er;exact Ij
   .have HQ:Hid (¬x=y):=λh=>by have r:=am.out.2 (by subst h;rfl);rw[er] at r;cases r
    subst er;go_wp2;go_ret;exact⟨a7u.no HQ.out,af.trans (qi.mono af.size)⟩
  .have n1:¬(k:Int) < (X x.fq:Int):=by omega
   go_wp2;go_ret;refine⟨a7u.yes ?_,af⟩;have h:=HE.out;rw[z4 aa,z4 Cb] at h;have m:=HN.out;have r:=HV.out;cases x;cases y
   simp_all
