import Derived.Test.YtmapdpcfanecdabGreatDoorQ14
open List renaming length→X
open Array renaming size→R
open Go.World renaming heap→M
open Go.Ending renaming returned→Rt
open Go.IntKind renaming i64→Y
open Go.Proofs.Tryz renaming prog→f
open Go.Value renaming int→I,pointer→Pp,slice→U,tuple→Tu,bool→O
open Nat renaming zero_add→j0,le_refl→lR
open Option renaming some→sO,none→E,some→G
open Go renaming World→C
open Bool renaming true→W5,false→d
open Go.Proofs.Tryz
set_option linter.all false
set_option maxHeartbeats 32000000
set_option maxRecDepth 100000
namespace Go.Proofs.YtmapdpcfanecdabGreatDoor
section
variable {p:Prop}
section
open Go.RowKit
def FL(h:p:=by
 intro e;have e0:=HB.out.symm.trans e;cases e1:g.sp.n<;>cases e2:h.sp.n<;>rw[e1,e2] at e0<;>first|(exact Bool.noConfusion e0)|exact⟨by show _=_;rw[<-Hy.out,e1,e2];simp,by show _=_;rw[<-Hn.out,e1,e2];simp⟩):=h
def a6D (w:C)(g:Gs)(ss:oA)(gc:Nat)(h:Gs)(st:oA)(hc:Nat):
  Calls f 115 #[I Y 8,gv g ss gc,gv h st hc] w λe w'=>e=Rt (if (aq g||aq h)=W5 then Tu #[gv a4q E 0,O d] else Tu #[gv ⟨d,⟨W5,0,0⟩,!(g.sp.n||h.sp.n)&&decide (g.sp.lo < h.sp.hi),!(g.sp.n||h.sp.n)&&decide (h.sp.lo<=g.sp.hi),[]⟩ E 0,O (aT g||aT h)])/\bl w w':=by
 have ay:=wV;have a0:=vh;generalize hwr:(aT g||aT h)=wr;have jF:=ag hwr;clear hwr;generalize aT g=og at *;generalize aT h=oh at *;have HWr:=vV;clear jF;generalize hy:(!(g.sp.n||h.sp.n)&&decide (g.sp.lo < h.sp.hi))=y;generalize hn:(!(g.sp.n||h.sp.n)&&decide (h.sp.lo<=g.sp.hi))=n;have Hy:=ag hy;have Hn:=ag hn;clear hy hn;have a1:∃nb:Bool,Hid (nb=(!g.sp.n&& !h.sp.n)):=⟨_,rfl⟩;obtain⟨nb,HB⟩:=a1;have HT:Hid (nb=W5->Hid (y=decide (g.sp.lo < h.sp.hi))/\Hid (n=decide (h.sp.lo<=g.sp.hi))):=by
  exact FL
 have HF:Hid (nb=d->Hid (y=d)/\Hid (n=d)):=by
  exact FL
 generalize hnn:(aq g||aq h)=nn;have qa:=ag hnn;clear hnn;have am:=kg;have ao:=ko;generalize aq g=ng at *;generalize aq h=nh at *;go_enter func115,ntmps115;go_upto_region 1 with fail
 go_cut [8] (λt wy=>∃ob,t=Pp (G ⟨ob,0,E⟩)/\DG w g ss gc h st hc ob a4q wy)
 case first=>
  go_wp2_with fail;go_call gN _ as e w1 ⟨rfl,az⟩;have V:=pq az;go_wp2_with fail;go_meet;refine⟨R (M w1),rfl,?_⟩;exact V
 obtain⟨ob,rfl,V⟩:=hcut;obtain⟨⟨H,s,u,l,j,x,N⟩,gz⟩:=id V.1;simp only[j0] at H s u l j x N;obtain⟨⟨L,k,D,z,F,B,r⟩,kz⟩:=id V.2.1;simp only[j0] at L k D z F B r;have T:=V.2.2.2.1.1;have Z:=V.2.2.2.2.2.1.1;go_upto_region 2 with fail
 go_cut [27] (λt wy=>t=O nn/\DG w g ss gc h st hc ob a4q wy)
 case first=>
  go_wp2_with fail;go_call am.out _ as e w2 ⟨rfl,ax⟩;have D2:=V.call ax;clear H s u l j x N L k D z F B r T Z;cases ng with
  |true=>
   go_wp2_with fail;go_meet;exact lF
  |false=>
   obtain⟨⟨L,k,D,z,F,B,r⟩,kz⟩:=id D2.2.1;simp only[j0] at L k D z F B r;have T:=D2.2.2.2.1.1;have Z:=D2.2.2.2.2.2.1.1;go_wp2_with fail;go_call ao.out _ as e w3 ⟨rfl,ad⟩;have D3:=D2.call ad;go_wp2_with fail;go_meet;exact⟨by rw[<-qa.out];first|done|rfl|simp,D3⟩
 obtain⟨rfl,D2⟩:=hcut;clear H s u l j x N L k D z F B r T Z V am ao qa;cases nn with
 |true=>
  obtain⟨⟨H,s,u,l,j,x,N⟩,gz⟩:=id D2.1;simp only[j0] at H s u l j x N;obtain⟨⟨r0,r1,r2,r3,r4,r5,r6⟩,rz⟩:=id D2.2.2.1;simp only[j0] at r0 r1 r2 r3 r4 r5 r6;obtain⟨⟨o0,o1,o2,o3,o4,o5,o6⟩,oz⟩:=id D2.2.2.2.2.1;simp only[j0] at o0 o1 o2 o3 o4 o5 o6;simp only[bT] at r0 r1 r2 r3 r4 r5 r6;have T:=D2.2.2.2.1.1;have Z:=D2.2.2.2.2.2.1.1;simp only[a4q] at o0 o1 o2 o3 o4 o5 o6;go_wp2;refine bodyPost_ret (v:=Tu #[gv a4q E 0,O d]) sH rfl ⟨?_,?_⟩
  .rfl
  .exact rm
 |false=>
  obtain⟨⟨H,s,u,l,j,x,N⟩,gz⟩:=id D2.1;simp only[j0] at H s u l j x N;obtain⟨⟨L,k,D,z,F,B,r⟩,kz⟩:=id D2.2.1;simp only[j0] at L k D z F B r;have T:=D2.2.2.2.1.1;have Z:=D2.2.2.2.2.2.1.1;go_upto_region 21 with fail
  go_cut [130] (λt wy=>t=O nb/\DG w g ss gc h st hc ob a4q wy)
  case first=>
   have ad:g.sp.n=W5\/(g.sp.n=d/\h.sp.n=W5)\/(g.sp.n=d/\h.sp.n=d):=by cases g.sp.n<;>cases h.sp.n<;>simp
   rcases ad with e1|⟨e1,e2⟩|⟨e1,e2⟩
   .go_wp2_with fail
    go_meet;exact⟨by rw[HB.out,e1];simp,D2⟩
   .go_wp2_with fail
    go_meet;exact⟨by rw[HB.out,e1,e2];simp,D2⟩
   .go_wp2_with fail
    go_meet;exact⟨by rw[HB.out,e1,e2];simp,D2⟩
  obtain⟨rfl,b⟩:=hcut;clear H s u l j x N L k D z F B r T Z D2;obtain⟨⟨H,s,u,l,j,x,N⟩,gz⟩:=id b.1;simp only[j0] at H s u l j x N;obtain⟨⟨L,k,D,z,F,B,r⟩,kz⟩:=id b.2.1;simp only[j0] at L k D z F B r;obtain⟨⟨o0,o1,o2,o3,o4,o5,o6⟩,oz⟩:=id b.2.2.2.2.1;simp only[j0] at o0 o1 o2 o3 o4 o5 o6;have T:=b.2.2.2.1.1;have Z:=b.2.2.2.2.2.1.1;simp only[a4q] at o0 o1 o2 o3 o4 o5 o6;go_upto_if 130 with fail
  go_cut [131] (λt wy=>DG w g ss gc h st hc ob ⟨d,⟨W5,0,0⟩,y,n,[]⟩ wy)
  case first=>
   cases nb with
   |true=>
    obtain⟨Ey,En⟩:=HT.out rfl;go_wp2_with fail;go_meet;rw[Ey.out,En.out];exact b.t.f
   |false=>
    obtain⟨Ey,En⟩:=HF.out rfl;go_wp2_with fail;go_meet;rw[Ey.out,En.out];exact b
  clear o0 o1 o2 o3 o4 o5 o6;have D3:=hcut;clear b H s u l j x N L k D z F B r T Z hcut;generalize ho:(⟨d,⟨W5,0,0⟩,y,n,[]⟩:Gs)=o at D3;have HO:Hid (Ending.returned (Tu #[gv o E 0,O wr])=Ending.returned (Tu #[gv ⟨d,⟨W5,0,0⟩,y,n,[]⟩ E 0,O wr])):=by show _=_;rw[<-ho]
  clear ho;go_wp2_with fail;generalize wc=w3 at *;have KS:=MW;have af:=No;have D4:=D3.drew;refine XL ac KS D4 (λab=> ?_);unfold Kz at ab KS af |-;clear D3;generalize w3.drew=w4 at *;refine QO 0 ?_;refine QO 1 ?_;refine rH1 2 λK m=> ?_;go_simp;go_call ay.out _ as e w5 ⟨rfl,ak⟩;have D5:=D4.call ak;refine m.out _ _ (KS _ D5) (λar=> ?_);clear m K ak D4;refine sm ?_;cases og with
  |true=>
   have ah:wr=true:=BH;subst ah;refine QO 3 ?_;refine uH 4 ?_;refine sm ?_;refine uH 5 ?_;refine sm ?_;refine QO 6 ?_;obtain⟨⟨r0,r1,r2,r3,r4,r5,r6⟩,rz⟩:=id D5.2.2.1;simp only[j0] at r0 r1 r2 r3 r4 r5 r6;simp only[bT] at r0 r1 r2 r3 r4 r5 r6;have T:=D5.2.2.2.1.1;refine rH1 7 λK m=> ?_;go_simp;refine m.out _ (Go.Proofs.YtmapdpcfanecdabGreatDoor.lP w5 (R (M w)+1+1) (O o.n) (O o.sp.n) (I Y o.sp.lo) (I Y o.sp.hi) (O o.t) (O o.f) (U E (X o.s) 0)) (af _ D5) (λW=> ?_);clear m K;refine sm ?_;refine QO 8 ?_;refine wpAnyH_done ac ?_ _;go_wp2;refine bodyPost_ret (v:=Tu #[gv o E 0,O W5]) AO rfl ⟨HO.out,?_⟩;exact bP D5.2.2.2.2.2.2.1 aa
  |false=>
   have ah:wr=oh:=BH;subst ah;refine XE ?_;refine rH1 5 λK m=> ?_;go_simp;go_call a0.out _ as e w6 ⟨rfl,al⟩;have D6:=D5.call al;refine m.out _ _ (KS _ D6) (λap=> ?_);clear m K al D5;refine sm ?_;refine QO 6 ?_;obtain⟨⟨r0,r1,r2,r3,r4,r5,r6⟩,rz⟩:=id D6.2.2.1;simp only[j0] at r0 r1 r2 r3 r4 r5 r6;simp only[bT] at r0 r1 r2 r3 r4 r5 r6;have T:=D6.2.2.2.1.1;refine rH1 7 λK m=> ?_;go_simp;refine m.out _ (Go.Proofs.YtmapdpcfanecdabGreatDoor.lP w6 (R (M w)+1+1) (O o.n) (O o.sp.n) (I Y o.sp.lo) (I Y o.sp.hi) (O o.t) (O o.f) (U E (X o.s) 0)) (af _ D6) (λW=> ?_);clear m K;refine sm ?_;refine QO 8 ?_;refine wpAnyH_done ac ?_ _;go_wp2;refine bodyPost_ret (v:=Tu #[gv o E 0,O wr]) AO rfl ⟨HO.out,?_⟩;exact bP D6.2.2.2.2.2.2.1 aa
end
end
variable {p:Prop}
section
open Go.RowKit
def It(h:p:=by
 refine wpAnyH_done ac ?_ _;obtain⟨⟨r0,r1,r2,r3,r4,r5,r6⟩,rz⟩:=id D9.2.2.1;simp only[Nat.zero_add] at r0 r1 r2 r3 r4 r5 r6;obtain⟨⟨o0,o1,o2,o3,o4,o5,o6⟩,oz⟩:=id D9.2.2.2.2.1;simp only[Nat.zero_add] at o0 o1 o2 o3 o4 o5 o6;simp only[bT] at r0 r1 r2 r3 r4 r5 r6;have fz:=D9.2.2.2.1.1;have fo:=D9.2.2.2.2.2.1.1;have zo:=D9.2.2.2.2.2.2.2;go_wp2;refine bodyPost_ret (v:=Tu #[gv ⟨false,⟨true,0,0⟩,y,true,[]⟩ E 0,O false]) l9 rfl ⟨?_,?_⟩
 .rw[show al=true from qj.out]
 .exact bP D9.2.2.2.2.2.2.1 aa):=h
def a1r (w:C)(g:Gs)(ss:oA)(gc:Nat)(h:Gs)(st:oA)(hc:Nat)(hs:yv w ss g.s)(m:X g.s<=9223372036854775807)(ht:yv w st h.s)(hhl:X h.s<=9223372036854775807)(l:Hid (g.n=W5))(j:Hid (h.n=W5))(hS:Hid (cx g < 0\/cx g≠cx h)):
  Calls f 115 #[I Y 9,gv g ss gc,gv h st hc] w λe w'=>e=Rt (if (aq g||aq h)=W5 then Tu #[gv a4q E 0,O d] else Tu #[gv ⟨d,⟨W5,0,0⟩,(g.n&&h.n)||(!(aS g.sp h.sp).n||((g.t&&h.t)||((g.f&&h.f)||g.s.any λx=>h.s.contains x))),!dw g h,[]⟩ E 0,O d])/\bl w w':=by
 have N:=wu;have ah:=ua;generalize hy:((g.n&&h.n)||(!(aS g.sp h.sp).n||((g.t&&h.t)||((g.f&&h.f)||g.s.any λx=>h.s.contains x))))=y;have Hy:=ag hy;generalize hal:(!dw g h)=al;have qX:=vt;clear hy hal;generalize cx g=x1 at *;generalize cx h=x2 at *;generalize aS g.sp h.sp=ms at *;generalize hnn:(aq g||aq h)=nn;have qa:=ag hnn;clear hnn;have qI:=kg;have qJ:=ko;generalize aq g=ng at *;generalize aq h=nh at *;go_enter func115,ntmps115;go_upto_region 1 with fail
 go_cut [8] (λt T=>∃ob,t=Pp (G ⟨ob,0,E⟩)/\DG w g ss gc h st hc ob a4q T)
 case first=>
  go_wp2_with fail;go_call gN _ as e w1 ⟨rfl,ad⟩;have D1:=pq ad;go_wp2_with fail;go_meet;refine⟨R (M w1),rfl,?_⟩;exact D1
 obtain⟨ob,rfl,D1⟩:=hcut;obtain⟨⟨g0,g1,g2,g3,g4,g5,g6⟩,gz⟩:=id D1.1;simp only[j0] at g0 g1 g2 g3 g4 g5 g6;obtain⟨⟨k0,k1,k2,k3,k4,k5,k6⟩,kz⟩:=id D1.2.1;simp only[j0] at k0 k1 k2 k3 k4 k5 k6;have fz:=D1.2.2.2.1.1;have fo:=D1.2.2.2.2.2.1.1;have zo:=D1.2.2.2.2.2.2.2;go_upto_region 2 with fail
 go_cut [27] (λt T=>t=O nn/\DG w g ss gc h st hc ob a4q T)
 case first=>
  exact oy
 obtain⟨rfl,D2⟩:=hcut;clear g0 g1 g2 g3 g4 g5 g6 gz k0 k1 k2 k3 k4 k5 k6 kz fz fo zo D1 qI qJ qa;cases nn with
 |true=>
  exact oM
 |false=>
  go_wp2_with fail;go_loopw [11,12] (λcm i wr=>∃(k:Nat) (cb:Bool),k<=X g.s/\i=I Y k/\cm=O cb/\Hid (cb=(g.s.take k).any λx=>h.s.contains x)/\DG w g ss gc h st hc ob a4q wr) (λ_ i _=>X g.s - (intOf i).toNat)
  case atStart=>exact⟨0,d,Nat.zero_le _,rfl,rfl,iZ,D2⟩
  case round=>
   obtain⟨k,cb,hk,rfl,rfl,HC,DR⟩:=hrel;clear D2;obtain⟨⟨g0,g1,g2,g3,g4,g5,g6⟩,gz⟩:=id DR.1;simp only[j0] at g0 g1 g2 g3 g4 g5 g6;obtain⟨⟨k0,k1,k2,k3,k4,k5,k6⟩,kz⟩:=id DR.2.1;simp only[j0] at k0 k1 k2 k3 k4 k5 k6;have fz:=DR.2.2.2.1.1;have fo:=DR.2.2.2.2.2.1.1;have zo:=DR.2.2.2.2.2.2.2;by_cases xy:k < X g.s
   .have IR:=uS
    exact oa
   .have ek:k=X g.s:=by omega
    have HA:=ym;subst ek;clear xy;clear HC;obtain⟨⟨o0,o1,o2,o3,o4,o5,o6⟩,oz⟩:=id DR.2.2.2.2.1;simp only[j0] at o0 o1 o2 o3 o4 o5 o6;simp only[a4q] at o0 o1 o2 o3 o4 o5 o6;go_upto_region 17 with fail
    go_cut [11,98] (λt t' T=>DG w g ss gc h st hc ob ⟨d,⟨W5,0,0⟩,y,d,[]⟩ T)
    case first=>
     have ab:=l.out;have af:=j.out;cases cb with
     |true=>
      have Ey:Hid (y=W5):=Ks;go_wp2_with fail;go_meet;rw[Ey.out];exact DR.t
     |false=>
      have Ey:Hid (y=W5):=by show _=_;rw[<-Hy.out,ab,af];simp
      go_wp2_with fail;go_meet;rw[Ey.out];exact DR.t
    have D6:=hcut;clear DR g0 g1 g2 g3 g4 g5 g6 gz k0 k1 k2 k3 k4 k5 k6 kz fz fo zo o0 o1 o2 o3 o4 o5 o6 oz hcut Hy HA;go_wp2_with fail;have D:=vd;generalize wc=w6 at *;have D7:=D6.drew;refine XL ac D D7 (λxX=> ?_);unfold yx at xX D |-;clear D6;generalize w6.drew=w7 at *;refine QO 0 ?_;refine rH1 1 λK r=> ?_;go_simp;go_call N.out _ as e w8 ⟨rfl,F⟩;have B:=D7.call F;refine r.out _ _ (D _ B) (λZ=> ?_);clear r K F D7;refine sm ?_;refine QO 2 ?_;have qd:∃lt:Bool,Hid (decide (x1 < 0)=lt):=⟨_,rfl⟩;obtain⟨lt,qd⟩:=qd;rw[qd.out];cases lt with
    |true=>
     have qj:Hid (al=W5):=by show _=_;rw[qX.out,qd.out];rfl
     refine QO 3 ?_;refine uH 4 ?_;refine sm ?_;refine uH 5 ?_;refine sm ?_;refine uH 6 ?_;refine sm ?_;refine uH 7 ?_;refine sm ?_;refine uH 8 ?_;refine sm ?_;refine QO 9 ?_;refine QO 10 ?_;refine uH 11 ?_;refine sm ?_;refine uH 12 ?_;refine sm ?_;refine uH 13 ?_;refine sm ?_;refine uH 14 ?_;refine sm ?_;refine uH 15 ?_;refine sm ?_;refine XG ?_;obtain⟨⟨o0,o1,o2,o3,o4,o5,o6⟩,oz⟩:=id B.2.2.2.2.1;simp only[j0] at o0 o1 o2 o3 o4 o5 o6;have fo:=B.2.2.2.2.2.1.1;have D9:=B.f (y:=W5);refine rH1 18 λK r=> ?_;go_simp;refine r.out _ (w8.setCell ⟨ob,5,E⟩ (O W5)) (D _ D9) (λu=> ?_);clear r K o0 o1 o2 o3 o4 o5 o6 oz fo B;refine sm ?_;generalize w8.setCell _ _=w9 at *;exact It
    |false=>
     have zk:x1≠x2:=by
      rcases hS.out with h|h
      .exact absurd h (of_decide_eq_false qd.out)
      .exact h
     refine XE ?_;refine QO 6 ?_;refine rH1 5 λK r=> ?_;go_simp;go_call N.out _ as e w9 ⟨rfl,L⟩;have D9:=B.call L;refine r.out _ _ (D _ D9) (λW=> ?_);clear r K L B;refine sm ?_;refine rH1 7 λK r=> ?_;go_simp;go_call ah.out _ as e H ⟨rfl,z⟩;have s:=D9.call z;refine r.out _ _ (D _ s) (λV=> ?_);clear r K z D9;refine sm ?_;have ak:(x1 !=x2)=true:=by simpa using zk
     have qj:Hid (al=W5):=UX;refine XD ?_;refine uH 11 ?_;refine sm ?_;refine uH 12 ?_;refine sm ?_;refine uH 13 ?_;refine sm ?_;refine uH 14 ?_;refine sm ?_;refine uH 15 ?_;refine sm ?_;refine XG ?_;obtain⟨⟨o0,o1,o2,o3,o4,o5,o6⟩,oz⟩:=id s.2.2.2.2.1;simp only[j0] at o0 o1 o2 o3 o4 o5 o6;have fo:=s.2.2.2.2.2.1.1;have D9:=s.f (y:=W5);refine rH1 18 λK r=> ?_;go_simp;refine r.out _ (H.setCell ⟨ob,5,E⟩ (O W5)) (D _ D9) (λu=> ?_);clear r K o0 o1 o2 o3 o4 o5 o6 oz fo s;refine sm ?_;generalize H.setCell _ _=w9 at *;exact It
