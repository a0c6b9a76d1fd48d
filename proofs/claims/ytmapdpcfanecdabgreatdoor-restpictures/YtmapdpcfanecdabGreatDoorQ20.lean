import Derived.Test.YtmapdpcfanecdabGreatDoorQ14
open List renaming length→X
open Array renaming size→R
open Go.World renaming heap→M
open Go.Ending renaming returned→Rt
open Go.IntKind renaming i64→Y
open Go.Proofs.Tryz renaming prog→f
open Go.Value renaming int→I,pointer→Pp,tuple→Tu,slice→U,bool→O
open Nat renaming zero_add→j0,le_refl→lR
open Option renaming some→sO,none→E,some→G
open Go renaming World→C
open Bool renaming true→W5,false→d
set_option linter.all false
open Go.Proofs.Tryz
set_option maxHeartbeats 32000000
set_option maxRecDepth 10000
namespace Go.Proofs.YtmapdpcfanecdabGreatDoor
section
open Go.RowKit
def YA (w:C)(g:Gs)(ss:oA)(gc:Nat)(h:Gs)(st:oA)(hc:Nat)(hs:yv w ss g.s)(s:X g.s<=9223372036854775807)(ht:yv w st h.s)(hhl:X h.s<=9223372036854775807)(r:Hid (g.n=W5))(m:Hid (h.n=W5))(l:Hid (¬cx g < 0))(j:Hid (cx g=cx h)):
  Calls f 115 #[I Y 9,gv g ss gc,gv h st hc] w λe w'=>e=Rt (if (aq g||aq h)=W5 then Tu #[gv a4q E 0,O d] else Tu #[gv ⟨d,⟨W5,0,0⟩,(g.n&&h.n)||(!(aS g.sp h.sp).n||((g.t&&h.t)||((g.f&&h.f)||g.s.any λx=>h.s.contains x))),!dw g h,[]⟩ E 0,O d])/\bl w w':=by
 have HM:=tw;have N:=wu;have ak:=ua;generalize hy:((g.n&&h.n)||(!(aS g.sp h.sp).n||((g.t&&h.t)||((g.f&&h.f)||g.s.any λx=>h.s.contains x))))=y;have Hy:=ag hy;generalize hal:(!dw g h)=al;have z:=vt;clear hy hal;generalize cx g=x1 at *;generalize cx h=x2 at *;generalize aS g.sp h.sp=ms at *;have am:=yc;generalize hnn:(aq g||aq h)=nn;have qa:=ag hnn;clear hnn;have qI:=kg;have qJ:=ko;generalize aq g=ng at *;generalize aq h=nh at *;go_enter func115,ntmps115;go_upto_region 1 with fail
 go_cut [8] (λt T=>∃ob,t=Pp (G ⟨ob,0,E⟩)/\DG w g ss gc h st hc ob a4q T)
 case first=>
  go_wp2_with fail;go_call gN _ as e w1 ⟨rfl,ad⟩;have D1:=pq ad;go_wp2_with fail;go_meet;refine⟨R (M w1),rfl,?_⟩;exact D1
 obtain⟨ob,rfl,D1⟩:=hcut;obtain⟨⟨g0,g1,g2,g3,g4,g5,g6⟩,gz⟩:=id D1.1;simp only[j0] at g0 g1 g2 g3 g4 g5 g6;obtain⟨⟨k0,k1,k2,k3,k4,k5,k6⟩,kz⟩:=id D1.2.1;simp only[j0] at k0 k1 k2 k3 k4 k5 k6;have fz:=D1.2.2.2.1.1;have fo:=D1.2.2.2.2.2.1.1;have zo:=D1.2.2.2.2.2.2.2;go_upto_region 2 with fail
 go_cut [27] (λt T=>t=O nn/\DG w g ss gc h st hc ob a4q T)
 case first=>
  exact oy
 obtain⟨rfl,D2⟩:=hcut;clear g0 g1 g2 g3 g4 g5 g6 gz k0 k1 k2 k3 k4 k5 k6 kz fz fo zo D1 qI qJ qa;cases nn with
 |true=>
  exact oM
 |false=>
  go_wp2_with fail;go_loopw [11,12] (λcm i wr=>∃(k:Nat) (cb:Bool),k<=X g.s/\i=I Y k/\cm=O cb/\Hid (cb=(g.s.take k).any λx=>h.s.contains x)/\DG w g ss gc h st hc ob a4q wr) (λ_ i _=>X g.s - (intOf i).toNat)
  case atStart=>exact⟨0,d,Nat.zero_le _,rfl,rfl,iZ,D2⟩
  case round=>
   obtain⟨k,cb,hk,rfl,rfl,HC,DR⟩:=hrel;clear D2;obtain⟨⟨g0,g1,g2,g3,g4,g5,g6⟩,gz⟩:=id DR.1;simp only[j0] at g0 g1 g2 g3 g4 g5 g6;obtain⟨⟨k0,k1,k2,k3,k4,k5,k6⟩,kz⟩:=id DR.2.1;simp only[j0] at k0 k1 k2 k3 k4 k5 k6;have fz:=DR.2.2.2.1.1;have fo:=DR.2.2.2.2.2.1.1;have zo:=DR.2.2.2.2.2.2.2;by_cases xy:k < X g.s
   .have IR:=uS
    exact oa
   .have ek:k=X g.s:=by omega
    have HA:=ym;subst ek;clear xy;clear HC;obtain⟨⟨o0,o1,o2,o3,o4,o5,o6⟩,oz⟩:=id DR.2.2.2.2.1;simp only[j0] at o0 o1 o2 o3 o4 o5 o6;simp only[a4q] at o0 o1 o2 o3 o4 o5 o6;go_upto_region 17 with fail
    go_cut [11,98] (λt t' T=>DG w g ss gc h st hc ob ⟨d,⟨W5,0,0⟩,y,d,[]⟩ T)
    case first=>
     have ab:=r.out;have ah:=m.out;cases cb with
     |true=>
      have Ey:Hid (y=W5):=Ks;go_wp2_with fail;go_meet;rw[Ey.out];exact DR.t
     |false=>
      have Ey:Hid (y=W5):=by show _=_;rw[<-Hy.out,ab,ah];simp
      go_wp2_with fail;go_meet;rw[Ey.out];exact DR.t
    have D6:=hcut;clear DR g0 g1 g2 g3 g4 g5 g6 gz k0 k1 k2 k3 k4 k5 k6 kz fz fo zo o0 o1 o2 o3 o4 o5 o6 oz hcut Hy HA HM;go_wp2_with fail;have KS:=vd;generalize wc=w6 at *;have D7:=D6.drew;refine XL ac KS D7 (λxX=> ?_);unfold yx at xX KS |-;clear D6;generalize w6.drew=w7 at *;refine QO 0 ?_;refine rH1 1 λK hK=> ?_;go_simp;go_call N.out _ as e w8 ⟨rfl,H⟩;have D8:=D7.call H;refine hK.out _ _ (KS _ D8) (λZ=> ?_);clear hK K H D7;refine sm ?_;refine QO 2 ?_;have u:Hid (decide (x1 < 0)=d):=decide_eq_false (by have:=l.out;omega)
    rw[u.out];have af:=j.out;clear l j
    .
     refine XE ?_;refine QO 6 ?_;refine rH1 5 λK hK=> ?_;go_simp;go_call N.out _ as e w9 ⟨rfl,L⟩;have D9:=D8.call L;refine hK.out _ _ (KS _ D9) (λW=> ?_);clear hK K L D8;refine sm ?_;refine rH1 7 λK hK=> ?_;go_simp;go_call ak.out _ as e xM ⟨rfl,B⟩;have zV:=D9.call B;refine hK.out _ _ (KS _ zV) (λV=> ?_);clear hK K B D9;refine sm ?_;subst af;refine XD ?_;refine QO 11 ?_;refine XF ?_;have h4:(g.sp.n==h.sp.n)=d\/((g.sp.n==h.sp.n)=W5/\(g.sp.lo==h.sp.lo)=d)\/((g.sp.n==h.sp.n)=W5/\(g.sp.lo==h.sp.lo)=W5/\(g.sp.hi==h.sp.hi)=d)\/((g.sp.n==h.sp.n)=W5/\(g.sp.lo==h.sp.lo)=W5/\(g.sp.hi==h.sp.hi)=W5):=by
      cases (g.sp.n==h.sp.n)<;>cases (g.sp.lo==h.sp.lo)<;>cases (g.sp.hi==h.sp.hi)<;>simp
     rcases h4 with D|⟨D,F⟩|⟨D,F,q3⟩|⟨D,F,q3⟩
     .have qj:Hid (al=W5):=by show _=_;rw[z.out,u.out,@decide_eq_true (g.sp≠h.sp) (@instDecidableNot _ (g.sp.dq h.sp)) (λe=>by rw[e] at D;simp at D)];simp
      exact kM
     .have qj:Hid (al=W5):=by show _=_;rw[z.out,u.out,@decide_eq_true (g.sp≠h.sp) (@instDecidableNot _ (g.sp.dq h.sp)) (λe=>by rw[e] at F;simp at F)];simp
      exact kM
     .have qj:Hid (al=W5):=by show _=_;rw[z.out,u.out,@decide_eq_true (g.sp≠h.sp) (@instDecidableNot _ (g.sp.dq h.sp)) (λe=>by rw[e] at q3;simp at q3)];simp
      exact kM
     .have qj:Hid (al=d):=by show _=_;rw[z.out,u.out,Vr D F q3];simp
      refine QO 15 ?_;refine XG ?_;obtain⟨⟨o0,o1,o2,o3,o4,o5,o6⟩,oz⟩:=id zV.2.2.2.2.1;simp only[j0] at o0 o1 o2 o3 o4 o5 o6;have fo:=zV.2.2.2.2.2.1.1;have D9:=zV.f (y:=d);refine rH1 18 λK hK=> ?_;go_simp;refine hK.out _ (xM.setCell ⟨ob,5,E⟩ (O d)) (KS _ D9) (λjH=> ?_);clear hK K o0 o1 o2 o3 o4 o5 o6 oz fo zV;refine sm ?_;generalize xM.setCell _ _=w9 at *;refine wpAnyH_done ac ?_ _;obtain⟨⟨r0,r1,r2,r3,r4,r5,r6⟩,rz⟩:=id D9.2.2.1;simp only[j0] at r0 r1 r2 r3 r4 r5 r6;obtain⟨⟨o0,o1,o2,o3,o4,o5,o6⟩,oz⟩:=id D9.2.2.2.2.1;simp only[j0] at o0 o1 o2 o3 o4 o5 o6;simp only[bT] at r0 r1 r2 r3 r4 r5 r6;have fz:=D9.2.2.2.1.1;have fo:=D9.2.2.2.2.2.1.1;have zo:=D9.2.2.2.2.2.2.2;go_wp2;refine bodyPost_ret (v:=Tu #[gv ⟨d,⟨W5,0,0⟩,y,d,[]⟩ E 0,O d]) l9 rfl ⟨?_,?_⟩
      .rw[show al=d from qj.out]
      .exact bP D9.2.2.2.2.2.2.1 aa
