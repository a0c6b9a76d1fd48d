import Derived.Test.YtmapdpcfanecdabGreatDoorR14
open Go.Ending renaming returned→Rt
open Go.IntKind renaming i64→Y
open Go.Proofs.Tryz renaming prog→pG
open Go.Value renaming bool→Bb,int→I,pointer→Pp,tuple→Tu
open Nat renaming zero_add→j0
open Option renaming none→nO,some→sO
open Go.Proofs.Tryz
set_option linter.unusedSimpArgs false
set_option linter.unusedVariables false
set_option maxHeartbeats 32000000
set_option maxRecDepth 10000
namespace Go.Proofs.YtmapdpcfanecdabGreatDoor
section
open Go.RowKit
theorem Rn (w:World)(g:Gs)(ss:oA)(gc:Nat)(h:Gs)(st:oA)(hc:Nat)(hs:IntsAt w ss g.s)(hgl:g.s.length<=9223372036854775807)(ht:IntsAt w st h.s)(hhl:h.s.length<=9223372036854775807)(Hn1:Hid (g.n=true))(Hn2:Hid (h.n=true))(hS0:Hid (¬bT g < 0))(hS1:Hid (bT g=bT h)):
  Calls pG 115 #[I Y 9,gv g ss gc,gv h st hc] w λe w'=>e=Rt (if (an g||an h)=true then Tu #[gv noneG nO 0,Bb false] else Tu #[gv ⟨false,⟨true,0,0⟩,(g.n&&h.n)||(!(aM g.sp h.sp).n||((g.t&&h.t)||((g.f&&h.f)||g.s.any λx=>h.s.contains x))),!cX g h,[]⟩ nO 0,Bb false])/\bl w w':=by
 have HM:=pD;have HSg:=pM;have HSh:=su;generalize hy:((g.n&&h.n)||(!(aM g.sp h.sp).n||((g.t&&h.t)||((g.f&&h.f)||g.s.any λx=>h.s.contains x))))=y;have Hy:=ag hy;generalize hal:(!cX g h)=al;have Hal:=rr;clear hy hal;generalize bT g=x1 at *;generalize bT h=x2 at *;generalize aM g.sp h.sp=ms at *;have hfld:=sq;generalize hnn:(an g||an h)=nn;have Hnn:=ag hnn;clear hnn;have HNg:=ie;have HNh:=iq;generalize an g=ng at *;generalize an h=nh at *;go_enter Tryz.func115,Tryz.ntmps115;go_upto_region 1 with fail
 go_cut [8] (λt wy=>∃ob,t=Pp (sO ⟨ob,0,nO⟩)/\DG w g ss gc h st hc ob noneG wy)
 case first=>
  go_wp2_with fail;refine(fD _).mono ?_;rintro e w1 ⟨rfl,hb1⟩;have D1:=mI hb1;go_wp2_with fail;go_meet;refine⟨w1.heap.size,rfl,?_⟩;exact D1
 obtain⟨ob,rfl,D1⟩:=hcut;obtain⟨⟨g0,g1,g2,g3,g4,g5,g6⟩,gz⟩:=id D1.1;simp only[j0] at g0 g1 g2 g3 g4 g5 g6;obtain⟨⟨k0,k1,k2,k3,k4,k5,k6⟩,kz⟩:=id D1.2.1;simp only[j0] at k0 k1 k2 k3 k4 k5 k6;have fz:=D1.2.2.2.1.1;have fo:=D1.2.2.2.2.2.1.1;have zo:=D1.2.2.2.2.2.2.2;go_upto_region 2 with fail
 go_cut [27] (λt wy=>t=Bb nn/\DG w g ss gc h st hc ob noneG wy)
 case first=>
  exact mz
 obtain⟨rfl,D2⟩:=hcut;clear g0 g1 g2 g3 g4 g5 g6 gz k0 k1 k2 k3 k4 k5 k6 kz fz fo zo D1 HNg HNh Hnn;cases nn with
 |true=>
  exact my
 |false=>
  go_wp2_with fail;go_loopw [11,12] (λcm i wr=>∃(k:Nat) (cb:Bool),k<=g.s.length/\i=I Y k/\cm=Bb cb/\Hid (cb=(g.s.take k).any λx=>h.s.contains x)/\DG w g ss gc h st hc ob noneG wr) (λ_ i _=>g.s.length - (intOf i).toNat)
  case atStart=>exact⟨0,false,Nat.zero_le _,rfl,rfl,gR,D2⟩
  case round=>
   obtain⟨k,cb,hk,rfl,rfl,HC,DR⟩:=hrel;clear D2;obtain⟨⟨g0,g1,g2,g3,g4,g5,g6⟩,gz⟩:=id DR.1;simp only[j0] at g0 g1 g2 g3 g4 g5 g6;obtain⟨⟨k0,k1,k2,k3,k4,k5,k6⟩,kz⟩:=id DR.2.1;simp only[j0] at k0 k1 k2 k3 k4 k5 k6;have fz:=DR.2.2.2.1.1;have fo:=DR.2.2.2.2.2.1.1;have zo:=DR.2.2.2.2.2.2.2;by_cases hlt:k < g.s.length
   ·have IR:=re
    exact mw
   ·have ek:k=g.s.length:=by omega
    have HA:=rZ;subst ek;clear hlt;clear HC;obtain⟨⟨o0,o1,o2,o3,o4,o5,o6⟩,oz⟩:=id DR.2.2.2.2.1;simp only[j0] at o0 o1 o2 o3 o4 o5 o6;simp only[noneG] at o0 o1 o2 o3 o4 o5 o6;go_upto_region 17 with fail
    go_cut [11,98] (λt t' wy=>DG w g ss gc h st hc ob ⟨false,⟨true,0,0⟩,y,false,[]⟩ wy)
    case first=>
     have en1:=Hn1.out;have en2:=Hn2.out;cases cb with
     |true=>
      have Ey:Hid (y=true):=DD;go_wp2_with fail;go_meet;rw[Ey.out];exact DR.t
     |false=>
      have Ey:Hid (y=true):=by show _=_;rw[<-Hy.out,en1,en2];simp
      go_wp2_with fail;go_meet;rw[Ey.out];exact DR.t
    have D6:=hcut;clear DR g0 g1 g2 g3 g4 g5 g6 gz k0 k1 k2 k3 k4 k5 k6 kz fz fo zo o0 o1 o2 o3 o4 o5 o6 oz hcut Hy HA HM;go_wp2_with fail;have KS:=sd;generalize wc=w6 at *;have D7:=D6.drew;refine wp_region_held_drew (S:=sA w.heap.size g ss gc h st hc) ae (KS _ D7) (λhHeld=> ?_);unfold sA at hHeld KS |-;clear D6;generalize w6.drew=w7 at *;refine vH 0 ?_ ?_;refine rH1 1 λK hK=> ?_;go_simp;refine(HSg.out _).mono ?_;rintro e w8 ⟨rfl,hb8⟩;have D8:=D7.call hb8;refine hK.out _ _ (KS _ D8) (λhHeld8=> ?_);clear hK K hb8 D7;refine sm ?_;refine vH 2 ?_ ?_;have Hlt:Hid (decide (x1 < 0)=false):=decide_eq_false (by have:=hS0.out;omega)
    rw[Hlt.out];have hne:=hS1.out;clear hS0 hS1
    ·
     refine vH 3 ?_ ?_;refine vH 4 ?_ ?_;refine vH 6 ?_ ?_;refine rH1 5 λK hK=> ?_;go_simp;refine(HSg.out _).mono ?_;rintro e w9 ⟨rfl,hb9⟩;have D9:=D8.call hb9;refine hK.out _ _ (KS _ D9) (λhHeld9=> ?_);clear hK K hb9 D8;refine sm ?_;refine rH1 7 λK hK=> ?_;go_simp;refine(HSh.out _).mono ?_;rintro e w10 ⟨rfl,hb10⟩;have D10:=D9.call hb10;refine hK.out _ _ (KS _ D10) (λhHeld10=> ?_);clear hK K hb10 D9;refine sm ?_;subst hne;refine vH 8 ?_ ?_;refine vH 9 ?_ ?_;refine vH 10 ?_ ?_;refine vH 11 ?_ ?_;refine vH 12 ?_ ?_;refine vH 13 ?_ ?_;refine vH 14 ?_ ?_;have h4:(g.sp.n==h.sp.n)=false\/((g.sp.n==h.sp.n)=true/\(g.sp.lo==h.sp.lo)=false)\/((g.sp.n==h.sp.n)=true/\(g.sp.lo==h.sp.lo)=true/\(g.sp.hi==h.sp.hi)=false)\/((g.sp.n==h.sp.n)=true/\(g.sp.lo==h.sp.lo)=true/\(g.sp.hi==h.sp.hi)=true):=by
      cases (g.sp.n==h.sp.n)<;>cases (g.sp.lo==h.sp.lo)<;>cases (g.sp.hi==h.sp.hi)<;>simp
     rcases h4 with q1|⟨q1,q2⟩|⟨q1,q2,q3⟩|⟨q1,q2,q3⟩
     ·have Eal:Hid (al=true):=by show _=_;rw[Hal.out,Hlt.out,@decide_eq_true (g.sp≠h.sp) (@instDecidableNot _ (g.sp.dq h.sp)) (λe=>by rw[e] at q1;simp at q1)];simp
      exact iA
     ·have Eal:Hid (al=true):=by show _=_;rw[Hal.out,Hlt.out,@decide_eq_true (g.sp≠h.sp) (@instDecidableNot _ (g.sp.dq h.sp)) (λe=>by rw[e] at q2;simp at q2)];simp
      exact iA
     ·have Eal:Hid (al=true):=by show _=_;rw[Hal.out,Hlt.out,@decide_eq_true (g.sp≠h.sp) (@instDecidableNot _ (g.sp.dq h.sp)) (λe=>by rw[e] at q3;simp at q3)];simp
      exact iA
     ·have Eal:Hid (al=false):=by show _=_;rw[Hal.out,Hlt.out,Nq q1 q2 q3];simp
      refine vH 15 ?_ ?_;refine vH 16 ?_ ?_;refine vH 17 ?_ ?_;obtain⟨⟨o0,o1,o2,o3,o4,o5,o6⟩,oz⟩:=id D10.2.2.2.2.1;simp only[j0] at o0 o1 o2 o3 o4 o5 o6;have fo:=D10.2.2.2.2.2.1.1;have D9:=D10.f (y:=false);refine rH1 18 λK hK=> ?_;go_simp;refine hK.out _ (w10.setCell ⟨ob,5,nO⟩ (Bb false)) (KS _ D9) (λhHeldz=> ?_);clear hK K o0 o1 o2 o3 o4 o5 o6 oz fo D10;refine sm ?_;generalize w10.setCell ⟨ob,5,nO⟩ (Bb false)=w9 at *;refine wpAnyH_done ae ?_ _;obtain⟨⟨r0,r1,r2,r3,r4,r5,r6⟩,rz⟩:=id D9.2.2.1;simp only[j0] at r0 r1 r2 r3 r4 r5 r6;obtain⟨⟨o0,o1,o2,o3,o4,o5,o6⟩,oz⟩:=id D9.2.2.2.2.1;simp only[j0] at o0 o1 o2 o3 o4 o5 o6;simp only[bG] at r0 r1 r2 r3 r4 r5 r6;have fz:=D9.2.2.2.1.1;have fo:=D9.2.2.2.2.2.1.1;have zo:=D9.2.2.2.2.2.2.2;go_wp2;refine bodyPost_ret (v:=Tu #[gv ⟨false,⟨true,0,0⟩,y,false,[]⟩ nO 0,Bb false]) kn rfl ⟨?_,?_⟩
      ·rw[show al=false from Eal.out]
      ·exact bC D9.2.2.2.2.2.2.1 aa
end
end Go.Proofs.YtmapdpcfanecdabGreatDoor
