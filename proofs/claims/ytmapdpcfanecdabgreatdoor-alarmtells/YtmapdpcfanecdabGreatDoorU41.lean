import Derived.Test.YtmapdpcfanecdabGreatDoorU32
open Go.Ending renaming returned→Rt
open Go.IntKind renaming i64→Y
open Go.Proofs.Tryz renaming prog→pG
open Go.Value renaming agg→Ag,bool→Bb,int→I,pointer→Pp,tuple→Tu
open Nat renaming le_refl→lR,zero_add→j0
open Option renaming none→nO,some→sO
set_option linter.unusedSimpArgs false
set_option linter.unusedVariables false
set_option maxHeartbeats 32000000
set_option maxRecDepth 100000
namespace Go.Proofs.YtmapdpcfanecdabGreatDoor
section
open Go.RowKit
theorem uh {p:Prop}(h:p:=by
 refine wpAnyH_done ag ?_ _;obtain⟨⟨r0,r1,r2,r3,r4,r5,r6⟩,rz⟩:=id D9.2.2.1;simp only[Nat.zero_add] at r0 r1 r2 r3 r4 r5 r6;obtain⟨⟨o0,o1,o2,o3,o4,o5,o6⟩,oz⟩:=id D9.2.2.2.2.1;simp only[Nat.zero_add] at o0 o1 o2 o3 o4 o5 o6;simp only[bC] at r0 r1 r2 r3 r4 r5 r6;have fz:=D9.2.2.2.1.1;have fo:=D9.2.2.2.2.2.1.1;have zo:=D9.2.2.2.2.2.2.2;go_wp2;refine bodyPost_ret (v:=.tuple #[gv ⟨false,⟨true,0,0⟩,y,true,[]⟩ none 0,.bool false]) g8 rfl ⟨?_,?_⟩
 ·rw[show al=true from Eal.out]
 ·exact bo D9.2.2.2.2.2.2.1 aa):p:=h
theorem Ge (w:World)(g:Gs)(ss:oA)(gc:Nat)(h:Gs)(st:oA)(hc:Nat)(hs:IntsAt w ss g.s)(hgl:g.s.length<=9223372036854775807)(ht:IntsAt w st h.s)(hhl:h.s.length<=9223372036854775807)(Hn1:Hid (g.n=true))(Hn2:Hid (h.n=true))(hS:Hid (bB g < 0\/bB g≠bB h)):
  Calls pG 115 #[I Y 9,gv g ss gc,gv h st hc] w λe w'=>e=Rt (if (ap g||ap h)=true then Tu #[gv noneG nO 0,Bb false] else Tu #[gv ⟨false,⟨true,0,0⟩,(g.n&&h.n)||(!(aF g.sp h.sp).n||((g.t&&h.t)||((g.f&&h.f)||g.s.any λx=>h.s.contains x))),!cM g h,[]⟩ nO 0,Bb false])/\bl w w':=by
 have HM:Hid (∀w,Calls pG 169 #[sv g.sp,sv h.sp] w λe w'=>e=Rt (Ag #[Bb (aF g.sp h.sp).n,I Y (aF g.sp h.sp).lo,I Y (aF g.sp h.sp).hi])/\bl w w'):=λw=>iu g.sp h.sp w;have HSg:=ae (λw=>eH g ss gc w);have HSh:=ae (λw=>eH h st hc w);generalize hy:((g.n&&h.n)||(!(aF g.sp h.sp).n||((g.t&&h.t)||((g.f&&h.f)||g.s.any λx=>h.s.contains x))))=y;have Hy:=ae hy;generalize hal:(!cM g h)=al;have Hal:Hid (al=(decide (bB g < 0)||(decide (bB g≠bB h)||@decide _ (@instDecidableNot _ (g.sp.dq h.sp))))):=pC;clear hy hal;generalize bB g=x1 at *;generalize bB h=x2 at *;generalize aF g.sp h.sp=ms at *;have hfld:∀wx:World,(Instr.field 89 (Ag #[Bb ms.n,I Y ms.lo,I Y ms.hi]) 0).run pG wx=.ok (Bb ms.n) wx:=λ_=>ag;generalize hnn:(ap g||ap h)=nn;have Hnn:=ae hnn;clear hnn;have HNg:=ae (λw=>bL g ss gc w);have HNh:=ae (λw=>bL h st hc w);generalize ap g=ng at *;generalize ap h=nh at *;go_enter Tryz.func115,Tryz.ntmps115;go_upto_region 1 with fail
 go_cut [8] (λt wy=>∃ob,t=Pp (sO ⟨ob,0,nO⟩)/\DG w g ss gc h st hc ob noneG wy)
 case first=>
  go_wp2_with fail;refine(cZ _).mono ?_;rintro e w1 ⟨rfl,hb1⟩;have D1:=kD hb1;go_wp2_with fail;go_meet;refine⟨w1.heap.size,rfl,?_⟩;exact D1
 obtain⟨ob,rfl,D1⟩:=hcut;obtain⟨⟨g0,g1,g2,g3,g4,g5,g6⟩,gz⟩:=id D1.1;simp only[j0] at g0 g1 g2 g3 g4 g5 g6;obtain⟨⟨k0,k1,k2,k3,k4,k5,k6⟩,kz⟩:=id D1.2.1;simp only[j0] at k0 k1 k2 k3 k4 k5 k6;have fz:=D1.2.2.2.1.1;have fo:=D1.2.2.2.2.2.1.1;have zo:=D1.2.2.2.2.2.2.2;go_upto_region 2 with fail
 go_cut [27] (λt wy=>t=Bb nn/\DG w g ss gc h st hc ob noneG wy)
 case first=>
  exact kh
 obtain⟨rfl,D2⟩:=hcut;clear g0 g1 g2 g3 g4 g5 g6 gz k0 k1 k2 k3 k4 k5 k6 kz fz fo zo D1 HNg HNh Hnn;cases nn with
 |true=>
  exact kr
 |false=>
  go_wp2_with fail;go_loopw [11,12] (λcm i wr=>∃(k:Nat) (cb:Bool),k<=g.s.length/\i=I Y k/\cm=Bb cb/\Hid (cb=(g.s.take k).any λx=>h.s.contains x)/\DG w g ss gc h st hc ob noneG wr) (λ_ i _=>g.s.length - (intOf i).toNat)
  case atStart=>exact⟨0,false,Nat.zero_le _,rfl,rfl,dI,D2⟩
  case round=>
   obtain⟨k,cb,hk,rfl,rfl,HC,DR⟩:=hrel;clear D2;obtain⟨⟨g0,g1,g2,g3,g4,g5,g6⟩,gz⟩:=id DR.1;simp only[j0] at g0 g1 g2 g3 g4 g5 g6;obtain⟨⟨k0,k1,k2,k3,k4,k5,k6⟩,kz⟩:=id DR.2.1;simp only[j0] at k0 k1 k2 k3 k4 k5 k6;have fz:=DR.2.2.2.1.1;have fo:=DR.2.2.2.2.2.1.1;have zo:=DR.2.2.2.2.2.2.2;by_cases hlt:k < g.s.length
   ·have IR:=hs.below DR.2.2.2.2.2.2.1 (lR _)
    exact kv
   ·have ek:k=g.s.length:=by omega
    have HA:Hid (cb=g.s.any λx=>h.s.contains x):=ph;subst ek;clear hlt;clear HC;obtain⟨⟨o0,o1,o2,o3,o4,o5,o6⟩,oz⟩:=id DR.2.2.2.2.1;simp only[j0] at o0 o1 o2 o3 o4 o5 o6;simp only[noneG] at o0 o1 o2 o3 o4 o5 o6;go_upto_region 17 with fail
    go_cut [11,98] (λt t' wy=>DG w g ss gc h st hc ob ⟨false,⟨true,0,0⟩,y,false,[]⟩ wy)
    case first=>
     have en1:=Hn1.out;have en2:=Hn2.out;cases cb with
     |true=>
      have Ey:Hid (y=true):=uR;go_wp2_with fail;go_meet;rw[Ey.out];exact DR.t
     |false=>
      have Ey:Hid (y=true):=by show _=_;rw[<-Hy.out,en1,en2];simp
      go_wp2_with fail;go_meet;rw[Ey.out];exact DR.t
    have D6:=hcut;clear DR g0 g1 g2 g3 g4 g5 g6 gz k0 k1 k2 k3 k4 k5 k6 kz fz fo zo o0 o1 o2 o3 o4 o5 o6 oz hcut Hy HA HM;go_wp2_with fail;have KS:∀{o:Gs} wx,DG w g ss gc h st hc ob o wx->iX w.heap.size g ss gc h st hc wx:=λwx a=>⟨kN,kB⟩;generalize wc=w6 at *;have D7:=D6.drew;refine wp_region_held_drew (S:=iX w.heap.size g ss gc h st hc) ag (KS _ D7) (λhHeld=> ?_);unfold iX at hHeld KS |-;clear D6;generalize w6.drew=w7 at *;refine vH 0 ?_ ?_;refine wpAnyH_ready (rs:=[1]) ag ah ?_;refine AllReadyH.cons rfl (λK hK=> ?_) AllReadyH.nil;go_simp;refine(HSg.out _).mono ?_;rintro e w8 ⟨rfl,hb8⟩;have D8:=D7.call hb8;refine hK.out _ _ (KS _ D8) (λhHeld8=> ?_);clear hK K hb8 D7;refine sm ?_;refine vH 2 ?_ ?_;have Hlt:∃lt:Bool,Hid (decide (x1 < 0)=lt):=⟨_,rfl⟩;obtain⟨lt,Hlt⟩:=Hlt;rw[Hlt.out];cases lt with
    |true=>
     have Eal:Hid (al=true):=by show _=_;rw[Hal.out,Hlt.out];rfl
     refine vH 3 ?_ ?_;refine uH 4 ?_;refine sm ?_;refine uH 5 ?_;refine sm ?_;refine uH 6 ?_;refine sm ?_;refine uH 7 ?_;refine sm ?_;refine uH 8 ?_;refine sm ?_;refine vH 9 ?_ ?_;refine vH 10 ?_ ?_;refine uH 11 ?_;refine sm ?_;refine uH 12 ?_;refine sm ?_;refine uH 13 ?_;refine sm ?_;refine uH 14 ?_;refine sm ?_;refine uH 15 ?_;refine sm ?_;refine vH 16 ?_ ?_;refine vH 17 ?_ ?_;obtain⟨⟨o0,o1,o2,o3,o4,o5,o6⟩,oz⟩:=id D8.2.2.2.2.1;simp only[j0] at o0 o1 o2 o3 o4 o5 o6;have fo:=D8.2.2.2.2.2.1.1;have D9:=D8.f (y:=true);refine wpAnyH_ready (rs:=[18]) ag ah ?_;refine AllReadyH.cons rfl (λK hK=> ?_) AllReadyH.nil;go_simp;refine hK.out _ (w8.setCell ⟨ob,5,nO⟩ (Bb true)) (KS _ D9) (λhHeldz=> ?_);clear hK K o0 o1 o2 o3 o4 o5 o6 oz fo D8;refine sm ?_;generalize w8.setCell ⟨ob,5,nO⟩ (Bb true)=w9 at *;exact uh
    |false=>
     have hne:x1≠x2:=by
      rcases hS.out with h|h
      ·exact absurd h (of_decide_eq_false Hlt.out)
      ·exact h
     refine vH 3 ?_ ?_;refine vH 4 ?_ ?_;refine vH 6 ?_ ?_;refine wpAnyH_ready (rs:=[5]) ag ah ?_;refine AllReadyH.cons rfl (λK hK=> ?_) AllReadyH.nil;go_simp;refine(HSg.out _).mono ?_;rintro e w9 ⟨rfl,hb9⟩;have D9:=D8.call hb9;refine hK.out _ _ (KS _ D9) (λhHeld9=> ?_);clear hK K hb9 D8;refine sm ?_;refine wpAnyH_ready (rs:=[7]) ag ah ?_;refine AllReadyH.cons rfl (λK hK=> ?_) AllReadyH.nil;go_simp;refine(HSh.out _).mono ?_;rintro e w10 ⟨rfl,hb10⟩;have D10:=D9.call hb10;refine hK.out _ _ (KS _ D10) (λhHeld10=> ?_);clear hK K hb10 D9;refine sm ?_;have hneb:(x1 !=x2)=true:=by simpa using hne
     have Eal:Hid (al=true):=DF;refine vH 8 ?_ ?_;refine vH 9 ?_ ?_;refine vH 10 ?_ ?_;refine uH 11 ?_;refine sm ?_;refine uH 12 ?_;refine sm ?_;refine uH 13 ?_;refine sm ?_;refine uH 14 ?_;refine sm ?_;refine uH 15 ?_;refine sm ?_;refine vH 16 ?_ ?_;refine vH 17 ?_ ?_;obtain⟨⟨o0,o1,o2,o3,o4,o5,o6⟩,oz⟩:=id D10.2.2.2.2.1;simp only[j0] at o0 o1 o2 o3 o4 o5 o6;have fo:=D10.2.2.2.2.2.1.1;have D9:=D10.f (y:=true);refine wpAnyH_ready (rs:=[18]) ag ah ?_;refine AllReadyH.cons rfl (λK hK=> ?_) AllReadyH.nil;go_simp;refine hK.out _ (w10.setCell ⟨ob,5,nO⟩ (Bb true)) (KS _ D9) (λhHeldz=> ?_);clear hK K o0 o1 o2 o3 o4 o5 o6 oz fo D10;refine sm ?_;generalize w10.setCell ⟨ob,5,nO⟩ (Bb true)=w9 at *;exact uh
end
end Go.Proofs.YtmapdpcfanecdabGreatDoor
