import Derived.Test.YtmapdpcfanecdabGreatDoorR14
open Go.Ending renaming returned→Rt
open Go.IntKind renaming i64→Y
open Go.Proofs.Tryz renaming prog→pG
open Go.Value renaming bool→Bb,int→I,pointer→Pp,slice→U,tuple→Tu
open Nat renaming zero_add→j0
open Option renaming none→nO,some→sO
open Go.Proofs.Tryz
set_option linter.unusedSimpArgs false
set_option linter.unusedVariables false
set_option maxHeartbeats 8000000
set_option maxRecDepth 100000
namespace Go.Proofs.YtmapdpcfanecdabGreatDoor
section
open Go.RowKit
theorem CO {p:Prop}(h:p:=by
 intro e;have e0:=HB.out.symm.trans e;cases e1:g.sp.n<;>cases e2:h.sp.n<;>rw[e1,e2] at e0<;>first|(exact Bool.noConfusion e0)|exact⟨by show _=_;rw[<-Hy.out,e1,e2];simp,by show _=_;rw[<-Hn.out,e1,e2];simp⟩):p:=h
theorem WH (w:World)(g:Gs)(ss:oA)(gc:Nat)(h:Gs)(st:oA)(hc:Nat):
  Calls pG 115 #[I Y 8,gv g ss gc,gv h st hc] w λe w'=>e=Rt (if (an g||an h)=true then Tu #[gv noneG nO 0,Bb false] else Tu #[gv ⟨false,⟨true,0,0⟩,!(g.sp.n||h.sp.n)&&decide (g.sp.lo < h.sp.hi),!(g.sp.n||h.sp.n)&&decide (h.sp.lo<=g.sp.hi),[]⟩ nO 0,Bb (aP g||aP h)])/\bl w w':=by
 have HOg:=rI;have HOh:=sR;generalize hwr:(aP g||aP h)=wr;have HWr0:=ag hwr;clear hwr;generalize aP g=og at *;generalize aP h=oh at *;have HWr:=pQ;clear HWr0;generalize hy:(!(g.sp.n||h.sp.n)&&decide (g.sp.lo < h.sp.hi))=y;generalize hn:(!(g.sp.n||h.sp.n)&&decide (h.sp.lo<=g.sp.hi))=n;have Hy:=ag hy;have Hn:=ag hn;clear hy hn;have HB0:∃nb:Bool,Hid (nb=(!g.sp.n&& !h.sp.n)):=⟨_,rfl⟩;obtain⟨nb,HB⟩:=HB0;have HT:Hid (nb=true->Hid (y=decide (g.sp.lo < h.sp.hi))/\Hid (n=decide (h.sp.lo<=g.sp.hi))):=by
  exact CO
 have HF:Hid (nb=false->Hid (y=false)/\Hid (n=false)):=by
  exact CO
 generalize hnn:(an g||an h)=nn;have Hnn:=ag hnn;clear hnn;have HNg:=ie;have HNh:=iq;generalize an g=ng at *;generalize an h=nh at *;go_enter Tryz.func115,Tryz.ntmps115;go_upto_region 1 with fail
 go_cut [8] (λt wy=>∃ob,t=Pp (sO ⟨ob,0,nO⟩)/\DG w g ss gc h st hc ob noneG wy)
 case first=>
  go_wp2_with fail;refine(fD _).mono ?_;rintro e w1 ⟨rfl,hb1⟩;have D1:=mI hb1;go_wp2_with fail;go_meet;refine⟨w1.heap.size,rfl,?_⟩;exact D1
 obtain⟨ob,rfl,D1⟩:=hcut;obtain⟨⟨g0,g1,g2,g3,g4,g5,g6⟩,gz⟩:=id D1.1;simp only[j0] at g0 g1 g2 g3 g4 g5 g6;obtain⟨⟨k0,k1,k2,k3,k4,k5,k6⟩,kz⟩:=id D1.2.1;simp only[j0] at k0 k1 k2 k3 k4 k5 k6;have fz:=D1.2.2.2.1.1;have fo:=D1.2.2.2.2.2.1.1;have zo:=D1.2.2.2.2.2.2.2;go_upto_region 2 with fail
 go_cut [27] (λt wy=>t=Bb nn/\DG w g ss gc h st hc ob noneG wy)
 case first=>
  go_wp2_with fail;refine(HNg.out _).mono ?_;rintro e w2 ⟨rfl,hb2⟩;have D2:=D1.call hb2;clear g0 g1 g2 g3 g4 g5 g6 gz k0 k1 k2 k3 k4 k5 k6 kz fz fo;cases ng with
  |true=>
   go_wp2_with fail;go_meet;exact iU
  |false=>
   obtain⟨⟨k0,k1,k2,k3,k4,k5,k6⟩,kz⟩:=id D2.2.1;simp only[j0] at k0 k1 k2 k3 k4 k5 k6;have fz:=D2.2.2.2.1.1;have fo:=D2.2.2.2.2.2.1.1;have zo2:=D2.2.2.2.2.2.2.2;go_wp2_with fail;refine(HNh.out _).mono ?_;rintro e w3 ⟨rfl,hb3⟩;have D3:=D2.call hb3;go_wp2_with fail;go_meet;exact⟨by rw[<-Hnn.out];first|done|rfl|simp,D3⟩
 obtain⟨rfl,D2⟩:=hcut;clear g0 g1 g2 g3 g4 g5 g6 gz k0 k1 k2 k3 k4 k5 k6 kz fz fo zo D1 HNg HNh Hnn;cases nn with
 |true=>
  obtain⟨⟨g0,g1,g2,g3,g4,g5,g6⟩,gz⟩:=id D2.1;simp only[j0] at g0 g1 g2 g3 g4 g5 g6;obtain⟨⟨r0,r1,r2,r3,r4,r5,r6⟩,rz⟩:=id D2.2.2.1;simp only[j0] at r0 r1 r2 r3 r4 r5 r6;obtain⟨⟨o0,o1,o2,o3,o4,o5,o6⟩,oz⟩:=id D2.2.2.2.2.1;simp only[j0] at o0 o1 o2 o3 o4 o5 o6;simp only[bG] at r0 r1 r2 r3 r4 r5 r6;have fz:=D2.2.2.2.1.1;have fo:=D2.2.2.2.2.2.1.1;have zo:=D2.2.2.2.2.2.2.2;simp only[noneG] at o0 o1 o2 o3 o4 o5 o6;go_wp2;refine bodyPost_ret (v:=Tu #[gv noneG nO 0,Bb false]) oR rfl ⟨?_,?_⟩
  ·rfl
  ·exact mU
 |false=>
  obtain⟨⟨g0,g1,g2,g3,g4,g5,g6⟩,gz⟩:=id D2.1;simp only[j0] at g0 g1 g2 g3 g4 g5 g6;obtain⟨⟨k0,k1,k2,k3,k4,k5,k6⟩,kz⟩:=id D2.2.1;simp only[j0] at k0 k1 k2 k3 k4 k5 k6;have fz:=D2.2.2.2.1.1;have fo:=D2.2.2.2.2.2.1.1;have zo:=D2.2.2.2.2.2.2.2;go_upto_region 21 with fail
  go_cut [130] (λt wy=>t=Bb nb/\DG w g ss gc h st hc ob noneG wy)
  case first=>
   have hb3:g.sp.n=true\/(g.sp.n=false/\h.sp.n=true)\/(g.sp.n=false/\h.sp.n=false):=by cases g.sp.n<;>cases h.sp.n<;>simp
   rcases hb3 with e1|⟨e1,e2⟩|⟨e1,e2⟩
   ·go_wp2_with fail
    go_meet;exact⟨by rw[HB.out,e1];simp,D2⟩
   ·go_wp2_with fail
    go_meet;exact⟨by rw[HB.out,e1,e2];simp,D2⟩
   ·go_wp2_with fail
    go_meet;exact⟨by rw[HB.out,e1,e2];simp,D2⟩
  obtain⟨rfl,D2b⟩:=hcut;clear g0 g1 g2 g3 g4 g5 g6 gz k0 k1 k2 k3 k4 k5 k6 kz fz fo zo D2;obtain⟨⟨g0,g1,g2,g3,g4,g5,g6⟩,gz⟩:=id D2b.1;simp only[j0] at g0 g1 g2 g3 g4 g5 g6;obtain⟨⟨k0,k1,k2,k3,k4,k5,k6⟩,kz⟩:=id D2b.2.1;simp only[j0] at k0 k1 k2 k3 k4 k5 k6;obtain⟨⟨o0,o1,o2,o3,o4,o5,o6⟩,oz⟩:=id D2b.2.2.2.2.1;simp only[j0] at o0 o1 o2 o3 o4 o5 o6;have fz:=D2b.2.2.2.1.1;have fo:=D2b.2.2.2.2.2.1.1;have zo:=D2b.2.2.2.2.2.2.2;simp only[noneG] at o0 o1 o2 o3 o4 o5 o6;go_upto_if 130 with fail
  go_cut [131] (λt wy=>DG w g ss gc h st hc ob ⟨false,⟨true,0,0⟩,y,n,[]⟩ wy)
  case first=>
   cases nb with
   |true=>
    obtain⟨Ey,En⟩:=HT.out rfl;go_wp2_with fail;go_meet;rw[Ey.out,En.out];exact D2b.t.f
   |false=>
    obtain⟨Ey,En⟩:=HF.out rfl;go_wp2_with fail;go_meet;rw[Ey.out,En.out];exact D2b
  clear o0 o1 o2 o3 o4 o5 o6 oz;have D3:=hcut;clear D2b g0 g1 g2 g3 g4 g5 g6 gz k0 k1 k2 k3 k4 k5 k6 kz fz fo zo hcut;generalize ho:(⟨false,⟨true,0,0⟩,y,n,[]⟩:Gs)=o at D3;have HO:Hid (Ending.returned (Tu #[gv o nO 0,Bb wr])=Ending.returned (Tu #[gv ⟨false,⟨true,0,0⟩,y,n,[]⟩ nO 0,Bb wr])):=by show _=_;rw[<-ho]
  clear ho;go_wp2_with fail;generalize wc=w3 at *;have KS:=Ig;have KSp:=IB;have D4:=D3.drew;refine wp_region_held_drew (S:=DT w.heap.size ob g ss gc h st hc o) ae (KS _ D4) (λhHeld=> ?_);unfold DT at hHeld KS KSp |-;clear D3;generalize w3.drew=w4 at *;refine vH 0 ?_ ?_;refine vH 1 ?_ ?_;refine rH1 2 λK hK=> ?_;go_simp;refine(HOg.out _).mono ?_;rintro e w5 ⟨rfl,hb5⟩;have D5:=D4.call hb5;refine hK.out _ _ (KS _ D5) (λhHeld5=> ?_);clear hK K hb5 D4;refine sm ?_;cases og with
  |true=>
   have ewr:wr=true:=vg;subst ewr;refine vH 3 ?_ ?_;refine uH 4 ?_;refine sm ?_;refine uH 5 ?_;refine sm ?_;refine vH 6 ?_ ?_;obtain⟨⟨r0,r1,r2,r3,r4,r5,r6⟩,rz⟩:=id D5.2.2.1;simp only[j0] at r0 r1 r2 r3 r4 r5 r6;simp only[bG] at r0 r1 r2 r3 r4 r5 r6;have fz:=D5.2.2.2.1.1;have zo:=D5.2.2.2.2.2.2.2;refine rH1 7 λK hK=> ?_;go_simp;refine hK.out _ (Go.Proofs.YtmapdpcfanecdabGreatDoor.iX w5 (w.heap.size+1+1) (Bb o.n) (Bb o.sp.n) (I Y o.sp.lo) (I Y o.sp.hi) (Bb o.t) (Bb o.f) (U nO o.s.length 0)) (KSp _ D5) (λhHeldz=> ?_);clear hK K;refine sm ?_;refine vH 8 ?_ ?_;refine wpAnyH_done ae ?_ _;go_wp2;refine bodyPost_ret (v:=Tu #[gv o nO 0,Bb true]) ux rfl ⟨HO.out,?_⟩;exact bC D5.2.2.2.2.2.2.1 aa
  |false=>
   have ewr:wr=oh:=vg;subst ewr;refine vH 3 ?_ ?_;refine vH 4 ?_ ?_;refine rH1 5 λK hK=> ?_;go_simp;refine(HOh.out _).mono ?_;rintro e w6 ⟨rfl,hb6⟩;have D6:=D5.call hb6;refine hK.out _ _ (KS _ D6) (λhHeld6=> ?_);clear hK K hb6 D5;refine sm ?_;refine vH 6 ?_ ?_;obtain⟨⟨r0,r1,r2,r3,r4,r5,r6⟩,rz⟩:=id D6.2.2.1;simp only[j0] at r0 r1 r2 r3 r4 r5 r6;simp only[bG] at r0 r1 r2 r3 r4 r5 r6;have fz:=D6.2.2.2.1.1;have zo:=D6.2.2.2.2.2.2.2;refine rH1 7 λK hK=> ?_;go_simp;refine hK.out _ (Go.Proofs.YtmapdpcfanecdabGreatDoor.iX w6 (w.heap.size+1+1) (Bb o.n) (Bb o.sp.n) (I Y o.sp.lo) (I Y o.sp.hi) (Bb o.t) (Bb o.f) (U nO o.s.length 0)) (KSp _ D6) (λhHeldz=> ?_);clear hK K;refine sm ?_;refine vH 8 ?_ ?_;refine wpAnyH_done ae ?_ _;go_wp2;refine bodyPost_ret (v:=Tu #[gv o nO 0,Bb wr]) ux rfl ⟨HO.out,?_⟩;exact bC D6.2.2.2.2.2.2.1 aa
end
end Go.Proofs.YtmapdpcfanecdabGreatDoor
