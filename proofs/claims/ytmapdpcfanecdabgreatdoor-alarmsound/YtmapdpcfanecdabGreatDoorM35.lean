import Derived.Test.YtmapdpcfanecdabGreatDoorM33
open Go.Ending renaming returned→Rt
open Go.IntKind renaming i64→Y
open Go.Obj renaming cells→Cc
open Go.Proofs.Tryz renaming prog→pG
open Go.Value renaming bool→Bb,int→I,slice→U,tuple→Tu
open Go.World renaming size_alloc→zA
open Nat renaming le_refl→lR
open Option renaming none→nO,some→sO
set_option linter.unusedSimpArgs false
set_option linter.unusedVariables false
set_option maxHeartbeats 8000000
set_option maxRecDepth 100000
namespace Go.Proofs.YtmapdpcfanecdabGreatDoor
section
open Go.RowKit
def El (w:World)(g:Gs)(ss:Option Addr)(gc:Nat)(h:Gs)(st:Option Addr)(hc:Nat)(w':World):Prop:=
 (w'.cell? ⟨w.heap.size+1,0,nO⟩=sO (Bb g.n)∧w'.cell? ⟨w.heap.size+1,1,nO⟩=sO (Bb g.sp.n)∧w'.cell? ⟨w.heap.size+1,2,nO⟩=sO (I Y g.sp.lo)∧w'.cell? ⟨w.heap.size+1,3,nO⟩=sO (I Y g.sp.hi)∧w'.cell? ⟨w.heap.size+1,4,nO⟩=sO (Bb g.t)∧w'.cell? ⟨w.heap.size+1,5,nO⟩=sO (Bb g.f)∧w'.cell? ⟨w.heap.size+1,6,nO⟩=sO (U ss g.s.length gc))∧
 (w'.cell? ⟨w.heap.size+1+1,0,nO⟩=sO (Bb h.n)∧w'.cell? ⟨w.heap.size+1+1,1,nO⟩=sO (Bb h.sp.n)∧w'.cell? ⟨w.heap.size+1+1,2,nO⟩=sO (I Y h.sp.lo)∧w'.cell? ⟨w.heap.size+1+1,3,nO⟩=sO (I Y h.sp.hi)∧w'.cell? ⟨w.heap.size+1+1,4,nO⟩=sO (Bb h.t)∧w'.cell? ⟨w.heap.size+1+1,5,nO⟩=sO (Bb h.f)∧w'.cell? ⟨w.heap.size+1+1,6,nO⟩=sO (U st h.s.length hc))

theorem s8 {p:Prop}(h:p:=by
 refine wpAnyH_ready (rs:=[11]) (by kernel_rfl) (by simp) ?_
 refine AllReadyH.cons rfl (λK hK=> ?_) AllReadyH.nil
 go_simp
 refine(HW.out _ 2 _ L5).mono ?_
 rintro e w6 ⟨rfl,hb6⟩
 have G6:=G5.call hb6
 have H6:=H5.call hb6
 have R6:=R5.call hb6
 have F6:=F5.call hb6
 have L6:=L5.call hb6
 have B6:=B5.trans (hb6.mono B5.size)
 refine hK.out _ _ (KS _ G6 H6) (λhHeld6=> ?_)
 clear hK K hb6
 refine sm ?_
 obtain⟨⟨r0,r1,r2,r3,r4,r5,r6⟩,rz⟩:=id R6
 simp only[Nat.zero_add,dK] at r0 r1 r2 r3 r4 r5 r6
 have fz:=F6.1
 refine wpAnyH_ready (rs:=[12]) (by kernel_rfl) (by simp) ?_
 refine AllReadyH.cons rfl (λK hK=> ?_) AllReadyH.nil
 go_simp
 refine hK.out _ _ (KS _ (G6.put7 (by omega)) (H6.put7 (by omega))) (λhHeldz=> ?_)
 clear hK K
 refine sm ?_
 refine vH 13 ?_ ?_
 refine vH 14 ?_ ?_
 refine wpAnyH_done (by kernel_rfl) ?_ _
 go_wp2
 refine bodyPost_ret (v:=.tuple #[gv ⟨false,⟨true,0,0⟩,y,n,[]⟩ none 0,.bool wr,.int .i64 0]) (by simp[results,Tryz.results164,go_sem,r0,r1,r2,r3,r4,r5,r6]) rfl ⟨rfl,?_⟩
 exact dM B6 (by omega)):p:=h
theorem sQ {p:Prop}(h:p:=by
 refine wpAnyH_ready (rs:=[7]) (by kernel_rfl) (by simp) ?_
 refine AllReadyH.cons rfl (λK hK=> ?_) AllReadyH.nil
 go_simp
 refine(kk _ _ _).mono ?_
 rintro e w5 ⟨rfl,hb5⟩
 have G5:=G4.call hb5
 have H5:=H4.call hb5
 have R5:=R4.call hb5
 have F5:=F4.call hb5
 have L5:=L4.call hb5
 have B5:=B4.trans (hb5.mono B4.size)
 refine hK.out _ _ (KS _ G5 H5) (λhHeld5=> ?_)
 clear hK K hb5
 refine sm ?_
 exact s8):p:=h
theorem Kj (V F:Int)(s:Option Addr)(c:List Ins)(cap:Nat)(g:Gs)(ss:Option Addr)(gc:Nat)(h:Gs)(st:Option Addr)(hc:Nat)(w:World)
  (hcd:CodeAt w s c)(hs:IntsAt w ss g.s)(h1:g.s.length≤gc)(h2:gc≤maxLen)(ht:IntsAt w st h.s)(h3:h.s.length≤hc)(h4:hc≤maxLen)(hck:aX V F c [g,h]=0):
  Calls pG 164 #[pv V F s c cap,I Y 8,gv g ss gc,gv h st hc] w λe w'=>e=Rt (Tu #[gv ⟨false,⟨true,0,0⟩,!(g.sp.n||h.sp.n)&&decide (g.sp.lo < h.sp.hi),!(g.sp.n||h.sp.n)&&decide (h.sp.lo≤g.sp.hi),[]⟩ nO 0,Bb ([g,h].any aW&& ![g,h].any aB),I Y 0])∧Below w.heap.size w w':=by
 obtain⟨P0,G0,H0,R0,F0⟩:=eC w V F s c cap g ss gc h st hc
 have B0:=cU w V F s c cap g ss gc h st hc
 have C0:CodeAt (bH w V F s c cap g ss gc h st hc) s c:=hcd.below B0 (lR _)
 have I0:IntsAt (bH w V F s c cap g ss gc h st hc) ss g.s:=hs.below B0 (lR _)
 have J0:IntsAt (bH w V F s c cap g ss gc h st hc) st h.s:=ht.below B0 (lR _)
 have L0:=GsAt.new2 (bH w V F s c cap g ss gc h st hc) g ss gc h st hc I0 h1 h2 J0 h3 h4
 simp only[zA] at L0
 have HC:=aa (bZ V F s c cap (sO ⟨w.heap.size+1+1+1+1,0,nO⟩) [g,h] 2 _ (C0.alloc _) L0 (by simp))
 rw[hck] at HC
 have HL:=aa (λw=>EM g.sp h.sp w)
 generalize (!(g.sp.n||h.sp.n)&&decide (g.sp.lo < h.sp.hi))=y at HL ⊢
 generalize (!(g.sp.n||h.sp.n)&&decide (h.sp.lo≤g.sp.hi))=n at HL ⊢
 have HW:=aa (λls lc w hL=>pm ls [g,h] lc w (by simp) hL)
 generalize ([g,h].any aW&& ![g,h].any aB)=wr at HW ⊢
 go_enter Tryz.func164,Tryz.ntmps164
 go_wp2_with (go_at_call 142;fail)
 refine HC.out.mono ?_
 rintro e w1 ⟨rfl,hb1⟩
 have G1:=(G0.alloc _).call hb1
 have H1:=(H0.alloc _).call hb1
 have R1:=(R0.alloc _).call hb1
 have I1:=(I0.alloc _).call hb1
 have J1:=(J0.alloc _).call hb1
 have F1:Fr7 w1 (w.heap.size+1+1+1):=(F0.alloc _).call hb1
 have B1:Below w.heap.size w w1:=(B0.alloc B0.size _).trans (hb1.mono (by simp;omega))
 clear hb1 G0 H0 R0 I0 J0 F0 B0 C0 P0 L0 hcd hs ht HC
 clear I1 J1
 obtain⟨⟨g0,g1,g2,g3,g4,g5,g6⟩,gz⟩:=id G1
 obtain⟨⟨k0,k1,k2,k3,k4,k5,k6⟩,kz⟩:=id H1
 simp only[Nat.zero_add] at g0 g1 g2 g3 g4 g5 g6 k0 k1 k2 k3 k4 k5 k6
 go_wp2
 have KS:∀wx,GuAt wx (w.heap.size+1) 0 g ss gc→GuAt wx (w.heap.size+1+1) 0 h st hc→El w g ss gc h st hc wx:=λwx a b=>⟨by simpa using a.1,by simpa using b.1⟩
 have G2:=G1.drew
 have H2:=H1.drew
 have R2:=R1.drew
 have F2:=F1.drew
 have B2:=B1.drew
 refine wp_region_held_drew (S:=El w g ss gc h st hc) (by kernel_rfl) (KS _ G2 H2) (λhHeld=> ?_)
 unfold El at hHeld KS ⊢
 clear G1 H1 R1 F1 B1 g0 g1 g2 g3 g4 g5 g6 gz k0 k1 k2 k3 k4 k5 k6 kz
 generalize w1.drew=w2 at *
 refine vH 0 ?_ ?_
 refine vH 1 ?_ ?_
 refine vH 2 ?_ ?_
 refine vH 3 ?_ ?_
 refine vH 8 ?_ ?_
 refine vH 9 ?_ ?_
 refine wpAnyH_ready (rs:=[4,10]) (by kernel_rfl) (by simp) ?_
 refine AllReadyH.cons rfl (λK hK=> ?_) (AllReadyH.cons rfl (λK hK=> ?_) AllReadyH.nil)
 ·go_simp
  refine(HL.out _).mono ?_
  rintro e w3 ⟨rfl,hb3⟩
  have G3:=G2.call hb3
  have H3:=H2.call hb3
  have R3:=R2.call hb3
  have F3:=F2.call hb3
  have B3:=B2.trans (hb3.mono B2.size)
  refine hK.out _ _ (KS _ G3 H3) (λhHeld3=> ?_)
  clear hK K hb3
  refine sm ?_
  refine vH 5 ?_ ?_
  refine vH 6 ?_ ?_
  refine wpAnyH_ready (rs:=[7,10]) (by kernel_rfl) (by simp) ?_
  refine AllReadyH.cons rfl (λK hK=> ?_) (AllReadyH.cons rfl (λK hK=> ?_) AllReadyH.nil)
  ·go_simp
   refine(kk _ _ _).mono ?_
   rintro e w4 ⟨rfl,hb4⟩
   have G4:=G3.call hb4
   have H4:=H3.call hb4
   have R4:=R3.call hb4
   have F4:=F3.call hb4
   have B4:=B3.trans (hb4.mono B3.size)
   refine hK.out _ _ (KS _ G4 H4) (λhHeld4=> ?_)
   clear hK K hb4
   refine sm ?_
   refine wpAnyH_ready (rs:=[10]) (by kernel_rfl) (by simp) ?_
   refine AllReadyH.cons rfl (λK hK=> ?_) AllReadyH.nil
   go_simp
   have G5:=G4.alloc (Cc #[Bb g.n,Bb g.sp.n,I Y g.sp.lo,I Y g.sp.hi,Bb g.t,Bb g.f,U ss g.s.length gc,Bb h.n,Bb h.sp.n,I Y h.sp.lo,I Y h.sp.hi,Bb h.t,Bb h.f,U st h.s.length hc] 91)
   have H5:=H4.alloc (Cc #[Bb g.n,Bb g.sp.n,I Y g.sp.lo,I Y g.sp.hi,Bb g.t,Bb g.f,U ss g.s.length gc,Bb h.n,Bb h.sp.n,I Y h.sp.lo,I Y h.sp.hi,Bb h.t,Bb h.f,U st h.s.length hc] 91)
   have R5:=R4.alloc (Cc #[Bb g.n,Bb g.sp.n,I Y g.sp.lo,I Y g.sp.hi,Bb g.t,Bb g.f,U ss g.s.length gc,Bb h.n,Bb h.sp.n,I Y h.sp.lo,I Y h.sp.hi,Bb h.t,Bb h.f,U st h.s.length hc] 91)
   have F5:=F4.alloc (Cc #[Bb g.n,Bb g.sp.n,I Y g.sp.lo,I Y g.sp.hi,Bb g.t,Bb g.f,U ss g.s.length gc,Bb h.n,Bb h.sp.n,I Y h.sp.lo,I Y h.sp.hi,Bb h.t,Bb h.f,U st h.s.length hc] 91)
   have B5:=B4.alloc B4.size (Cc #[Bb g.n,Bb g.sp.n,I Y g.sp.lo,I Y g.sp.hi,Bb g.t,Bb g.f,U ss g.s.length gc,Bb h.n,Bb h.sp.n,I Y h.sp.lo,I Y h.sp.hi,Bb h.t,Bb h.f,U st h.s.length hc] 91)
   have L5:=GhAt.new2 w4 g ss gc h st hc
   refine hK.out _ _ (KS _ G5 H5) (λhHeld5=> ?_)
   clear hK K
   refine sm ?_
   unfold nK at L5
   generalize w4.alloc (Cc #[Bb g.n,Bb g.sp.n,I Y g.sp.lo,I Y g.sp.hi,Bb g.t,Bb g.f,U ss g.s.length gc,Bb h.n,Bb h.sp.n,I Y h.sp.lo,I Y h.sp.hi,Bb h.t,Bb h.f,U st h.s.length hc] 91)=w5 at *
   generalize w4.heap.size=sb at *
   exact s8
  ·go_simp
   have G4:=G3.alloc (Cc #[Bb g.n,Bb g.sp.n,I Y g.sp.lo,I Y g.sp.hi,Bb g.t,Bb g.f,U ss g.s.length gc,Bb h.n,Bb h.sp.n,I Y h.sp.lo,I Y h.sp.hi,Bb h.t,Bb h.f,U st h.s.length hc] 91)
   have H4:=H3.alloc (Cc #[Bb g.n,Bb g.sp.n,I Y g.sp.lo,I Y g.sp.hi,Bb g.t,Bb g.f,U ss g.s.length gc,Bb h.n,Bb h.sp.n,I Y h.sp.lo,I Y h.sp.hi,Bb h.t,Bb h.f,U st h.s.length hc] 91)
   have R4:=R3.alloc (Cc #[Bb g.n,Bb g.sp.n,I Y g.sp.lo,I Y g.sp.hi,Bb g.t,Bb g.f,U ss g.s.length gc,Bb h.n,Bb h.sp.n,I Y h.sp.lo,I Y h.sp.hi,Bb h.t,Bb h.f,U st h.s.length hc] 91)
   have F4:=F3.alloc (Cc #[Bb g.n,Bb g.sp.n,I Y g.sp.lo,I Y g.sp.hi,Bb g.t,Bb g.f,U ss g.s.length gc,Bb h.n,Bb h.sp.n,I Y h.sp.lo,I Y h.sp.hi,Bb h.t,Bb h.f,U st h.s.length hc] 91)
   have B4:=B3.alloc B3.size (Cc #[Bb g.n,Bb g.sp.n,I Y g.sp.lo,I Y g.sp.hi,Bb g.t,Bb g.f,U ss g.s.length gc,Bb h.n,Bb h.sp.n,I Y h.sp.lo,I Y h.sp.hi,Bb h.t,Bb h.f,U st h.s.length hc] 91)
   have L4:=GhAt.new2 w3 g ss gc h st hc
   refine hK.out _ _ (KS _ G4 H4) (λhHeld4=> ?_)
   clear hK K
   refine sm ?_
   unfold nK at L4
   generalize w3.alloc (Cc #[Bb g.n,Bb g.sp.n,I Y g.sp.lo,I Y g.sp.hi,Bb g.t,Bb g.f,U ss g.s.length gc,Bb h.n,Bb h.sp.n,I Y h.sp.lo,I Y h.sp.hi,Bb h.t,Bb h.f,U st h.s.length hc] 91)=w4 at *
   generalize w3.heap.size=sb at *
   exact sQ
 ·go_simp
  have G3:=G2.alloc (Cc #[Bb g.n,Bb g.sp.n,I Y g.sp.lo,I Y g.sp.hi,Bb g.t,Bb g.f,U ss g.s.length gc,Bb h.n,Bb h.sp.n,I Y h.sp.lo,I Y h.sp.hi,Bb h.t,Bb h.f,U st h.s.length hc] 91)
  have H3:=H2.alloc (Cc #[Bb g.n,Bb g.sp.n,I Y g.sp.lo,I Y g.sp.hi,Bb g.t,Bb g.f,U ss g.s.length gc,Bb h.n,Bb h.sp.n,I Y h.sp.lo,I Y h.sp.hi,Bb h.t,Bb h.f,U st h.s.length hc] 91)
  have R3:=R2.alloc (Cc #[Bb g.n,Bb g.sp.n,I Y g.sp.lo,I Y g.sp.hi,Bb g.t,Bb g.f,U ss g.s.length gc,Bb h.n,Bb h.sp.n,I Y h.sp.lo,I Y h.sp.hi,Bb h.t,Bb h.f,U st h.s.length hc] 91)
  have F3:=F2.alloc (Cc #[Bb g.n,Bb g.sp.n,I Y g.sp.lo,I Y g.sp.hi,Bb g.t,Bb g.f,U ss g.s.length gc,Bb h.n,Bb h.sp.n,I Y h.sp.lo,I Y h.sp.hi,Bb h.t,Bb h.f,U st h.s.length hc] 91)
  have B3:=B2.alloc B2.size (Cc #[Bb g.n,Bb g.sp.n,I Y g.sp.lo,I Y g.sp.hi,Bb g.t,Bb g.f,U ss g.s.length gc,Bb h.n,Bb h.sp.n,I Y h.sp.lo,I Y h.sp.hi,Bb h.t,Bb h.f,U st h.s.length hc] 91)
  have L3:=GhAt.new2 w2 g ss gc h st hc
  refine hK.out _ _ (KS _ G3 H3) (λhHeld3=> ?_)
  clear hK K
  refine sm ?_
  unfold nK at L3
  generalize w2.alloc (Cc #[Bb g.n,Bb g.sp.n,I Y g.sp.lo,I Y g.sp.hi,Bb g.t,Bb g.f,U ss g.s.length gc,Bb h.n,Bb h.sp.n,I Y h.sp.lo,I Y h.sp.hi,Bb h.t,Bb h.f,U st h.s.length hc] 91)=w3 at *
  generalize w2.heap.size=sb at *
  refine wpAnyH_ready (rs:=[4]) (by kernel_rfl) (by simp) ?_
  refine AllReadyH.cons rfl (λK hK=> ?_) AllReadyH.nil
  go_simp
  refine(HL.out _).mono ?_
  rintro e w4 ⟨rfl,hb4⟩
  have G4:=G3.call hb4
  have H4:=H3.call hb4
  have R4:=R3.call hb4
  have F4:=F3.call hb4
  have L4:=L3.call hb4
  have B4:=B3.trans (hb4.mono B3.size)
  refine hK.out _ _ (KS _ G4 H4) (λhHeld4=> ?_)
  clear hK K hb4
  refine sm ?_
  refine vH 5 ?_ ?_
  refine vH 6 ?_ ?_
  exact sQ
end
end Go.Proofs.YtmapdpcfanecdabGreatDoor
