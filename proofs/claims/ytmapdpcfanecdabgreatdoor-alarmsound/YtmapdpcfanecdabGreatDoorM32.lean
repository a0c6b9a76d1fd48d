import Derived.Test.YtmapdpcfanecdabGreatDoorM19
open Go.Ending renaming returned→Rt
open Go.IntKind renaming i64→Y
open Go.Obj renaming cells→Cc
open Go.Proofs.Tryz renaming prog→pG
open Go.Value renaming bool→Bb,int→I,slice→U,tuple→Tu
open Go.World renaming size_alloc→zA
open Nat renaming le_refl→lR,zero_add→j0
open Option renaming none→nO,some→sO
set_option linter.unusedSimpArgs false
set_option linter.unusedVariables false
set_option maxHeartbeats 16000000
set_option maxRecDepth 100000
namespace Go.Proofs.YtmapdpcfanecdabGreatDoor
section
open Go.RowKit
theorem fj (a b:Bool):(a=true∧b=true)∨a=false∨(a=true∧b=false):=by cases a<;>cases b<;>simp

theorem Cy (g:Gs)(ss:Option Addr)(gc:Nat)(h:Gs)(st:Option Addr)(hc:Nat)(w:World)(hn:[g,h].any aB=true):
  Calls pG 206 #[gv g ss gc,gv h st hc] w λe w'=>e=Rt (Tu #[Bb false,Bb false])∧Below w.heap.size w w':=by
 have B0:Below w.heap.size w ((w.alloc (Cc #[Bb g.n,Bb g.sp.n,I Y g.sp.lo,I Y g.sp.hi,Bb g.t,Bb g.f,U ss g.s.length gc] 91)).alloc (Cc #[Bb h.n,Bb h.sp.n,I Y h.sp.lo,I Y h.sp.hi,Bb h.t,Bb h.f,U st h.s.length hc] 91)):=by go_grown
 have G0:=(GuAt.new w g ss gc).alloc (Cc #[Bb h.n,Bb h.sp.n,I Y h.sp.lo,I Y h.sp.hi,Bb h.t,Bb h.f,U st h.s.length hc] 91)
 have H0:=GuAt.new (w.alloc (Cc #[Bb g.n,Bb g.sp.n,I Y g.sp.lo,I Y g.sp.hi,Bb g.t,Bb g.f,U ss g.s.length gc] 91)) h st hc
 rw[zA] at H0
 have L0:=GhAt.new2 ((w.alloc (Cc #[Bb g.n,Bb g.sp.n,I Y g.sp.lo,I Y g.sp.hi,Bb g.t,Bb g.f,U ss g.s.length gc] 91)).alloc (Cc #[Bb h.n,Bb h.sp.n,I Y h.sp.lo,I Y h.sp.hi,Bb h.t,Bb h.f,U st h.s.length hc] 91)) g ss gc h st hc
 simp only[zA] at L0
 have HN:=aa (λlc wx hL=>iI (sO ⟨w.heap.size+1+1,0,nO⟩) [g,h] lc wx (by simp) hL)
 rw[hn] at HN
 clear hn
 go_enter Tryz.func206,Tryz.ntmps206
 go_wp2_with (go_at_call 233;fail)
 refine(HN.out 2 _ L0).mono ?_
 rintro e w1 ⟨rfl,hb1⟩
 go_wp2
 go_ret2
 exact⟨rfl,(B0.alloc B0.size _).trans (hb1.mono (by simp;omega))⟩

theorem fa {p:Prop}(h:p:=by
 rintro e w4 ⟨rfl,hb4⟩
 have G4:=G3.call hb4
 have H4:=H3.call hb4
 have B4:=B3.trans (hb4.mono B3.size)
 clear hb4 G3 H3 B3 I3 J3 G2 H2 g0 g1 g2 g3 g4 g5 g6 gz k0 k1 k2 k3 k4 k5 k6 kz
 obtain⟨⟨g0,g1,g2,g3,g4,g5,g6⟩,gz⟩:=id G4
 obtain⟨⟨k0,k1,k2,k3,k4,k5,k6⟩,kz⟩:=id H4
 simp only[Nat.zero_add] at g0 g1 g2 g3 g4 g5 g6 k0 k1 k2 k3 k4 k5 k6
 generalize hA':(sl.any λx=>h'.contains x)=al at *
 have HAL:=aa hA'
 clear hA'
 go_wp2_with (go_at_call 235;fail)
 refine(HA.out _).mono ?_
 rintro e w9 ⟨rfl,hb9⟩
 go_wp2
 go_ret2
 exact⟨fC (by rw[HY.out];simp_all) rfl,B4.trans (hb9.mono B4.size)⟩):p:=h
theorem Dn (g:Gs)(ss:Option Addr)(gc:Nat)(h:Gs)(st:Option Addr)(hc:Nat)(w:World)(hs:IntsAt w ss g.s)(hgl:g.s.length≤9223372036854775807)(ht:IntsAt w st h.s)(hlt:h.s.length≤9223372036854775807)(hsp:br g.sp h.sp=0)(hn:[g,h].any aB=false):
  Calls pG 206 #[gv g ss gc,gv h st hc] w λe w'=>e=Rt (Tu #[Bb ((g.n&&h.n)||(!(aR g.sp h.sp).n||((g.t&&h.t)||((g.f&&h.f)||g.s.any λx=>h.s.contains x)))),Bb (!fA g h)])∧Below w.heap.size w w':=by
 have B0:Below w.heap.size w ((w.alloc (Cc #[Bb g.n,Bb g.sp.n,I Y g.sp.lo,I Y g.sp.hi,Bb g.t,Bb g.f,U ss g.s.length gc] 91)).alloc (Cc #[Bb h.n,Bb h.sp.n,I Y h.sp.lo,I Y h.sp.hi,Bb h.t,Bb h.f,U st h.s.length hc] 91)):=by go_grown
 have G0:=(GuAt.new w g ss gc).alloc (Cc #[Bb h.n,Bb h.sp.n,I Y h.sp.lo,I Y h.sp.hi,Bb h.t,Bb h.f,U st h.s.length hc] 91)
 have H0:=GuAt.new (w.alloc (Cc #[Bb g.n,Bb g.sp.n,I Y g.sp.lo,I Y g.sp.hi,Bb g.t,Bb g.f,U ss g.s.length gc] 91)) h st hc
 rw[zA] at H0
 have L0:=GhAt.new2 ((w.alloc (Cc #[Bb g.n,Bb g.sp.n,I Y g.sp.lo,I Y g.sp.hi,Bb g.t,Bb g.f,U ss g.s.length gc] 91)).alloc (Cc #[Bb h.n,Bb h.sp.n,I Y h.sp.lo,I Y h.sp.hi,Bb h.t,Bb h.f,U st h.s.length hc] 91)) g ss gc h st hc
 simp only[zA] at L0
 have HN:=aa (λlc wx hL=>iI (sO ⟨w.heap.size+1+1,0,nO⟩) [g,h] lc wx (by simp) hL)
 rw[hn] at HN
 have hM:=λw=>iV g.sp h.sp w
 rw[hsp,show∀r,eP 0 r=r from λr=>rfl] at hM
 have HM:=aa hM
 clear hn hsp hM
 have HA:=aa (λw=>yH g ss gc h st hc w)
 have HY:Hid (((g.n&&h.n)||(!(aR g.sp h.sp).n||((g.t&&h.t)||((g.f&&h.f)||g.s.any λx=>h.s.contains x))))=((g.n&&h.n)||(!(aR g.sp h.sp).n||((g.t&&h.t)||((g.f&&h.f)||g.s.any λx=>h.s.contains x))))):=rfl
 generalize hy:((g.n&&h.n)||(!(aR g.sp h.sp).n||((g.t&&h.t)||((g.f&&h.f)||g.s.any λx=>h.s.contains x))))=yy
 have HY:=aa hy.symm
 clear hy
 generalize aR g.sp h.sp=M at HM HY
 generalize fA g h=ak at HA ⊢
 have I0:=hs.below B0 (lR _)
 have J0:=ht.below B0 (lR _)
 clear hs ht
 go_enter Tryz.func206,Tryz.ntmps206
 go_wp2_with (go_at_call 233;fail)
 refine(HN.out 2 _ L0).mono ?_
 rintro e w1 ⟨rfl,hb1⟩
 have G1:=(G0.alloc _).call hb1
 have H1:=(H0.alloc _).call hb1
 have I1:=(I0.alloc _).call hb1
 have J1:=(J0.alloc _).call hb1
 have B1:Below w.heap.size w w1:=(B0.alloc B0.size _).trans (hb1.mono (by simp;omega))
 clear hb1 G0 H0 I0 J0 B0 L0 HN
 obtain⟨⟨g0,g1,g2,g3,g4,g5,g6⟩,gz⟩:=id G1
 obtain⟨⟨k0,k1,k2,k3,k4,k5,k6⟩,kz⟩:=id H1
 simp only[j0] at g0 g1 g2 g3 g4 g5 g6 k0 k1 k2 k3 k4 k5 k6
 go_wp2_with (go_at_call 159;fail)
 refine(HM.out _).mono ?_
 rintro e w2 ⟨rfl,hb2⟩
 have G3:=(G1.call hb2).alloc (Cc #[Bb M.n,I Y M.lo,I Y M.hi] 89)
 have H3:=(H1.call hb2).alloc (Cc #[Bb M.n,I Y M.lo,I Y M.hi] 89)
 have I3:=(I1.call hb2).alloc (Cc #[Bb M.n,I Y M.lo,I Y M.hi] 89)
 have J3:=(J1.call hb2).alloc (Cc #[Bb M.n,I Y M.lo,I Y M.hi] 89)
 have B2:=B1.trans (hb2.mono B1.size)
 have B3:=B2.alloc B2.size (Cc #[Bb M.n,I Y M.lo,I Y M.hi] 89)
 have G2:=G1.call hb2
 have H2:=H1.call hb2
 clear hb2 G1 H1 I1 J1 B1 B2 g0 g1 g2 g3 g4 g5 g6 gz k0 k1 k2 k3 k4 k5 k6 kz HM
 obtain⟨⟨g0,g1,g2,g3,g4,g5,g6⟩,gz⟩:=id G2
 obtain⟨⟨k0,k1,k2,k3,k4,k5,k6⟩,kz⟩:=id H2
 simp only[j0] at g0 g1 g2 g3 g4 g5 g6 k0 k1 k2 k3 k4 k5 k6
 obtain⟨n,sp,t,f,sl⟩:=g
 obtain⟨n',sp',t',f',h'⟩:=h
 obtain⟨mn,ml,mh⟩:=M
 simp only at hgl hlt
 have HY:=HY
 rcases fj n n' with⟨rfl,rfl⟩|rfl|⟨rfl,rfl⟩
 ·go_wp2_with (go_at_call 235;fail)
  refine(HA.out _).mono ?_
  rintro e w9 ⟨rfl,hb9⟩
  go_wp2
  go_ret2
  exact⟨fC (by rw[HY.out];simp_all) rfl,B3.trans (hb9.mono B3.size)⟩
 ·cases mn with
  |false=>
   go_wp2_with (go_at_call 235;fail)
   refine(HA.out _).mono ?_
   rintro e w9 ⟨rfl,hb9⟩
   go_wp2
   go_ret2
   exact⟨fC (by rw[HY.out];simp_all) rfl,B3.trans (hb9.mono B3.size)⟩
  |true=>
   rcases fj t t' with⟨rfl,rfl⟩|rfl|⟨rfl,rfl⟩
   ·go_wp2_with (go_at_call 235;fail)
    refine(HA.out _).mono ?_
    rintro e w9 ⟨rfl,hb9⟩
    go_wp2
    go_ret2
    exact⟨fC (by rw[HY.out];simp_all) rfl,B3.trans (hb9.mono B3.size)⟩
   ·rcases fj f f' with⟨rfl,rfl⟩|rfl|⟨rfl,rfl⟩
    ·go_wp2_with (go_at_call 235;fail)
     refine(HA.out _).mono ?_
     rintro e w9 ⟨rfl,hb9⟩
     go_wp2
     go_ret2
     exact⟨fC (by rw[HY.out];simp_all) rfl,B3.trans (hb9.mono B3.size)⟩
    ·go_wp2_with (go_at_call 200;fail)
     refine(ci (w.heap.size+1) (λx=>h'.contains x) ss gc sl _ hgl I3 λx wx hbx=>fe x _ ⟨n',sp',t',f',h'⟩ st hc wx (H3.call hbx) (J3.call hbx) (by simpa using hlt)).mono ?_
     exact fa
    ·go_wp2_with (go_at_call 200;fail)
     refine(ci (w.heap.size+1) (λx=>h'.contains x) ss gc sl _ hgl I3 λx wx hbx=>fe x _ ⟨n',sp',t',false,h'⟩ st hc wx (H3.call hbx) (J3.call hbx) (by simpa using hlt)).mono ?_
     exact fa
   ·rcases fj f f' with⟨rfl,rfl⟩|rfl|⟨rfl,rfl⟩
    ·go_wp2_with (go_at_call 235;fail)
     refine(HA.out _).mono ?_
     rintro e w9 ⟨rfl,hb9⟩
     go_wp2
     go_ret2
     exact⟨fC (by rw[HY.out];simp_all) rfl,B3.trans (hb9.mono B3.size)⟩
    ·go_wp2_with (go_at_call 200;fail)
     refine(ci (w.heap.size+1) (λx=>h'.contains x) ss gc sl _ hgl I3 λx wx hbx=>fe x _ ⟨n',sp',false,f',h'⟩ st hc wx (H3.call hbx) (J3.call hbx) (by simpa using hlt)).mono ?_
     exact fa
    ·go_wp2_with (go_at_call 200;fail)
     refine(ci (w.heap.size+1) (λx=>h'.contains x) ss gc sl _ hgl I3 λx wx hbx=>fe x _ ⟨n',sp',false,false,h'⟩ st hc wx (H3.call hbx) (J3.call hbx) (by simpa using hlt)).mono ?_
     exact fa
 ·cases mn with
  |false=>
   go_wp2_with (go_at_call 235;fail)
   refine(HA.out _).mono ?_
   rintro e w9 ⟨rfl,hb9⟩
   go_wp2
   go_ret2
   exact⟨fC (by rw[HY.out];simp_all) rfl,B3.trans (hb9.mono B3.size)⟩
  |true=>
   rcases fj t t' with⟨rfl,rfl⟩|rfl|⟨rfl,rfl⟩
   ·go_wp2_with (go_at_call 235;fail)
    refine(HA.out _).mono ?_
    rintro e w9 ⟨rfl,hb9⟩
    go_wp2
    go_ret2
    exact⟨fC (by rw[HY.out];simp_all) rfl,B3.trans (hb9.mono B3.size)⟩
   ·rcases fj f f' with⟨rfl,rfl⟩|rfl|⟨rfl,rfl⟩
    ·go_wp2_with (go_at_call 235;fail)
     refine(HA.out _).mono ?_
     rintro e w9 ⟨rfl,hb9⟩
     go_wp2
     go_ret2
     exact⟨fC (by rw[HY.out];simp_all) rfl,B3.trans (hb9.mono B3.size)⟩
    ·go_wp2_with (go_at_call 200;fail)
     refine(ci (w.heap.size+1) (λx=>h'.contains x) ss gc sl _ hgl I3 λx wx hbx=>fe x _ ⟨false,sp',t',f',h'⟩ st hc wx (H3.call hbx) (J3.call hbx) (by simpa using hlt)).mono ?_
     exact fa
    ·go_wp2_with (go_at_call 200;fail)
     refine(ci (w.heap.size+1) (λx=>h'.contains x) ss gc sl _ hgl I3 λx wx hbx=>fe x _ ⟨false,sp',t',false,h'⟩ st hc wx (H3.call hbx) (J3.call hbx) (by simpa using hlt)).mono ?_
     exact fa
   ·rcases fj f f' with⟨rfl,rfl⟩|rfl|⟨rfl,rfl⟩
    ·go_wp2_with (go_at_call 235;fail)
     refine(HA.out _).mono ?_
     rintro e w9 ⟨rfl,hb9⟩
     go_wp2
     go_ret2
     exact⟨fC (by rw[HY.out];simp_all) rfl,B3.trans (hb9.mono B3.size)⟩
    ·go_wp2_with (go_at_call 200;fail)
     refine(ci (w.heap.size+1) (λx=>h'.contains x) ss gc sl _ hgl I3 λx wx hbx=>fe x _ ⟨false,sp',false,f',h'⟩ st hc wx (H3.call hbx) (J3.call hbx) (by simpa using hlt)).mono ?_
     exact fa
    ·go_wp2_with (go_at_call 200;fail)
     refine(ci (w.heap.size+1) (λx=>h'.contains x) ss gc sl _ hgl I3 λx wx hbx=>fe x _ ⟨false,sp',false,false,h'⟩ st hc wx (H3.call hbx) (J3.call hbx) (by simpa using hlt)).mono ?_
     exact fa
end
end Go.Proofs.YtmapdpcfanecdabGreatDoor
