import Derived.Test.YtmapdpcfanecdabGreatDoorM26
import Derived.Test.YtmapdpcfanecdabGreatDoorM17
open Go.Ending renaming returned→Rt
open Go.IntKind renaming i64→Y
open Go.Obj renaming cells→Cc
open Go.Proofs.Tryz renaming prog→pG
open Go.Value renaming bool→Bb,int→I,slice→U,tuple→Tu
open Go.World renaming size_alloc→zA
open Nat renaming le_refl→lR
open Option renaming none→nO,some→sO
set_option linter.unusedSimpArgs false
set_option linter.unusedVariables false
set_option maxHeartbeats 8000000
set_option maxRecDepth 100000
namespace Go.Proofs.YtmapdpcfanecdabGreatDoor
section
open Go.RowKit
abbrev mF (w:World)(V F:Int)(s:Option Addr)(c:List Ins)(cap:Nat)(g:Gs)(ss:Option Addr)(gc:Nat)(h:Gs)(st:Option Addr)(hc:Nat):World:=
 ((w.alloc (Cc #[I Y V,I Y F,U s c.length cap] 24)).alloc (Cc #[Bb g.n,Bb g.sp.n,I Y g.sp.lo,I Y g.sp.hi,Bb g.t,Bb g.f,U ss g.s.length gc] 91)).alloc (Cc #[Bb h.n,Bb h.sp.n,I Y h.sp.lo,I Y h.sp.hi,Bb h.t,Bb h.f,U st h.s.length hc] 91)
theorem AA (w:World)(V F:Int)(s:Option Addr)(c:List Ins)(cap:Nat)(g:Gs)(ss:Option Addr)(gc:Nat)(h:Gs)(st:Option Addr)(hc:Nat):
  GuAt (mF w V F s c cap g ss gc h st hc) (w.heap.size+1) 0 g ss gc∧GuAt (mF w V F s c cap g ss gc h st hc) (w.heap.size+1+1) 0 h st hc∧Below w.heap.size w (mF w V F s c cap g ss gc h st hc):=by
 refine⟨?_,?_,by go_grown⟩
 ·have:=GuAt.new (w.alloc (Cc #[I Y V,I Y F,U s c.length cap] 24)) g ss gc
  rw[zA] at this
  exact this.alloc _
 ·have:=GuAt.new ((w.alloc (Cc #[I Y V,I Y F,U s c.length cap] 24)).alloc (Cc #[Bb g.n,Bb g.sp.n,I Y g.sp.lo,I Y g.sp.hi,Bb g.t,Bb g.f,U ss g.s.length gc] 91)) h st hc
  simp only[zA] at this
  exact this

theorem gB {a c:Bool}{b d:Int}(h:a=c)(h':b=d):Ending.returned (Tu #[Bb a,I Y b])=Rt (Tu #[Bb c,I Y d]):=by rw[h,h']
theorem fJ (a b:Bool):(a=true∧b=false)∨a=false∨(a=true∧b=true):=by cases a<;>cases b<;>simp

theorem Et {s t:Sp}(hs:s.Ok)(ht:t.Ok):@decide _ ((aR s t).dq s)=eK s t:=by
 obtain⟨n,lo,hi⟩:=s
 obtain⟨n',lo',hi'⟩:=t
 obtain⟨-,-,hz,hl⟩:=hs
 obtain⟨-,-,hz',hl'⟩:=ht
 cases n with
 |true=>
  obtain⟨h1,h2⟩:=hz rfl
  simp only at h1 h2
  subst h1 h2
  rfl
 |false=>
  cases n' with
  |true=>
   have e0:aR ⟨false,lo,hi⟩ ⟨true,lo',hi'⟩=⟨true,0,0⟩:=rfl
   rw[e0]
   simp[eK,Sp.has]
  |false=>
   simp only at hl hl'
   rw[Bool.eq_iff_iff,@decide_eq_true_eq _ (Sp.dq _ _)]
   unfold aR eK Sp.has
   simp only[Bool.false_or,Bool.not_false,Bool.true_and,decide_eq_true_eq,Bool.and_eq_true]
   constructor
   ·intro h
    split at h
    ·cases h
    ·simp only[Sp.mk.injEq,true_and] at h
     omega
   ·intro h
    rw[if_neg (by omega)]
    simp only[Sp.mk.injEq,true_and]
    omega

theorem yw (V F:Int)(s:Option Addr)(c:List Ins)(cap:Nat)(g:Gs)(ss:Option Addr)(gc:Nat)(h:Gs)(st:Option Addr)(hc:Nat)(w:World)
  (hcd:CodeAt w s c)(hs:IntsAt w ss g.s)(h1:g.s.length≤gc)(h2:gc≤maxLen)(ht:IntsAt w st h.s)(h3:h.s.length≤hc)(h4:hc≤maxLen)(hck:aX V F c [g,h]≠0):
  Calls pG 161 #[pv V F s c cap,gv g ss gc,gv h st hc] w λe w'=>e=Rt (Tu #[Bb false,I Y (aX V F c [g,h])])∧Below w.heap.size w w':=by
 obtain⟨G0,H0,B0⟩:=AA w V F s c cap g ss gc h st hc
 have I0:IntsAt (mF w V F s c cap g ss gc h st hc) ss g.s:=hs.below B0 (lR _)
 have J0:IntsAt (mF w V F s c cap g ss gc h st hc) st h.s:=ht.below B0 (lR _)
 have L0:=GsAt.new2 (mF w V F s c cap g ss gc h st hc) g ss gc h st hc I0 h1 h2 J0 h3 h4
 simp only[zA] at L0
 have HC:=aa (bZ V F s c cap (sO ⟨w.heap.size+1+1+1,0,nO⟩) [g,h] 2 _ ((hcd.below B0 (lR _)).alloc _) L0 (by simp))
 have hne:(aX V F c [g,h]!=0)=true:=by simpa using hck
 generalize aX V F c [g,h]=ce at HC hne ⊢
 clear hck hcd hs ht I0 J0 L0 G0 H0
 go_enter Tryz.func161,Tryz.ntmps161
 go_wp2_with (go_at_call 142;fail)
 refine HC.out.mono ?_
 rintro e w1 ⟨rfl,hb1⟩
 go_wp2
 go_ret2
 exact⟨rfl,(B0.alloc B0.size _).trans (hb1.mono (by simp;omega))⟩

theorem ff {p:Prop}(h:p:=by
 rintro e w2 ⟨rfl,hb2⟩
 rw[oY]
 have G2:=G1.call hb2
 have H2:=H1.call hb2
 have B2:=B1.trans (hb2.mono B1.size)
 clear hb2 G1 H1 B1 I1 J1 g0 g1 g2 g3 g4 g5 g6 gz k0 k1 k2 k3 k4 k5 k6 kz
 obtain⟨⟨g0,g1,g2,g3,g4,g5,g6⟩,gz⟩:=id G2
 obtain⟨⟨k0,k1,k2,k3,k4,k5,k6⟩,kz⟩:=id H2
 simp only[Nat.zero_add] at g0 g1 g2 g3 g4 g5 g6 k0 k1 k2 k3 k4 k5 k6
 generalize hA:(sl.all λx=>h'.contains x)=al at *
 have HA:=aa hA
 clear hA
 cases al with
 |false=>
  go_wp2
  go_ret2
  exact⟨gB (by rw[HR.out];simp) rfl,B2⟩
 |true=>
  go_wp2_with (go_at_call 201;fail)
  refine(HW.out _).mono ?_
  rintro e w3 ⟨rfl,hb3⟩
  go_wp2
  go_ret2
  exact⟨gB (by rw[HR.out];simp) rfl,B2.trans (hb3.mono B2.size)⟩):p:=h
theorem rT (V F:Int)(s:Option Addr)(c:List Ins)(cap:Nat)(g:Gs)(ss:Option Addr)(gc:Nat)(h:Gs)(st:Option Addr)(hc:Nat)(w:World)
  (hcd:CodeAt w s c)(hs:IntsAt w ss g.s)(h1:g.s.length≤gc)(h2:gc≤maxLen)(ht:IntsAt w st h.s)(h3:h.s.length≤hc)(h4:hc≤maxLen)(hck:aX V F c [g,h]=0):
  Calls pG 161 #[pv V F s c cap,gv g ss gc,gv h st hc] w λe w'=>e=Rt (Tu #[Bb (cB g h),I Y 0])∧Below w.heap.size w w':=by
 obtain⟨G0,H0,B0⟩:=AA w V F s c cap g ss gc h st hc
 have I0:IntsAt (mF w V F s c cap g ss gc h st hc) ss g.s:=hs.below B0 (lR _)
 have J0:IntsAt (mF w V F s c cap g ss gc h st hc) st h.s:=ht.below B0 (lR _)
 have L0:=GsAt.new2 (mF w V F s c cap g ss gc h st hc) g ss gc h st hc I0 h1 h2 J0 h3 h4
 simp only[zA] at L0
 have HC:=aa (bZ V F s c cap (sO ⟨w.heap.size+1+1+1,0,nO⟩) [g,h] 2 _ ((hcd.below B0 (lR _)).alloc _) L0 (by simp))
 obtain⟨hos,hot⟩:=ckSps_ok.1 (eH hck)
 have hW:=λw=>Cb g.sp h.sp w
 rw[eH hck,show (decide ((0:Int)=0)&&@decide _ ((aR g.sp h.sp).dq g.sp))=eK g.sp h.sp by rw[Et hos hot];rfl] at hW
 have HW:=aa hW
 have hgl:g.s.length≤9223372036854775807:=by unfold maxLen at h2;omega
 have hlt:h.s.length≤9223372036854775807:=by unfold maxLen at h4;omega
 have HR:Hid (cB g h=(!(g.n&& !h.n)&&(!(g.t&& !h.t)&&(!(g.f&& !h.f)&&(eK g.sp h.sp&&g.s.all λx=>h.s.contains x))))):=rfl
 generalize cB g h=res at HR ⊢
 generalize eK g.sp h.sp=si at HR HW
 rw[hck] at HC
 clear hck hcd hs ht L0 hW hos hot
 go_enter Tryz.func161,Tryz.ntmps161
 go_wp2_with (go_at_call 142;fail)
 refine HC.out.mono ?_
 rintro e w1 ⟨rfl,hb1⟩
 have G1:=(G0.alloc _).call hb1
 have H1:=(H0.alloc _).call hb1
 have I1:=(I0.alloc _).call hb1
 have J1:=(J0.alloc _).call hb1
 have B1:Below w.heap.size w w1:=(B0.alloc B0.size _).trans (hb1.mono (by simp;omega))
 clear hb1 G0 H0 I0 J0 B0 HC
 obtain⟨⟨g0,g1,g2,g3,g4,g5,g6⟩,gz⟩:=id G1
 obtain⟨⟨k0,k1,k2,k3,k4,k5,k6⟩,kz⟩:=id H1
 simp only[Nat.zero_add] at g0 g1 g2 g3 g4 g5 g6 k0 k1 k2 k3 k4 k5 k6
 obtain⟨n,sp,t,f,sl⟩:=g
 obtain⟨n',sp',t',f',h'⟩:=h
 simp only at hgl hlt
 rcases fJ n n' with⟨rfl,rfl⟩|rfl|⟨rfl,rfl⟩
 ·go_wp2
  go_ret2
  exact⟨gB (by rw[HR.out];rfl) rfl,B1⟩
 ·rcases fJ t t' with⟨rfl,rfl⟩|rfl|⟨rfl,rfl⟩
  ·go_wp2
   go_ret2
   exact⟨gB (by rw[HR.out];rfl) rfl,B1⟩
  ·rcases fJ f f' with⟨rfl,rfl⟩|rfl|⟨rfl,rfl⟩
   ·go_wp2
    go_ret2
    exact⟨gB (by rw[HR.out];rfl) rfl,B1⟩
   ·go_wp2_with (go_at_call 200;fail)
    refine(cF (w.heap.size+1+1) (λx=> !h'.contains x) ss gc sl _ (by omega) I1 λx wx hbx=>fY x _ ⟨n',sp',t',f',h'⟩ st hc wx (H1.call hbx) (J1.call hbx) (by simpa using hlt)).mono ?_
    exact ff
   ·go_wp2_with (go_at_call 200;fail)
    refine(cF (w.heap.size+1+1) (λx=> !h'.contains x) ss gc sl _ (by omega) I1 λx wx hbx=>fY x _ ⟨n',sp',t',true,h'⟩ st hc wx (H1.call hbx) (J1.call hbx) (by simpa using hlt)).mono ?_
    exact ff
  ·rcases fJ f f' with⟨rfl,rfl⟩|rfl|⟨rfl,rfl⟩
   ·go_wp2
    go_ret2
    exact⟨gB (by rw[HR.out];rfl) rfl,B1⟩
   ·go_wp2_with (go_at_call 200;fail)
    refine(cF (w.heap.size+1+1) (λx=> !h'.contains x) ss gc sl _ (by omega) I1 λx wx hbx=>fY x _ ⟨n',sp',true,f',h'⟩ st hc wx (H1.call hbx) (J1.call hbx) (by simpa using hlt)).mono ?_
    exact ff
   ·go_wp2_with (go_at_call 200;fail)
    refine(cF (w.heap.size+1+1) (λx=> !h'.contains x) ss gc sl _ (by omega) I1 λx wx hbx=>fY x _ ⟨n',sp',true,true,h'⟩ st hc wx (H1.call hbx) (J1.call hbx) (by simpa using hlt)).mono ?_
    exact ff
 ·rcases fJ t t' with⟨rfl,rfl⟩|rfl|⟨rfl,rfl⟩
  ·go_wp2
   go_ret2
   exact⟨gB (by rw[HR.out];rfl) rfl,B1⟩
  ·rcases fJ f f' with⟨rfl,rfl⟩|rfl|⟨rfl,rfl⟩
   ·go_wp2
    go_ret2
    exact⟨gB (by rw[HR.out];rfl) rfl,B1⟩
   ·go_wp2_with (go_at_call 200;fail)
    refine(cF (w.heap.size+1+1) (λx=> !h'.contains x) ss gc sl _ (by omega) I1 λx wx hbx=>fY x _ ⟨true,sp',t',f',h'⟩ st hc wx (H1.call hbx) (J1.call hbx) (by simpa using hlt)).mono ?_
    exact ff
   ·go_wp2_with (go_at_call 200;fail)
    refine(cF (w.heap.size+1+1) (λx=> !h'.contains x) ss gc sl _ (by omega) I1 λx wx hbx=>fY x _ ⟨true,sp',t',true,h'⟩ st hc wx (H1.call hbx) (J1.call hbx) (by simpa using hlt)).mono ?_
    exact ff
  ·rcases fJ f f' with⟨rfl,rfl⟩|rfl|⟨rfl,rfl⟩
   ·go_wp2
    go_ret2
    exact⟨gB (by rw[HR.out];rfl) rfl,B1⟩
   ·go_wp2_with (go_at_call 200;fail)
    refine(cF (w.heap.size+1+1) (λx=> !h'.contains x) ss gc sl _ (by omega) I1 λx wx hbx=>fY x _ ⟨true,sp',true,f',h'⟩ st hc wx (H1.call hbx) (J1.call hbx) (by simpa using hlt)).mono ?_
    exact ff
   ·go_wp2_with (go_at_call 200;fail)
    refine(cF (w.heap.size+1+1) (λx=> !h'.contains x) ss gc sl _ (by omega) I1 λx wx hbx=>fY x _ ⟨true,sp',true,true,h'⟩ st hc wx (H1.call hbx) (J1.call hbx) (by simpa using hlt)).mono ?_
    exact ff
end
end Go.Proofs.YtmapdpcfanecdabGreatDoor
