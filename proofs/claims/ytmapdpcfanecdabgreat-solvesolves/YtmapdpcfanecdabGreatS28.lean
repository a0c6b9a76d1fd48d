import Derived.Test.YtmapdpcfanecdabGreatS26
open Bool renaming eq_false_or_eq_true→j4
open Go.Ending renaming returned→Rt
open Go.IntKind renaming i64→Y
open Go.Obj renaming cells→Cc
open Go.Proofs.Tryz renaming prog→pG
open Go.RowKit.Below renaming refl→bR
open Go.Value renaming agg→Ag,bool→Bb,int→I,slice→U,tuple→Tu
open Go.World renaming size_alloc→zA
open List renaming eq_nil_of_length_eq_zero→j6,take_of_length_le→j2,take_succ_eq_append_getElem→j3
open Nat renaming le_refl→lR,le_trans→lT,zero_add→j0,zero_le→j1
open Option renaming none→nO,some→sO
set_option linter.unusedSimpArgs false
set_option linter.unusedVariables false
set_option maxHeartbeats 16000000
set_option maxRecDepth 100000
namespace Go.Proofs.YtmapdpcfanecdabGreat
section
open Go.RowKit
theorem wm (V F:Int)(s:oA)(c:List Ins)(cap:Nat)(g:Gs)(ss:oA)(gc:Nat)(w:World)(hcd:CodeAt w s c)(hs:IntsAt w ss g.s)(h1:g.s.length<=gc)(h2:gc<=maxLen):
  Calls pG 107 #[pv V F s c cap,gv g ss gc] w λe w'=>e=Rt (I Y (aP V F c [g]))/\Below w.heap.size w w':=by
 have B0:Below w.heap.size w (pgW w V F s c cap g ss gc):=by go_grown
 have L0:=GsAt.new1 (pgW w V F s c cap g ss gc) g ss gc ((hs.alloc _).alloc _) h1 h2;simp only[zA] at L0;have HC:=aa (bL V F s c cap (sO ⟨w.heap.size+1+1,0,nO⟩) [g] 1 _ (((hcd.alloc _).alloc _).alloc _) L0 (by simp));generalize aP V F c [g]=ce at HC |-;clear hcd hs L0;go_enter Tryz.func107,Tryz.ntmps107;go_wp2_with (go_at_call 114;fail);refine HC.out.mono ?_;rintro e w1 ⟨rfl,hb1⟩;go_wp2;go_ret;exact⟨rfl,(B0.alloc B0.size _).trans (hb1.mono (by simp;omega))⟩

theorem AQ (V F:Int)(s:oA)(c:List Ins)(cap:Nat)(g:Gs)(ss:oA)(gc:Nat)(h:Gs)(st:oA)(hc:Nat)(w:World)
  (hcd:CodeAt w s c)(hs:IntsAt w ss g.s)(h1:g.s.length<=gc)(h2:gc<=maxLen)(ht:IntsAt w st h.s)(h3:h.s.length<=hc)(h4:hc<=maxLen)(hck:aP V F c [g,h]=0)(hlen:([g,h].flatMap Gs.s).length<=1000000):
  Calls pG 82 #[pv V F s c cap,gv g ss gc,gv h st hc] w λe w'=>∃v,e=Rt (Tu #[Ag #[Bb (g.n||h.n),Bb (aT g.sp h.sp).n,I Y (aT g.sp h.sp).lo,I Y (aT g.sp h.sp).hi,Bb (g.t||h.t),Bb (g.f||h.f),v],I Y 0])/\w'.ownsRow w.heap.size 3 1 v (bW [g,h]).length ((bW [g,h]).map (.int .i64))/\Below w.heap.size w w':=by
 obtain⟨P0,G0,H0,R0,F0⟩:=dn w V F s c cap g ss gc h st hc;have B0:=cA w V F s c cap g ss gc h st hc;have C0:CodeAt (bw w V F s c cap g ss gc h st hc) s c:=hcd.below B0 (lR _);have I0:IntsAt (bw w V F s c cap g ss gc h st hc) ss g.s:=hs.below B0 (lR _);have J0:IntsAt (bw w V F s c cap g ss gc h st hc) st h.s:=ht.below B0 (lR _);have HT:=aa (pP V F s c cap g ss gc h st hc _ C0 I0 h1 h2 J0 h3 h4 hck hlen);clear hck hlen hcd hs ht P0 G0 H0 C0 I0 J0;generalize aT g.sp h.sp=J at HT |-;generalize bW [g,h]=T at HT |-;go_enter Tryz.func82,Tryz.ntmps82;go_wp2_with (go_at_call 109;fail);refine HT.out.mono ?_;rintro e w1 ⟨v,rfl,hown,hb1⟩;have R1:=R0.call hb1;have F1:Fr7 w1 (w.heap.size+1+1+1):=F0.call hb1;have B1:Below w.heap.size w w1:=B0.trans (hb1.mono B0.size);simp only[zA] at hown;have O1:=hown;obtain⟨vs,vc,rfl,-,-,-,-⟩:=IntsAt.own hown;clear hb1 R0 F0 B0 HT hown;obtain⟨⟨r0,r1,r2,r3,r4,r5,r6⟩,rz⟩:=id R1;simp only[j0,bl] at r0 r1 r2 r3 r4 r5 r6;have fz:=F1.1;go_wp2;refine bodyPost_ret (v:=Tu #[Ag #[Bb (g.n||h.n),Bb J.n,I Y J.lo,I Y J.hi,Bb (g.t||h.t),Bb (g.f||h.f),U vs T.length vc],I Y 0]) (by simp[results,Tryz.results82,go_sem,r0,r1,r2,r3,r4,r5,r6]) rfl ⟨_,rfl,?_,?_⟩
 ·exact dQ (dR O1 (by omega)) (by omega)
 ·exact aX B1 (by omega)

theorem AC (V F:Int)(s:oA)(c:List Ins)(cap:Nat)(g:Gs)(ss:oA)(gc:Nat)(h:Gs)(st:oA)(hc:Nat)(w:World)
  (hcd:CodeAt w s c)(hs:IntsAt w ss g.s)(h1:g.s.length<=gc)(h2:gc<=maxLen)(ht:IntsAt w st h.s)(h3:h.s.length<=hc)(h4:hc<=maxLen)(hck:aP V F c [g,h]=0)(hlen:([g,h].flatMap Gs.s).length<=1000000):
  Calls pG 130 #[pv V F s c cap,gv g ss gc,gv h st hc] w λe w'=>∃v,e=Rt (Tu #[Ag #[Bb (g.n||h.n),Bb (aV g.sp h.sp).n,I Y (aV g.sp h.sp).lo,I Y (aV g.sp h.sp).hi,Bb (g.t||h.t),Bb (g.f||h.f),v],I Y 0])/\w'.ownsRow w.heap.size 3 1 v (bW [g,h]).length ((bW [g,h]).map (.int .i64))/\Below w.heap.size w w':=by
 obtain⟨P0,G0,H0,R0,F0⟩:=dn w V F s c cap g ss gc h st hc;have B0:=cA w V F s c cap g ss gc h st hc;have C0:CodeAt (bw w V F s c cap g ss gc h st hc) s c:=hcd.below B0 (lR _);have I0:IntsAt (bw w V F s c cap g ss gc h st hc) ss g.s:=hs.below B0 (lR _);have J0:IntsAt (bw w V F s c cap g ss gc h st hc) st h.s:=ht.below B0 (lR _);have HT:=aa (pV V F s c cap g ss gc h st hc _ C0 I0 h1 h2 J0 h3 h4 hck hlen);clear hck hlen hcd hs ht P0 G0 H0 C0 I0 J0;generalize aV g.sp h.sp=J at HT |-;generalize bW [g,h]=T at HT |-;go_enter Tryz.func130,Tryz.ntmps130;go_wp2_with (go_at_call 109;fail);refine HT.out.mono ?_;rintro e w1 ⟨v,rfl,hown,hb1⟩;have R1:=R0.call hb1;have F1:Fr7 w1 (w.heap.size+1+1+1):=F0.call hb1;have B1:Below w.heap.size w w1:=B0.trans (hb1.mono B0.size);simp only[zA] at hown;have O1:=hown;obtain⟨vs,vc,rfl,-,-,-,-⟩:=IntsAt.own hown;clear hb1 R0 F0 B0 HT hown;obtain⟨⟨r0,r1,r2,r3,r4,r5,r6⟩,rz⟩:=id R1;simp only[j0,bl] at r0 r1 r2 r3 r4 r5 r6;have fz:=F1.1;go_wp2;refine bodyPost_ret (v:=Tu #[Ag #[Bb (g.n||h.n),Bb J.n,I Y J.lo,I Y J.hi,Bb (g.t||h.t),Bb (g.f||h.f),U vs T.length vc],I Y 0]) (by simp[results,Tryz.results130,go_sem,r0,r1,r2,r3,r4,r5,r6]) rfl ⟨_,rfl,?_,?_⟩
 ·exact dQ (dR O1 (by omega)) (by omega)
 ·exact aX B1 (by omega)
abbrev kl (w:World)(V F:Int)(s:oA)(c:List Ins)(cap:Nat)(g:Gs)(ss:oA)(gc:Nat)(h:Gs)(st:oA)(hc:Nat):World:=
 ((w.alloc (Cc #[I Y V,I Y F,U s c.length cap] 24)).alloc (Cc #[Bb g.n,Bb g.sp.n,I Y g.sp.lo,I Y g.sp.hi,Bb g.t,Bb g.f,U ss g.s.length gc] 61)).alloc (Cc #[Bb h.n,Bb h.sp.n,I Y h.sp.lo,I Y h.sp.hi,Bb h.t,Bb h.f,U st h.s.length hc] 61)
theorem uR (w:World)(V F:Int)(s:oA)(c:List Ins)(cap:Nat)(g:Gs)(ss:oA)(gc:Nat)(h:Gs)(st:oA)(hc:Nat):
  GuAt (kl w V F s c cap g ss gc h st hc) (w.heap.size+1) 0 g ss gc/\GuAt (kl w V F s c cap g ss gc h st hc) (w.heap.size+1+1) 0 h st hc/\Below w.heap.size w (kl w V F s c cap g ss gc h st hc):=by
 refine⟨?_,?_,by go_grown⟩
 ·have:=GuAt.new (w.alloc (Cc #[I Y V,I Y F,U s c.length cap] 24)) g ss gc
  rw[zA] at this;exact this.alloc _
 ·have:=GuAt.new ((w.alloc (Cc #[I Y V,I Y F,U s c.length cap] 24)).alloc (Cc #[Bb g.n,Bb g.sp.n,I Y g.sp.lo,I Y g.sp.hi,Bb g.t,Bb g.f,U ss g.s.length gc] 61)) h st hc
  simp only[zA] at this;exact this

theorem e9 {a c:Bool}{b d:Int}(h:a=c)(h':b=d):Ending.returned (Tu #[Bb a,I Y b])=Rt (Tu #[Bb c,I Y d]):=by rw[h,h']
theorem cn (a b:Bool):(a=true/\b=false)\/a=false\/(a=true/\b=true):=by cases a<;>cases b<;>simp

theorem Ca {s t:Sp}(hs:s.Ok)(ht:t.Ok):@decide _ ((au s t).dq s)=cZ s t:=by
 obtain⟨n,lo,hi⟩:=s;obtain⟨n',lo',hi'⟩:=t;obtain⟨-,-,hz,hl⟩:=hs;obtain⟨-,-,hz',hl'⟩:=ht;cases n with
 |true=>
  obtain⟨h1,h2⟩:=hz rfl;simp only at h1 h2;subst h1 h2;rfl
 |false=>
  cases n' with
  |true=>
   have e0:au ⟨false,lo,hi⟩ ⟨true,lo',hi'⟩=⟨true,0,0⟩:=rfl;rw[e0];simp[cZ,Sp.has]
  |false=>
   simp only at hl hl';rw[Bool.eq_iff_iff,@decide_eq_true_eq _ (Sp.dq _ _)];unfold au cZ Sp.has;simp only[Bool.false_or,Bool.not_false,Bool.true_and,decide_eq_true_eq,Bool.and_eq_true];constructor
   ·intro h
    split at h
    ·cases h
    ·simp only[Sp.mk.injEq,true_and] at h
     omega
   ·intro h
    rw[if_neg (by omega)];simp only[Sp.mk.injEq,true_and];omega

theorem tU (V F:Int)(s:oA)(c:List Ins)(cap:Nat)(g:Gs)(ss:oA)(gc:Nat)(h:Gs)(st:oA)(hc:Nat)(w:World)
  (hcd:CodeAt w s c)(hs:IntsAt w ss g.s)(h1:g.s.length<=gc)(h2:gc<=maxLen)(ht:IntsAt w st h.s)(h3:h.s.length<=hc)(h4:hc<=maxLen)(hck:aP V F c [g,h]≠0):
  Calls pG 89 #[pv V F s c cap,gv g ss gc,gv h st hc] w λe w'=>e=Rt (Tu #[Bb false,I Y (aP V F c [g,h])])/\Below w.heap.size w w':=by
 obtain⟨G0,H0,B0⟩:=uR w V F s c cap g ss gc h st hc;have I0:IntsAt (kl w V F s c cap g ss gc h st hc) ss g.s:=hs.below B0 (lR _);have J0:IntsAt (kl w V F s c cap g ss gc h st hc) st h.s:=ht.below B0 (lR _);have L0:=GsAt.new2 (kl w V F s c cap g ss gc h st hc) g ss gc h st hc I0 h1 h2 J0 h3 h4;simp only[zA] at L0;have HC:=aa (bL V F s c cap (sO ⟨w.heap.size+1+1+1,0,nO⟩) [g,h] 2 _ ((hcd.below B0 (lR _)).alloc _) L0 (by simp));have hne:(aP V F c [g,h]!=0)=true:=by simpa using hck
 generalize aP V F c [g,h]=ce at HC hne |-;clear hck hcd hs ht I0 J0 L0 G0 H0;go_enter Tryz.func89,Tryz.ntmps89;go_wp2_with (go_at_call 114;fail);refine HC.out.mono ?_;rintro e w1 ⟨rfl,hb1⟩;go_wp2
 go_ret2
 exact⟨rfl,(B0.alloc B0.size _).trans (hb1.mono (by simp;omega))⟩

theorem dJ {p:Prop}(h:p:=by
 rintro e w2 ⟨rfl,hb2⟩;rw[mC];have G2:=G1.call hb2;have H2:=H1.call hb2;have B2:=B1.trans (hb2.mono B1.size);clear hb2 G1 H1 B1 I1 J1 g0 g1 g2 g3 g4 g5 g6 gz k0 k1 k2 k3 k4 k5 k6 kz;obtain⟨⟨g0,g1,g2,g3,g4,g5,g6⟩,gz⟩:=id G2;obtain⟨⟨k0,k1,k2,k3,k4,k5,k6⟩,kz⟩:=id H2;simp only[Nat.zero_add] at g0 g1 g2 g3 g4 g5 g6 k0 k1 k2 k3 k4 k5 k6;generalize hA:(sl.all λx=>h'.contains x)=al at *;have HA:=aa hA;clear hA;cases al with
 |false=>
  go_wp2
  go_ret2
  exact⟨e9 (by rw[HR.out];simp) rfl,B2⟩
 |true=>
  go_wp2_with (go_at_call 119;fail);refine(HW.out _).mono ?_;rintro e w3 ⟨rfl,hb3⟩;go_wp2
  go_ret2
  exact⟨e9 (by rw[HR.out];simp) rfl,B2.trans (hb3.mono B2.size)⟩):p:=h
theorem nH (V F:Int)(s:oA)(c:List Ins)(cap:Nat)(g:Gs)(ss:oA)(gc:Nat)(h:Gs)(st:oA)(hc:Nat)(w:World)
  (hcd:CodeAt w s c)(hs:IntsAt w ss g.s)(h1:g.s.length<=gc)(h2:gc<=maxLen)(ht:IntsAt w st h.s)(h3:h.s.length<=hc)(h4:hc<=maxLen)(hck:aP V F c [g,h]=0):
  Calls pG 89 #[pv V F s c cap,gv g ss gc,gv h st hc] w λe w'=>e=Rt (Tu #[Bb (bT g h),I Y 0])/\Below w.heap.size w w':=by
 obtain⟨G0,H0,B0⟩:=uR w V F s c cap g ss gc h st hc;have I0:IntsAt (kl w V F s c cap g ss gc h st hc) ss g.s:=hs.below B0 (lR _);have J0:IntsAt (kl w V F s c cap g ss gc h st hc) st h.s:=ht.below B0 (lR _);have L0:=GsAt.new2 (kl w V F s c cap g ss gc h st hc) g ss gc h st hc I0 h1 h2 J0 h3 h4;simp only[zA] at L0;have HC:=aa (bL V F s c cap (sO ⟨w.heap.size+1+1+1,0,nO⟩) [g,h] 2 _ ((hcd.below B0 (lR _)).alloc _) L0 (by simp));obtain⟨hos,hot⟩:=ckSps_ok.1 (dw hck);have hW:=λw=>vg g.sp h.sp w;rw[dw hck,show (decide ((0:Int)=0)&&@decide _ ((au g.sp h.sp).dq g.sp))=cZ g.sp h.sp by rw[Ca hos hot];rfl] at hW;have HW:=aa hW;have hgl:g.s.length<=9223372036854775807:=by unfold maxLen at h2;omega
 have hlt:h.s.length<=9223372036854775807:=by unfold maxLen at h4;omega
 have HR:Hid (bT g h=(!(g.n&& !h.n)&&(!(g.t&& !h.t)&&(!(g.f&& !h.f)&&(cZ g.sp h.sp&&g.s.all λx=>h.s.contains x))))):=rfl;generalize bT g h=res at HR |-;generalize cZ g.sp h.sp=si at HR HW;rw[hck] at HC;clear hck hcd hs ht L0 hW hos hot;go_enter Tryz.func89,Tryz.ntmps89;go_wp2_with (go_at_call 114;fail);refine HC.out.mono ?_;rintro e w1 ⟨rfl,hb1⟩;have G1:=(G0.alloc _).call hb1;have H1:=(H0.alloc _).call hb1;have I1:=(I0.alloc _).call hb1;have J1:=(J0.alloc _).call hb1;have B1:Below w.heap.size w w1:=(B0.alloc B0.size _).trans (hb1.mono (by simp;omega));clear hb1 G0 H0 I0 J0 B0 HC;obtain⟨⟨g0,g1,g2,g3,g4,g5,g6⟩,gz⟩:=id G1;obtain⟨⟨k0,k1,k2,k3,k4,k5,k6⟩,kz⟩:=id H1;simp only[j0] at g0 g1 g2 g3 g4 g5 g6 k0 k1 k2 k3 k4 k5 k6;obtain⟨n,sp,t,f,sl⟩:=g;obtain⟨n',sp',t',f',h'⟩:=h;simp only at hgl hlt;rcases cn n n' with⟨rfl,rfl⟩|rfl|⟨rfl,rfl⟩
 ·go_wp2
  go_ret2
  exact⟨e9 (by rw[HR.out];rfl) rfl,B1⟩
 ·rcases cn t t' with⟨rfl,rfl⟩|rfl|⟨rfl,rfl⟩
  ·go_wp2
   go_ret2
   exact⟨e9 (by rw[HR.out];rfl) rfl,B1⟩
  ·rcases cn f f' with⟨rfl,rfl⟩|rfl|⟨rfl,rfl⟩
   ·go_wp2
    go_ret2
    exact⟨e9 (by rw[HR.out];rfl) rfl,B1⟩
   ·go_wp2_with (go_at_call 118;fail)
    refine(ci (w.heap.size+1+1) (λx=> !h'.contains x) ss gc sl _ (by omega) I1 λx wx hbx=>eC x _ ⟨n',sp',t',f',h'⟩ st hc wx (H1.call hbx) (J1.call hbx) (by simpa using hlt)).mono ?_;exact dJ
   ·go_wp2_with (go_at_call 118;fail)
    refine(ci (w.heap.size+1+1) (λx=> !h'.contains x) ss gc sl _ (by omega) I1 λx wx hbx=>eC x _ ⟨n',sp',t',true,h'⟩ st hc wx (H1.call hbx) (J1.call hbx) (by simpa using hlt)).mono ?_;exact dJ
  ·rcases cn f f' with⟨rfl,rfl⟩|rfl|⟨rfl,rfl⟩
   ·go_wp2
    go_ret2
    exact⟨e9 (by rw[HR.out];rfl) rfl,B1⟩
   ·go_wp2_with (go_at_call 118;fail)
    refine(ci (w.heap.size+1+1) (λx=> !h'.contains x) ss gc sl _ (by omega) I1 λx wx hbx=>eC x _ ⟨n',sp',true,f',h'⟩ st hc wx (H1.call hbx) (J1.call hbx) (by simpa using hlt)).mono ?_;exact dJ
   ·go_wp2_with (go_at_call 118;fail)
    refine(ci (w.heap.size+1+1) (λx=> !h'.contains x) ss gc sl _ (by omega) I1 λx wx hbx=>eC x _ ⟨n',sp',true,true,h'⟩ st hc wx (H1.call hbx) (J1.call hbx) (by simpa using hlt)).mono ?_;exact dJ
 ·rcases cn t t' with⟨rfl,rfl⟩|rfl|⟨rfl,rfl⟩
  ·go_wp2
   go_ret2
   exact⟨e9 (by rw[HR.out];rfl) rfl,B1⟩
  ·rcases cn f f' with⟨rfl,rfl⟩|rfl|⟨rfl,rfl⟩
   ·go_wp2
    go_ret2
    exact⟨e9 (by rw[HR.out];rfl) rfl,B1⟩
   ·go_wp2_with (go_at_call 118;fail)
    refine(ci (w.heap.size+1+1) (λx=> !h'.contains x) ss gc sl _ (by omega) I1 λx wx hbx=>eC x _ ⟨true,sp',t',f',h'⟩ st hc wx (H1.call hbx) (J1.call hbx) (by simpa using hlt)).mono ?_;exact dJ
   ·go_wp2_with (go_at_call 118;fail)
    refine(ci (w.heap.size+1+1) (λx=> !h'.contains x) ss gc sl _ (by omega) I1 λx wx hbx=>eC x _ ⟨true,sp',t',true,h'⟩ st hc wx (H1.call hbx) (J1.call hbx) (by simpa using hlt)).mono ?_;exact dJ
  ·rcases cn f f' with⟨rfl,rfl⟩|rfl|⟨rfl,rfl⟩
   ·go_wp2
    go_ret2
    exact⟨e9 (by rw[HR.out];rfl) rfl,B1⟩
   ·go_wp2_with (go_at_call 118;fail)
    refine(ci (w.heap.size+1+1) (λx=> !h'.contains x) ss gc sl _ (by omega) I1 λx wx hbx=>eC x _ ⟨true,sp',true,f',h'⟩ st hc wx (H1.call hbx) (J1.call hbx) (by simpa using hlt)).mono ?_;exact dJ
   ·go_wp2_with (go_at_call 118;fail)
    refine(ci (w.heap.size+1+1) (λx=> !h'.contains x) ss gc sl _ (by omega) I1 λx wx hbx=>eC x _ ⟨true,sp',true,true,h'⟩ st hc wx (H1.call hbx) (J1.call hbx) (by simpa using hlt)).mono ?_;exact dJ
theorem vw {V F:Int}{c:List Ins}{g:Gs}(hk:aP V F c [g]=0):ag V F c=0/\ap c g=0:=by
 unfold aP at hk;by_cases h0:ag V F c=0
 ·rw[if_pos h0] at hk
  have e:bm c [g]=if ap c g=0 then 0 else ap c g:=rfl
  rw[e] at hk;by_cases hg:ap c g=0
  ·exact⟨h0,hg⟩
  ·rw[if_neg hg] at hk;exact absurd hk hg
 ·rw[if_neg h0] at hk;exact absurd hk h0
theorem fR {c:List Ins}{g:Gs}(h:ap c g=0):bK g.sp=0:=by
 unfold ap at h;split at h
 ·assumption
 ·rename_i hn;exact Decidable.not_not.1 hn
theorem DK (w:World)(V F:Int)(s:oA)(c:List Ins)(cap:Nat)(g:Gs)(ss:oA)(gc:Nat):GuAt (pgW w V F s c cap g ss gc) (w.heap.size+1) 0 g ss gc/\Below w.heap.size w (pgW w V F s c cap g ss gc):=by
 refine⟨?_,by go_grown⟩;have:=GuAt.new (w.alloc (Cc #[I Y V,I Y F,U s c.length cap] 24)) g ss gc;rw[zA] at this;exact this

theorem yG (V F:Int)(s:oA)(c:List Ins)(cap:Nat)(g:Gs)(ss:oA)(gc:Nat)(w:World)(hcd:CodeAt w s c)(hs:IntsAt w ss g.s)(h1:g.s.length<=gc)(h2:gc<=maxLen)(hck:aP V F c [g]=0):
  Calls pG 88 #[pv V F s c cap,gv g ss gc] w λe w'=>e=Rt (Tu #[Bb (bI g),Bb (b9 g),I Y 0])/\Below w.heap.size w w':=by
 obtain⟨G0,B0⟩:=DK w V F s c cap g ss gc;have I0:IntsAt (pgW w V F s c cap g ss gc) ss g.s:=hs.below B0 (lR _);have L0:=GsAt.new1 (pgW w V F s c cap g ss gc) g ss gc I0 h1 h2;simp only[zA] at L0;have HC:=aa (bL V F s c cap (sO ⟨w.heap.size+1+1,0,nO⟩) [g] 1 _ ((hcd.below B0 (lR _)).alloc _) L0 (by simp));have HT:=aa (λw=>pn g ss gc w (fR (vw hck).2));rw[hck] at HC;generalize bI g=y at HT |-;generalize b9 g=n at HT |-;clear hck hcd hs I0 L0;go_enter Tryz.func88,Tryz.ntmps88;go_wp2_with (go_at_call 114;fail);refine HC.out.mono ?_;rintro e w1 ⟨rfl,hb1⟩;have G1:=(G0.alloc _).call hb1;have B1:Below w.heap.size w w1:=(B0.alloc B0.size _).trans (hb1.mono (by simp;omega));clear hb1 HC G0 B0;obtain⟨⟨g0,g1,g2,g3,g4,g5,g6⟩,gz⟩:=id G1;simp only[j0] at g0 g1 g2 g3 g4 g5 g6;go_wp2_with (go_at_call 115;fail);refine(HT.out _).mono ?_;rintro e w2 ⟨rfl,hb2⟩;go_wp2
 go_ret3
 exact⟨rfl,B1.trans (hb2.mono B1.size)⟩
theorem dK {p:Prop}(h:p:=by
 obtain⟨k,hk,rfl,GR,HR2,IR,JR,BR,HK⟩:=hrel;clear G1 H1 I1 J1 B1;obtain⟨⟨g0,g1,g2,g3,g4,g5,g6⟩,gz⟩:=id GR;obtain⟨⟨k0,k1,k2,k3,k4,k5,k6⟩,kz⟩:=id HR2;simp only[Nat.zero_add] at g0 g1 g2 g3 g4 g5 g6 k0 k1 k2 k3 k4 k5 k6;by_cases hlt:k < sl.length
 ·obtain⟨b,off,rfl,hb,hcell⟩:=IR.get k hlt
  have c0:=hcell k hlt;have n0:(0:Int)<=(k:Int):=by omega
  have n1:(k:Int) < (sl.length:Int):=by omega
  clear hcell;go_wp2
  go_region_held3 (λwx=>wx.cell? ⟨w.heap.size,6,none⟩=some (.slice (some ⟨b,off,none⟩) sl.length gc)/\wx.cell? ⟨w.heap.size+1,6,none⟩=some (.slice st h'.length hc)/\wx.cell? ⟨b,off+k,none⟩=some (.int .i64 sl[k]))
   (exact⟨g6,k6,c0⟩)
   ((go_at_call 59;refine(kJ sl[k] st hc h' _ hlt' JR.drew).mono ?_;rintro e w2 ⟨rfl,hw2⟩;have hw3:=hw2.symm;subst hw3))
  have HD:Hid (decide (sl[k]∈h')=h'.contains sl[k]):=by show _=_;simp
  generalize decide (sl[k]∈h')=d at *;cases d with
  |true=>
   go_wp2;go_roundw
   case rel=>
    refine⟨k+1,by omega,by go_num,GR.drew,HR2.drew,IR.drew,JR.drew,BR.drew,λj h h2=> ?_⟩;by_cases e:j=k
    ·subst e;exact HD.out.symm
    ·exact HK.out j h (by omega)
   case measure=>simp[intOf];omega
  |false=>
   have HF:Hid (res=false):=by
    show _=_;rw[HR'.out,Bool.eq_false_iff];intro hx;have:=List.all_eq_true.1 hx sl[k] (List.getElem_mem _);rw[<-HD.out] at this;cases this
   go_wp2;go_ret;exact⟨av HF.out.symm,BR.drew⟩
 ·have HF:Hid (res=true):=by
   show _=_;rw[HR'.out,List.all_eq_true];intro x hx;obtain⟨j,hj,rfl⟩:=List.getElem_of_mem hx;exact HK.out j hj (by omega)
  go_wp2;go_ret;exact⟨av HF.out.symm,BR⟩):p:=h
theorem mt (g:Gs)(ss:oA)(gc:Nat)(h:Gs)(st:oA)(hc:Nat)(w:World)(hs:IntsAt w ss g.s)(hgl:g.s.length<=9223372036854775807)(ht:IntsAt w st h.s)(hlt':h.s.length<=9223372036854775807):
  Calls pG 77 #[gv g ss gc,gv h st hc] w λe w'=>e=Rt (Bb (bT g h))/\Below w.heap.size w w':=by
 obtain⟨G0,H0,B0⟩:=n9 w g ss gc h st hc;have I0:=hs.below B0 (lR _);have J0:=ht.below B0 (lR _);have HW:=aa (λw=>vk g.sp h.sp w);have HR:Hid (bT g h=(!(g.n&& !h.n)&&(!(g.t&& !h.t)&&(!(g.f&& !h.f)&&(cZ g.sp h.sp&&g.s.all λx=>h.s.contains x))))):=rfl;generalize bT g h=res at HR |-;generalize cZ g.sp h.sp=si at HR HW;clear hs ht;obtain⟨n,sp,t,f,sl⟩:=g;obtain⟨n',sp',t',f',h'⟩:=h;simp only at hgl hlt';go_enter Tryz.func77,Tryz.ntmps77;rcases cn n n' with⟨rfl,rfl⟩|rfl|⟨rfl,rfl⟩
 ·go_wp2
  go_ret;exact⟨av (by rw[HR.out];rfl),B0⟩
 ·rcases cn t t' with⟨rfl,rfl⟩|rfl|⟨rfl,rfl⟩
  ·go_wp2
   go_ret;exact⟨av (by rw[HR.out];rfl),B0⟩
  ·rcases cn f f' with⟨rfl,rfl⟩|rfl|⟨rfl,rfl⟩
   ·go_wp2
    go_ret;exact⟨av (by rw[HR.out];rfl),B0⟩
   ·go_wp2_with (go_at_call 104;fail)
    refine(HW.out _).mono ?_;rintro e w1 ⟨rfl,hb1⟩;have G1:=G0.call hb1;have H1:=H0.call hb1;have I1:=I0.call hb1;have J1:=J0.call hb1;have B1:=B0.trans (hb1.mono B0.size);clear hb1 G0 H0 I0 J0 B0 HW;cases si with
    |false=>
     go_wp2;go_ret;exact⟨av (by rw[HR.out];simp),B1⟩
    |true=>
     have HR':Hid (res=sl.all λx=>h'.contains x):=by show _=_;rw[HR.out];simp
     clear HR;go_wp2;go_loopw [5] (λi wr=>∃k:Nat,k<=sl.length/\i=I Y k/\GuAt wr w.heap.size 0 ⟨false,sp,false,false,sl⟩ ss gc/\GuAt wr (w.heap.size+1) 0 ⟨n',sp',t',f',h'⟩ st hc/\IntsAt wr ss sl/\IntsAt wr st h'/\Below w.heap.size w wr/\Hid (∀j (h:j < sl.length),j < k->h'.contains sl[j]=true)) (λi _=>sl.length - (intOf i).toNat)
     case atStart=>exact⟨0,j1 _,rfl,G1,H1,I1,J1,B1,λj h h'=>by omega⟩
     case round=>
      exact dK
   ·go_wp2_with (go_at_call 104;fail)
    refine(HW.out _).mono ?_;rintro e w1 ⟨rfl,hb1⟩;have G1:=G0.call hb1;have H1:=H0.call hb1;have I1:=I0.call hb1;have J1:=J0.call hb1;have B1:=B0.trans (hb1.mono B0.size);clear hb1 G0 H0 I0 J0 B0 HW;cases si with
    |false=>
     go_wp2;go_ret;exact⟨av (by rw[HR.out];simp),B1⟩
    |true=>
     have HR':Hid (res=sl.all λx=>h'.contains x):=by show _=_;rw[HR.out];simp
     clear HR;go_wp2;go_loopw [5] (λi wr=>∃k:Nat,k<=sl.length/\i=I Y k/\GuAt wr w.heap.size 0 ⟨false,sp,false,true,sl⟩ ss gc/\GuAt wr (w.heap.size+1) 0 ⟨n',sp',t',true,h'⟩ st hc/\IntsAt wr ss sl/\IntsAt wr st h'/\Below w.heap.size w wr/\Hid (∀j (h:j < sl.length),j < k->h'.contains sl[j]=true)) (λi _=>sl.length - (intOf i).toNat)
     case atStart=>exact⟨0,j1 _,rfl,G1,H1,I1,J1,B1,λj h h'=>by omega⟩
     case round=>
      exact dK
  ·rcases cn f f' with⟨rfl,rfl⟩|rfl|⟨rfl,rfl⟩
   ·go_wp2
    go_ret;exact⟨av (by rw[HR.out];rfl),B0⟩
   ·go_wp2_with (go_at_call 104;fail)
    refine(HW.out _).mono ?_;rintro e w1 ⟨rfl,hb1⟩;have G1:=G0.call hb1;have H1:=H0.call hb1;have I1:=I0.call hb1;have J1:=J0.call hb1;have B1:=B0.trans (hb1.mono B0.size);clear hb1 G0 H0 I0 J0 B0 HW;cases si with
    |false=>
     go_wp2;go_ret;exact⟨av (by rw[HR.out];simp),B1⟩
    |true=>
     have HR':Hid (res=sl.all λx=>h'.contains x):=by show _=_;rw[HR.out];simp
     clear HR;go_wp2;go_loopw [5] (λi wr=>∃k:Nat,k<=sl.length/\i=I Y k/\GuAt wr w.heap.size 0 ⟨false,sp,true,false,sl⟩ ss gc/\GuAt wr (w.heap.size+1) 0 ⟨n',sp',true,f',h'⟩ st hc/\IntsAt wr ss sl/\IntsAt wr st h'/\Below w.heap.size w wr/\Hid (∀j (h:j < sl.length),j < k->h'.contains sl[j]=true)) (λi _=>sl.length - (intOf i).toNat)
     case atStart=>exact⟨0,j1 _,rfl,G1,H1,I1,J1,B1,λj h h'=>by omega⟩
     case round=>
      exact dK
   ·go_wp2_with (go_at_call 104;fail)
    refine(HW.out _).mono ?_;rintro e w1 ⟨rfl,hb1⟩;have G1:=G0.call hb1;have H1:=H0.call hb1;have I1:=I0.call hb1;have J1:=J0.call hb1;have B1:=B0.trans (hb1.mono B0.size);clear hb1 G0 H0 I0 J0 B0 HW;cases si with
    |false=>
     go_wp2;go_ret;exact⟨av (by rw[HR.out];simp),B1⟩
    |true=>
     have HR':Hid (res=sl.all λx=>h'.contains x):=by show _=_;rw[HR.out];simp
     clear HR;go_wp2;go_loopw [5] (λi wr=>∃k:Nat,k<=sl.length/\i=I Y k/\GuAt wr w.heap.size 0 ⟨false,sp,true,true,sl⟩ ss gc/\GuAt wr (w.heap.size+1) 0 ⟨n',sp',true,true,h'⟩ st hc/\IntsAt wr ss sl/\IntsAt wr st h'/\Below w.heap.size w wr/\Hid (∀j (h:j < sl.length),j < k->h'.contains sl[j]=true)) (λi _=>sl.length - (intOf i).toNat)
     case atStart=>exact⟨0,j1 _,rfl,G1,H1,I1,J1,B1,λj h h'=>by omega⟩
     case round=>
      exact dK
 ·rcases cn t t' with⟨rfl,rfl⟩|rfl|⟨rfl,rfl⟩
  ·go_wp2
   go_ret;exact⟨av (by rw[HR.out];rfl),B0⟩
  ·rcases cn f f' with⟨rfl,rfl⟩|rfl|⟨rfl,rfl⟩
   ·go_wp2
    go_ret;exact⟨av (by rw[HR.out];rfl),B0⟩
   ·go_wp2_with (go_at_call 104;fail)
    refine(HW.out _).mono ?_;rintro e w1 ⟨rfl,hb1⟩;have G1:=G0.call hb1;have H1:=H0.call hb1;have I1:=I0.call hb1;have J1:=J0.call hb1;have B1:=B0.trans (hb1.mono B0.size);clear hb1 G0 H0 I0 J0 B0 HW;cases si with
    |false=>
     go_wp2;go_ret;exact⟨av (by rw[HR.out];simp),B1⟩
    |true=>
     have HR':Hid (res=sl.all λx=>h'.contains x):=by show _=_;rw[HR.out];simp
     clear HR;go_wp2;go_loopw [5] (λi wr=>∃k:Nat,k<=sl.length/\i=I Y k/\GuAt wr w.heap.size 0 ⟨true,sp,false,false,sl⟩ ss gc/\GuAt wr (w.heap.size+1) 0 ⟨true,sp',t',f',h'⟩ st hc/\IntsAt wr ss sl/\IntsAt wr st h'/\Below w.heap.size w wr/\Hid (∀j (h:j < sl.length),j < k->h'.contains sl[j]=true)) (λi _=>sl.length - (intOf i).toNat)
     case atStart=>exact⟨0,j1 _,rfl,G1,H1,I1,J1,B1,λj h h'=>by omega⟩
     case round=>
      exact dK
   ·go_wp2_with (go_at_call 104;fail)
    refine(HW.out _).mono ?_;rintro e w1 ⟨rfl,hb1⟩;have G1:=G0.call hb1;have H1:=H0.call hb1;have I1:=I0.call hb1;have J1:=J0.call hb1;have B1:=B0.trans (hb1.mono B0.size);clear hb1 G0 H0 I0 J0 B0 HW;cases si with
    |false=>
     go_wp2;go_ret;exact⟨av (by rw[HR.out];simp),B1⟩
    |true=>
     have HR':Hid (res=sl.all λx=>h'.contains x):=by show _=_;rw[HR.out];simp
     clear HR;go_wp2;go_loopw [5] (λi wr=>∃k:Nat,k<=sl.length/\i=I Y k/\GuAt wr w.heap.size 0 ⟨true,sp,false,true,sl⟩ ss gc/\GuAt wr (w.heap.size+1) 0 ⟨true,sp',t',true,h'⟩ st hc/\IntsAt wr ss sl/\IntsAt wr st h'/\Below w.heap.size w wr/\Hid (∀j (h:j < sl.length),j < k->h'.contains sl[j]=true)) (λi _=>sl.length - (intOf i).toNat)
     case atStart=>exact⟨0,j1 _,rfl,G1,H1,I1,J1,B1,λj h h'=>by omega⟩
     case round=>
      exact dK
  ·rcases cn f f' with⟨rfl,rfl⟩|rfl|⟨rfl,rfl⟩
   ·go_wp2
    go_ret;exact⟨av (by rw[HR.out];rfl),B0⟩
   ·go_wp2_with (go_at_call 104;fail)
    refine(HW.out _).mono ?_;rintro e w1 ⟨rfl,hb1⟩;have G1:=G0.call hb1;have H1:=H0.call hb1;have I1:=I0.call hb1;have J1:=J0.call hb1;have B1:=B0.trans (hb1.mono B0.size);clear hb1 G0 H0 I0 J0 B0 HW;cases si with
    |false=>
     go_wp2;go_ret;exact⟨av (by rw[HR.out];simp),B1⟩
    |true=>
     have HR':Hid (res=sl.all λx=>h'.contains x):=by show _=_;rw[HR.out];simp
     clear HR;go_wp2;go_loopw [5] (λi wr=>∃k:Nat,k<=sl.length/\i=I Y k/\GuAt wr w.heap.size 0 ⟨true,sp,true,false,sl⟩ ss gc/\GuAt wr (w.heap.size+1) 0 ⟨true,sp',true,f',h'⟩ st hc/\IntsAt wr ss sl/\IntsAt wr st h'/\Below w.heap.size w wr/\Hid (∀j (h:j < sl.length),j < k->h'.contains sl[j]=true)) (λi _=>sl.length - (intOf i).toNat)
     case atStart=>exact⟨0,j1 _,rfl,G1,H1,I1,J1,B1,λj h h'=>by omega⟩
     case round=>
      exact dK
   ·go_wp2_with (go_at_call 104;fail)
    refine(HW.out _).mono ?_;rintro e w1 ⟨rfl,hb1⟩;have G1:=G0.call hb1;have H1:=H0.call hb1;have I1:=I0.call hb1;have J1:=J0.call hb1;have B1:=B0.trans (hb1.mono B0.size);clear hb1 G0 H0 I0 J0 B0 HW;cases si with
    |false=>
     go_wp2;go_ret;exact⟨av (by rw[HR.out];simp),B1⟩
    |true=>
     have HR':Hid (res=sl.all λx=>h'.contains x):=by show _=_;rw[HR.out];simp
     clear HR;go_wp2;go_loopw [5] (λi wr=>∃k:Nat,k<=sl.length/\i=I Y k/\GuAt wr w.heap.size 0 ⟨true,sp,true,true,sl⟩ ss gc/\GuAt wr (w.heap.size+1) 0 ⟨true,sp',true,true,h'⟩ st hc/\IntsAt wr ss sl/\IntsAt wr st h'/\Below w.heap.size w wr/\Hid (∀j (h:j < sl.length),j < k->h'.contains sl[j]=true)) (λi _=>sl.length - (intOf i).toNat)
     case atStart=>exact⟨0,j1 _,rfl,G1,H1,I1,J1,B1,λj h h'=>by omega⟩
     case round=>
      exact dK
theorem CY (V F:Int)(s:oA)(c:List Ins)(cap:Nat)(g:Gs)(ss:oA)(gc:Nat)(h:Gs)(st:oA)(hc:Nat)(kind:Int)(w:World)
  (hcd:CodeAt w s c)(hs:IntsAt w ss g.s)(h1:g.s.length<=gc)(h2:gc<=maxLen)(ht:IntsAt w st h.s)(h3:h.s.length<=hc)(h4:hc<=maxLen)(hck:aP V F c [g,h]≠0):
  Calls pG 92 #[pv V F s c cap,I Y kind,gv g ss gc,gv h st hc] w λe w'=>e=Rt (Tu #[gv bl nO 0,Bb false,I Y (aP V F c [g,h])])/\Below w.heap.size w w':=by
 obtain⟨P0,G0,H0,R0,F0⟩:=dn w V F s c cap g ss gc h st hc;have B0:=cA w V F s c cap g ss gc h st hc;have C0:CodeAt (bw w V F s c cap g ss gc h st hc) s c:=hcd.below B0 (lR _);have I0:IntsAt (bw w V F s c cap g ss gc h st hc) ss g.s:=hs.below B0 (lR _);have J0:IntsAt (bw w V F s c cap g ss gc h st hc) st h.s:=ht.below B0 (lR _);have L0:=GsAt.new2 (bw w V F s c cap g ss gc h st hc) g ss gc h st hc I0 h1 h2 J0 h3 h4;simp only[zA] at L0;have HC:=aa (bL V F s c cap (sO ⟨w.heap.size+1+1+1+1,0,nO⟩) [g,h] 2 _ (C0.alloc _) L0 (by simp));have hne:(aP V F c [g,h]!=0)=true:=by simpa using hck
 generalize aP V F c [g,h]=ce at HC hne |-;clear hck;go_enter Tryz.func92,Tryz.ntmps92;go_wp2_with (go_at_call 114;fail);refine HC.out.mono ?_;rintro e w1 ⟨rfl,hb1⟩;have G1:=(G0.alloc _).call hb1;have H1:=(H0.alloc _).call hb1;have R1:=(R0.alloc _).call hb1;have I1:=(I0.alloc _).call hb1;have J1:=(J0.alloc _).call hb1;have F1:Fr7 w1 (w.heap.size+1+1+1):=(F0.alloc _).call hb1;have B1:Below w.heap.size w w1:=(B0.alloc B0.size _).trans (hb1.mono (by simp;omega));clear hb1 G0 H0 R0 I0 J0 F0 B0 C0 P0 L0 hcd hs ht HC;obtain⟨⟨g0,g1,g2,g3,g4,g5,g6⟩,gz⟩:=id G1;obtain⟨⟨k0,k1,k2,k3,k4,k5,k6⟩,kz⟩:=id H1;simp only[j0] at g0 g1 g2 g3 g4 g5 g6 k0 k1 k2 k3 k4 k5 k6;obtain⟨⟨r0,r1,r2,r3,r4,r5,r6⟩,rz⟩:=id R1;simp only[j0,bl] at r0 r1 r2 r3 r4 r5 r6;have fz:=F1.1;go_wp2;refine bodyPost_ret (v:=Tu #[gv bl nO 0,Bb false,I Y ce]) (by simp[results,Tryz.results92,go_sem,r0,r1,r2,r3,r4,r5,r6,bl]) rfl ⟨rfl,?_⟩;exact aX B1 (by omega)

theorem BH (V F:Int)(s:oA)(c:List Ins)(cap:Nat)(g:Gs)(ss:oA)(gc:Nat)(h:Gs)(st:oA)(hc:Nat)(kind:Int)(w:World)
  (hcd:CodeAt w s c)(hs:IntsAt w ss g.s)(h1:g.s.length<=gc)(h2:gc<=maxLen)(ht:IntsAt w st h.s)(h3:h.s.length<=hc)(h4:hc<=maxLen)(hck:aP V F c [g,h]=0)(hk4:(kind==4)=false)(hk5:(kind==5)=false)(hk6:(kind==6)=false)(hk7:(kind==7)=false)(hk8:(kind==8)=false)(hk9:(kind==9)=false)(hk10:(kind==10)=false):
  Calls pG 92 #[pv V F s c cap,I Y kind,gv g ss gc,gv h st hc] w λe w'=>e=Rt (Tu #[gv bl nO 0,Bb false,I Y 6])/\Below w.heap.size w w':=by
 obtain⟨P0,G0,H0,R0,F0⟩:=dn w V F s c cap g ss gc h st hc;have B0:=cA w V F s c cap g ss gc h st hc;have C0:CodeAt (bw w V F s c cap g ss gc h st hc) s c:=hcd.below B0 (lR _);have I0:IntsAt (bw w V F s c cap g ss gc h st hc) ss g.s:=hs.below B0 (lR _);have J0:IntsAt (bw w V F s c cap g ss gc h st hc) st h.s:=ht.below B0 (lR _);have L0:=GsAt.new2 (bw w V F s c cap g ss gc h st hc) g ss gc h st hc I0 h1 h2 J0 h3 h4;simp only[zA] at L0;have HC:=aa (bL V F s c cap (sO ⟨w.heap.size+1+1+1+1,0,nO⟩) [g,h] 2 _ (C0.alloc _) L0 (by simp));rw[hck] at HC;go_enter Tryz.func92,Tryz.ntmps92;go_wp2_with (go_at_call 114;fail);refine HC.out.mono ?_;rintro e w1 ⟨rfl,hb1⟩;have G1:=(G0.alloc _).call hb1;have H1:=(H0.alloc _).call hb1;have R1:=(R0.alloc _).call hb1;have I1:=(I0.alloc _).call hb1;have J1:=(J0.alloc _).call hb1;have F1:Fr7 w1 (w.heap.size+1+1+1):=(F0.alloc _).call hb1;have B1:Below w.heap.size w w1:=(B0.alloc B0.size _).trans (hb1.mono (by simp;omega));clear hb1 G0 H0 R0 I0 J0 F0 B0 C0 P0 L0 hcd hs ht HC;obtain⟨⟨g0,g1,g2,g3,g4,g5,g6⟩,gz⟩:=id G1;obtain⟨⟨k0,k1,k2,k3,k4,k5,k6⟩,kz⟩:=id H1;simp only[j0] at g0 g1 g2 g3 g4 g5 g6 k0 k1 k2 k3 k4 k5 k6;obtain⟨⟨r0,r1,r2,r3,r4,r5,r6⟩,rz⟩:=id R1;simp only[j0,bl] at r0 r1 r2 r3 r4 r5 r6;have fz:=F1.1;go_wp2;refine bodyPost_ret (v:=Tu #[gv bl nO 0,Bb false,I Y 6]) (by simp[results,Tryz.results92,go_sem,r0,r1,r2,r3,r4,r5,r6,bl]) rfl ⟨rfl,?_⟩;exact aX B1 (by omega)

theorem Co (V F:Int)(s:oA)(c:List Ins)(cap:Nat)(g:Gs)(ss:oA)(gc:Nat)(h:Gs)(st:oA)(hc:Nat)(w:World)
  (hcd:CodeAt w s c)(hs:IntsAt w ss g.s)(h1:g.s.length<=gc)(h2:gc<=maxLen)(ht:IntsAt w st h.s)(h3:h.s.length<=hc)(h4:hc<=maxLen)(hck:aP V F c [g,h]=0)(y n:Bool)(hS:∀wx,Below w.heap.size w wx->Calls pG 124 #[gv g ss gc,gv h st hc] wx λe w'=>e=Rt (Tu #[Bb y,Bb n])/\Below wx.heap.size wx w'):
  Calls pG 92 #[pv V F s c cap,I Y 9,gv g ss gc,gv h st hc] w λe w'=>e=Rt (Tu #[gv ⟨false,⟨true,0,0⟩,y,n,[]⟩ nO 0,Bb false,I Y 0])/\Below w.heap.size w w':=by
 obtain⟨P0,G0,H0,R0,F0⟩:=dn w V F s c cap g ss gc h st hc;have B0:=cA w V F s c cap g ss gc h st hc;have C0:CodeAt (bw w V F s c cap g ss gc h st hc) s c:=hcd.below B0 (lR _);have I0:IntsAt (bw w V F s c cap g ss gc h st hc) ss g.s:=hs.below B0 (lR _);have J0:IntsAt (bw w V F s c cap g ss gc h st hc) st h.s:=ht.below B0 (lR _);have L0:=GsAt.new2 (bw w V F s c cap g ss gc h st hc) g ss gc h st hc I0 h1 h2 J0 h3 h4;simp only[zA] at L0;have HC:=aa (bL V F s c cap (sO ⟨w.heap.size+1+1+1+1,0,nO⟩) [g,h] 2 _ (C0.alloc _) L0 (by simp));rw[hck] at HC;have HS:=aa hS;clear hS;go_enter Tryz.func92,Tryz.ntmps92;go_wp2_with (go_at_call 114;fail);refine HC.out.mono ?_;rintro e w1 ⟨rfl,hb1⟩;have G1:=(G0.alloc _).call hb1;have H1:=(H0.alloc _).call hb1;have R1:=(R0.alloc _).call hb1;have I1:=(I0.alloc _).call hb1;have J1:=(J0.alloc _).call hb1;have F1:Fr7 w1 (w.heap.size+1+1+1):=(F0.alloc _).call hb1;have B1:Below w.heap.size w w1:=(B0.alloc B0.size _).trans (hb1.mono (by simp;omega));clear hb1 G0 H0 R0 I0 J0 F0 B0 C0 P0 L0 hcd hs ht HC;obtain⟨⟨g0,g1,g2,g3,g4,g5,g6⟩,gz⟩:=id G1;obtain⟨⟨k0,k1,k2,k3,k4,k5,k6⟩,kz⟩:=id H1;simp only[j0] at g0 g1 g2 g3 g4 g5 g6 k0 k1 k2 k3 k4 k5 k6;go_wp2_with (go_at_call 124;fail);refine(HS.out _ B1).mono ?_;rintro e w2 ⟨rfl,hb2⟩;have R2:=R1.call hb2;have F2:=F1.call hb2;have B2:=B1.trans (hb2.mono B1.size);clear hb2;go_wp2_with (go_at_call 122;fail);refine(gE _ _ _).mono ?_;rintro e w3 ⟨rfl,hb3⟩;have R3:=R2.call hb3;have F3:=F2.call hb3;have B3:=B2.trans (hb3.mono B2.size);clear hb3;obtain⟨⟨r0,r1,r2,r3,r4,r5,r6⟩,rz⟩:=id R3;simp only[j0,bl] at r0 r1 r2 r3 r4 r5 r6;have fz:=F3.1;go_wp2;refine bodyPost_ret (v:=Tu #[gv ⟨false,⟨true,0,0⟩,y,n,[]⟩ nO 0,Bb false,I Y 0]) (by simp[results,Tryz.results92,go_sem,r0,r1,r2,r3,r4,r5,r6]) rfl ⟨rfl,?_⟩;exact aX B3 (by omega)

theorem DH (V F:Int)(s:oA)(c:List Ins)(cap:Nat)(g:Gs)(ss:oA)(gc:Nat)(h:Gs)(st:oA)(hc:Nat)(w:World)
  (hcd:CodeAt w s c)(hs:IntsAt w ss g.s)(h1:g.s.length<=gc)(h2:gc<=maxLen)(ht:IntsAt w st h.s)(h3:h.s.length<=hc)(h4:hc<=maxLen)(hck:aP V F c [g,h]=0)(hsp:bK g.sp=0):
  Calls pG 92 #[pv V F s c cap,I Y 10,gv g ss gc,gv h st hc] w λe w'=>e=Rt (Tu #[gv ⟨false,⟨true,0,0⟩,b9 g,bI g,[]⟩ nO 0,Bb false,I Y 0])/\Below w.heap.size w w':=by
 obtain⟨P0,G0,H0,R0,F0⟩:=dn w V F s c cap g ss gc h st hc;have B0:=cA w V F s c cap g ss gc h st hc;have C0:CodeAt (bw w V F s c cap g ss gc h st hc) s c:=hcd.below B0 (lR _);have I0:IntsAt (bw w V F s c cap g ss gc h st hc) ss g.s:=hs.below B0 (lR _);have J0:IntsAt (bw w V F s c cap g ss gc h st hc) st h.s:=ht.below B0 (lR _);have L0:=GsAt.new2 (bw w V F s c cap g ss gc h st hc) g ss gc h st hc I0 h1 h2 J0 h3 h4;simp only[zA] at L0;have HC:=aa (bL V F s c cap (sO ⟨w.heap.size+1+1+1+1,0,nO⟩) [g,h] 2 _ (C0.alloc _) L0 (by simp));rw[hck] at HC;have HS:=aa (λw=>pn g ss gc w hsp);generalize bI g=y at HS |-;generalize b9 g=n at HS |-;clear hsp;go_enter Tryz.func92,Tryz.ntmps92;go_wp2_with (go_at_call 114;fail);refine HC.out.mono ?_;rintro e w1 ⟨rfl,hb1⟩;have G1:=(G0.alloc _).call hb1;have H1:=(H0.alloc _).call hb1;have R1:=(R0.alloc _).call hb1;have I1:=(I0.alloc _).call hb1;have J1:=(J0.alloc _).call hb1;have F1:Fr7 w1 (w.heap.size+1+1+1):=(F0.alloc _).call hb1;have B1:Below w.heap.size w w1:=(B0.alloc B0.size _).trans (hb1.mono (by simp;omega));clear hb1 G0 H0 R0 I0 J0 F0 B0 C0 P0 L0 hcd hs ht HC;obtain⟨⟨g0,g1,g2,g3,g4,g5,g6⟩,gz⟩:=id G1;obtain⟨⟨k0,k1,k2,k3,k4,k5,k6⟩,kz⟩:=id H1;simp only[j0] at g0 g1 g2 g3 g4 g5 g6 k0 k1 k2 k3 k4 k5 k6;go_wp2_with (go_at_call 115;fail);refine(HS.out _).mono ?_;rintro e w2 ⟨rfl,hb2⟩;have R2:=R1.call hb2;have F2:=F1.call hb2;have B2:=B1.trans (hb2.mono B1.size);clear hb2;go_wp2_with (go_at_call 122;fail);refine(gE _ _ _).mono ?_;rintro e w3 ⟨rfl,hb3⟩;have R3:=R2.call hb3;have F3:=F2.call hb3;have B3:=B2.trans (hb3.mono B2.size);clear hb3;obtain⟨⟨r0,r1,r2,r3,r4,r5,r6⟩,rz⟩:=id R3;simp only[j0,bl] at r0 r1 r2 r3 r4 r5 r6;have fz:=F3.1;go_wp2;refine bodyPost_ret (v:=Tu #[gv ⟨false,⟨true,0,0⟩,n,y,[]⟩ nO 0,Bb false,I Y 0]) (by simp[results,Tryz.results92,go_sem,r0,r1,r2,r3,r4,r5,r6]) rfl ⟨rfl,?_⟩;exact aX B3 (by omega)
end
section
open Go.RowKit
attribute [local go_sem ↓] Go.wp_at_zero Go.wp_at_succ
def SameAns (e:Ending)(p:Prop):Prop:=∃b:Bool,e=Rt (Bb b)/\(b=true↔p)
theorem SameAns.no {p:Prop}(h:¬p):SameAns (Rt (Bb false)) p:=⟨false,rfl,⟨λe=>absurd e (by decide),λe=>absurd e h⟩⟩
theorem SameAns.yes {p:Prop}(h:p):SameAns (Rt (Bb true)) p:=⟨true,rfl,⟨λ_=>h,λ_=>rfl⟩⟩
theorem y7 {p:Prop} [Decidable p](h:¬p):Ending.returned (Bb false)=Rt (Bb (decide p)):=by rw[decide_eq_false h]
theorem Dj {p:Prop} [Decidable p](h:p):Ending.returned (Bb true)=Rt (Bb (decide p)):=by rw[decide_eq_true h]
theorem tp (s1 s2:oA)(c1 c2:Nat)(a b:List Int)(w:World)(ha:a.length<=maxLen)(hb:b.length<=maxLen)(h1:IntsAt w s1 a)(h2:IntsAt w s2 b):
  Calls pG 129 #[U s1 a.length c1,U s2 b.length c2] w λe w'=>e=Rt (Bb (decide (a=b)))/\Below w.heap.size w w':=by
 by_cases hl:a.length=b.length
 ·by_cases hn:a=[]
  ·subst hn
   have hb0:b=[]:=j6 hl.symm;subst hb0;exact sZ s1 s2 c1 c2 w
  have hn2:b≠[]:=λe=>by rw[e] at hl;exact hn (j6 hl)
  rcases h1 with e|⟨b1,o1,rfl,b1lt,h1⟩
  ·exact absurd e hn
  rcases h2 with e|⟨b2,o2,rfl,b2lt,h2⟩
  ·exact absurd e hn2
  rw[<-hl];have HL:=aa hl;clear hl hn hn2;unfold maxLen at ha;go_enter Tryz.func129,Tryz.ntmps129;go_wp2;go_loopw [5] (λi wr=>∃k:Nat,k<=a.length/\i=I Y k/\Hid (a.take k=b.take k)/\Below w.heap.size w wr) (λi _=>a.length - (intOf i).toNat)
  case atStart=>exact⟨0,j1 _,rfl,rfl,bR _ _⟩
  case round=>
   obtain⟨k,hk,rfl,HE,hb⟩:=hrel;by_cases hlt:k < a.length
   ·have n0:(0:Int)<=(k:Int):=by omega
    have n1:(k:Int) < (a.length:Int):=by omega
    have hlb:k < b.length:=by have:=HL.out;omega
    obtain⟨x,hx⟩:∃x,x=a[k]:=⟨_,rfl⟩;obtain⟨y,hy⟩:∃y,y=b[k]:=⟨_,rfl⟩;have q0:wr.cell? ⟨b1,o1+k,nO⟩=sO (I Y x):=by rw[hb.cell (p:=⟨b1,_,nO⟩) b1lt,hx];exact h1 k hlt
    have r0:wr.cell? ⟨b2,o2+k,nO⟩=sO (I Y y):=by rw[hb.cell (p:=⟨b2,_,nO⟩) b2lt,hy];exact h2 k hlb
    have HXY:=aa (And.intro hx hy);clear h1 h2 hx hy;by_cases hxy:x=y
    ·have e1:(x !=y)=false:=by simpa using hxy
     have HQ:=aa hxy;clear hxy;go_wp2
     go_quiet (fail)
     go_wp2;go_roundw
     case rel=>exact⟨k+1,by omega,by go_num,by show _=_;rw[j3 hlt,j3 hlb,HE.out,<-HXY.out.1,<-HXY.out.2,HQ.out],below_drewN hb _⟩
     case measure=>simp[intOf];omega
    ·have e1:(x !=y)=true:=by simpa using hxy
     have HQ:=aa hxy;clear hxy;go_wp2
     go_quiet (fail)
     go_wp2;go_ret;exact⟨y7 λe=>by subst e;exact HQ.out (HXY.out.1.trans HXY.out.2.symm),below_drewN hb _⟩
   ·have n1:¬(k:Int) < (a.length:Int):=by omega
    go_wp2;go_ret;exact⟨Dj (by have h:=HE.out;rwa [j2 (by omega),j2 (by have:=HL.out;omega)] at h),hb⟩
 ·have e1:((a.length:Int)!=(b.length:Int))=true:=by simpa using λh=>hl (by omega)
  have HL:=aa hl;clear hl;go_enter Tryz.func129,Tryz.ntmps129;go_wp2;go_ret;exact⟨y7 λe=>HL.out (by rw[e]),bR _ _⟩
theorem se (g:Gs)(ss:oA)(gc:Nat)(h:Gs)(st:oA)(hc:Nat)(w:World)(hs:IntsAt w ss g.s)(ht:IntsAt w st h.s)(hgl:g.s.length<=maxLen)(hhl:h.s.length<=maxLen):
  Calls pG 99 #[gv g ss gc,gv h st hc] w λe w'=>SameAns e (g=h)/\Below w.heap.size w w':=by
 obtain⟨n,⟨a,b,c⟩,t,f,sl⟩:=g;obtain⟨n',⟨a',b',c'⟩,t',f',sl'⟩:=h;have HI:=aa (λwx (hb:Below w.heap.size w wx)=>tp ss st gc hc sl sl' wx hgl hhl (hs.below hb (lR _)) (ht.below hb (lR _)));clear hs ht;go_enter Tryz.func99,Tryz.ntmps99;go_wp2_with (go_at_call 129;fail)
 ·refine(HI.out _ (by go_grown)).mono ?_
  rintro e w1 ⟨rfl,hb1⟩;clear HI;go_wp2;go_ret;exact⟨⟨decide (sl=sl'),rfl,by simp_all⟩,Below.trans (by go_grown) (hb1.mono (by go_size))⟩
 all_goals go_ret
 all_goals exact⟨SameAns.no (by simp_all),by go_grown⟩
theorem oJ {p:Prop}(h:p:=by
 go_wp2;go_roundw
 case rel=>exact⟨k+1,by omega,by go_num,by show _=_;rw[List.take_succ_eq_append_getElem hlt,List.take_succ_eq_append_getElem hlb,HE.out,HQ.out],hbr.trans (HB5.mono hbr.size)⟩
 case measure=>simp[intOf];omega):p:=h
theorem ij (a b:List Gs)(s1:oA)(c1:Nat)(s2:oA)(c2:Nat)(w:World)(ha:a.length<=maxLen)(h1:GsAt w s1 a)(h2:GsAt w s2 b):
  Calls pG 67 #[U s1 a.length c1,U s2 b.length c2] w λe w'=>SameAns e (a=b)/\Below w.heap.size w w':=by
 have hm:maxLen<=9223372036854775807:=by decide
 by_cases hl:a.length=b.length
 ·rw[<-hl]
  have HL:=aa hl;clear hl;go_enter Tryz.func67,Tryz.ntmps67;go_wp2;go_loopw [5] (λi wr=>∃k:Nat,k<=a.length/\i=I Y k/\Hid (a.take k=b.take k)/\Below w.heap.size w wr) (λi _=>a.length - (intOf i).toNat)
  case atStart=>exact⟨0,j1 _,rfl,rfl,bR _ _⟩
  case round=>
   obtain⟨k,hk,rfl,HE,hbr⟩:=hrel;by_cases hlt:k < a.length
   ·have n0:(0:Int)<=(k:Int):=by omega
    have n1:(k:Int) < (a.length:Int):=by omega
    have hlb:k < b.length:=by have:=HL.out;omega
    obtain⟨b1,o1,rfl,ss1,g1,G1,I1,k1,m1⟩:=h1.below hbr (lR _) k hlt;obtain⟨b2,o2,rfl,ss2,g2,G2,I2,k2,m2⟩:=h2.below hbr (lR _) k hlb;have HSG:=aa (λwx (q1:IntsAt wx ss1 a[k].s) (q2:IntsAt wx ss2 b[k].s)=>se a[k] ss1 g1 b[k] ss2 g2 wx q1 q2 (lT k1 m1) (lT k2 m2));have HKZ:=aa (λwx (hx:Below wr.heap.size wr wx)=>And.intro (G1.call hx).1 (G2.call hx).1);have HD:Below wr.heap.size wr wr.drew:=(bR _ _).drew;go_wp2;refine am (S:=(λwx=>(wx.cell? ⟨b1,o1+k * 7,nO⟩=sO (Bb a[k].n)/\wx.cell? ⟨b1,o1+k * 7+1,nO⟩=sO (Bb a[k].sp.n)/\wx.cell? ⟨b1,o1+k * 7+2,nO⟩=sO (I Y a[k].sp.lo)/\wx.cell? ⟨b1,o1+k * 7+3,nO⟩=sO (I Y a[k].sp.hi)/\wx.cell? ⟨b1,o1+k * 7+4,nO⟩=sO (Bb a[k].t)/\wx.cell? ⟨b1,o1+k * 7+5,nO⟩=sO (Bb a[k].f)/\wx.cell? ⟨b1,o1+k * 7+6,nO⟩=sO (U ss1 a[k].s.length g1))/\(wx.cell? ⟨b2,o2+k * 7,nO⟩=sO (Bb b[k].n)/\wx.cell? ⟨b2,o2+k * 7+1,nO⟩=sO (Bb b[k].sp.n)/\wx.cell? ⟨b2,o2+k * 7+2,nO⟩=sO (I Y b[k].sp.lo)/\wx.cell? ⟨b2,o2+k * 7+3,nO⟩=sO (I Y b[k].sp.hi)/\wx.cell? ⟨b2,o2+k * 7+4,nO⟩=sO (Bb b[k].t)/\wx.cell? ⟨b2,o2+k * 7+5,nO⟩=sO (Bb b[k].f)/\wx.cell? ⟨b2,o2+k * 7+6,nO⟩=sO (U ss2 b[k].s.length g2)))) [] (by kernel_rfl) (HKZ.out _ HD) (λhHeld=> ?_);refine vZ 0 ?_ ?_;refine vZ 1 ?_ ?_;refine vZ 2 ?_ ?_;refine vZ 3 ?_ ?_;refine vZ 4 ?_ ?_;refine vZ 5 ?_ ?_;refine vZ 6 ?_ ?_;refine vZ 7 ?_ ?_;refine ai (i:=8) rfl (by kernel_rfl) (λK hK=> ?_);go_simp;go_at_call 99;refine(HSG.out _ (I1.call HD) (I2.call HD)).mono ?_;rintro e w5 ⟨⟨bb,rfl,HBB0⟩,hb5⟩;have HBB:=aa HBB0;clear HBB0;have HB5:Below wr.heap.size wr w5:=HD.trans (hb5.mono HD.size);go_wp2_with fail;refine hK.out _ _ (HKZ.out _ HB5) (λhHeld=> ?_);clear hK K;refine sm ?_;refine vZ 9 ?_ ?_;refine aj (by kernel_rfl) ?_ _;rcases j4 bb with e1|e1
    ·have HQ:=aa (HBB.out.1 e1)
     subst e1;exact oJ
    ·have HQ:Hid (¬a[k]=b[k]):=λh=>by rw[HBB.out.2 h] at e1;cases e1
     subst e1;go_wp2;go_ret;exact⟨SameAns.no λe=>HQ.out (by subst e;rfl),hbr.trans (HB5.mono hbr.size)⟩
   ·have n1:¬(k:Int) < (a.length:Int):=by omega
    go_wp2;go_ret;exact⟨SameAns.yes (by have h:=HE.out;rwa [j2 (by omega),j2 (by have:=HL.out;omega)] at h),hbr⟩
 ·have e1:((a.length:Int)!=(b.length:Int))=true:=by simpa using λh=>hl (by omega)
  have HL:=aa hl;clear hl;go_enter Tryz.func67,Tryz.ntmps67;go_wp2;go_ret;exact⟨SameAns.no λe=>HL.out (by rw[e]),bR _ _⟩
theorem iv (x y:Pic)(vs1:oA)(vc1:Nat)(fs1:oA)(fc1:Nat)(vs2:oA)(vc2:Nat)(fs2:oA)(fc2:Nat)(w:World)(hl:y8 x)(h1:PicAt w x vs1 fs1)(h2:PicAt w y vs2 fs2):
  Calls pG 31 #[xv x vs1 vc1 fs1 fc1,xv y vs2 vc2 fs2 fc2] w λe w'=>SameAns e (x=y)/\Below w.heap.size w w':=by
 obtain⟨hl1,hl2⟩:=hl;have hm:maxLen<=9223372036854775807:=by decide
 have hb0:Below w.heap.size w ((w.alloc (Cc #[Bb x.none,U vs1 x.vars.length vc1,U fs1 x.flds.length fc1] 28)).alloc (Cc #[Bb y.none,U vs2 y.vars.length vc2,U fs2 y.flds.length fc2] 28)):=by go_grown
 have A0:=(XAt.new w x vs1 vc1 fs1 fc1).call (w':=((w.alloc (Cc #[Bb x.none,U vs1 x.vars.length vc1,U fs1 x.flds.length fc1] 28)).alloc (Cc #[Bb y.none,U vs2 y.vars.length vc2,U fs2 y.flds.length fc2] 28))) (by go_grown);have B0:=XAt.new (w.alloc (Cc #[Bb x.none,U vs1 x.vars.length vc1,U fs1 x.flds.length fc1] 28)) y vs2 vc2 fs2 fc2;rw[zA] at B0;have hP1:=h1.below hb0 (lR _);have hP2:=h2.below hb0 (lR _);have HS:=aa (ij x.vars y.vars vs1 vc1 vs2 vc2 ((w.alloc (Cc #[Bb x.none,U vs1 x.vars.length vc1,U fs1 x.flds.length fc1] 28)).alloc (Cc #[Bb y.none,U vs2 y.vars.length vc2,U fs2 y.flds.length fc2] 28)) hl1 hP1.1 hP2.1);clear h1 h2;unfold xv;obtain⟨⟨a0,a1,a2⟩,az,-⟩:=id A0;obtain⟨⟨b0,b1,b2⟩,bz,-⟩:=id B0;generalize hxn:x.none=xn at *;generalize hyn:y.none=yn at *;by_cases hn:xn=yn;rotate_left
 ·have HN:Hid (¬x=y):=λe=>hn (by rw[<-hxn,<-hyn,e])
  have hn2:(xn=true/\yn=false)\/(xn=false/\yn=true):=by cases xn<;>cases yn<;>simp_all
  clear hn HS A0 B0 hP1 hP2 hxn hyn a0 a1 a2 az b0 b1 b2 bz;rcases hn2 with⟨rfl,rfl⟩|⟨rfl,rfl⟩
  all_goals
   go_enter Tryz.func31,Tryz.ntmps31;go_wp2;go_ret;exact⟨SameAns.no HN.out,hb0⟩
 have HN:Hid (x.none=y.none):=by show _=_;rw[hxn,hyn,hn]
 subst hn;clear hxn hyn;go_enter Tryz.func31,Tryz.ntmps31
 go_upto_region 1 with fail
 generalize ((w.alloc (Cc #[Bb xn,U vs1 x.vars.length vc1,U fs1 x.flds.length fc1] 28)).alloc (Cc #[Bb xn,U vs2 y.vars.length vc2,U fs2 y.flds.length fc2] 28))=w0 at *;go_wp2_with (go_at_call 67;fail);refine HS.out.mono ?_;rintro e w1 ⟨⟨r1,rfl,HR0⟩,hb1⟩;have HR:=aa HR0;clear HS HR0 a0 a1 a2 az b0 b1 b2 bz;have R1:=hP1.2.below hb1 (lR _);have R2:=hP2.2.below hb1 (lR _);have A1:=A0.call hb1;have B1:=B0.call hb1;have H1:=hb0.trans (hb1.mono hb0.size);clear A0 B0 hP1 hP2 hb0 hb1;obtain⟨⟨a0,a1,a2⟩,az,-⟩:=id A1;obtain⟨⟨b0,b1,b2⟩,bz,-⟩:=id B1;rcases j4 r1 with er|er;rotate_left
 ·have HV:Hid (¬x=y):=λe=>by have h:=HR.out.2 (by rw[e]);rw[er] at h;cases h
  subst er;go_wp2;go_ret;exact⟨SameAns.no HV.out,H1⟩
 have HV:=aa (HR.out.1 er);subst er;by_cases hf:x.flds.length=y.flds.length;rotate_left
 ·have e2:((x.flds.length:Int)!=(y.flds.length:Int))=true:=by simpa using λh=>hf (by omega)
  have HF:Hid (¬x=y):=λe=>hf (by rw[e]);clear hf;go_wp2;go_ret;exact⟨SameAns.no HF.out,H1⟩
 have e2:((x.flds.length:Int)!=(y.flds.length:Int))=false:=by rw[hf];simp
 have HF:=aa hf;clear hf;go_wp2;clear a0 a1 a2 az b0 b1 b2 bz;go_loopw [5] (λi wr=>∃k:Nat,k<=x.flds.length/\i=I Y k/\Hid (x.flds.take k=y.flds.take k)/\Below w1.heap.size w1 wr) (λi _=>x.flds.length - (intOf i).toNat)
 case atStart=>exact⟨0,j1 _,rfl,rfl,bR _ _⟩
 case round=>
  obtain⟨k,hk,rfl,HE,hbr⟩:=hrel;obtain⟨⟨a0,a1,a2⟩,az,-⟩:=id (A1.call hbr);obtain⟨⟨b0,b1,b2⟩,bz,-⟩:=id (B1.call hbr);have hbz:=H1.trans (hbr.mono H1.size);by_cases hlt:k < x.flds.length
  ·have n0:(0:Int)<=(k:Int):=by omega
   have n1:(k:Int) < (x.flds.length:Int):=by omega
   have hlb:k < y.flds.length:=by have:=HF.out;omega
   have n2:(k:Int) < (y.flds.length:Int):=by omega
   obtain⟨p1,q1,rfl,zp1,r1,rc1,C1,k1,m1,J1⟩:=R1.below hbr (lR _) k hlt;obtain⟨p2,q2,rfl,zp2,r2,rc2,C2,k2,m2,J2⟩:=R2.below hbr (lR _) k hlb;have hgl:x.flds[k].length<=maxLen:=lT k1 m1;have HKZ:Hid (∀wx,Below wr.heap.size wr wx->(wx.cell? ⟨w.heap.size,2,nO⟩=sO (U (sO ⟨p1,q1,nO⟩) x.flds.length fc1)/\wx.cell? ⟨p1,q1+k,nO⟩=sO (U r1 x.flds[k].length rc1))/\(wx.cell? ⟨w.heap.size+1,2,nO⟩=sO (U (sO ⟨p2,q2,nO⟩) y.flds.length fc2)/\wx.cell? ⟨p2,q2+k,nO⟩=sO (U r2 y.flds[k].length rc2))):=λwx hx=>⟨⟨by rw[hx.cell (by simp only;exact az)];exact a2,by rw[hx.cell (by simp only;exact zp1)];exact C1⟩,by rw[hx.cell (by simp only;exact bz)];exact b2,by rw[hx.cell (by simp only;exact zp2)];exact C2⟩;have HD:Below wr.heap.size wr wr.drew:=(bR _ _).drew;go_wp2;refine am (S:=(λwx=>(wx.cell? ⟨w.heap.size,2,nO⟩=sO (U (sO ⟨p1,q1,nO⟩) x.flds.length fc1)/\wx.cell? ⟨p1,q1+k,nO⟩=sO (U r1 x.flds[k].length rc1))/\(wx.cell? ⟨w.heap.size+1,2,nO⟩=sO (U (sO ⟨p2,q2,nO⟩) y.flds.length fc2)/\wx.cell? ⟨p2,q2+k,nO⟩=sO (U r2 y.flds[k].length rc2)))) [] (by kernel_rfl) (HKZ.out _ HD) (λhHeld=> ?_);refine vZ 0 ?_ ?_;refine vZ 1 ?_ ?_;refine vZ 2 ?_ ?_;refine vZ 3 ?_ ?_;refine vZ 4 ?_ ?_;refine vZ 5 ?_ ?_;refine vZ 6 ?_ ?_;refine vZ 7 ?_ ?_;refine vZ 8 ?_ ?_;refine vZ 9 ?_ ?_;refine ai (i:=10) rfl (by kernel_rfl) (λK hK=> ?_);go_simp;go_at_call 67;refine(ij x.flds[k] y.flds[k] r1 rc1 r2 rc2 _ hgl (J1.call HD) (J2.call HD)).mono ?_;rintro e w5 ⟨⟨bb,rfl,HBB0⟩,hb5⟩;have HBB:=aa HBB0;clear HBB0;have HB5:Below wr.heap.size wr w5:=HD.trans (hb5.mono HD.size);go_wp2_with fail;refine hK.out _ _ (HKZ.out _ HB5) (λhHeld=> ?_);clear hK K;refine sm ?_;refine vZ 11 ?_ ?_;refine aj (by kernel_rfl) ?_ _;rcases j4 bb with er|er
   ·have HQ:=aa (HBB.out.1 er)
    subst er;exact oJ
   ·have HQ:Hid (¬x=y):=λh=>by have h2:=HBB.out.2 (by subst h;rfl);rw[er] at h2;cases h2
    subst er;go_wp2;go_ret;exact⟨SameAns.no HQ.out,hbz.trans (HB5.mono hbz.size)⟩
  ·have n1:¬(k:Int) < (x.flds.length:Int):=by omega
   go_wp2;go_ret;refine⟨SameAns.yes ?_,hbz⟩;have h:=HE.out;rw[j2 (by omega),j2 (by have:=HF.out;omega)] at h;have h1:=HN.out;have h2:=HV.out;cases x;cases y
   simp_all
end
end Go.Proofs.YtmapdpcfanecdabGreat
