import Derived.Test.YtmapdpcfanecdabGreatDoorU27
open Go.Ending renaming returned→Rt
open Go.IntKind renaming i64→Y
open Go.Obj renaming cells→Cc
open Go.Proofs.Tryz renaming prog→pG
open Go.RowKit.Below renaming heap_setCell→hSe
open Go.Value renaming agg→Ag,bool→Bb,int→I,slice→U,tuple→Tu
open Go.World renaming size_alloc→zA
open List renaming Pairwise→j3,append_nil→q0,filter_cons→j8,filter_nil→j9,getElem_mem→gM,map_append→j5,map_cons→j6,map_nil→j7,mem_cons→j4,mem_filter→j1,mem_map→q1,mem_range→j2,pairwise_lt_range→q3,pairwise_map→q2
open Nat renaming le_refl→lR,le_trans→lT,lt_of_lt_of_le→lL,zero_add→j0
open Option renaming none→nO,some→sO
set_option linter.unusedSimpArgs false
set_option linter.unusedVariables false
set_option maxHeartbeats 8000000
set_option maxRecDepth 100000
namespace Go.Proofs.YtmapdpcfanecdabGreatDoor
section
open Go.RowKit
theorem DY (V F:Int)(s:oA)(c:lI)(cap:Nat)(g:Gs)(ss:oA)(gc:Nat)(w:World)(hcd:CodeAt w s c)(hs:IntsAt w ss g.s)(h1:g.s.length<=gc)(h2:gc<=maxLen):
  Calls pG 140 #[pv V F s c cap,gv g ss gc] w λe w'=>e=Rt (I Y (aY V F c [g]))/\bl w w':=by
 have B0:Below w.heap.size w (pgW w V F s c cap g ss gc):=ai;have L0:=GsAt.new1 (pgW w V F s c cap g ss gc) g ss gc ((hs.alloc _).alloc _) h1 h2;simp only[zA] at L0;have HC:=ae (cc V F s c cap (sO ⟨w.heap.size+1+1,0,nO⟩) [g] 1 _ (((hcd.alloc _).alloc _).alloc _) L0 ah);generalize aY V F c [g]=ce at HC |-;clear hcd hs L0;go_enter Tryz.func140,Tryz.ntmps140;go_wp2_with fail;refine HC.out.mono ?_;rintro e w1 ⟨rfl,hb1⟩;go_wp2;go_ret;exact⟨rfl,(B0.alloc B0.size _).trans (hb1.mono an)⟩

theorem In (V F:Int)(s:oA)(c:lI)(cap:Nat)(g:Gs)(ss:oA)(gc:Nat)(h:Gs)(st:oA)(hc:Nat)(w:World)
  (hcd:CodeAt w s c)(hs:IntsAt w ss g.s)(h1:g.s.length<=gc)(h2:gc<=maxLen)(ht:IntsAt w st h.s)(h3:h.s.length<=hc)(h4:hc<=maxLen)(hck:aY V F c [g,h]=0)(hlen:([g,h].flatMap Gs.s).length<=1000000):
  Calls pG 72 #[pv V F s c cap,gv g ss gc,gv h st hc] w λe w'=>∃v,e=Rt (Tu #[Ag #[Bb (g.n||h.n),Bb (bi g.sp h.sp).n,I Y (bi g.sp h.sp).lo,I Y (bi g.sp h.sp).hi,Bb (g.t||h.t),Bb (g.f||h.f),v],I Y 0])/\w'.ownsRow w.heap.size 3 1 v (cA [g,h]).length ((cA [g,h]).map (.int .i64))/\bl w w':=by
 obtain⟨P0,G0,H0,R0,F0⟩:=dP w V F s c cap g ss gc h st hc;have B0:=cU w V F s c cap g ss gc h st hc;have C0:CodeAt (bN w V F s c cap g ss gc h st hc) s c:=hcd.below B0 (lR _);have I0:IntsAt (bN w V F s c cap g ss gc h st hc) ss g.s:=hs.below B0 (lR _);have J0:IntsAt (bN w V F s c cap g ss gc h st hc) st h.s:=ht.below B0 (lR _);have HT:=ae (uT V F s c cap g ss gc h st hc _ C0 I0 h1 h2 J0 h3 h4 hck hlen);clear hck hlen hcd hs ht P0 G0 H0 C0 I0 J0;generalize bi g.sp h.sp=J at HT |-;generalize cA [g,h]=T at HT |-;go_enter Tryz.func72,Tryz.ntmps72;go_wp2_with fail;refine HT.out.mono ?_;rintro e w1 ⟨v,rfl,hown,hb1⟩;have R1:=R0.call hb1;have F1:Fr7 w1 (w.heap.size+1+1+1):=F0.call hb1;have B1:bl w w1:=B0.trans (hb1.mono B0.size);simp only[zA] at hown;have O1:=hown;obtain⟨vs,vc,rfl,-,-,-,-⟩:=IntsAt.own hown;clear hb1 R0 F0 B0 HT hown;obtain⟨⟨r0,r1,r2,r3,r4,r5,r6⟩,rz⟩:=id R1;simp only[j0,bC] at r0 r1 r2 r3 r4 r5 r6;have fz:=F1.1;go_wp2;refine bodyPost_ret (v:=Tu #[Ag #[Bb (g.n||h.n),Bb J.n,I Y J.lo,I Y J.hi,Bb (g.t||h.t),Bb (g.f||h.f),U vs T.length vc],I Y 0]) (by simp[results,Tryz.results72,go_sem,r0,r1,r2,r3,r4,r5,r6]) rfl ⟨_,rfl,?_,?_⟩
 ·exact eZ (e8 O1 aa) aa
 ·exact bo B1 aa

theorem KK (V F:Int)(s:oA)(c:lI)(cap:Nat)(g:Gs)(ss:oA)(gc:Nat)(h:Gs)(st:oA)(hc:Nat)(w:World)
  (hcd:CodeAt w s c)(hs:IntsAt w ss g.s)(h1:g.s.length<=gc)(h2:gc<=maxLen)(ht:IntsAt w st h.s)(h3:h.s.length<=hc)(h4:hc<=maxLen)(hck:aY V F c [g,h]=0)(hlen:([g,h].flatMap Gs.s).length<=1000000):
  Calls pG 73 #[pv V F s c cap,gv g ss gc,gv h st hc] w λe w'=>∃v,e=Rt (Tu #[Ag #[Bb (g.n||h.n),Bb (bq g.sp h.sp).n,I Y (bq g.sp h.sp).lo,I Y (bq g.sp h.sp).hi,Bb (g.t||h.t),Bb (g.f||h.f),v],I Y 0])/\w'.ownsRow w.heap.size 3 1 v (cA [g,h]).length ((cA [g,h]).map (.int .i64))/\bl w w':=by
 obtain⟨P0,G0,H0,R0,F0⟩:=dP w V F s c cap g ss gc h st hc;have B0:=cU w V F s c cap g ss gc h st hc;have C0:CodeAt (bN w V F s c cap g ss gc h st hc) s c:=hcd.below B0 (lR _);have I0:IntsAt (bN w V F s c cap g ss gc h st hc) ss g.s:=hs.below B0 (lR _);have J0:IntsAt (bN w V F s c cap g ss gc h st hc) st h.s:=ht.below B0 (lR _);have HT:=ae (uU V F s c cap g ss gc h st hc _ C0 I0 h1 h2 J0 h3 h4 hck hlen);clear hck hlen hcd hs ht P0 G0 H0 C0 I0 J0;generalize bq g.sp h.sp=J at HT |-;generalize cA [g,h]=T at HT |-;go_enter Tryz.func73,Tryz.ntmps73;go_wp2_with fail;refine HT.out.mono ?_;rintro e w1 ⟨v,rfl,hown,hb1⟩;have R1:=R0.call hb1;have F1:Fr7 w1 (w.heap.size+1+1+1):=F0.call hb1;have B1:bl w w1:=B0.trans (hb1.mono B0.size);simp only[zA] at hown;have O1:=hown;obtain⟨vs,vc,rfl,-,-,-,-⟩:=IntsAt.own hown;clear hb1 R0 F0 B0 HT hown;obtain⟨⟨r0,r1,r2,r3,r4,r5,r6⟩,rz⟩:=id R1;simp only[j0,bC] at r0 r1 r2 r3 r4 r5 r6;have fz:=F1.1;go_wp2;refine bodyPost_ret (v:=Tu #[Ag #[Bb (g.n||h.n),Bb J.n,I Y J.lo,I Y J.hi,Bb (g.t||h.t),Bb (g.f||h.f),U vs T.length vc],I Y 0]) (by simp[results,Tryz.results73,go_sem,r0,r1,r2,r3,r4,r5,r6]) rfl ⟨_,rfl,?_,?_⟩
 ·exact eZ (e8 O1 aa) aa
 ·exact bo B1 aa
abbrev mM (w:World)(V F:Int)(s:oA)(c:lI)(cap:Nat)(g:Gs)(ss:oA)(gc:Nat)(h:Gs)(st:oA)(hc:Nat):World:=
 ((w.alloc (Cc #[I Y V,I Y F,U s c.length cap] 24)).alloc (Cc #[Bb g.n,Bb g.sp.n,I Y g.sp.lo,I Y g.sp.hi,Bb g.t,Bb g.f,U ss g.s.length gc] 91)).alloc (Cc #[Bb h.n,Bb h.sp.n,I Y h.sp.lo,I Y h.sp.hi,Bb h.t,Bb h.f,U st h.s.length hc] 91)
theorem CT (w:World)(V F:Int)(s:oA)(c:lI)(cap:Nat)(g:Gs)(ss:oA)(gc:Nat)(h:Gs)(st:oA)(hc:Nat):
  GuAt (mM w V F s c cap g ss gc h st hc) (w.heap.size+1) 0 g ss gc/\GuAt (mM w V F s c cap g ss gc h st hc) (w.heap.size+1+1) 0 h st hc/\bl w (mM w V F s c cap g ss gc h st hc):=by
 refine⟨?_,?_,ai⟩
 ·have:=GuAt.new (w.alloc (Cc #[I Y V,I Y F,U s c.length cap] 24)) g ss gc
  rw[zA] at this;exact this.alloc _
 ·have:=GuAt.new ((w.alloc (Cc #[I Y V,I Y F,U s c.length cap] 24)).alloc (Cc #[Bb g.n,Bb g.sp.n,I Y g.sp.lo,I Y g.sp.hi,Bb g.t,Bb g.f,U ss g.s.length gc] 91)) h st hc
  simp only[zA] at this;exact this

theorem gp {a c:Bool}{b d:Int}(h:a=c)(h':b=d):Ending.returned (Tu #[Bb a,I Y b])=Rt (Tu #[Bb c,I Y d]):=by rw[h,h']
theorem fu (a b:Bool):(a=true/\b=false)\/a=false\/(a=true/\b=true):=by cases a<;>cases b<;>simp

theorem Ih {s t:Sp}(hs:s.Ok)(ht:t.Ok):@decide _ ((aF s t).dq s)=dX s t:=by
 obtain⟨n,lo,hi⟩:=s;obtain⟨n',lo',hi'⟩:=t;obtain⟨-,-,hz,hl⟩:=hs;obtain⟨-,-,hz',hl'⟩:=ht;cases n with
 |true=>
  obtain⟨h1,h2⟩:=hz rfl;simp only at h1 h2;subst h1 h2;rfl
 |false=>
  cases n' with
  |true=>
   have e0:aF ⟨false,lo,hi⟩ ⟨true,lo',hi'⟩=⟨true,0,0⟩:=rfl;rw[e0];simp[dX,Sp.has]
  |false=>
   simp only at hl hl';rw[Bool.eq_iff_iff,@decide_eq_true_eq _ (Sp.dq _ _)];unfold aF dX Sp.has;simp only[Bool.false_or,Bool.not_false,Bool.true_and,decide_eq_true_eq,Bool.and_eq_true];constructor
   ·intro h
    split at h
    ·cases h
    ·simp only[Sp.mk.injEq,true_and] at h
     omega
   ·intro h
    rw[if_neg aa];simp only[Sp.mk.injEq,true_and];omega

theorem Co (V F:Int)(s:oA)(c:lI)(cap:Nat)(g:Gs)(ss:oA)(gc:Nat)(h:Gs)(st:oA)(hc:Nat)(w:World)
  (hcd:CodeAt w s c)(hs:IntsAt w ss g.s)(h1:g.s.length<=gc)(h2:gc<=maxLen)(ht:IntsAt w st h.s)(h3:h.s.length<=hc)(h4:hc<=maxLen)(hck:aY V F c [g,h]≠0):
  Calls pG 161 #[pv V F s c cap,gv g ss gc,gv h st hc] w λe w'=>e=Rt (Tu #[Bb false,I Y (aY V F c [g,h])])/\bl w w':=by
 obtain⟨G0,H0,B0⟩:=CT w V F s c cap g ss gc h st hc;have I0:IntsAt (mM w V F s c cap g ss gc h st hc) ss g.s:=hs.below B0 (lR _);have J0:IntsAt (mM w V F s c cap g ss gc h st hc) st h.s:=ht.below B0 (lR _);have L0:=GsAt.new2 (mM w V F s c cap g ss gc h st hc) g ss gc h st hc I0 h1 h2 J0 h3 h4;simp only[zA] at L0;have HC:=ae (cc V F s c cap (sO ⟨w.heap.size+1+1+1,0,nO⟩) [g,h] 2 _ ((hcd.below B0 (lR _)).alloc _) L0 ah);have hne:(aY V F c [g,h]!=0)=true:=by simpa using hck
 generalize aY V F c [g,h]=ce at HC hne |-;clear hck hcd hs ht I0 J0 L0 G0 H0;go_enter Tryz.func161,Tryz.ntmps161;go_wp2_with fail;refine HC.out.mono ?_;rintro e w1 ⟨rfl,hb1⟩;go_wp2
 go_ret2
 exact⟨rfl,(B0.alloc B0.size _).trans (hb1.mono an)⟩

theorem eE {p:Prop}(h:p:=by
 rintro e w2 ⟨rfl,hb2⟩;rw[rI];have G2:=G1.call hb2;have H2:=H1.call hb2;have B2:=B1.trans (hb2.mono B1.size);clear hb2 G1 H1 B1 I1 J1 g0 g1 g2 g3 g4 g5 g6 gz k0 k1 k2 k3 k4 k5 k6 kz;obtain⟨⟨g0,g1,g2,g3,g4,g5,g6⟩,gz⟩:=id G2;obtain⟨⟨k0,k1,k2,k3,k4,k5,k6⟩,kz⟩:=id H2;simp only[Nat.zero_add] at g0 g1 g2 g3 g4 g5 g6 k0 k1 k2 k3 k4 k5 k6;generalize hA:(sl.all λx=>h'.contains x)=al at *;have HA:=ae hA;clear hA;cases al with
 |false=>
  go_wp2
  go_ret2
  exact⟨gp gD rfl,B2⟩
 |true=>
  go_wp2_with fail;refine(HW.out _).mono ?_;rintro e w3 ⟨rfl,hb3⟩;go_wp2
  go_ret2
  exact⟨gp gD rfl,B2.trans (hb3.mono B2.size)⟩):p:=h
theorem sZ (V F:Int)(s:oA)(c:lI)(cap:Nat)(g:Gs)(ss:oA)(gc:Nat)(h:Gs)(st:oA)(hc:Nat)(w:World)
  (hcd:CodeAt w s c)(hs:IntsAt w ss g.s)(h1:g.s.length<=gc)(h2:gc<=maxLen)(ht:IntsAt w st h.s)(h3:h.s.length<=hc)(h4:hc<=maxLen)(hck:aY V F c [g,h]=0):
  Calls pG 161 #[pv V F s c cap,gv g ss gc,gv h st hc] w λe w'=>e=Rt (Tu #[Bb (c7 g h),I Y 0])/\bl w w':=by
 obtain⟨G0,H0,B0⟩:=CT w V F s c cap g ss gc h st hc;have I0:IntsAt (mM w V F s c cap g ss gc h st hc) ss g.s:=hs.below B0 (lR _);have J0:IntsAt (mM w V F s c cap g ss gc h st hc) st h.s:=ht.below B0 (lR _);have L0:=GsAt.new2 (mM w V F s c cap g ss gc h st hc) g ss gc h st hc I0 h1 h2 J0 h3 h4;simp only[zA] at L0;have HC:=ae (cc V F s c cap (sO ⟨w.heap.size+1+1+1,0,nO⟩) [g,h] 2 _ ((hcd.below B0 (lR _)).alloc _) L0 ah);obtain⟨hos,hot⟩:=ckSps_ok.1 (dS hck);have hW:=λw=>Ek g.sp h.sp w;rw[dS hck,show (decide ((0:Int)=0)&&@decide _ ((aF g.sp h.sp).dq g.sp))=dX g.sp h.sp by rw[Ih hos hot];rfl] at hW;have HW:=ae hW;have hgl:g.s.length<=9223372036854775807:=by unfold maxLen at h2;omega
 have hlt:h.s.length<=9223372036854775807:=by unfold maxLen at h4;omega
 have HR:Hid (c7 g h=(!(g.n&& !h.n)&&(!(g.t&& !h.t)&&(!(g.f&& !h.f)&&(dX g.sp h.sp&&g.s.all λx=>h.s.contains x))))):=rfl;generalize c7 g h=res at HR |-;generalize dX g.sp h.sp=si at HR HW;rw[hck] at HC;clear hck hcd hs ht L0 hW hos hot;go_enter Tryz.func161,Tryz.ntmps161;go_wp2_with fail;refine HC.out.mono ?_;rintro e w1 ⟨rfl,hb1⟩;have G1:=(G0.alloc _).call hb1;have H1:=(H0.alloc _).call hb1;have I1:=(I0.alloc _).call hb1;have J1:=(J0.alloc _).call hb1;have B1:bl w w1:=(B0.alloc B0.size _).trans (hb1.mono an);clear hb1 G0 H0 I0 J0 B0 HC;obtain⟨⟨g0,g1,g2,g3,g4,g5,g6⟩,gz⟩:=id G1;obtain⟨⟨k0,k1,k2,k3,k4,k5,k6⟩,kz⟩:=id H1;simp only[j0] at g0 g1 g2 g3 g4 g5 g6 k0 k1 k2 k3 k4 k5 k6;obtain⟨n,sp,t,f,sl⟩:=g;obtain⟨n',sp',t',f',h'⟩:=h;simp only at hgl hlt;rcases fu n n' with⟨rfl,rfl⟩|rfl|⟨rfl,rfl⟩
 ·go_wp2
  go_ret2
  exact⟨gp fi rfl,B1⟩
 ·rcases fu t t' with⟨rfl,rfl⟩|rfl|⟨rfl,rfl⟩
  ·go_wp2
   go_ret2
   exact⟨gp fi rfl,B1⟩
  ·rcases fu f f' with⟨rfl,rfl⟩|rfl|⟨rfl,rfl⟩
   ·go_wp2
    go_ret2
    exact⟨gp fi rfl,B1⟩
   ·go_wp2_with fail
    refine(cH (w.heap.size+1+1) (λx=> !h'.contains x) ss gc sl _ aa I1 λx wx hbx=>fO x _ ⟨n',sp',t',f',h'⟩ st hc wx (H1.call hbx) (J1.call hbx) dm).mono ?_;exact eE
   ·go_wp2_with fail
    refine(cH (w.heap.size+1+1) (λx=> !h'.contains x) ss gc sl _ aa I1 λx wx hbx=>fO x _ ⟨n',sp',t',true,h'⟩ st hc wx (H1.call hbx) (J1.call hbx) dm).mono ?_;exact eE
  ·rcases fu f f' with⟨rfl,rfl⟩|rfl|⟨rfl,rfl⟩
   ·go_wp2
    go_ret2
    exact⟨gp fi rfl,B1⟩
   ·go_wp2_with fail
    refine(cH (w.heap.size+1+1) (λx=> !h'.contains x) ss gc sl _ aa I1 λx wx hbx=>fO x _ ⟨n',sp',true,f',h'⟩ st hc wx (H1.call hbx) (J1.call hbx) dm).mono ?_;exact eE
   ·go_wp2_with fail
    refine(cH (w.heap.size+1+1) (λx=> !h'.contains x) ss gc sl _ aa I1 λx wx hbx=>fO x _ ⟨n',sp',true,true,h'⟩ st hc wx (H1.call hbx) (J1.call hbx) dm).mono ?_;exact eE
 ·rcases fu t t' with⟨rfl,rfl⟩|rfl|⟨rfl,rfl⟩
  ·go_wp2
   go_ret2
   exact⟨gp fi rfl,B1⟩
  ·rcases fu f f' with⟨rfl,rfl⟩|rfl|⟨rfl,rfl⟩
   ·go_wp2
    go_ret2
    exact⟨gp fi rfl,B1⟩
   ·go_wp2_with fail
    refine(cH (w.heap.size+1+1) (λx=> !h'.contains x) ss gc sl _ aa I1 λx wx hbx=>fO x _ ⟨true,sp',t',f',h'⟩ st hc wx (H1.call hbx) (J1.call hbx) dm).mono ?_;exact eE
   ·go_wp2_with fail
    refine(cH (w.heap.size+1+1) (λx=> !h'.contains x) ss gc sl _ aa I1 λx wx hbx=>fO x _ ⟨true,sp',t',true,h'⟩ st hc wx (H1.call hbx) (J1.call hbx) dm).mono ?_;exact eE
  ·rcases fu f f' with⟨rfl,rfl⟩|rfl|⟨rfl,rfl⟩
   ·go_wp2
    go_ret2
    exact⟨gp fi rfl,B1⟩
   ·go_wp2_with fail
    refine(cH (w.heap.size+1+1) (λx=> !h'.contains x) ss gc sl _ aa I1 λx wx hbx=>fO x _ ⟨true,sp',true,f',h'⟩ st hc wx (H1.call hbx) (J1.call hbx) dm).mono ?_;exact eE
   ·go_wp2_with fail
    refine(cH (w.heap.size+1+1) (λx=> !h'.contains x) ss gc sl _ aa I1 λx wx hbx=>fO x _ ⟨true,sp',true,true,h'⟩ st hc wx (H1.call hbx) (J1.call hbx) dm).mono ?_;exact eE
theorem Fy {V F:Int}{c:lI}{g:Gs}(hk:aY V F c [g]=0):aw V F c=0/\aE c g=0:=by
 unfold aY at hk;by_cases h0:aw V F c=0
 ·rw[if_pos h0] at hk
  have e:bZ c [g]=if aE c g=0 then 0 else aE c g:=rfl
  rw[e] at hk;by_cases hg:aE c g=0
  ·exact⟨h0,hg⟩
  ·rw[if_neg hg] at hk;exact absurd hk hg
 ·rw[if_neg h0] at hk;exact absurd hk h0
theorem iI {c:lI}{g:Gs}(h:aE c g=0):cu g.sp=0:=by
 unfold aE at h;split at h
 ·assumption
 ·rename_i hn;exact Decidable.not_not.1 hn
theorem Mk (w:World)(V F:Int)(s:oA)(c:lI)(cap:Nat)(g:Gs)(ss:oA)(gc:Nat):GuAt (pgW w V F s c cap g ss gc) (w.heap.size+1) 0 g ss gc/\bl w (pgW w V F s c cap g ss gc):=by
 refine⟨?_,ai⟩;have:=GuAt.new (w.alloc (Cc #[I Y V,I Y F,U s c.length cap] 24)) g ss gc;rw[zA] at this;exact this

theorem Gf (V F:Int)(s:oA)(c:lI)(cap:Nat)(g:Gs)(ss:oA)(gc:Nat)(w:World)(hcd:CodeAt w s c)(hs:IntsAt w ss g.s)(h1:g.s.length<=gc)(h2:gc<=maxLen)(hck:aY V F c [g]=0):
  Calls pG 160 #[pv V F s c cap,gv g ss gc] w λe w'=>e=Rt (Tu #[Bb (b8 g),Bb (cF g),I Y 0])/\bl w w':=by
 obtain⟨G0,B0⟩:=Mk w V F s c cap g ss gc;have I0:IntsAt (pgW w V F s c cap g ss gc) ss g.s:=hs.below B0 (lR _);have L0:=GsAt.new1 (pgW w V F s c cap g ss gc) g ss gc I0 h1 h2;simp only[zA] at L0;have HC:=ae (cc V F s c cap (sO ⟨w.heap.size+1+1,0,nO⟩) [g] 1 _ ((hcd.below B0 (lR _)).alloc _) L0 ah);have HT:=ae (λw=>uf g ss gc w (iI (Fy hck).2));rw[hck] at HC;generalize b8 g=y at HT |-;generalize cF g=n at HT |-;clear hck hcd hs I0 L0;go_enter Tryz.func160,Tryz.ntmps160;go_wp2_with fail;refine HC.out.mono ?_;rintro e w1 ⟨rfl,hb1⟩;have G1:=(G0.alloc _).call hb1;have B1:bl w w1:=(B0.alloc B0.size _).trans (hb1.mono an);clear hb1 HC G0 B0;obtain⟨⟨g0,g1,g2,g3,g4,g5,g6⟩,gz⟩:=id G1;simp only[j0] at g0 g1 g2 g3 g4 g5 g6;go_wp2_with fail;refine(HT.out _).mono ?_;rintro e w2 ⟨rfl,hb2⟩;go_wp2
 go_ret3
 exact⟨rfl,B1.trans (hb2.mono B1.size)⟩
theorem GuAt.grown {w w':World}{vb:Option Nat}{b o:Nat}{g:Gs}{ss:oA}{cap:Nat}(hg:w.grownBy w' vb)(h:GuAt w b o g ss cap)(hne:sO b≠vb):GuAt w' b o g ss cap:=by
 obtain⟨⟨h0,h1,h2,h3,h4,h5,h6⟩,hz⟩:=h;have hk:=hg.block b hz hne;have c:∀j,w'.cell? ⟨b,j,nO⟩=w.cell? ⟨b,j,nO⟩:=λj=>World.cell?_of_block (a:=⟨b,j,nO⟩) hk;exact⟨⟨by rw[c];exact h0,by rw[c];exact h1,by rw[c];exact h2,by rw[c];exact h3,by rw[c];exact h4,by rw[c];exact h5,by rw[c];exact h6⟩,lL hz hg.size⟩
theorem Fr7.grown {w w':World}{vb:Option Nat}{b:Nat}(hg:w.grownBy w' vb)(h:Fr7 w b)(hne:sO b≠vb):Fr7 w' b:=by
 have hk:=hg.block b h.2 hne;exact⟨λj=>by rw[World.frozen?_of_block (a:=⟨b,j,nO⟩) hk];exact h.1 j,lL h.2 hg.size⟩
theorem GuAt.setFar {w:World}{b b' o j:Nat}{g:Gs}{ss:oA}{cap:Nat}{v:Value}(h:GuAt w b o g ss cap)(hne:b≠b'):GuAt (w.setCell ⟨b',j,nO⟩ v) b o g ss cap:=by
 obtain⟨⟨h0,h1,h2,h3,h4,h5,h6⟩,hz⟩:=h;have c:∀i,(w.setCell ⟨b',j,nO⟩ v).cell? ⟨b,i,nO⟩=w.cell? ⟨b,i,nO⟩:=λi=>World.cell?_setCell_far _ ⟨b',j,nO⟩ ⟨b,i,nO⟩ _ (λe=>hne e.symm);exact⟨⟨by rw[c];exact h0,by rw[c];exact h1,by rw[c];exact h2,by rw[c];exact h3,by rw[c];exact h4,by rw[c];exact h5,by rw[c];exact h6⟩,d9⟩
theorem GuAt.setS {w:World}{b:Nat}{g:Gs}{ss ss':oA}{cap cap':Nat}{s':List Int}(h:GuAt w b 0 g ss cap):GuAt (w.setCell ⟨b,6,nO⟩ (U ss' s'.length cap')) b 0 ⟨g.n,g.sp,g.t,g.f,s'⟩ ss' cap':=by
 obtain⟨⟨h0,h1,h2,h3,h4,h5,h6⟩,hz⟩:=h;simp only[j0] at h0 h1 h2 h3 h4 h5 h6;refine⟨?_,d9⟩;simp[go_sem,h0,h1,h2,h3,h4,h5,h6]
theorem Fr7.set {w:World}{b b' j:Nat}{v:Value}(h:Fr7 w b):Fr7 (w.setCell ⟨b',j,nO⟩ v) b:=⟨λi=>by simp[go_sem,h.1 i],by simpa using h.2⟩
theorem lG {w:World}{B n b j z:Nat}{e:TypeId}{v u:Value}{xs:List Value}(h:w.ownsRow B e z v n xs)(hb:b < B):(w.setCell ⟨b,j,nO⟩ u).ownsRow B e z v n xs:=
 ⟨h.1,h.2.imp id λ⟨g,cap,cur,r1,r2,r3,r4⟩=>⟨g,cap,cur,r1,r2,by rw[hSe _ _ _ _ (by show g≠b;omega)];exact r3,r4⟩⟩

def bF (a b:List Int)(k:Nat):List Int:=((List.range k).map λn:Nat=>(n:Int)).filter λx=>a.contains x||b.contains x
theorem Cn (a b:List Int)(k:Nat):bF a b (k+1)=bF a b k++(if (a.contains (k:Int)||b.contains (k:Int))=true then [(k:Int)] else []):=by
 unfold bF;rw[List.range_succ,j5,List.filter_append];congr 1;by_cases h:(a.contains (k:Int)||b.contains (k:Int))=true
 ·simp only[j6,j7,j8,h,if_true,j9]
 ·simp only[j6,j7,j8,h,if_false,j9,Bool.false_eq_true]
theorem DV (a b:List Int)(k:Nat):(bF a b k).length<=k:=by
 unfold bF;exact lT (List.length_filter_le _ _) ah
def Es (w:World)(g:Gs)(ss:oA)(gc:Nat)(h:Gs)(st:oA)(hc:Nat)(w':World):Prop:=
 (w'.cell? ⟨w.heap.size,0,nO⟩=sO (Bb g.n)/\w'.cell? ⟨w.heap.size,1,nO⟩=sO (Bb g.sp.n)/\w'.cell? ⟨w.heap.size,2,nO⟩=sO (I Y g.sp.lo)/\w'.cell? ⟨w.heap.size,3,nO⟩=sO (I Y g.sp.hi)/\w'.cell? ⟨w.heap.size,4,nO⟩=sO (Bb g.t)/\w'.cell? ⟨w.heap.size,5,nO⟩=sO (Bb g.f)/\w'.cell? ⟨w.heap.size,6,nO⟩=sO (U ss g.s.length gc))/\
 (w'.cell? ⟨w.heap.size+1,0,nO⟩=sO (Bb h.n)/\w'.cell? ⟨w.heap.size+1,1,nO⟩=sO (Bb h.sp.n)/\w'.cell? ⟨w.heap.size+1,2,nO⟩=sO (I Y h.sp.lo)/\w'.cell? ⟨w.heap.size+1,3,nO⟩=sO (I Y h.sp.hi)/\w'.cell? ⟨w.heap.size+1,4,nO⟩=sO (Bb h.t)/\w'.cell? ⟨w.heap.size+1,5,nO⟩=sO (Bb h.f)/\w'.cell? ⟨w.heap.size+1,6,nO⟩=sO (U st h.s.length hc))
theorem sI {p:Prop}(h:p:=by
 have hln:=HL.out k;go_wp2_with (at_builtin;refine wpList_append_own _ rfl _ _ 34 rfl W.heap.size 3 ti (.int .i64 0) 1 8 Tryz.underlying34 hi hz0 hz1 hz2 rfl aj _ _ _ rfl (OR.alloc _) ⟨wr.heap.size,0,none⟩ 1 1 [.int .i64 (k:Int)] rfl rfl (cell_one_new _ _ _) (λx hx=>mf) dg aa an ?_;intro v' w3 hown' hgrow3 hnil3;have hlow:∀b,b < W.heap.size->some b≠(Value.slice vs (bF sl h.s k).length vc).ownBlock:=(λb hb e=>by have:=kU OR e.symm;omega);have O3:w3.ownsRow W.heap.size 3 1 v' (bF sl h.s (k+1)).length ((bF sl h.s (k+1)).map (.int .i64)):=(by rw[HT.out,List.map_append,List.length_append];exact hown');obtain⟨vs',vc',hv',-⟩:=IntsAt.own O3;subst hv';have G3:=((GR.alloc _).grown hgrow3 (hlow _ aa));have H3:=((HR.alloc _).grown hgrow3 (hlow _ aa));have R3:=((RR.alloc _).grown hgrow3 (hlow _ aa));have F3:=((FR.alloc _).grown hgrow3 (hlow _ aa));have U3:=((UR.alloc _).grown hgrow3 (hlow _ aa));have X3:=((XR.alloc _).grown hgrow3 (hlow _ aa));have B3:=((BR.alloc BR.size _).grown hgrow3 (by simp;have:=BR.size;omega) (λj hj=>by have:=kU OR hj;omega));have z3:=hgrow3.size;simp only[World.size_alloc] at z3;obtain⟨⟨u0,u1,u2,u3,u4,u5,u6⟩,uz⟩:=id U3;simp only[Nat.zero_add] at u0 u1 u2 u3 u4 u5 u6;have fz3:=X3.1);go_roundw
 case rel=>exact⟨k+1,vs',vc',aa,aJ,G3.setFar aa,H3.setFar aa,R3.setFar aa,F3.set,U3.setS,X3.set,lG O3 aa,an,B3.setCell (by show w.heap.size<=ob;omega) _⟩
 case measure=>simp[intOf];omega):p:=h
theorem td {p:Prop}(h:p:=by
 go_wp2_with fail;refine(rZ (k:Int) ss gc sl _ hgl IR).mono ?_;rintro e w5 ⟨rfl,hw5⟩;have hw6:=hw5.symm;subst hw6;have HD:Hid (sl.contains (k:Int)=sl.contains (k:Int)):=rfl;generalize hd:sl.contains (k:Int)=d at *;have HE:=ae hd;clear hd HD hw5;cases d with
 |true=>
  have HT:Hid (bF sl h.s (k+1)=bF sl h.s k++[(k:Int)]):=by show _=_;rw[HS.out k,if_pos];simp only[HE.out,Bool.true_or]
  exact sI
 |false=>
  go_wp2_with fail;refine(rZ (k:Int) st hc h.s _ hlt' JR).mono ?_;rintro e w5 ⟨rfl,hw5⟩;have hw6:=hw5.symm;subst hw6;generalize hd2:h.s.contains (k:Int)=d2 at *;have HE2:=ae hd2;clear hd2 hw5;cases d2 with
  |true=>
   have HT:Hid (bF sl h.s (k+1)=bF sl h.s k++[(k:Int)]):=by show _=_;rw[HS.out k,if_pos];simp only[HE.out,HE2.out,Bool.false_or]
   exact sI
  |false=>
   have HT:Hid (bF sl h.s (k+1)=bF sl h.s k):=by show _=_;rw[HS.out k,if_neg (by simp only[HE.out,HE2.out];simp),List.append_nil]
   go_wp2;go_roundw
   case rel=>exact⟨k+1,vs,vc,aa,aJ,GR,HR,RR,FR,by rw[HT.out];exact UR,XR,by rw[HT.out];exact OR,zR,BR⟩
   case measure=>simp[intOf];omega):p:=h
theorem sC {p:Prop}(h:p:=by
 have HS:=ae (Cn g.s h.s);have HL:=ae (DV g.s h.s);clear G0 H0 B0;go_enter Tryz.func114,Tryz.ntmps114;go_wp2;generalize ((w.alloc (.cells #[.bool g.n,.bool g.sp.n,.int .i64 g.sp.lo,.int .i64 g.sp.hi,.bool g.t,.bool g.f,.slice ss g.s.length gc] 91)).alloc (.cells #[.bool h.n,.bool h.sp.n,.int .i64 h.sp.lo,.int .i64 h.sp.hi,.bool h.t,.bool h.f,.slice st h.s.length hc] 91)).alloc (.cells #[.bool false,.bool false,.int .i64 0,.int .i64 0,.bool false,.bool false,.slice none 0 0] 91)=w1 at *;have KS:∀wx,GuAt wx w.heap.size 0 g ss gc->GuAt wx (w.heap.size+1) 0 h st hc->Es w g ss gc h st hc wx:=λwx a b=>⟨by simpa using a.1,by simpa using b.1⟩;unfold Es at KS;obtain⟨n,sp,t,f,sl⟩:=g;refine wp_region_held_drew (S:=Es w ⟨n,sp,t,f,sl⟩ ss gc h st hc) ag (KS _ G1.drew H1.drew) (λhHeld=> ?_);unfold Es at hHeld |-;refine vH 0 ?_ ?_;refine vH 1 ?_ ?_;refine vH 2 ?_ ?_;refine wpAnyH_take (i:=3) (v:=if n=true then undef else .pointer (some ⟨w.heap.size+1,0,none⟩)) rfl ag ag ag (λ_ _ _ h=>h) ?_ cl ?_
 ·cases n
  ·refine Or.inl ⟨?_,?_⟩
   ·rfl
   ·(intro w hSw;(try dsimp only at hSw);first|(go_simp;done)|(go_simp;with_reducible rfl))
  ·exact Or.inr ⟨rfl,rfl⟩
 refine sm ?_;refine wpAnyH_take (i:=4) (v:=if n=true then undef else .bool h.n) rfl ag ag ag (λ_ _ _ h=>h) ?_ cl ?_
 ·cases n
  ·refine Or.inl ⟨?_,?_⟩
   ·rfl
   ·(intro w hSw;(try dsimp only at hSw);first|(go_simp;done)|(go_simp;with_reducible rfl))
  ·exact Or.inr ⟨rfl,rfl⟩
 refine sm ?_;refine wpAnyH_take (i:=5) (v:=.bool (n||h.n)) rfl ag ag ag (λ_ _ _ h=>h) ?_ cl ?_
 ·cases n
  ·refine Or.inl ⟨?_,?_⟩
   ·rfl
   ·(intro w hSw;(try dsimp only at hSw);first|(go_simp;done)|(go_simp;with_reducible rfl))
  ·refine Or.inl ⟨?_,?_⟩
   ·rfl
   ·(intro w hSw;(try dsimp only at hSw);first|(go_simp;done)|(go_simp;with_reducible rfl))
 refine sm ?_;refine vH 6 ?_ ?_;refine vH 7 ?_ ?_;refine vH 8 ?_ ?_;refine vH 9 ?_ ?_;refine vH 10 ?_ ?_;refine vH 12 ?_ ?_;refine vH 13 ?_ ?_;refine vH 18 ?_ ?_;refine vH 19 ?_ ?_;refine wpAnyH_ready (rs:=[11,25]) ag ah ?_;refine AllReadyH.cons rfl (λK hK=> ?_) (AllReadyH.cons rfl (λK hK=> ?_) AllReadyH.nil)
 ·go_simp
  refine(HJ.out _).mono ?_;rintro e w2 ⟨rfl,hb2⟩;have G2:=G1.drew.call hb2;have H2:=H1.drew.call hb2;have R2:=R1.drew.call hb2;have F2:=F1.drew.call hb2;have B2:bl w w2:=B1.drew.trans (hb2.mono B1.size);clear hb2 G1 H1 R1 F1 B1;refine hK.out _ _ (KS _ G2 H2) (λhHeld=> ?_);clear hK K;refine sm ?_;refine vH 14 ?_ ?_;refine wpAnyH_take (i:=15) (v:=if t=true then undef else .pointer (some ⟨w.heap.size+1,4,none⟩)) rfl ag ag ag (λ_ _ _ h=>h) ?_ cl ?_
  ·cases t
   ·refine Or.inl ⟨?_,?_⟩
    ·rfl
    ·(intro w hSw;(try dsimp only at hSw);first|(go_simp;done)|(go_simp;with_reducible rfl))
   ·exact Or.inr ⟨rfl,rfl⟩
  refine sm ?_;refine wpAnyH_take (i:=16) (v:=if t=true then undef else .bool h.t) rfl ag ag ag (λ_ _ _ h=>h) ?_ cl ?_
  ·cases t
   ·refine Or.inl ⟨?_,?_⟩
    ·rfl
    ·(intro w hSw;(try dsimp only at hSw);first|(go_simp;done)|(go_simp;with_reducible rfl))
   ·exact Or.inr ⟨rfl,rfl⟩
  refine sm ?_;refine wpAnyH_take (i:=17) (v:=.bool (t||h.t)) rfl ag ag ag (λ_ _ _ h=>h) ?_ cl ?_
  ·cases t
   ·refine Or.inl ⟨?_,?_⟩
    ·rfl
    ·(intro w hSw;(try dsimp only at hSw);first|(go_simp;done)|(go_simp;with_reducible rfl))
   ·refine Or.inl ⟨?_,?_⟩
    ·rfl
    ·(intro w hSw;(try dsimp only at hSw);first|(go_simp;done)|(go_simp;with_reducible rfl))
  refine sm ?_;refine vH 20 ?_ ?_;refine wpAnyH_take (i:=21) (v:=if f=true then undef else .pointer (some ⟨w.heap.size+1,5,none⟩)) rfl ag ag ag (λ_ _ _ h=>h) ?_ cl ?_
  ·cases f
   ·refine Or.inl ⟨?_,?_⟩
    ·rfl
    ·(intro w hSw;(try dsimp only at hSw);first|(go_simp;done)|(go_simp;with_reducible rfl))
   ·exact Or.inr ⟨rfl,rfl⟩
  refine sm ?_;refine wpAnyH_take (i:=22) (v:=if f=true then undef else .bool h.f) rfl ag ag ag (λ_ _ _ h=>h) ?_ cl ?_
  ·cases f
   ·refine Or.inl ⟨?_,?_⟩
    ·rfl
    ·(intro w hSw;(try dsimp only at hSw);first|(go_simp;done)|(go_simp;with_reducible rfl))
   ·exact Or.inr ⟨rfl,rfl⟩
  refine sm ?_;refine wpAnyH_take (i:=23) (v:=.bool (f||h.f)) rfl ag ag ag (λ_ _ _ h=>h) ?_ cl ?_
  ·cases f
   ·refine Or.inl ⟨?_,?_⟩
    ·rfl
    ·(intro w hSw;(try dsimp only at hSw);first|(go_simp;done)|(go_simp;with_reducible rfl))
   ·refine Or.inl ⟨?_,?_⟩
    ·rfl
    ·(intro w hSw;(try dsimp only at hSw);first|(go_simp;done)|(go_simp;with_reducible rfl))
  refine sm ?_;refine vH 24 ?_ ?_;refine wpAnyH_ready (rs:=[25]) ag ah ?_;refine AllReadyH.cons rfl (λK hK=> ?_) AllReadyH.nil;go_simp;refine hK.out _ _ (KS _ (G2.alloc _) (H2.alloc _)) (λhHeld=> ?_);clear hK K;refine sm ?_;refine wpAnyH_ready (rs:=[26]) ag ah ?_;refine AllReadyH.cons rfl (λK hK=> ?_) AllReadyH.nil;go_simp;refine hK.out _ _ (KS _ (G2.alloc _) (H2.alloc _)) (λhHeld=> ?_);clear hK K;refine sm ?_;have GW:=G2.alloc (.cells #[.bool (n||h.n),.bool J.n,.int .i64 J.lo,.int .i64 J.hi,.bool (t||h.t),.bool (f||h.f),.slice none 0 0] 91);have HW:=H2.alloc (.cells #[.bool (n||h.n),.bool J.n,.int .i64 J.lo,.int .i64 J.hi,.bool (t||h.t),.bool (f||h.f),.slice none 0 0] 91);have RW:=R2.alloc (.cells #[.bool (n||h.n),.bool J.n,.int .i64 J.lo,.int .i64 J.hi,.bool (t||h.t),.bool (f||h.f),.slice none 0 0] 91);have FW:=F2.alloc (.cells #[.bool (n||h.n),.bool J.n,.int .i64 J.lo,.int .i64 J.hi,.bool (t||h.t),.bool (f||h.f),.slice none 0 0] 91);have BW:=B2.alloc B2.size (.cells #[.bool (n||h.n),.bool J.n,.int .i64 J.lo,.int .i64 J.hi,.bool (t||h.t),.bool (f||h.f),.slice none 0 0] 91);have UW:GuAt (w2.alloc (.cells #[.bool (n||h.n),.bool J.n,.int .i64 J.lo,.int .i64 J.hi,.bool (t||h.t),.bool (f||h.f),.slice none 0 0] 91)) w2.heap.size 0 ⟨n||h.n,J,t||h.t,f||h.f,bF sl h.s 0⟩ none 0:=GuAt.new w2 ⟨n||h.n,J,t||h.t,f||h.f,[]⟩ none 0;have XW:Fr7 (w2.alloc (.cells #[.bool (n||h.n),.bool J.n,.int .i64 J.lo,.int .i64 J.hi,.bool (t||h.t),.bool (f||h.f),.slice none 0 0] 91)) w2.heap.size:=⟨λj=>aV,ah⟩;have zo:w.heap.size+1+1 < w2.heap.size:=F2.2;have zw:=XW.2;clear G2 H2 R2 F2 B2;generalize w2.alloc (.cells #[.bool (n||h.n),.bool J.n,.int .i64 J.lo,.int .i64 J.hi,.bool (t||h.t),.bool (f||h.f),.slice none 0 0] 91)=W at *;generalize w2.heap.size=ob at *;refine wpAnyH_done ag ?_ _;generalize (if n=true then undef else(.pointer (some ⟨w.heap.size+1,0,none⟩):Value))=y0;generalize (if n=true then undef else(.bool h.n:Value))=y1;generalize (if t=true then undef else(.pointer (some ⟨w.heap.size+1,4,none⟩):Value))=y2;generalize (if t=true then undef else(.bool h.t:Value))=y3;generalize (if f=true then undef else(.pointer (some ⟨w.heap.size+1,5,none⟩):Value))=y4;generalize (if f=true then undef else(.bool h.f:Value))=y5;clear hHeld KS HJ;go_wp2;go_loopw [8] (λi wr=>∃(k:Nat) (vs:oA) (vc:Nat),k<=60/\i=.int .i64 k/\GuAt wr w.heap.size 0 ⟨n,sp,t,f,sl⟩ ss gc/\GuAt wr (w.heap.size+1) 0 h st hc/\GuAt wr (w.heap.size+1+1) 0 bC none 0/\Fr7 wr (w.heap.size+1+1)/\GuAt wr ob 0 ⟨n||h.n,J,t||h.t,f||h.f,bF sl h.s k⟩ vs vc/\Fr7 wr ob/\wr.ownsRow W.heap.size 3 1 (.slice vs (bF sl h.s k).length vc) (bF sl h.s k).length ((bF sl h.s k).map (.int .i64))/\W.heap.size<=wr.heap.size/\bl w wr) (λi _=>60 - (intOf i).toNat)
  case atStart=>exact⟨0,none,0,aa,rfl,GW,HW,RW,FW,UW,XW,⟨by simp[bF],.inl ⟨rfl,by simp[bF]⟩⟩,Nat.le_refl _,BW⟩
  case round=>
   obtain⟨k,vs,vc,hk,rfl,GR,HR,RR,FR,UR,XR,OR,zR,BR⟩:=hrel;clear GW HW RW FW UW XW BW;have IR:=hs.below BR (Nat.le_refl _);have JR:=ht.below BR (Nat.le_refl _);obtain⟨⟨g0,g1,g2,g3,g4,g5,g6⟩,gz⟩:=id GR;obtain⟨⟨k0,k1,k2,k3,k4,k5,k6⟩,kz⟩:=id HR;obtain⟨⟨u0,u1,u2,u3,u4,u5,u6⟩,uz⟩:=id UR;simp only[Nat.zero_add] at g0 g1 g2 g3 g4 g5 g6 k0 k1 k2 k3 k4 k5 k6 u0 u1 u2 u3 u4 u5 u6;by_cases hlt:k < 60
   ·have n1:(k:Int) < 60:=by omega
    exact td
   ·have hk':k=60:=by omega
    subst hk';obtain⟨⟨r0,r1,r2,r3,r4,r5,r6⟩,rz⟩:=id RR;simp only[Nat.zero_add,bC] at r0 r1 r2 r3 r4 r5 r6;have fz:=FR.1;go_wp2;refine bodyPost_ret (v:=.agg #[.bool (n||h.n),.bool J.n,.int .i64 J.lo,.int .i64 J.hi,.bool (t||h.t),.bool (f||h.f),.slice vs (bF sl h.s 60).length vc]) Df rfl ⟨_,rfl,?_,?_⟩
    ·exact eZ (e8 OR aa) aa
    ·exact bo BR aa
 ·go_simp
  have GA:=(G1.alloc (.cells #[.bool false,.bool false,.int .i64 0,.int .i64 0,.bool false,.bool false,.slice none 0 0] 91)).drew;have HA:=(H1.alloc (.cells #[.bool false,.bool false,.int .i64 0,.int .i64 0,.bool false,.bool false,.slice none 0 0] 91)).drew;have RA:=(R1.alloc (.cells #[.bool false,.bool false,.int .i64 0,.int .i64 0,.bool false,.bool false,.slice none 0 0] 91)).drew;have FA:=(F1.alloc (.cells #[.bool false,.bool false,.int .i64 0,.int .i64 0,.bool false,.bool false,.slice none 0 0] 91)).drew;have BA:=(B1.alloc B1.size (.cells #[.bool false,.bool false,.int .i64 0,.int .i64 0,.bool false,.bool false,.slice none 0 0] 91)).drew;have UA:GuAt (w1.alloc (.cells #[.bool false,.bool false,.int .i64 0,.int .i64 0,.bool false,.bool false,.slice none 0 0] 91)).drew w1.heap.size 0 bC none 0:=(GuAt.new w1 bC none 0).drew;have XA:Fr7 (w1.alloc (.cells #[.bool false,.bool false,.int .i64 0,.int .i64 0,.bool false,.bool false,.slice none 0 0] 91)).drew w1.heap.size:=Fr7.drew ⟨λj=>aV,ah⟩;have zo:w.heap.size+1+1 < w1.heap.size:=F1.2;refine hK.out _ _ (KS _ GA HA) (λhHeld=> ?_);clear hK K G1 H1 R1 F1 B1;refine sm ?_;refine wpAnyH_ready (rs:=[11]) ag ah ?_;refine AllReadyH.cons rfl (λK hK=> ?_) AllReadyH.nil;go_simp;refine(HJ.out _).mono ?_;rintro e w2 ⟨rfl,hb2⟩;have G2:=GA.call hb2;have H2:=HA.call hb2;have R2:=RA.call hb2;have F2:=FA.call hb2;have U2:=UA.call hb2;have X2:=XA.call hb2;have B2:bl w w2:=BA.trans (hb2.mono BA.size);clear hb2 GA HA RA FA BA UA XA;generalize w1.heap.size=ob at *;refine hK.out _ _ (KS _ G2 H2) (λhHeld=> ?_);clear hK K;refine sm ?_;refine vH 14 ?_ ?_;refine wpAnyH_take (i:=15) (v:=if t=true then undef else .pointer (some ⟨w.heap.size+1,4,none⟩)) rfl ag ag ag (λ_ _ _ h=>h) ?_ cl ?_
  ·cases t
   ·refine Or.inl ⟨?_,?_⟩
    ·rfl
    ·(intro w hSw;(try dsimp only at hSw);first|(go_simp;done)|(go_simp;with_reducible rfl))
   ·exact Or.inr ⟨rfl,rfl⟩
  refine sm ?_;refine wpAnyH_take (i:=16) (v:=if t=true then undef else .bool h.t) rfl ag ag ag (λ_ _ _ h=>h) ?_ cl ?_
  ·cases t
   ·refine Or.inl ⟨?_,?_⟩
    ·rfl
    ·(intro w hSw;(try dsimp only at hSw);first|(go_simp;done)|(go_simp;with_reducible rfl))
   ·exact Or.inr ⟨rfl,rfl⟩
  refine sm ?_;refine wpAnyH_take (i:=17) (v:=.bool (t||h.t)) rfl ag ag ag (λ_ _ _ h=>h) ?_ cl ?_
  ·cases t
   ·refine Or.inl ⟨?_,?_⟩
    ·rfl
    ·(intro w hSw;(try dsimp only at hSw);first|(go_simp;done)|(go_simp;with_reducible rfl))
   ·refine Or.inl ⟨?_,?_⟩
    ·rfl
    ·(intro w hSw;(try dsimp only at hSw);first|(go_simp;done)|(go_simp;with_reducible rfl))
  refine sm ?_;refine vH 20 ?_ ?_;refine wpAnyH_take (i:=21) (v:=if f=true then undef else .pointer (some ⟨w.heap.size+1,5,none⟩)) rfl ag ag ag (λ_ _ _ h=>h) ?_ cl ?_
  ·cases f
   ·refine Or.inl ⟨?_,?_⟩
    ·rfl
    ·(intro w hSw;(try dsimp only at hSw);first|(go_simp;done)|(go_simp;with_reducible rfl))
   ·exact Or.inr ⟨rfl,rfl⟩
  refine sm ?_;refine wpAnyH_take (i:=22) (v:=if f=true then undef else .bool h.f) rfl ag ag ag (λ_ _ _ h=>h) ?_ cl ?_
  ·cases f
   ·refine Or.inl ⟨?_,?_⟩
    ·rfl
    ·(intro w hSw;(try dsimp only at hSw);first|(go_simp;done)|(go_simp;with_reducible rfl))
   ·exact Or.inr ⟨rfl,rfl⟩
  refine sm ?_;refine wpAnyH_take (i:=23) (v:=.bool (f||h.f)) rfl ag ag ag (λ_ _ _ h=>h) ?_ cl ?_
  ·cases f
   ·refine Or.inl ⟨?_,?_⟩
    ·rfl
    ·(intro w hSw;(try dsimp only at hSw);first|(go_simp;done)|(go_simp;with_reducible rfl))
   ·refine Or.inl ⟨?_,?_⟩
    ·rfl
    ·(intro w hSw;(try dsimp only at hSw);first|(go_simp;done)|(go_simp;with_reducible rfl))
  refine sm ?_;refine vH 24 ?_ ?_;obtain⟨⟨o0,o1,o2,o3,o4,o5,o6⟩,oz⟩:=id U2;simp only[Nat.zero_add,bC] at o0 o1 o2 o3 o4 o5 o6;have fzo:=X2.1;refine wpAnyH_ready (rs:=[26]) ag ah ?_;refine AllReadyH.cons rfl (λK hK=> ?_) AllReadyH.nil;go_simp;have GW:=GuAt.put7 (b:=ob) (v0:=.bool (n||h.n)) (v1:=.bool J.n) (v2:=.int .i64 J.lo) (v3:=.int .i64 J.hi) (v4:=.bool (t||h.t)) (v5:=.bool (f||h.f)) (v6:=.slice none 0 0) G2 aa;have HW:=GuAt.put7 (b:=ob) (v0:=.bool (n||h.n)) (v1:=.bool J.n) (v2:=.int .i64 J.lo) (v3:=.int .i64 J.hi) (v4:=.bool (t||h.t)) (v5:=.bool (f||h.f)) (v6:=.slice none 0 0) H2 aa;have RW:=GuAt.put7 (b:=ob) (v0:=.bool (n||h.n)) (v1:=.bool J.n) (v2:=.int .i64 J.lo) (v3:=.int .i64 J.hi) (v4:=.bool (t||h.t)) (v5:=.bool (f||h.f)) (v6:=.slice none 0 0) R2 aa;have FW:Fr7 (gV w2 ob (.bool (n||h.n)) (.bool J.n) (.int .i64 J.lo) (.int .i64 J.hi) (.bool (t||h.t)) (.bool (f||h.f)) (.slice none 0 0)) (w.heap.size+1+1):=((((((F2.set).set).set).set).set).set).set;have XW:Fr7 (gV w2 ob (.bool (n||h.n)) (.bool J.n) (.int .i64 J.lo) (.int .i64 J.hi) (.bool (t||h.t)) (.bool (f||h.f)) (.slice none 0 0)) ob:=((((((X2.set).set).set).set).set).set).set;have UW:GuAt (gV w2 ob (.bool (n||h.n)) (.bool J.n) (.int .i64 J.lo) (.int .i64 J.hi) (.bool (t||h.t)) (.bool (f||h.f)) (.slice none 0 0)) ob 0 ⟨n||h.n,J,t||h.t,f||h.f,bF sl h.s 0⟩ none 0:=⟨by simp[go_sem,gV,o0,o1,o2,o3,o4,o5,o6,bF],by rw[ov];exact oz⟩;have BW:bl w (gV w2 ob (.bool (n||h.n)) (.bool J.n) (.int .i64 J.lo) (.int .i64 J.hi) (.bool (t||h.t)) (.bool (f||h.f)) (.slice none 0 0)):=bo B2 aa;refine hK.out _ _ (KS _ GW HW) (λhHeld=> ?_);have zw:=XW.2;clear hK K G2 H2 R2 F2 U2 X2 B2 o0 o1 o2 o3 o4 o5 o6 fzo oz;refine sm ?_;unfold gV at GW HW RW FW XW UW BW zw;generalize ((((((w2.setCell ⟨ob,0,none⟩ (.bool (n||h.n))).setCell ⟨ob,1,none⟩ (.bool J.n)).setCell ⟨ob,2,none⟩ (.int .i64 J.lo)).setCell ⟨ob,3,none⟩ (.int .i64 J.hi)).setCell ⟨ob,4,none⟩ (.bool (t||h.t))).setCell ⟨ob,5,none⟩ (.bool (f||h.f))).setCell ⟨ob,6,none⟩ (.slice none 0 0)=W at *;refine wpAnyH_done ag ?_ _;generalize (if n=true then undef else(.pointer (some ⟨w.heap.size+1,0,none⟩):Value))=y0;generalize (if n=true then undef else(.bool h.n:Value))=y1;generalize (if t=true then undef else(.pointer (some ⟨w.heap.size+1,4,none⟩):Value))=y2;generalize (if t=true then undef else(.bool h.t:Value))=y3;generalize (if f=true then undef else(.pointer (some ⟨w.heap.size+1,5,none⟩):Value))=y4;generalize (if f=true then undef else(.bool h.f:Value))=y5;clear hHeld KS HJ;go_wp2;go_loopw [8] (λi wr=>∃(k:Nat) (vs:oA) (vc:Nat),k<=60/\i=.int .i64 k/\GuAt wr w.heap.size 0 ⟨n,sp,t,f,sl⟩ ss gc/\GuAt wr (w.heap.size+1) 0 h st hc/\GuAt wr (w.heap.size+1+1) 0 bC none 0/\Fr7 wr (w.heap.size+1+1)/\GuAt wr ob 0 ⟨n||h.n,J,t||h.t,f||h.f,bF sl h.s k⟩ vs vc/\Fr7 wr ob/\wr.ownsRow W.heap.size 3 1 (.slice vs (bF sl h.s k).length vc) (bF sl h.s k).length ((bF sl h.s k).map (.int .i64))/\W.heap.size<=wr.heap.size/\bl w wr) (λi _=>60 - (intOf i).toNat)
  case atStart=>exact⟨0,none,0,aa,rfl,GW,HW,RW,FW,UW,XW,⟨by simp[bF],.inl ⟨rfl,by simp[bF]⟩⟩,Nat.le_refl _,BW⟩
  case round=>
   obtain⟨k,vs,vc,hk,rfl,GR,HR,RR,FR,UR,XR,OR,zR,BR⟩:=hrel;clear GW HW RW FW UW XW BW;have IR:=hs.below BR (Nat.le_refl _);have JR:=ht.below BR (Nat.le_refl _);obtain⟨⟨g0,g1,g2,g3,g4,g5,g6⟩,gz⟩:=id GR;obtain⟨⟨k0,k1,k2,k3,k4,k5,k6⟩,kz⟩:=id HR;obtain⟨⟨u0,u1,u2,u3,u4,u5,u6⟩,uz⟩:=id UR;simp only[Nat.zero_add] at g0 g1 g2 g3 g4 g5 g6 k0 k1 k2 k3 k4 k5 k6 u0 u1 u2 u3 u4 u5 u6;by_cases hlt:k < 60
   ·have n1:(k:Int) < 60:=by omega
    exact td
   ·have hk':k=60:=by omega
    subst hk';obtain⟨⟨r0,r1,r2,r3,r4,r5,r6⟩,rz⟩:=id RR;simp only[Nat.zero_add,bC] at r0 r1 r2 r3 r4 r5 r6;have fz:=FR.1;go_wp2;refine bodyPost_ret (v:=.agg #[.bool (n||h.n),.bool J.n,.int .i64 J.lo,.int .i64 J.hi,.bool (t||h.t),.bool (f||h.f),.slice vs (bF sl h.s 60).length vc]) Df rfl ⟨_,rfl,?_,?_⟩
    ·exact eZ (e8 OR aa) aa
    ·exact bo BR aa):p:=h
end
section
theorem nr:∀(a b:List Int),a.Pairwise (· < ·)->b.Pairwise (· < ·)->(∀x,x∈a↔x∈b)->a=b
 |[],[],_,_,_=>rfl
 |[],y::b,_,_,h=>absurd ((h y).2 ah) ah
 |x::a,[],_,_,h=>absurd ((h x).1 ah) ah
 |x::a,y::b,ha,hb,h=>by
  rw[List.pairwise_cons] at ha hb;have exy:x=y:=by
   have h1:=(h x).1 ah;have h2:=(h y).2 ah;rw[j4] at h1 h2;rcases h1 with e|h1
   ·exact e
   ·rcases h2 with e|h2
    ·exact e.symm
    ·have:=ha.1 y h2
     have:=hb.1 x h1;omega
  subst exy;rw[nr a b ha.2 hb.2 λz=> ?_];constructor
  ·intro hz
   have:=(h z).1 (by simp[hz]);rw[j4] at this;rcases this with e|h1
   ·have:=ha.1 z hz;omega
   ·exact h1
  ·intro hz
   have:=(h z).2 (by simp[hz]);rw[j4] at this;rcases this with e|h1
   ·have:=hb.1 z hz;omega
   ·exact h1

theorem uo (a b:List Int)(k:Nat)(x:Int):x∈bF a b k↔(0<=x/\x < k)/\(x∈a\/x∈b):=by
 unfold bF;rw[j1,q1];simp only[j2,Bool.or_eq_true,List.contains_iff_mem];constructor
 ·rintro ⟨⟨n,hn,rfl⟩,h⟩
  exact⟨⟨aa,aa⟩,h⟩
 ·rintro ⟨⟨h0,h1⟩,h⟩
  exact⟨⟨x.toNat,aa,aa⟩,h⟩

theorem nU (a b:List Int)(k:Nat):(bF a b k).Pairwise (· < ·):=by
 unfold bF;refine j3.filter _ ?_;rw[q2];exact j3.imp (λh=>aa) q3

open Go.Lib in
theorem vC (l:List Int)(h:l.Pairwise (· <=·)):(compact l).Pairwise (· < ·)/\∀x,x∈compact l↔x∈l:=by
 have get:∀j (hj:j < l.length),l.toArray[j]! =l[j]:=λj hj=>by simp[hj]
 have mono:∀i j (hi:i < l.length) (hj:j < l.length),i<=j->l[i]<=l[j]:=by
  intro i j hi hj hij;by_cases e:i=j
  ·subst e;exact Int.le_refl _
  ·exact List.pairwise_iff_getElem.1 h i j hi hj aa
 constructor
 ·unfold compact compactUpTo
  rw[q2];refine j3.imp_of_mem ?_ (j3.filter _ q3);intro i j hi hj hij;rw[j1,j2] at hi hj;rw[get i hi.1,get j hj.1];have hk:=hj.2;unfold keeps at hk;rw[decide_eq_true_eq] at hk;rcases hk with e|hne
  ·omega
  ·rw[get j hj.1,get (j - 1) aa] at hne
   have h1:=mono i (j - 1) hi.1 aa aa;have h2:=mono (j - 1) j aa hj.1 aa;omega
 ·intro x
  unfold compact compactUpTo;rw[q1];constructor
  ·rintro ⟨j,hj,rfl⟩
   rw[j1,j2] at hj;rw[get j hj.1];exact gM _
  ·intro hx
   obtain⟨j,hj,rfl⟩:=List.getElem_of_mem hx;have ex:∃i,i<=j/\∃(hi:i < l.length),l[i]=l[j]/\keeps l.toArray i=true:=by
    clear hx;induction j with
    |zero=>exact⟨0,lR _,hj,rfl,by simp[keeps]⟩
    |succ j ih=>
     by_cases e:l[j+1]=l[j]
     ·obtain⟨i,hi,hil,h1,h2⟩:=ih aa
      exact⟨i,aa,hil,by rw[h1,e],h2⟩
     ·refine⟨j+1,lR _,hj,rfl,?_⟩
      unfold keeps;rw[decide_eq_true_eq];right;rw[get (j+1) hj,get (j+1 - 1) aa];exact e
   obtain⟨i,-,hil,h1,h2⟩:=ex;refine⟨i,?_,by rw[get i hil,h1]⟩;rw[j1,j2];exact⟨hil,h2⟩

theorem kd (g h:Gs)(hg:∀x∈g.s,0<=x/\x < 60)(hh:∀x∈h.s,0<=x/\x < 60):cA [g,h]=bF g.s h.s 60:=by
 have hs:(([g,h].flatMap Gs.s).mergeSort λx y=>decide (x<=y)).Pairwise (· <=·):=by
  have:=List.pairwise_mergeSort (le:=λx y:Int=>decide (x<=y)) (by intro a b c;simp;omega) (by intro a b;simp;omega) ([g,h].flatMap Gs.s);exact this.imp λh=>cj
 obtain⟨h1,h2⟩:=vC _ hs;refine nr _ _ h1 (nU _ _ _) λx=> ?_;rw[show cA [g,h]=Go.Lib.compact (([g,h].flatMap Gs.s).mergeSort λx y=>decide (x<=y)) from rfl,h2,List.mem_mergeSort,uo];simp only[List.flatMap_cons,List.flatMap_nil,q0,List.mem_append];constructor
 ·rintro (h|h)
  ·exact⟨hg x h,.inl h⟩
  ·exact⟨hh x h,.inr h⟩
 ·exact λh=>h.2

theorem Hj {c:lI}(hl:c.length<=60){x:Int}(h:b9 c x=true):0<=x/\x < 60:=by
 unfold b9 at h;simp only[Bool.and_eq_true,decide_eq_true_eq] at h;omega

theorem cL {c:lI}{g:Gs}(hl:c.length<=60)(h:aE c g=0):(∀x∈g.s,0<=x/\x < 60)/\cW g.s=true:=by
 unfold aE at h;split at h
 ·contradiction
 ·split at h
  ·cases h
  ·split at h
   ·cases h
   ·rename_i h1 h2
    refine⟨λx hx=> ?_,iJ⟩;have:g.s.all (b9 c)=true:=fJ;exact Hj hl (List.all_eq_true.1 this x hx)
theorem cB {l:List Int}(hr:cW l=true)(hb:∀x∈l,0<=x/\x < 60):l.length<=60:=by
 have key:∀k (h:k < l.length),(k:Int)<=l[k]:=by
  intro k;induction k with
  |zero=>intro h;exact(hb _ (gM h)).1
  |succ k ih=>
   intro h;have h1:=ih aa;have h2:=(sJ l).1 hr k h;omega
 by_cases h0:l.length=0
 ·omega
 ·have h1:=key (l.length - 1) aa
  have h2:=(hb _ (gM (show l.length - 1 < l.length by omega))).2;omega
end
section
open Go.RowKit
theorem Lh (V F:Int)(s:oA)(c:lI)(cap:Nat)(g:Gs)(ss:oA)(gc:Nat)(h:Gs)(st:oA)(hc:Nat)(kind:Int)(w:World)
  (hcd:CodeAt w s c)(hs:IntsAt w ss g.s)(h1:g.s.length<=gc)(h2:gc<=maxLen)(ht:IntsAt w st h.s)(h3:h.s.length<=hc)(h4:hc<=maxLen)(hck:aY V F c [g,h]≠0):
  Calls pG 164 #[pv V F s c cap,I Y kind,gv g ss gc,gv h st hc] w λe w'=>e=Rt (Tu #[gv bC nO 0,Bb false,I Y (aY V F c [g,h])])/\bl w w':=by
 obtain⟨P0,G0,H0,R0,F0⟩:=dP w V F s c cap g ss gc h st hc;have B0:=cU w V F s c cap g ss gc h st hc;have C0:CodeAt (bN w V F s c cap g ss gc h st hc) s c:=hcd.below B0 (lR _);have I0:IntsAt (bN w V F s c cap g ss gc h st hc) ss g.s:=hs.below B0 (lR _);have J0:IntsAt (bN w V F s c cap g ss gc h st hc) st h.s:=ht.below B0 (lR _);have L0:=GsAt.new2 (bN w V F s c cap g ss gc h st hc) g ss gc h st hc I0 h1 h2 J0 h3 h4;simp only[zA] at L0;have HC:=ae (cc V F s c cap (sO ⟨w.heap.size+1+1+1+1,0,nO⟩) [g,h] 2 _ (C0.alloc _) L0 ah);have hne:(aY V F c [g,h]!=0)=true:=by simpa using hck
 generalize aY V F c [g,h]=ce at HC hne |-;clear hck;go_enter Tryz.func164,Tryz.ntmps164;go_wp2_with fail;refine HC.out.mono ?_;rintro e w1 ⟨rfl,hb1⟩;have G1:=(G0.alloc _).call hb1;have H1:=(H0.alloc _).call hb1;have R1:=(R0.alloc _).call hb1;have I1:=(I0.alloc _).call hb1;have J1:=(J0.alloc _).call hb1;have F1:Fr7 w1 (w.heap.size+1+1+1):=(F0.alloc _).call hb1;have B1:bl w w1:=(B0.alloc B0.size _).trans (hb1.mono an);clear hb1 G0 H0 R0 I0 J0 F0 B0 C0 P0 L0 hcd hs ht HC;obtain⟨⟨g0,g1,g2,g3,g4,g5,g6⟩,gz⟩:=id G1;obtain⟨⟨k0,k1,k2,k3,k4,k5,k6⟩,kz⟩:=id H1;simp only[j0] at g0 g1 g2 g3 g4 g5 g6 k0 k1 k2 k3 k4 k5 k6;obtain⟨⟨r0,r1,r2,r3,r4,r5,r6⟩,rz⟩:=id R1;simp only[j0,bC] at r0 r1 r2 r3 r4 r5 r6;have fz:=F1.1;go_wp2;refine bodyPost_ret (v:=Tu #[gv bC nO 0,Bb false,I Y ce]) Dh rfl ⟨rfl,?_⟩;exact bo B1 aa

theorem KC (V F:Int)(s:oA)(c:lI)(cap:Nat)(g:Gs)(ss:oA)(gc:Nat)(h:Gs)(st:oA)(hc:Nat)(kind:Int)(w:World)
  (hcd:CodeAt w s c)(hs:IntsAt w ss g.s)(h1:g.s.length<=gc)(h2:gc<=maxLen)(ht:IntsAt w st h.s)(h3:h.s.length<=hc)(h4:hc<=maxLen)(hck:aY V F c [g,h]=0)(hk4:(kind==4)=false)(hk5:(kind==5)=false)(hk6:(kind==6)=false)(hk7:(kind==7)=false)(hk8:(kind==8)=false)(hk9:(kind==9)=false)(hk10:(kind==10)=false):
  Calls pG 164 #[pv V F s c cap,I Y kind,gv g ss gc,gv h st hc] w λe w'=>e=Rt (Tu #[gv bC nO 0,Bb false,I Y 6])/\bl w w':=by
 obtain⟨P0,G0,H0,R0,F0⟩:=dP w V F s c cap g ss gc h st hc;have B0:=cU w V F s c cap g ss gc h st hc;have C0:CodeAt (bN w V F s c cap g ss gc h st hc) s c:=hcd.below B0 (lR _);have I0:IntsAt (bN w V F s c cap g ss gc h st hc) ss g.s:=hs.below B0 (lR _);have J0:IntsAt (bN w V F s c cap g ss gc h st hc) st h.s:=ht.below B0 (lR _);have L0:=GsAt.new2 (bN w V F s c cap g ss gc h st hc) g ss gc h st hc I0 h1 h2 J0 h3 h4;simp only[zA] at L0;have HC:=ae (cc V F s c cap (sO ⟨w.heap.size+1+1+1+1,0,nO⟩) [g,h] 2 _ (C0.alloc _) L0 ah);rw[hck] at HC;go_enter Tryz.func164,Tryz.ntmps164;go_wp2_with fail;refine HC.out.mono ?_;rintro e w1 ⟨rfl,hb1⟩;have G1:=(G0.alloc _).call hb1;have H1:=(H0.alloc _).call hb1;have R1:=(R0.alloc _).call hb1;have I1:=(I0.alloc _).call hb1;have J1:=(J0.alloc _).call hb1;have F1:Fr7 w1 (w.heap.size+1+1+1):=(F0.alloc _).call hb1;have B1:bl w w1:=(B0.alloc B0.size _).trans (hb1.mono an);clear hb1 G0 H0 R0 I0 J0 F0 B0 C0 P0 L0 hcd hs ht HC;obtain⟨⟨g0,g1,g2,g3,g4,g5,g6⟩,gz⟩:=id G1;obtain⟨⟨k0,k1,k2,k3,k4,k5,k6⟩,kz⟩:=id H1;simp only[j0] at g0 g1 g2 g3 g4 g5 g6 k0 k1 k2 k3 k4 k5 k6;obtain⟨⟨r0,r1,r2,r3,r4,r5,r6⟩,rz⟩:=id R1;simp only[j0,bC] at r0 r1 r2 r3 r4 r5 r6;have fz:=F1.1;go_wp2;refine bodyPost_ret (v:=Tu #[gv bC nO 0,Bb false,I Y 6]) Dh rfl ⟨rfl,?_⟩;exact bo B1 aa

theorem KY (V F:Int)(s:oA)(c:lI)(cap:Nat)(g:Gs)(ss:oA)(gc:Nat)(h:Gs)(st:oA)(hc:Nat)(w:World)
  (hcd:CodeAt w s c)(hs:IntsAt w ss g.s)(h1:g.s.length<=gc)(h2:gc<=maxLen)(ht:IntsAt w st h.s)(h3:h.s.length<=hc)(h4:hc<=maxLen)(hck:aY V F c [g,h]=0)(y n:Bool)(hS:∀wx,bl w wx->Calls pG 206 #[gv g ss gc,gv h st hc] wx λe w'=>e=Rt (Tu #[Bb y,Bb n])/\bl wx w'):
  Calls pG 164 #[pv V F s c cap,I Y 9,gv g ss gc,gv h st hc] w λe w'=>e=Rt (Tu #[gv ⟨false,⟨true,0,0⟩,y,n,[]⟩ nO 0,Bb false,I Y 0])/\bl w w':=by
 obtain⟨P0,G0,H0,R0,F0⟩:=dP w V F s c cap g ss gc h st hc;have B0:=cU w V F s c cap g ss gc h st hc;have C0:CodeAt (bN w V F s c cap g ss gc h st hc) s c:=hcd.below B0 (lR _);have I0:IntsAt (bN w V F s c cap g ss gc h st hc) ss g.s:=hs.below B0 (lR _);have J0:IntsAt (bN w V F s c cap g ss gc h st hc) st h.s:=ht.below B0 (lR _);have L0:=GsAt.new2 (bN w V F s c cap g ss gc h st hc) g ss gc h st hc I0 h1 h2 J0 h3 h4;simp only[zA] at L0;have HC:=ae (cc V F s c cap (sO ⟨w.heap.size+1+1+1+1,0,nO⟩) [g,h] 2 _ (C0.alloc _) L0 ah);rw[hck] at HC;have HS:=ae hS;clear hS;go_enter Tryz.func164,Tryz.ntmps164;go_wp2_with fail;refine HC.out.mono ?_;rintro e w1 ⟨rfl,hb1⟩;have G1:=(G0.alloc _).call hb1;have H1:=(H0.alloc _).call hb1;have R1:=(R0.alloc _).call hb1;have I1:=(I0.alloc _).call hb1;have J1:=(J0.alloc _).call hb1;have F1:Fr7 w1 (w.heap.size+1+1+1):=(F0.alloc _).call hb1;have B1:bl w w1:=(B0.alloc B0.size _).trans (hb1.mono an);clear hb1 G0 H0 R0 I0 J0 F0 B0 C0 P0 L0 hcd hs ht HC;obtain⟨⟨g0,g1,g2,g3,g4,g5,g6⟩,gz⟩:=id G1;obtain⟨⟨k0,k1,k2,k3,k4,k5,k6⟩,kz⟩:=id H1;simp only[j0] at g0 g1 g2 g3 g4 g5 g6 k0 k1 k2 k3 k4 k5 k6;go_wp2_with fail;refine(HS.out _ B1).mono ?_;rintro e w2 ⟨rfl,hb2⟩;have R2:=R1.call hb2;have F2:=F1.call hb2;have B2:=B1.trans (hb2.mono B1.size);clear hb2;go_wp2_with fail;refine(ku _ _ _).mono ?_;rintro e w3 ⟨rfl,hb3⟩;have R3:=R2.call hb3;have F3:=F2.call hb3;have B3:=B2.trans (hb3.mono B2.size);clear hb3;obtain⟨⟨r0,r1,r2,r3,r4,r5,r6⟩,rz⟩:=id R3;simp only[j0,bC] at r0 r1 r2 r3 r4 r5 r6;have fz:=F3.1;go_wp2;refine bodyPost_ret (v:=Tu #[gv ⟨false,⟨true,0,0⟩,y,n,[]⟩ nO 0,Bb false,I Y 0]) pT rfl ⟨rfl,?_⟩;exact bo B3 aa

theorem Mx (V F:Int)(s:oA)(c:lI)(cap:Nat)(g:Gs)(ss:oA)(gc:Nat)(h:Gs)(st:oA)(hc:Nat)(w:World)
  (hcd:CodeAt w s c)(hs:IntsAt w ss g.s)(h1:g.s.length<=gc)(h2:gc<=maxLen)(ht:IntsAt w st h.s)(h3:h.s.length<=hc)(h4:hc<=maxLen)(hck:aY V F c [g,h]=0)(hsp:cu g.sp=0):
  Calls pG 164 #[pv V F s c cap,I Y 10,gv g ss gc,gv h st hc] w λe w'=>e=Rt (Tu #[gv ⟨false,⟨true,0,0⟩,cF g,b8 g,[]⟩ nO 0,Bb false,I Y 0])/\bl w w':=by
 obtain⟨P0,G0,H0,R0,F0⟩:=dP w V F s c cap g ss gc h st hc;have B0:=cU w V F s c cap g ss gc h st hc;have C0:CodeAt (bN w V F s c cap g ss gc h st hc) s c:=hcd.below B0 (lR _);have I0:IntsAt (bN w V F s c cap g ss gc h st hc) ss g.s:=hs.below B0 (lR _);have J0:IntsAt (bN w V F s c cap g ss gc h st hc) st h.s:=ht.below B0 (lR _);have L0:=GsAt.new2 (bN w V F s c cap g ss gc h st hc) g ss gc h st hc I0 h1 h2 J0 h3 h4;simp only[zA] at L0;have HC:=ae (cc V F s c cap (sO ⟨w.heap.size+1+1+1+1,0,nO⟩) [g,h] 2 _ (C0.alloc _) L0 ah);rw[hck] at HC;have HS:=ae (λw=>uf g ss gc w hsp);generalize b8 g=y at HS |-;generalize cF g=n at HS |-;clear hsp;go_enter Tryz.func164,Tryz.ntmps164;go_wp2_with fail;refine HC.out.mono ?_;rintro e w1 ⟨rfl,hb1⟩;have G1:=(G0.alloc _).call hb1;have H1:=(H0.alloc _).call hb1;have R1:=(R0.alloc _).call hb1;have I1:=(I0.alloc _).call hb1;have J1:=(J0.alloc _).call hb1;have F1:Fr7 w1 (w.heap.size+1+1+1):=(F0.alloc _).call hb1;have B1:bl w w1:=(B0.alloc B0.size _).trans (hb1.mono an);clear hb1 G0 H0 R0 I0 J0 F0 B0 C0 P0 L0 hcd hs ht HC;obtain⟨⟨g0,g1,g2,g3,g4,g5,g6⟩,gz⟩:=id G1;obtain⟨⟨k0,k1,k2,k3,k4,k5,k6⟩,kz⟩:=id H1;simp only[j0] at g0 g1 g2 g3 g4 g5 g6 k0 k1 k2 k3 k4 k5 k6;go_wp2_with fail;refine(HS.out _).mono ?_;rintro e w2 ⟨rfl,hb2⟩;have R2:=R1.call hb2;have F2:=F1.call hb2;have B2:=B1.trans (hb2.mono B1.size);clear hb2;go_wp2_with fail;refine(ku _ _ _).mono ?_;rintro e w3 ⟨rfl,hb3⟩;have R3:=R2.call hb3;have F3:=F2.call hb3;have B3:=B2.trans (hb3.mono B2.size);clear hb3;obtain⟨⟨r0,r1,r2,r3,r4,r5,r6⟩,rz⟩:=id R3;simp only[j0,bC] at r0 r1 r2 r3 r4 r5 r6;have fz:=F3.1;go_wp2;refine bodyPost_ret (v:=Tu #[gv ⟨false,⟨true,0,0⟩,n,y,[]⟩ nO 0,Bb false,I Y 0]) pT rfl ⟨rfl,?_⟩;exact bo B3 aa
end
end Go.Proofs.YtmapdpcfanecdabGreatDoor
