import Derived.Test.YtmapdpcfanecdabGreatDoorK14
import Derived.Test.YtmapdpcfanecdabGreatDoorK15
import Derived.Test.YtmapdpcfanecdabGreatDoorK16
import Derived.Test.YtmapdpcfanecdabGreatDoorK23
import Derived.Test.YtmapdpcfanecdabGreatDoorK24
open Go.Ending renaming returned→Rt
open Go.IntKind renaming i64→Y
open Go.Proofs.Tryz renaming prog→pG
open Go.Value renaming agg→Ag,bool→Bb,int→I,slice→U,tuple→Tu
open Go.World renaming size_alloc→zA
open Nat renaming le_refl→lR
open Option renaming none→nO,some→sO
set_option linter.unusedSimpArgs false
set_option linter.unusedVariables false
set_option maxHeartbeats 4000000
set_option maxRecDepth 100000
namespace Go.Proofs.YtmapdpcfanecdabGreatDoor
section
open Go.RowKit
theorem lN {x:Int}(h1: -9223372036854775808≤x)(h2:x < 9223372036854775808):wrap64 x=x:=by unfold wrap64;omega

theorem Cu {a b:Int}(ha:aU a)(hb:aU b): -4611686018427387904≤a * b∧a * b≤4611686018427387904:=by
 have h1:a.natAbs≤2147483648:=by unfold aU at ha;omega
 have h2:b.natAbs≤2147483648:=by unfold aU at hb;omega
 have h3:(a * b).natAbs≤4611686018427387904:=by rw[Int.natAbs_mul];exact Nat.mul_le_mul h1 h2
 omega

theorem lE {a b:Int}(ha:aU a)(hb:aU b):wrap64 (a+b)=a+b:=by
 unfold aU at ha hb
 exact lN (by omega) (by omega)
theorem lO {a b:Int}(ha:aU a)(hb:aU b):wrap64 (a - b)=a - b:=by
 unfold aU at ha hb
 exact lN (by omega) (by omega)
theorem lH {a b:Int}(ha:aU a)(hb:aU b):wrap64 (a * b)=a * b:=by
 have:=Cu ha hb
 exact lN (by omega) (by omega)

theorem E6 (s t:Sp)(w:World)(hs:s.Ok)(ht:t.Ok):
  Calls pG 228 #[sv s,sv t,.func (.func 229) #[] #[]] w λe w'=>e=Rt (sv (cI 5 s t))∧Below w.heap.size w w':=by
 by_cases h:(s.n||t.n)=true
 ·have:=kR 229 s t w h
  unfold cI
  rw[if_pos h]
  exact this
 ·have e0:cI 5 s t=iG (s.lo+t.lo) (s.lo+t.hi) (s.hi+t.lo) (s.hi+t.hi):=by unfold cI;rw[if_neg h];rfl
  rw[e0]
  obtain⟨n,lo,hi⟩:=s
  obtain⟨n',lo',hi'⟩:=t
  cases n with
  |true=>exact absurd rfl h
  |false=>
   cases n' with
   |true=>exact absurd rfl h
   |false=>exact Ao lo hi lo' hi' w (lE hs.1 ht.1) (lE hs.1 ht.2.1) (lE hs.2.1 ht.1) (lE hs.2.1 ht.2.1)

theorem F9 (s t:Sp)(w:World)(hs:s.Ok)(ht:t.Ok):
  Calls pG 228 #[sv s,sv t,.func (.func 230) #[] #[]] w λe w'=>e=Rt (sv (cI 6 s t))∧Below w.heap.size w w':=by
 by_cases h:(s.n||t.n)=true
 ·have:=kR 230 s t w h
  unfold cI
  rw[if_pos h]
  exact this
 ·have e0:cI 6 s t=iG (s.lo - t.lo) (s.lo - t.hi) (s.hi - t.lo) (s.hi - t.hi):=by unfold cI;rw[if_neg h];rfl
  rw[e0]
  obtain⟨n,lo,hi⟩:=s
  obtain⟨n',lo',hi'⟩:=t
  cases n with
  |true=>exact absurd rfl h
  |false=>
   cases n' with
   |true=>exact absurd rfl h
   |false=>exact AE lo hi lo' hi' w (lO hs.1 ht.1) (lO hs.1 ht.2.1) (lO hs.2.1 ht.1) (lO hs.2.1 ht.2.1)

theorem Fd (s t:Sp)(w:World)(hs:s.Ok)(ht:t.Ok):
  Calls pG 228 #[sv s,sv t,.func (.func 231) #[] #[]] w λe w'=>e=Rt (sv (cI 7 s t))∧Below w.heap.size w w':=by
 by_cases h:(s.n||t.n)=true
 ·have:=kR 231 s t w h
  unfold cI
  rw[if_pos h]
  exact this
 ·have e0:cI 7 s t=iG (s.lo * t.lo) (s.lo * t.hi) (s.hi * t.lo) (s.hi * t.hi):=by unfold cI;rw[if_neg h];rfl
  rw[e0]
  obtain⟨n,lo,hi⟩:=s
  obtain⟨n',lo',hi'⟩:=t
  cases n with
  |true=>exact absurd rfl h
  |false=>
   cases n' with
   |true=>exact absurd rfl h
   |false=>exact AW lo hi lo' hi' w (lH hs.1 ht.1) (lH hs.1 ht.2.1) (lH hs.2.1 ht.1) (lH hs.2.1 ht.2.1)

theorem Gz (k:Int)(s t:Sp)(w:World)(h:bo s t≠0):
  Calls pG 202 #[I Y k,sv s,sv t] w λe w'=>e=Rt (Tu #[sv br,I Y (bo s t)])∧Below w.heap.size w w':=by
 obtain⟨n,lo,hi⟩:=s
 obtain⟨n',lo',hi'⟩:=t
 go_enter Tryz.func202,Tryz.ntmps202
 go_wp2_with (go_at_call 219;fail)
 refine(dL ⟨n,lo,hi⟩ ⟨n',lo',hi'⟩ _).mono ?_
 rintro e w1 ⟨rfl,hb1⟩
 obtain⟨⟨c0,c1,c2⟩,⟨d0,d1,d2⟩,⟨r0,r1,r2⟩,⟨f0,f1,f2⟩,z0,z1,z2⟩:=dY (s:=⟨n,lo,hi⟩) (t:=⟨n',lo',hi'⟩) (r:=br) hb1 (by simp)
 have H1:Below w.heap.size w w1:=(en ⟨n,lo,hi⟩ ⟨n',lo',hi'⟩ br w).trans (hb1.mono (by simp;omega))
 simp only[br] at r0 r1 r2
 clear hb1
 go_wp2
 refine bodyPost_ret (v:=Tu #[sv br,I Y (bo ⟨n,lo,hi⟩ ⟨n',lo',hi'⟩)]) (by simp[results,Tryz.results202,go_sem,r0,r1,r2,br]) rfl ⟨rfl,?_⟩
 exact((H1.setCell (by simp;omega) _).setCell (by simp;omega) _).setCell (by simp;omega) _

theorem EQ (k:Int)(s t:Sp)(w:World)(h:bo s t=0)(h5:(k==5)=false)(h6:(k==6)=false)(h7:(k==7)=false):
  Calls pG 202 #[I Y k,sv s,sv t] w λe w'=>e=Rt (Tu #[sv br,I Y 6])∧Below w.heap.size w w':=by
 obtain⟨n,lo,hi⟩:=s
 obtain⟨n',lo',hi'⟩:=t
 go_enter Tryz.func202,Tryz.ntmps202
 go_wp2_with (go_at_call 219;fail)
 refine(dL ⟨n,lo,hi⟩ ⟨n',lo',hi'⟩ _).mono ?_
 rintro e w1 ⟨rfl,hb1⟩
 obtain⟨⟨c0,c1,c2⟩,⟨d0,d1,d2⟩,⟨r0,r1,r2⟩,⟨f0,f1,f2⟩,z0,z1,z2⟩:=dY (s:=⟨n,lo,hi⟩) (t:=⟨n',lo',hi'⟩) (r:=br) hb1 (by simp)
 have H1:Below w.heap.size w w1:=(en ⟨n,lo,hi⟩ ⟨n',lo',hi'⟩ br w).trans (hb1.mono (by simp;omega))
 simp only[br] at r0 r1 r2
 clear hb1
 rw[h]
 go_wp2
 refine bodyPost_ret (v:=Tu #[sv br,I Y 6]) (by simp[results,Tryz.results202,go_sem,r0,r1,r2,br]) rfl ⟨rfl,?_⟩
 exact((H1.setCell (by simp;omega) _).setCell (by simp;omega) _).setCell (by simp;omega) _

theorem lU {p:Prop}(h:p:=by
 clear hs ht
 obtain⟨n,lo,hi⟩:=s
 obtain⟨n',lo',hi'⟩:=t
 obtain⟨rn,rlo,rhi⟩:=r
 go_enter Tryz.func202,Tryz.ntmps202
 go_wp2_with (go_at_call 219;fail)
 refine(dL ⟨n,lo,hi⟩ ⟨n',lo',hi'⟩ _).mono ?_
 rintro e w1 ⟨rfl,hb1⟩
 obtain⟨⟨c0,c1,c2⟩,⟨d0,d1,d2⟩,⟨r0,r1,r2⟩,⟨f0,f1,f2⟩,z0,z1,z2⟩:=dY (s:=⟨n,lo,hi⟩) (t:=⟨n',lo',hi'⟩) (r:=br) hb1 (by simp)
 have H1:Below w.heap.size w w1:=(en ⟨n,lo,hi⟩ ⟨n',lo',hi'⟩ br w).trans (hb1.mono (by simp;omega))
 simp only[br] at r0 r1 r2
 clear hb1
 rw[h]
 go_wp2_with (go_at_call 228;fail)
 refine(hR _).mono ?_
 rintro e w2 ⟨rfl,hb2⟩
 have g0:=r0;have g1:=r1;have g2:=r2;have k0:=f0;have k1:=f1;have k2:=f2
 rw[←hb2.cell z2] at g0 g1 g2
 rw[←hb2.frozen z2] at k0 k1 k2
 have H2:Below w.heap.size w w2:=H1.trans (hb2.mono (by omega))
 clear r0 r1 r2 f0 f1 f2 hb2 c0 c1 c2 d0 d1 d2 hR
 go_wp2
 refine bodyPost_ret (v:=.tuple #[sv ⟨rn,rlo,rhi⟩,.int .i64 0]) (by simp[results,Tryz.results202,go_sem,g0,g1,g2]) rfl ⟨rfl,?_⟩
 exact((H2.setCell (by simp;omega) _).setCell (by simp;omega) _).setCell (by simp;omega) _):p:=h
theorem Gy (s t:Sp)(w:World)(h:bo s t=0):
  Calls pG 202 #[I Y 5,sv s,sv t] w λe w'=>e=Rt (Tu #[sv (cI 5 s t),I Y 0])∧Below w.heap.size w w':=by
 obtain⟨hs,ht⟩:=ckSps_ok.1 h
 have hR:=λw=>E6 s t w hs ht
 generalize cI 5 s t=r at hR ⊢
 exact lU

theorem Gx (s t:Sp)(w:World)(h:bo s t=0):
  Calls pG 202 #[I Y 6,sv s,sv t] w λe w'=>e=Rt (Tu #[sv (cI 6 s t),I Y 0])∧Below w.heap.size w w':=by
 obtain⟨hs,ht⟩:=ckSps_ok.1 h
 have hR:=λw=>F9 s t w hs ht
 generalize cI 6 s t=r at hR ⊢
 exact lU

theorem GT (s t:Sp)(w:World)(h:bo s t=0):
  Calls pG 202 #[I Y 7,sv s,sv t] w λe w'=>e=Rt (Tu #[sv (cI 7 s t),I Y 0])∧Below w.heap.size w w':=by
 obtain⟨hs,ht⟩:=ckSps_ok.1 h
 have hR:=λw=>Fd s t w hs ht
 generalize cI 7 s t=r at hR ⊢
 exact lU

def fL (k:Int)(s t:Sp):Int:=if bo s t=0 then(if k=5∨k=6∨k=7 then 0 else 6) else bo s t

theorem uE (k:Int)(s t:Sp)(w:World):
  Calls pG 202 #[I Y k,sv s,sv t] w λe w'=>e=Rt (Tu #[sv (eC (fL k s t) (cI k s t)),I Y (fL k s t)])∧Below w.heap.size w w':=by
 by_cases h:bo s t=0
 ·by_cases hk:k=5∨k=6∨k=7
  ·have e0:fL k s t=0:=by unfold fL;rw[if_pos h,if_pos hk]
   rw[e0]
   rcases hk with rfl|rfl|rfl
   ·exact Gy s t w h
   ·exact Gx s t w h
   ·exact GT s t w h
  ·have e0:fL k s t=6:=by unfold fL;rw[if_pos h,if_neg hk]
   rw[e0]
   exact EQ k s t w h (by simp;omega) (by simp;omega) (by simp;omega)
 ·have e0:fL k s t=bo s t:=by unfold fL;rw[if_neg h]
  rw[e0]
  unfold eC
  rw[if_neg h]
  exact Gz k s t w h
theorem AA (V F:Int)(s:Option Addr)(c:List Ins)(cap:Nat)(g:Gs)(ss:Option Addr)(gc:Nat)(w:World)(hcd:CodeAt w s c)(hs:IntsAt w ss g.s)(h1:g.s.length≤gc)(h2:gc≤maxLen):
  Calls pG 140 #[pv V F s c cap,gv g ss gc] w λe w'=>e=Rt (I Y (aF V F c [g]))∧Below w.heap.size w w':=by
 have B0:Below w.heap.size w (pgW w V F s c cap g ss gc):=by go_grown
 have L0:=GsAt.new1 (pgW w V F s c cap g ss gc) g ss gc ((hs.alloc _).alloc _) h1 h2
 simp only[zA] at L0
 have HC:=aa (bu V F s c cap (sO ⟨w.heap.size+1+1,0,nO⟩) [g] 1 _ (((hcd.alloc _).alloc _).alloc _) L0 (by simp))
 generalize aF V F c [g]=ce at HC ⊢
 clear hcd hs L0
 go_enter Tryz.func140,Tryz.ntmps140
 go_wp2_with (go_at_call 142;fail)
 refine HC.out.mono ?_
 rintro e w1 ⟨rfl,hb1⟩
 go_wp2
 go_ret
 exact⟨rfl,(B0.alloc B0.size _).trans (hb1.mono (by simp;omega))⟩

theorem DA (V F:Int)(s:Option Addr)(c:List Ins)(cap:Nat)(g:Gs)(ss:Option Addr)(gc:Nat)(h:Gs)(st:Option Addr)(hc:Nat)(w:World)
  (hcd:CodeAt w s c)(hs:IntsAt w ss g.s)(h1:g.s.length≤gc)(h2:gc≤maxLen)(ht:IntsAt w st h.s)(h3:h.s.length≤hc)(h4:hc≤maxLen)(hck:aF V F c [g,h]=0)(hlen:([g,h].flatMap Gs.s).length≤1000000):
  Calls pG 72 #[pv V F s c cap,gv g ss gc,gv h st hc] w λe w'=>∃v,e=Rt (Tu #[Ag #[Bb (g.n||h.n),Bb (bj g.sp h.sp).n,I Y (bj g.sp h.sp).lo,I Y (bj g.sp h.sp).hi,Bb (g.t||h.t),Bb (g.f||h.f),v],I Y 0])∧w'.ownsRow w.heap.size 3 1 v (cy [g,h]).length ((cy [g,h]).map (.int .i64))∧Below w.heap.size w w':=by
 obtain⟨P0,G0,H0,R0,F0⟩:=dX w V F s c cap g ss gc h st hc
 have B0:=cT w V F s c cap g ss gc h st hc
 have C0:CodeAt (bJ w V F s c cap g ss gc h st hc) s c:=hcd.below B0 (lR _)
 have I0:IntsAt (bJ w V F s c cap g ss gc h st hc) ss g.s:=hs.below B0 (lR _)
 have J0:IntsAt (bJ w V F s c cap g ss gc h st hc) st h.s:=ht.below B0 (lR _)
 have HT:=aa (sE V F s c cap g ss gc h st hc _ C0 I0 h1 h2 J0 h3 h4 hck hlen)
 clear hck hlen hcd hs ht P0 G0 H0 C0 I0 J0
 generalize bj g.sp h.sp=J at HT ⊢
 generalize cy [g,h]=T at HT ⊢
 go_enter Tryz.func72,Tryz.ntmps72
 go_wp2_with (go_at_call 123;fail)
 refine HT.out.mono ?_
 rintro e w1 ⟨v,rfl,hown,hb1⟩
 have R1:=R0.call hb1
 have F1:Fr7 w1 (w.heap.size+1+1+1):=F0.call hb1
 have B1:Below w.heap.size w w1:=B0.trans (hb1.mono B0.size)
 simp only[zA] at hown
 have O1:=hown
 obtain⟨vs,vc,rfl,-,-,-,-⟩:=IntsAt.own hown
 clear hb1 R0 F0 B0 HT hown
 obtain⟨⟨r0,r1,r2,r3,r4,r5,r6⟩,rz⟩:=id R1
 simp only[Nat.zero_add,dF] at r0 r1 r2 r3 r4 r5 r6
 have fz:=F1.1
 go_wp2
 refine bodyPost_ret (v:=Tu #[Ag #[Bb (g.n||h.n),Bb J.n,I Y J.lo,I Y J.hi,Bb (g.t||h.t),Bb (g.f||h.f),U vs T.length vc],I Y 0]) (by simp[results,Tryz.results72,go_sem,r0,r1,r2,r3,r4,r5,r6]) rfl ⟨_,rfl,?_,?_⟩
 ·exact ia (g7 O1 (by omega)) (by omega)
 ·exact dE B1 (by omega)

theorem Eg (V F:Int)(s:Option Addr)(c:List Ins)(cap:Nat)(g:Gs)(ss:Option Addr)(gc:Nat)(h:Gs)(st:Option Addr)(hc:Nat)(w:World)
  (hcd:CodeAt w s c)(hs:IntsAt w ss g.s)(h1:g.s.length≤gc)(h2:gc≤maxLen)(ht:IntsAt w st h.s)(h3:h.s.length≤hc)(h4:hc≤maxLen)(hck:aF V F c [g,h]=0)(hlen:([g,h].flatMap Gs.s).length≤1000000):
  Calls pG 73 #[pv V F s c cap,gv g ss gc,gv h st hc] w λe w'=>∃v,e=Rt (Tu #[Ag #[Bb (g.n||h.n),Bb (bw g.sp h.sp).n,I Y (bw g.sp h.sp).lo,I Y (bw g.sp h.sp).hi,Bb (g.t||h.t),Bb (g.f||h.f),v],I Y 0])∧w'.ownsRow w.heap.size 3 1 v (cy [g,h]).length ((cy [g,h]).map (.int .i64))∧Below w.heap.size w w':=by
 obtain⟨P0,G0,H0,R0,F0⟩:=dX w V F s c cap g ss gc h st hc
 have B0:=cT w V F s c cap g ss gc h st hc
 have C0:CodeAt (bJ w V F s c cap g ss gc h st hc) s c:=hcd.below B0 (lR _)
 have I0:IntsAt (bJ w V F s c cap g ss gc h st hc) ss g.s:=hs.below B0 (lR _)
 have J0:IntsAt (bJ w V F s c cap g ss gc h st hc) st h.s:=ht.below B0 (lR _)
 have HT:=aa (sA V F s c cap g ss gc h st hc _ C0 I0 h1 h2 J0 h3 h4 hck hlen)
 clear hck hlen hcd hs ht P0 G0 H0 C0 I0 J0
 generalize bw g.sp h.sp=J at HT ⊢
 generalize cy [g,h]=T at HT ⊢
 go_enter Tryz.func73,Tryz.ntmps73
 go_wp2_with (go_at_call 123;fail)
 refine HT.out.mono ?_
 rintro e w1 ⟨v,rfl,hown,hb1⟩
 have R1:=R0.call hb1
 have F1:Fr7 w1 (w.heap.size+1+1+1):=F0.call hb1
 have B1:Below w.heap.size w w1:=B0.trans (hb1.mono B0.size)
 simp only[zA] at hown
 have O1:=hown
 obtain⟨vs,vc,rfl,-,-,-,-⟩:=IntsAt.own hown
 clear hb1 R0 F0 B0 HT hown
 obtain⟨⟨r0,r1,r2,r3,r4,r5,r6⟩,rz⟩:=id R1
 simp only[Nat.zero_add,dF] at r0 r1 r2 r3 r4 r5 r6
 have fz:=F1.1
 go_wp2
 refine bodyPost_ret (v:=Tu #[Ag #[Bb (g.n||h.n),Bb J.n,I Y J.lo,I Y J.hi,Bb (g.t||h.t),Bb (g.f||h.f),U vs T.length vc],I Y 0]) (by simp[results,Tryz.results73,go_sem,r0,r1,r2,r3,r4,r5,r6]) rfl ⟨_,rfl,?_,?_⟩
 ·exact ia (g7 O1 (by omega)) (by omega)
 ·exact dE B1 (by omega)
end
end Go.Proofs.YtmapdpcfanecdabGreatDoor
