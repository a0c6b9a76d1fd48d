import Derived.Test.YtmapdpcfanecdabGreatDoorM14
import Derived.Test.YtmapdpcfanecdabGreatDoorM15
import Derived.Test.YtmapdpcfanecdabGreatDoorM16
import Derived.Test.YtmapdpcfanecdabGreatDoorM23
import Derived.Test.YtmapdpcfanecdabGreatDoorM18
open Go.Ending renaming returned→Rt
open Go.IntKind renaming i64→Y
open Go.Proofs.Tryz renaming prog→pG
open Go.Value renaming bool→Bb,int→I,tuple→Tu
open Go.World renaming size_alloc→zA
open Nat renaming le_refl→lR
open Option renaming none→nO
set_option linter.unusedSimpArgs false
set_option linter.unusedVariables false
set_option maxHeartbeats 8000000
set_option maxRecDepth 100000
namespace Go.Proofs.YtmapdpcfanecdabGreatDoor
section
open Go.RowKit
theorem mu {x:Int}(h1: -9223372036854775808≤x)(h2:x < 9223372036854775808):wrap64 x=x:=by unfold wrap64;omega

theorem DF {a b:Int}(ha:aV a)(hb:aV b): -4611686018427387904≤a * b∧a * b≤4611686018427387904:=by
 have h1:a.natAbs≤2147483648:=by unfold aV at ha;omega
 have h2:b.natAbs≤2147483648:=by unfold aV at hb;omega
 have h3:(a * b).natAbs≤4611686018427387904:=by rw[Int.natAbs_mul];exact Nat.mul_le_mul h1 h2
 omega

theorem mM {a b:Int}(ha:aV a)(hb:aV b):wrap64 (a+b)=a+b:=by
 unfold aV at ha hb
 exact mu (by omega) (by omega)
theorem mk {a b:Int}(ha:aV a)(hb:aV b):wrap64 (a - b)=a - b:=by
 unfold aV at ha hb
 exact mu (by omega) (by omega)
theorem mO {a b:Int}(ha:aV a)(hb:aV b):wrap64 (a * b)=a * b:=by
 have:=DF ha hb
 exact mu (by omega) (by omega)

theorem Gr (s t:Sp)(w:World)(hs:s.Ok)(ht:t.Ok):
  Calls pG 228 #[sv s,sv t,.func (.func 229) #[] #[]] w λe w'=>e=Rt (sv (cK 5 s t))∧Below w.heap.size w w':=by
 by_cases h:(s.n||t.n)=true
 ·have:=lN 229 s t w h
  unfold cK
  rw[if_pos h]
  exact this
 ·have e0:cK 5 s t=kd (s.lo+t.lo) (s.lo+t.hi) (s.hi+t.lo) (s.hi+t.hi):=by unfold cK;rw[if_neg h];rfl
  rw[e0]
  obtain⟨n,lo,hi⟩:=s
  obtain⟨n',lo',hi'⟩:=t
  cases n with
  |true=>exact absurd rfl h
  |false=>
   cases n' with
   |true=>exact absurd rfl h
   |false=>exact AX lo hi lo' hi' w (mM hs.1 ht.1) (mM hs.1 ht.2.1) (mM hs.2.1 ht.1) (mM hs.2.1 ht.2.1)

theorem Hv (s t:Sp)(w:World)(hs:s.Ok)(ht:t.Ok):
  Calls pG 228 #[sv s,sv t,.func (.func 230) #[] #[]] w λe w'=>e=Rt (sv (cK 6 s t))∧Below w.heap.size w w':=by
 by_cases h:(s.n||t.n)=true
 ·have:=lN 230 s t w h
  unfold cK
  rw[if_pos h]
  exact this
 ·have e0:cK 6 s t=kd (s.lo - t.lo) (s.lo - t.hi) (s.hi - t.lo) (s.hi - t.hi):=by unfold cK;rw[if_neg h];rfl
  rw[e0]
  obtain⟨n,lo,hi⟩:=s
  obtain⟨n',lo',hi'⟩:=t
  cases n with
  |true=>exact absurd rfl h
  |false=>
   cases n' with
   |true=>exact absurd rfl h
   |false=>exact Cj lo hi lo' hi' w (mk hs.1 ht.1) (mk hs.1 ht.2.1) (mk hs.2.1 ht.1) (mk hs.2.1 ht.2.1)

theorem Hy (s t:Sp)(w:World)(hs:s.Ok)(ht:t.Ok):
  Calls pG 228 #[sv s,sv t,.func (.func 231) #[] #[]] w λe w'=>e=Rt (sv (cK 7 s t))∧Below w.heap.size w w':=by
 by_cases h:(s.n||t.n)=true
 ·have:=lN 231 s t w h
  unfold cK
  rw[if_pos h]
  exact this
 ·have e0:cK 7 s t=kd (s.lo * t.lo) (s.lo * t.hi) (s.hi * t.lo) (s.hi * t.hi):=by unfold cK;rw[if_neg h];rfl
  rw[e0]
  obtain⟨n,lo,hi⟩:=s
  obtain⟨n',lo',hi'⟩:=t
  cases n with
  |true=>exact absurd rfl h
  |false=>
   cases n' with
   |true=>exact absurd rfl h
   |false=>exact AM lo hi lo' hi' w (mO hs.1 ht.1) (mO hs.1 ht.2.1) (mO hs.2.1 ht.1) (mO hs.2.1 ht.2.1)

theorem IC (k:Int)(s t:Sp)(w:World)(h:br s t≠0):
  Calls pG 202 #[I Y k,sv s,sv t] w λe w'=>e=Rt (Tu #[sv bA,I Y (br s t)])∧Below w.heap.size w w':=by
 obtain⟨n,lo,hi⟩:=s
 obtain⟨n',lo',hi'⟩:=t
 go_enter Tryz.func202,Tryz.ntmps202
 go_wp2_with (go_at_call 219;fail)
 refine(dR ⟨n,lo,hi⟩ ⟨n',lo',hi'⟩ _).mono ?_
 rintro e w1 ⟨rfl,hb1⟩
 obtain⟨⟨c0,c1,c2⟩,⟨d0,d1,d2⟩,⟨r0,r1,r2⟩,⟨f0,f1,f2⟩,z0,z1,z2⟩:=eE (s:=⟨n,lo,hi⟩) (t:=⟨n',lo',hi'⟩) (r:=bA) hb1 (by simp)
 have H1:Below w.heap.size w w1:=(eF ⟨n,lo,hi⟩ ⟨n',lo',hi'⟩ bA w).trans (hb1.mono (by simp;omega))
 simp only[bA] at r0 r1 r2
 clear hb1
 go_wp2
 refine bodyPost_ret (v:=Tu #[sv bA,I Y (br ⟨n,lo,hi⟩ ⟨n',lo',hi'⟩)]) (by simp[results,Tryz.results202,go_sem,r0,r1,r2,bA]) rfl ⟨rfl,?_⟩
 exact((H1.setCell (by simp;omega) _).setCell (by simp;omega) _).setCell (by simp;omega) _

theorem GW (k:Int)(s t:Sp)(w:World)(h:br s t=0)(h5:(k==5)=false)(h6:(k==6)=false)(h7:(k==7)=false):
  Calls pG 202 #[I Y k,sv s,sv t] w λe w'=>e=Rt (Tu #[sv bA,I Y 6])∧Below w.heap.size w w':=by
 obtain⟨n,lo,hi⟩:=s
 obtain⟨n',lo',hi'⟩:=t
 go_enter Tryz.func202,Tryz.ntmps202
 go_wp2_with (go_at_call 219;fail)
 refine(dR ⟨n,lo,hi⟩ ⟨n',lo',hi'⟩ _).mono ?_
 rintro e w1 ⟨rfl,hb1⟩
 obtain⟨⟨c0,c1,c2⟩,⟨d0,d1,d2⟩,⟨r0,r1,r2⟩,⟨f0,f1,f2⟩,z0,z1,z2⟩:=eE (s:=⟨n,lo,hi⟩) (t:=⟨n',lo',hi'⟩) (r:=bA) hb1 (by simp)
 have H1:Below w.heap.size w w1:=(eF ⟨n,lo,hi⟩ ⟨n',lo',hi'⟩ bA w).trans (hb1.mono (by simp;omega))
 simp only[bA] at r0 r1 r2
 clear hb1
 rw[h]
 go_wp2
 refine bodyPost_ret (v:=Tu #[sv bA,I Y 6]) (by simp[results,Tryz.results202,go_sem,r0,r1,r2,bA]) rfl ⟨rfl,?_⟩
 exact((H1.setCell (by simp;omega) _).setCell (by simp;omega) _).setCell (by simp;omega) _

theorem mQ {p:Prop}(h:p:=by
 clear hs ht
 obtain⟨n,lo,hi⟩:=s
 obtain⟨n',lo',hi'⟩:=t
 obtain⟨rn,rlo,rhi⟩:=r
 go_enter Tryz.func202,Tryz.ntmps202
 go_wp2_with (go_at_call 219;fail)
 refine(dR ⟨n,lo,hi⟩ ⟨n',lo',hi'⟩ _).mono ?_
 rintro e w1 ⟨rfl,hb1⟩
 obtain⟨⟨c0,c1,c2⟩,⟨d0,d1,d2⟩,⟨r0,r1,r2⟩,⟨f0,f1,f2⟩,z0,z1,z2⟩:=eE (s:=⟨n,lo,hi⟩) (t:=⟨n',lo',hi'⟩) (r:=bA) hb1 (by simp)
 have H1:Below w.heap.size w w1:=(eF ⟨n,lo,hi⟩ ⟨n',lo',hi'⟩ bA w).trans (hb1.mono (by simp;omega))
 simp only[bA] at r0 r1 r2
 clear hb1
 rw[h]
 go_wp2_with (go_at_call 228;fail)
 refine(hR _).mono ?_
 rintro e w2 ⟨rfl,hb2⟩
 have g0:=r0;have g1:=r1;have g2:=r2;have k0:=f0;have k1:=f1;have k2:=f2
 rw[←hb2.cell z2] at g0 g1 g2
 rw[←hb2.frozen z2] at k0 k1 k2
 have H2:Below w.heap.size w w2:=H1.trans (hb2.mono (by omega))
 clear r0 r1 r2 f0 f1 f2 hb2 c0 c1 c2 d0 d1 d2 hR
 go_wp2
 refine bodyPost_ret (v:=.tuple #[sv ⟨rn,rlo,rhi⟩,.int .i64 0]) (by simp[results,Tryz.results202,go_sem,g0,g1,g2]) rfl ⟨rfl,?_⟩
 exact((H2.setCell (by simp;omega) _).setCell (by simp;omega) _).setCell (by simp;omega) _):p:=h
theorem Iw (s t:Sp)(w:World)(h:br s t=0):
  Calls pG 202 #[I Y 5,sv s,sv t] w λe w'=>e=Rt (Tu #[sv (cK 5 s t),I Y 0])∧Below w.heap.size w w':=by
 obtain⟨hs,ht⟩:=ckSps_ok.1 h
 have hR:=λw=>Gr s t w hs ht
 generalize cK 5 s t=r at hR ⊢
 exact mQ

theorem Iz (s t:Sp)(w:World)(h:br s t=0):
  Calls pG 202 #[I Y 6,sv s,sv t] w λe w'=>e=Rt (Tu #[sv (cK 6 s t),I Y 0])∧Below w.heap.size w w':=by
 obtain⟨hs,ht⟩:=ckSps_ok.1 h
 have hR:=λw=>Hv s t w hs ht
 generalize cK 6 s t=r at hR ⊢
 exact mQ

theorem IN (s t:Sp)(w:World)(h:br s t=0):
  Calls pG 202 #[I Y 7,sv s,sv t] w λe w'=>e=Rt (Tu #[sv (cK 7 s t),I Y 0])∧Below w.heap.size w w':=by
 obtain⟨hs,ht⟩:=ckSps_ok.1 h
 have hR:=λw=>Hy s t w hs ht
 generalize cK 7 s t=r at hR ⊢
 exact mQ

def fU (k:Int)(s t:Sp):Int:=if br s t=0 then(if k=5∨k=6∨k=7 then 0 else 6) else br s t

theorem wS (k:Int)(s t:Sp)(w:World):
  Calls pG 202 #[I Y k,sv s,sv t] w λe w'=>e=Rt (Tu #[sv (eP (fU k s t) (cK k s t)),I Y (fU k s t)])∧Below w.heap.size w w':=by
 by_cases h:br s t=0
 ·by_cases hk:k=5∨k=6∨k=7
  ·have e0:fU k s t=0:=by unfold fU;rw[if_pos h,if_pos hk]
   rw[e0]
   rcases hk with rfl|rfl|rfl
   ·exact Iw s t w h
   ·exact Iz s t w h
   ·exact IN s t w h
  ·have e0:fU k s t=6:=by unfold fU;rw[if_pos h,if_neg hk]
   rw[e0]
   exact GW k s t w h (by simp;omega) (by simp;omega) (by simp;omega)
 ·have e0:fU k s t=br s t:=by unfold fU;rw[if_neg h]
  rw[e0]
  unfold eP
  rw[if_neg h]
  exact IC k s t w h
theorem Kv (V F:Int)(s:Option Addr)(c:List Ins)(cap:Nat)(g:Gs)(ss:Option Addr)(gc:Nat)(h:Gs)(st:Option Addr)(hc:Nat)(w:World)
  (hcd:CodeAt w s c)(hs:IntsAt w ss g.s)(h1:g.s.length≤gc)(h2:gc≤maxLen)(ht:IntsAt w st h.s)(h3:h.s.length≤hc)(h4:hc≤maxLen)(hck:aX V F c [g,h]=0):
  Calls pG 164 #[pv V F s c cap,I Y 5,gv g ss gc,gv h st hc] w λe w'=>e=Rt (Tu #[gv ⟨false,cK 5 g.sp h.sp,false,false,[]⟩ nO 0,Bb ([g,h].any aW&& ![g,h].any aB),I Y 0])∧Below w.heap.size w w':=by
 obtain⟨P0,G0,H0,R0,F0⟩:=eC w V F s c cap g ss gc h st hc
 have B0:=cU w V F s c cap g ss gc h st hc
 have C0:CodeAt (bH w V F s c cap g ss gc h st hc) s c:=hcd.below B0 (lR _)
 have I0:IntsAt (bH w V F s c cap g ss gc h st hc) ss g.s:=hs.below B0 (lR _)
 have J0:IntsAt (bH w V F s c cap g ss gc h st hc) st h.s:=ht.below B0 (lR _)
 have L0:=GsAt.new2 (bH w V F s c cap g ss gc h st hc) g ss gc h st hc I0 h1 h2 J0 h3 h4
 simp only[zA] at L0
 have hJ0:=λw=>wS 5 g.sp h.sp w
 rw[show fU 5 g.sp h.sp=0 by unfold fU;rw[if_pos (eH hck),if_pos (by decide)],show∀r,eP 0 r=r from λr=>rfl] at hJ0
 have hJ:=aa hJ0
 have HK:=aa hck
 clear hck hJ0
 generalize cK 5 g.sp h.sp=J at hJ ⊢
 exact mK
theorem Kh (V F:Int)(s:Option Addr)(c:List Ins)(cap:Nat)(g:Gs)(ss:Option Addr)(gc:Nat)(h:Gs)(st:Option Addr)(hc:Nat)(w:World)
  (hcd:CodeAt w s c)(hs:IntsAt w ss g.s)(h1:g.s.length≤gc)(h2:gc≤maxLen)(ht:IntsAt w st h.s)(h3:h.s.length≤hc)(h4:hc≤maxLen)(hck:aX V F c [g,h]=0):
  Calls pG 164 #[pv V F s c cap,I Y 6,gv g ss gc,gv h st hc] w λe w'=>e=Rt (Tu #[gv ⟨false,cK 6 g.sp h.sp,false,false,[]⟩ nO 0,Bb ([g,h].any aW&& ![g,h].any aB),I Y 0])∧Below w.heap.size w w':=by
 obtain⟨P0,G0,H0,R0,F0⟩:=eC w V F s c cap g ss gc h st hc
 have B0:=cU w V F s c cap g ss gc h st hc
 have C0:CodeAt (bH w V F s c cap g ss gc h st hc) s c:=hcd.below B0 (lR _)
 have I0:IntsAt (bH w V F s c cap g ss gc h st hc) ss g.s:=hs.below B0 (lR _)
 have J0:IntsAt (bH w V F s c cap g ss gc h st hc) st h.s:=ht.below B0 (lR _)
 have L0:=GsAt.new2 (bH w V F s c cap g ss gc h st hc) g ss gc h st hc I0 h1 h2 J0 h3 h4
 simp only[zA] at L0
 have hJ0:=λw=>wS 6 g.sp h.sp w
 rw[show fU 6 g.sp h.sp=0 by unfold fU;rw[if_pos (eH hck),if_pos (by decide)],show∀r,eP 0 r=r from λr=>rfl] at hJ0
 have hJ:=aa hJ0
 have HK:=aa hck
 clear hck hJ0
 generalize cK 6 g.sp h.sp=J at hJ ⊢
 exact mK
theorem I8 (V F:Int)(s:Option Addr)(c:List Ins)(cap:Nat)(g:Gs)(ss:Option Addr)(gc:Nat)(h:Gs)(st:Option Addr)(hc:Nat)(w:World)
  (hcd:CodeAt w s c)(hs:IntsAt w ss g.s)(h1:g.s.length≤gc)(h2:gc≤maxLen)(ht:IntsAt w st h.s)(h3:h.s.length≤hc)(h4:hc≤maxLen)(hck:aX V F c [g,h]=0):
  Calls pG 164 #[pv V F s c cap,I Y 7,gv g ss gc,gv h st hc] w λe w'=>e=Rt (Tu #[gv ⟨false,cK 7 g.sp h.sp,false,false,[]⟩ nO 0,Bb ([g,h].any aW&& ![g,h].any aB),I Y 0])∧Below w.heap.size w w':=by
 obtain⟨P0,G0,H0,R0,F0⟩:=eC w V F s c cap g ss gc h st hc
 have B0:=cU w V F s c cap g ss gc h st hc
 have C0:CodeAt (bH w V F s c cap g ss gc h st hc) s c:=hcd.below B0 (lR _)
 have I0:IntsAt (bH w V F s c cap g ss gc h st hc) ss g.s:=hs.below B0 (lR _)
 have J0:IntsAt (bH w V F s c cap g ss gc h st hc) st h.s:=ht.below B0 (lR _)
 have L0:=GsAt.new2 (bH w V F s c cap g ss gc h st hc) g ss gc h st hc I0 h1 h2 J0 h3 h4
 simp only[zA] at L0
 have hJ0:=λw=>wS 7 g.sp h.sp w
 rw[show fU 7 g.sp h.sp=0 by unfold fU;rw[if_pos (eH hck),if_pos (by decide)],show∀r,eP 0 r=r from λr=>rfl] at hJ0
 have hJ:=aa hJ0
 have HK:=aa hck
 clear hck hJ0
 generalize cK 7 g.sp h.sp=J at hJ ⊢
 exact mK
end
end Go.Proofs.YtmapdpcfanecdabGreatDoor
