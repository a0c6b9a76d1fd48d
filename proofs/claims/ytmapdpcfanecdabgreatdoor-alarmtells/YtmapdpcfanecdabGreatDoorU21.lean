import Derived.Test.YtmapdpcfanecdabGreatDoorU20
open Go.Ending renaming returned→Rt
open Go.IntKind renaming i64→Y
open Go.Obj renaming cells→Cc
open Go.Proofs.Tryz renaming prog→pG
open Go.Value renaming bool→Bb,int→I,slice→U
open Go.World renaming size_alloc→zA
set_option linter.unusedSimpArgs false
set_option linter.unusedVariables false
set_option maxHeartbeats 8000000
set_option maxRecDepth 100000
namespace Go.Proofs.YtmapdpcfanecdabGreatDoor
section
open Go.RowKit
theorem cK {p:Prop}(h:p:=by
 go_enter Tryz.func248,Tryz.ntmps248;go_wp2
 go_rounds 5
 go_ret;exact⟨bj (HT.out.symm),ai⟩):p:=h
theorem kg {p:Prop}(h:p:=by
 clear HC HD HR;by_cases h1:lo=hi
 ·by_cases h2:s.length=0
  ·have HT:Hid (r=true):=by show _=_;rw[HQ.out];simp[h1,h2]
   have h2':((s.length:Int)==0)=true:=by simp only[beq_iff_eq];omega
   subst h1;clear HQ h2;exact cK
  ·have HT:Hid (r=false):=by show _=_;rw[HQ.out];simp[h2]
   have h2':((s.length:Int)==0)=false:=by simp only[beq_eq_false_iff_ne];omega
   subst h1;clear HQ;exact cK
 ·have HT:Hid (r=false):=by show _=_;rw[HQ.out];simp[h1]
  have h1':(lo==hi)=false:=fJ;clear HQ;go_enter Tryz.func248,Tryz.ntmps248;go_wp2
  go_rounds 5
  go_ret;exact⟨bj (HT.out.symm),ai⟩):p:=h
theorem nX (g:Gs)(ss:oA)(gc:Nat)(w:World):
  Calls pG 248 #[gv g ss gc] w λe w'=>e=Rt (Bb (dQ g))/\bl w w':=by
 have HR:Hid (dQ g=(decide (b2n g.n+b2n (!g.sp.n)+b2n g.t+b2n g.f=1)&&(decide (g.sp.lo=g.sp.hi)&&decide (g.s.length=0)))):=rfl;generalize dQ g=r at HR |-;obtain⟨n,⟨sn,lo,hi⟩,t,f,s⟩:=g;have HC:∀m:Nat,m≠1->Hid (b2n n+b2n (!sn)+b2n t+b2n f=m)->Hid (r=false):=by
  intro m hm h;show _=_;rw[HR.out,h.out];simp[hm]
 have HD:Hid (b2n n+b2n (!sn)+b2n t+b2n f=1)->Hid (r=(decide (lo=hi)&&decide (s.length=0))):=by
  intro h;show _=_;rw[HR.out,h.out];simp
 cases n<;>cases sn<;>cases t<;>cases f
 ·have HQ:=HD rfl
  exact kg
 ·have HT:=HC 2 aj rfl
  clear HC HD HR;exact cK
 ·have HT:=HC 2 aj rfl
  clear HC HD HR;exact cK
 ·have HT:=HC 3 aj rfl
  clear HC HD HR;exact cK
 ·have HT:=HC 0 aj rfl
  clear HC HD HR;exact cK
 ·have HQ:=HD rfl
  exact kg
 ·have HQ:=HD rfl
  exact kg
 ·have HT:=HC 2 aj rfl
  clear HC HD HR;exact cK
 ·have HT:=HC 2 aj rfl
  clear HC HD HR;exact cK
 ·have HT:=HC 3 aj rfl
  clear HC HD HR;exact cK
 ·have HT:=HC 3 aj rfl
  clear HC HD HR;exact cK
 ·have HT:=HC 4 aj rfl
  clear HC HD HR;exact cK
 ·have HQ:=HD rfl
  exact kg
 ·have HT:=HC 2 aj rfl
  clear HC HD HR;exact cK
 ·have HT:=HC 2 aj rfl
  clear HC HD HR;exact cK
 ·have HT:=HC 3 aj rfl
  clear HC HD HR;exact cK

theorem Ck (g:Gs)(ss:oA)(gc:Nat)(h:Gs)(st:oA)(hc:Nat)(w:World):
  Calls pG 235 #[gv g ss gc,gv h st hc] w λe w'=>e=Rt (Bb (cM g h))/\bl w w':=by
 have HR:Hid (cM g h=(dQ g&&(dQ h&&(g.n==h.n&&(@decide _ (g.sp.dq h.sp)&&(g.t==h.t&&g.f==h.f)))))):=rfl;have H1:=ae (λw=>nX g ss gc w);have H2:=ae (λw=>nX h st hc w);generalize cM g h=r at HR |-;generalize dQ g=s1 at HR H1;generalize dQ h=s2 at HR H2;have B0:Below w.heap.size w ((w.alloc (Cc #[Bb g.n,Bb g.sp.n,I Y g.sp.lo,I Y g.sp.hi,Bb g.t,Bb g.f,U ss g.s.length gc] 91)).alloc (Cc #[Bb h.n,Bb h.sp.n,I Y h.sp.lo,I Y h.sp.hi,Bb h.t,Bb h.f,U st h.s.length hc] 91)):=ai;have G0:=(GuAt.new w g ss gc).alloc (Cc #[Bb h.n,Bb h.sp.n,I Y h.sp.lo,I Y h.sp.hi,Bb h.t,Bb h.f,U st h.s.length hc] 91);have H0:=GuAt.new (w.alloc (Cc #[Bb g.n,Bb g.sp.n,I Y g.sp.lo,I Y g.sp.hi,Bb g.t,Bb g.f,U ss g.s.length gc] 91)) h st hc;rw[zA] at H0;cases s1 with
 |false=>
  go_enter Tryz.func235,Tryz.ntmps235;go_wp2_with fail;refine(H1.out _).mono ?_;rintro e w1 ⟨rfl,hb1⟩;go_wp2;go_ret;exact⟨bj fi,B0.trans (hb1.mono B0.size)⟩
 |true=>
  go_enter Tryz.func235,Tryz.ntmps235;go_wp2_with fail;refine(H1.out _).mono ?_;rintro e w1 ⟨rfl,hb1⟩;have G1:=G0.call hb1;have K1:=H0.call hb1;have B1:=B0.trans (hb1.mono B0.size);clear hb1 G0 H0 B0;obtain⟨⟨k0,k1,k2,k3,k4,k5,k6⟩,kz⟩:=id K1;simp only[Nat.zero_add] at k0 k1 k2 k3 k4 k5 k6;go_wp2_with fail;refine(H2.out _).mono ?_;rintro e w2 ⟨rfl,hb2⟩;have G2:=G1.call hb2;have K2:=K1.call hb2;have B2:=B1.trans (hb2.mono B1.size);clear hb2 G1 K1 B1 k0 k1 k2 k3 k4 k5 k6 kz;obtain⟨⟨g0,g1,g2,g3,g4,g5,g6⟩,gz⟩:=id G2;obtain⟨⟨k0,k1,k2,k3,k4,k5,k6⟩,kz⟩:=id K2;simp only[Nat.zero_add] at g0 g1 g2 g3 g4 g5 g6 k0 k1 k2 k3 k4 k5 k6;cases s2 with
  |false=>
   go_wp2;go_ret;exact⟨bj fi,B2⟩
  |true=>
   rw[KX] at HR;obtain⟨n,⟨sn,lo,hi⟩,t,f,s⟩:=g;obtain⟨n',⟨sn',lo',hi'⟩,t',f',s'⟩:=h;simp only at HR g0 g1 g2 g3 g4 g5 g6 k0 k1 k2 k3 k4 k5 k6;go_wp2;all_goals go_ret
   all_goals exact⟨bj (by rw[HR.out];simp_all),B2⟩
end
end Go.Proofs.YtmapdpcfanecdabGreatDoor
