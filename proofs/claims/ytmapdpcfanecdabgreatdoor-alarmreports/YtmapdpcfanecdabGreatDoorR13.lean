import Derived.Test.YtmapdpcfanecdabGreatDoorR12
open Go.Ending renaming returned→Rt
open Go.IntKind renaming i64→Y
open Go.Proofs.Tryz renaming prog→pG
open Go.Value renaming bool→Bb,int→I
open Option renaming none→nO
open Go.Proofs.Tryz
set_option linter.unusedSimpArgs false
set_option linter.unusedVariables false
set_option maxHeartbeats 8000000
set_option maxRecDepth 100000
namespace Go.Proofs.YtmapdpcfanecdabGreatDoor
section
open Go.RowKit
def Nw (g:Gs):Int:=if g.f then 3 else if g.t then 2 else if !g.sp.n then 1 else if g.n then 0 else -1
def bT (g:Gs):Int:=if fF g then Nw g else -1

theorem So (g h:Gs):(!cX g h)=(decide (bT g < 0)||(decide (bT g≠bT h)||@decide _ (@instDecidableNot _ (g.sp.dq h.sp)))):=by
 unfold cX bT;obtain⟨n,sp,t,f,s⟩:=g;obtain⟨n',sp',t',f',s'⟩:=h;by_cases hs:sp=sp'
 ·subst hs
  obtain⟨sn,lo,hi⟩:=sp;by_cases h1:lo=hi<;>by_cases h2:s.length=0<;>by_cases h3:s'.length=0<;>cases n<;>cases sn<;>cases t<;>cases f<;>cases n'<;>cases t'<;>cases f'<;>simp[fF,Nw,b2n,h1,h2,h3]
 ·simp[hs]

theorem fD (w:World):Calls pG 111 #[] w λe w'=>e=Rt (gv noneG nO 0)/\bl w w':=by
 go_enter func111,ntmps111;go_wp2;refine bodyPost_ret (v:=gv noneG nO 0) (by simp[results,results111,go_sem,noneG]) rfl ⟨rfl,am⟩

theorem gL {p:Prop}(h:p:=by
 go_wp2;go_ret;exact⟨bF (by rw[HR.out];simp),am⟩):p:=h
theorem lY (g:Gs)(ss:oA)(gc:Nat)(w:World):
  Calls pG 116 #[gv g ss gc] w λe w'=>e=Rt (Bb (an g))/\bl w w':=by
 have HR:Hid (an g=(g.sp.n&& !(g.n||(g.t||(g.f||decide (0 < g.s.length)))))):=rfl;generalize an g=r at HR |-;obtain⟨n,⟨sn,lo,hi⟩,t,f,s⟩:=g;cases n
 ·cases sn
  ·go_enter func116,ntmps116
   exact gL
  ·cases t
   ·cases f
    ·by_cases h2:s.length=0
     ·have h2':=yZ
      have h2'':=yK;go_enter func116,ntmps116;go_wp2;go_ret;exact⟨bF (by rw[HR.out];simp[h2]),am⟩
     ·have h2':=yi
      have h2'':(0:Int) < (s.length:Int):=aa;go_enter func116,ntmps116;go_wp2;go_ret;exact⟨bF Mo,am⟩
    ·go_enter func116,ntmps116
     exact gL
   ·go_enter func116,ntmps116
    exact gL
 ·go_enter func116,ntmps116
  exact gL

theorem tu (g:Gs)(ss:oA)(gc:Nat)(w:World):
  Calls pG 171 #[gv g ss gc] w λe w'=>e=Rt (Bb (aP g))/\bl w w':=by
 have HR:Hid (aP g=(g.n||(g.t||(g.f||decide (0 < g.s.length))))):=rfl;generalize aP g=r at HR |-;obtain⟨n,⟨sn,lo,hi⟩,t,f,s⟩:=g;cases n
 ·cases t
  ·cases f
   ·by_cases h2:s.length=0
    ·have h2':=yZ
     have h2'':=yK;go_enter func171,ntmps171;go_wp2;go_ret;exact⟨bF (by rw[HR.out];simp[h2]),am⟩
    ·have h2':=yi
     have h2'':(0:Int) < (s.length:Int):=aa;go_enter func171,ntmps171;go_wp2;go_ret;exact⟨bF Mo,am⟩
   ·go_enter func171,ntmps171
    exact gL
  ·go_enter func171,ntmps171
   exact gL
 ·go_enter func171,ntmps171
  exact gL

theorem cJ {p:Prop}(h:p:=by
 clear HR;go_enter func170,ntmps170;go_wp2
 go_rounds 5
 go_ret;exact⟨bQ (HT.out.symm),am⟩):p:=h
theorem mF {p:Prop}(h:p:=by
 have h1':(lo !=hi)=true:=gT;by_cases h2:s.length=0
 ·have h2':¬((0:Int) < (s.length:Int)):=by omega
  have h2n:¬(0 < s.length):=aa;exact cJ
 ·have h2':=p7
  have h2n:0 < s.length:=aa;clear HR;go_enter func170,ntmps170;go_wp2
  go_rounds 5
  go_ret;exact⟨bQ (HT.out.symm),am⟩):p:=h
theorem me {p:Prop}(h:p:=by
 have h2':=yK;have h2n:¬(0 < s.length):=aa;subst h1;exact cJ):p:=h
theorem mq {p:Prop}(h:p:=by
 have h2':(0:Int) < (s.length:Int):=aa;have h2n:0 < s.length:=aa;subst h1;exact cJ):p:=h
theorem AX (g:Gs)(ss:oA)(gc:Nat)(w:World):
  Calls pG 170 #[gv g ss gc] w λe w'=>e=Rt (I Y (bT g))/\bl w w':=by
 have HR:Hid (bT g=if (decide (b2n g.n+b2n (!g.sp.n)+b2n g.t+b2n g.f=1)&&(decide (g.sp.lo=g.sp.hi)&&decide (g.s.length=0)))=true then(if g.f then 3 else if g.t then 2 else if !g.sp.n then 1 else if g.n then 0 else -1) else -1):=rfl;generalize bT g=r at HR |-;obtain⟨n,⟨sn,lo,hi⟩,t,f,s⟩:=g;cases n<;>cases sn<;>cases t<;>cases f
 ·by_cases h1:lo=hi
  ·by_cases h2:s.length=0
   ·have HT:Hid (r=1):=by show _=_;rw[HR.out];simp[h1,h2,b2n]
    exact me
   ·have HT:Hid (r= -1):=by show _=_;rw[HR.out];simp[h2]
    exact mq
  ·have HT:Hid (r= -1):=by show _=_;rw[HR.out];simp[h1]
   exact mF
 ·have HT:Hid (r= -1):=by show _=_;rw[HR.out];simp[b2n]
  exact cJ
 ·have HT:Hid (r= -1):=by show _=_;rw[HR.out];simp[b2n]
  exact cJ
 ·have HT:Hid (r= -1):=by show _=_;rw[HR.out];simp[b2n]
  exact cJ
 ·have HT:Hid (r= -1):=by show _=_;rw[HR.out];simp[b2n]
  exact cJ
 ·by_cases h1:lo=hi
  ·by_cases h2:s.length=0
   ·have HT:Hid (r=3):=by show _=_;rw[HR.out];simp[h1,h2,b2n]
    exact me
   ·have HT:Hid (r= -1):=by show _=_;rw[HR.out];simp[h2]
    exact mq
  ·have HT:Hid (r= -1):=by show _=_;rw[HR.out];simp[h1]
   exact mF
 ·by_cases h1:lo=hi
  ·by_cases h2:s.length=0
   ·have HT:Hid (r=2):=by show _=_;rw[HR.out];simp[h1,h2,b2n]
    exact me
   ·have HT:Hid (r= -1):=by show _=_;rw[HR.out];simp[h2]
    exact mq
  ·have HT:Hid (r= -1):=by show _=_;rw[HR.out];simp[h1]
   exact mF
 ·have HT:Hid (r= -1):=by show _=_;rw[HR.out];simp[b2n]
  exact cJ
 ·have HT:Hid (r= -1):=by show _=_;rw[HR.out];simp[b2n]
  exact cJ
 ·have HT:Hid (r= -1):=by show _=_;rw[HR.out];simp[b2n]
  exact cJ
 ·have HT:Hid (r= -1):=by show _=_;rw[HR.out];simp[b2n]
  exact cJ
 ·have HT:Hid (r= -1):=by show _=_;rw[HR.out];simp[b2n]
  exact cJ
 ·by_cases h1:lo=hi
  ·by_cases h2:s.length=0
   ·have HT:Hid (r=0):=by show _=_;rw[HR.out];simp[h1,h2,b2n]
    exact me
   ·have HT:Hid (r= -1):=by show _=_;rw[HR.out];simp[h2]
    exact mq
  ·have HT:Hid (r= -1):=by show _=_;rw[HR.out];simp[h1]
   exact mF
 ·have HT:Hid (r= -1):=by show _=_;rw[HR.out];simp[b2n]
  exact cJ
 ·have HT:Hid (r= -1):=by show _=_;rw[HR.out];simp[b2n]
  exact cJ
 ·have HT:Hid (r= -1):=by show _=_;rw[HR.out];simp[b2n]
  exact cJ
end
end Go.Proofs.YtmapdpcfanecdabGreatDoor
