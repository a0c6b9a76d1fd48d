import Derived.Test.YtmapdpcfanecdabGreatDoorU27
open Go.Ending renaming returned→Rt
open Go.IntKind renaming i64→Y
open Go.Proofs.Tryz renaming prog→pG
open Go.Value renaming bool→Bb,int→I
open Option renaming none→nO
set_option linter.unusedSimpArgs false
set_option linter.unusedVariables false
set_option maxHeartbeats 8000000
set_option maxRecDepth 100000
namespace Go.Proofs.YtmapdpcfanecdabGreatDoor
section
open Go.RowKit
def Ds (g:Gs):Int:=if g.f then 3 else if g.t then 2 else if !g.sp.n then 1 else if g.n then 0 else -1
def bB (g:Gs):Int:=if dQ g then Ds g else -1

theorem Hs (g h:Gs):(!cM g h)=(decide (bB g < 0)||(decide (bB g≠bB h)||@decide _ (@instDecidableNot _ (g.sp.dq h.sp)))):=by
 unfold cM bB;obtain⟨n,sp,t,f,s⟩:=g;obtain⟨n',sp',t',f',s'⟩:=h;by_cases hs:sp=sp'
 ·subst hs
  obtain⟨sn,lo,hi⟩:=sp;by_cases h1:lo=hi<;>by_cases h2:s.length=0<;>by_cases h3:s'.length=0<;>cases n<;>cases sn<;>cases t<;>cases f<;>cases n'<;>cases t'<;>cases f'<;>simp[dQ,Ds,b2n,h1,h2,h3]
 ·simp[hs]

theorem cZ (w:World):Calls pG 111 #[] w λe w'=>e=Rt (gv noneG nO 0)/\bl w w':=by
 go_enter Tryz.func111,Tryz.ntmps111;go_wp2;refine bodyPost_ret (v:=gv noneG nO 0) (by simp[results,Tryz.results111,go_sem,noneG]) rfl ⟨rfl,ai⟩

theorem bL (g:Gs)(ss:oA)(gc:Nat)(w:World):
  Calls pG 116 #[gv g ss gc] w λe w'=>e=Rt (Bb (ap g))/\bl w w':=by
 have HR:Hid (ap g=(g.sp.n&& !(g.n||(g.t||(g.f||decide (0 < g.s.length)))))):=rfl;generalize ap g=r at HR |-;obtain⟨n,⟨sn,lo,hi⟩,t,f,s⟩:=g;cases n
 ·cases sn
  ·go_enter Tryz.func116,Tryz.ntmps116
   go_wp2;go_ret;exact⟨bj gD,ai⟩
  ·cases t
   ·cases f
    ·by_cases h2:s.length=0
     ·have h2':((s.length:Int)==0)=true:=by simp only[beq_iff_eq];omega
      have h2'':¬((0:Int) < (s.length:Int)):=aa;go_enter Tryz.func116,Tryz.ntmps116;go_wp2;go_ret;exact⟨bj (by rw[HR.out];simp[h2]),ai⟩
     ·have h2':((s.length:Int)==0)=false:=by simp only[beq_eq_false_iff_ne];omega
      have h2'':(0:Int) < (s.length:Int):=aa;go_enter Tryz.func116,Tryz.ntmps116;go_wp2;go_ret;exact⟨bj Cw,ai⟩
    ·go_enter Tryz.func116,Tryz.ntmps116
     go_wp2;go_ret;exact⟨bj gD,ai⟩
   ·go_enter Tryz.func116,Tryz.ntmps116
    go_wp2;go_ret;exact⟨bj gD,ai⟩
 ·go_enter Tryz.func116,Tryz.ntmps116
  go_wp2;go_ret;exact⟨bj gD,ai⟩

theorem dF (g:Gs)(ss:oA)(gc:Nat)(w:World):
  Calls pG 171 #[gv g ss gc] w λe w'=>e=Rt (Bb (aL g))/\bl w w':=by
 have HR:Hid (aL g=(g.n||(g.t||(g.f||decide (0 < g.s.length))))):=rfl;generalize aL g=r at HR |-;obtain⟨n,⟨sn,lo,hi⟩,t,f,s⟩:=g;cases n
 ·cases t
  ·cases f
   ·by_cases h2:s.length=0
    ·have h2':((s.length:Int)==0)=true:=by simp only[beq_iff_eq];omega
     have h2'':¬((0:Int) < (s.length:Int)):=aa;go_enter Tryz.func171,Tryz.ntmps171;go_wp2;go_ret;exact⟨bj (by rw[HR.out];simp[h2]),ai⟩
    ·have h2':((s.length:Int)==0)=false:=by simp only[beq_eq_false_iff_ne];omega
     have h2'':(0:Int) < (s.length:Int):=aa;go_enter Tryz.func171,Tryz.ntmps171;go_wp2;go_ret;exact⟨bj Cw,ai⟩
   ·go_enter Tryz.func171,Tryz.ntmps171
    go_wp2;go_ret;exact⟨bj gD,ai⟩
  ·go_enter Tryz.func171,Tryz.ntmps171
   go_wp2;go_ret;exact⟨bj gD,ai⟩
 ·go_enter Tryz.func171,Tryz.ntmps171
  go_wp2;go_ret;exact⟨bj gD,ai⟩

theorem cC {p:Prop}(h:p:=by
 clear HR;go_enter Tryz.func170,Tryz.ntmps170;go_wp2
 go_rounds 5
 go_ret;exact⟨bP (HT.out.symm),ai⟩):p:=h
theorem kw {p:Prop}(h:p:=by
 have h1':(lo !=hi)=true:=fJ;by_cases h2:s.length=0
 ·have h2':¬((0:Int) < (s.length:Int)):=by omega
  have h2n:¬(0 < s.length):=aa;exact cC
 ·have h2':(0:Int) < (s.length:Int):=by omega
  have h2n:0 < s.length:=aa;clear HR;go_enter Tryz.func170,Tryz.ntmps170;go_wp2
  go_rounds 5
  go_ret;exact⟨bP (HT.out.symm),ai⟩):p:=h
theorem kA {p:Prop}(h:p:=by
 have h2':¬((0:Int) < (s.length:Int)):=aa;have h2n:¬(0 < s.length):=aa;subst h1;exact cC):p:=h
theorem ke {p:Prop}(h:p:=by
 have h2':(0:Int) < (s.length:Int):=aa;have h2n:0 < s.length:=aa;subst h1;exact cC):p:=h
theorem eH (g:Gs)(ss:oA)(gc:Nat)(w:World):
  Calls pG 170 #[gv g ss gc] w λe w'=>e=Rt (I Y (bB g))/\bl w w':=by
 have HR:Hid (bB g=if (decide (b2n g.n+b2n (!g.sp.n)+b2n g.t+b2n g.f=1)&&(decide (g.sp.lo=g.sp.hi)&&decide (g.s.length=0)))=true then(if g.f then 3 else if g.t then 2 else if !g.sp.n then 1 else if g.n then 0 else -1) else -1):=rfl;generalize bB g=r at HR |-;obtain⟨n,⟨sn,lo,hi⟩,t,f,s⟩:=g;cases n<;>cases sn<;>cases t<;>cases f
 ·by_cases h1:lo=hi
  ·by_cases h2:s.length=0
   ·have HT:Hid (r=1):=by show _=_;rw[HR.out];simp[h1,h2,b2n]
    exact kA
   ·have HT:Hid (r= -1):=by show _=_;rw[HR.out];simp[h2]
    exact ke
  ·have HT:Hid (r= -1):=by show _=_;rw[HR.out];simp[h1]
   exact kw
 ·have HT:Hid (r= -1):=by show _=_;rw[HR.out];simp[b2n]
  exact cC
 ·have HT:Hid (r= -1):=by show _=_;rw[HR.out];simp[b2n]
  exact cC
 ·have HT:Hid (r= -1):=by show _=_;rw[HR.out];simp[b2n]
  exact cC
 ·have HT:Hid (r= -1):=by show _=_;rw[HR.out];simp[b2n]
  exact cC
 ·by_cases h1:lo=hi
  ·by_cases h2:s.length=0
   ·have HT:Hid (r=3):=by show _=_;rw[HR.out];simp[h1,h2,b2n]
    exact kA
   ·have HT:Hid (r= -1):=by show _=_;rw[HR.out];simp[h2]
    exact ke
  ·have HT:Hid (r= -1):=by show _=_;rw[HR.out];simp[h1]
   exact kw
 ·by_cases h1:lo=hi
  ·by_cases h2:s.length=0
   ·have HT:Hid (r=2):=by show _=_;rw[HR.out];simp[h1,h2,b2n]
    exact kA
   ·have HT:Hid (r= -1):=by show _=_;rw[HR.out];simp[h2]
    exact ke
  ·have HT:Hid (r= -1):=by show _=_;rw[HR.out];simp[h1]
   exact kw
 ·have HT:Hid (r= -1):=by show _=_;rw[HR.out];simp[b2n]
  exact cC
 ·have HT:Hid (r= -1):=by show _=_;rw[HR.out];simp[b2n]
  exact cC
 ·have HT:Hid (r= -1):=by show _=_;rw[HR.out];simp[b2n]
  exact cC
 ·have HT:Hid (r= -1):=by show _=_;rw[HR.out];simp[b2n]
  exact cC
 ·have HT:Hid (r= -1):=by show _=_;rw[HR.out];simp[b2n]
  exact cC
 ·by_cases h1:lo=hi
  ·by_cases h2:s.length=0
   ·have HT:Hid (r=0):=by show _=_;rw[HR.out];simp[h1,h2,b2n]
    exact kA
   ·have HT:Hid (r= -1):=by show _=_;rw[HR.out];simp[h2]
    exact ke
  ·have HT:Hid (r= -1):=by show _=_;rw[HR.out];simp[h1]
   exact kw
 ·have HT:Hid (r= -1):=by show _=_;rw[HR.out];simp[b2n]
  exact cC
 ·have HT:Hid (r= -1):=by show _=_;rw[HR.out];simp[b2n]
  exact cC
 ·have HT:Hid (r= -1):=by show _=_;rw[HR.out];simp[b2n]
  exact cC
end
end Go.Proofs.YtmapdpcfanecdabGreatDoor
