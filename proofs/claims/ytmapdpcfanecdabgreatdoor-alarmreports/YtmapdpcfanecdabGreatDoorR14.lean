import Derived.Test.YtmapdpcfanecdabGreatDoorR13
open Go.Ending renaming returned→Rt
open Go.IntKind renaming i64→Y
open Go.Proofs.Tryz renaming prog→pG
open Go.Value renaming bool→Bb,int→I
open Option renaming none→nO
set_option linter.unusedSimpArgs false
set_option linter.unusedVariables false
set_option maxHeartbeats 8000000
set_option maxRecDepth 100000
namespace Go.Proofs.YtmapdpcfanecdabGreatDoor
section
open Go.RowKit
def DN (g:Gs):Int:=if g.f then 3 else if g.t then 2 else if !g.sp.n then 1 else if g.n then 0 else -1
def bF (g:Gs):Int:=if eQ g then DN g else -1

theorem Ky (g h:Gs):(!c7 g h)=(decide (bF g < 0)||(decide (bF g≠bF h)||decide (g.sp≠h.sp))):=by
 unfold c7 bF;obtain⟨n,sp,t,f,s⟩:=g;obtain⟨n',sp',t',f',s'⟩:=h;by_cases hs:sp=sp'
 ·subst hs
  obtain⟨sn,lo,hi⟩:=sp;by_cases h1:lo=hi<;>by_cases h2:s.length=0<;>by_cases h3:s'.length=0<;>cases n<;>cases sn<;>cases t<;>cases f<;>cases n'<;>cases t'<;>cases f'<;>simp[eQ,DN,b2n,h1,h2,h3]
 ·simp[hs]

theorem du (w:World):Calls pG 111 #[] w λe w'=>e=Rt (gv noneG nO 0)/\bl w w':=by
 go_enter Tryz.func111,Tryz.ntmps111;go_wp2;refine bodyPost_ret (v:=gv noneG nO 0) (by simp[results,Tryz.results111,go_sem,noneG]) rfl ⟨rfl,ai⟩

theorem bP (g:Gs)(ss:oA)(gc:Nat)(w:World):
  Calls pG 116 #[gv g ss gc] w λe w'=>e=Rt (Bb (ap g))/\bl w w':=by
 have HR:Hid (ap g=(g.sp.n&& !(g.n||(g.t||(g.f||decide (0 < g.s.length)))))):=rfl;generalize ap g=r at HR |-;obtain⟨n,⟨sn,lo,hi⟩,t,f,s⟩:=g;cases n
 ·cases sn
  ·go_enter Tryz.func116,Tryz.ntmps116
   go_wp2;go_ret;exact⟨bm gQ,ai⟩
  ·cases t
   ·cases f
    ·by_cases h2:s.length=0
     ·have h2':((s.length:Int)==0)=true:=by simp only[beq_iff_eq];omega
      have h2'':¬((0:Int) < (s.length:Int)):=aa;go_enter Tryz.func116,Tryz.ntmps116;go_wp2;go_ret;exact⟨bm (by rw[HR.out];simp[h2]),ai⟩
     ·have h2':((s.length:Int)==0)=false:=by simp only[beq_eq_false_iff_ne];omega
      have h2'':(0:Int) < (s.length:Int):=aa;go_enter Tryz.func116,Tryz.ntmps116;go_wp2;go_ret;exact⟨bm Es,ai⟩
    ·go_enter Tryz.func116,Tryz.ntmps116
     go_wp2;go_ret;exact⟨bm gQ,ai⟩
   ·go_enter Tryz.func116,Tryz.ntmps116
    go_wp2;go_ret;exact⟨bm gQ,ai⟩
 ·go_enter Tryz.func116,Tryz.ntmps116
  go_wp2;go_ret;exact⟨bm gQ,ai⟩

theorem dU (g:Gs)(ss:oA)(gc:Nat)(w:World):
  Calls pG 171 #[gv g ss gc] w λe w'=>e=Rt (Bb (aO g))/\bl w w':=by
 have HR:Hid (aO g=(g.n||(g.t||(g.f||decide (0 < g.s.length))))):=rfl;generalize aO g=r at HR |-;obtain⟨n,⟨sn,lo,hi⟩,t,f,s⟩:=g;cases n
 ·cases t
  ·cases f
   ·by_cases h2:s.length=0
    ·have h2':((s.length:Int)==0)=true:=by simp only[beq_iff_eq];omega
     have h2'':¬((0:Int) < (s.length:Int)):=aa;go_enter Tryz.func171,Tryz.ntmps171;go_wp2;go_ret;exact⟨bm (by rw[HR.out];simp[h2]),ai⟩
    ·have h2':((s.length:Int)==0)=false:=by simp only[beq_eq_false_iff_ne];omega
     have h2'':(0:Int) < (s.length:Int):=aa;go_enter Tryz.func171,Tryz.ntmps171;go_wp2;go_ret;exact⟨bm Es,ai⟩
   ·go_enter Tryz.func171,Tryz.ntmps171
    go_wp2;go_ret;exact⟨bm gQ,ai⟩
  ·go_enter Tryz.func171,Tryz.ntmps171
   go_wp2;go_ret;exact⟨bm gQ,ai⟩
 ·go_enter Tryz.func171,Tryz.ntmps171
  go_wp2;go_ret;exact⟨bm gQ,ai⟩

theorem cO {p:Prop}(h:p:=by
 clear HR;go_enter Tryz.func170,Tryz.ntmps170;go_wp2
 go_rounds 5
 go_ret;exact⟨bU (HT.out.symm),ai⟩):p:=h
theorem kJ {p:Prop}(h:p:=by
 have h1':(lo !=hi)=true:=ge;by_cases h2:s.length=0
 ·have h2':¬((0:Int) < (s.length:Int)):=by omega
  have h2n:¬(0 < s.length):=aa;exact cO
 ·have h2':(0:Int) < (s.length:Int):=by omega
  have h2n:0 < s.length:=aa;clear HR;go_enter Tryz.func170,Tryz.ntmps170;go_wp2
  go_rounds 5
  go_ret;exact⟨bU (HT.out.symm),ai⟩):p:=h
theorem kR {p:Prop}(h:p:=by
 have h2':¬((0:Int) < (s.length:Int)):=aa;have h2n:¬(0 < s.length):=aa;subst h1;exact cO):p:=h
theorem kM {p:Prop}(h:p:=by
 have h2':(0:Int) < (s.length:Int):=aa;have h2n:0 < s.length:=aa;subst h1;exact cO):p:=h
theorem fC (g:Gs)(ss:oA)(gc:Nat)(w:World):
  Calls pG 170 #[gv g ss gc] w λe w'=>e=Rt (I Y (bF g))/\bl w w':=by
 have HR:Hid (bF g=if (decide (b2n g.n+b2n (!g.sp.n)+b2n g.t+b2n g.f=1)&&(decide (g.sp.lo=g.sp.hi)&&decide (g.s.length=0)))=true then(if g.f then 3 else if g.t then 2 else if !g.sp.n then 1 else if g.n then 0 else -1) else -1):=rfl;generalize bF g=r at HR |-;obtain⟨n,⟨sn,lo,hi⟩,t,f,s⟩:=g;cases n<;>cases sn<;>cases t<;>cases f
 ·by_cases h1:lo=hi
  ·by_cases h2:s.length=0
   ·have HT:Hid (r=1):=by show _=_;rw[HR.out];simp[h1,h2,b2n]
    exact kR
   ·have HT:Hid (r= -1):=by show _=_;rw[HR.out];simp[h2]
    exact kM
  ·have HT:Hid (r= -1):=by show _=_;rw[HR.out];simp[h1]
   exact kJ
 ·have HT:Hid (r= -1):=by show _=_;rw[HR.out];simp[b2n]
  exact cO
 ·have HT:Hid (r= -1):=by show _=_;rw[HR.out];simp[b2n]
  exact cO
 ·have HT:Hid (r= -1):=by show _=_;rw[HR.out];simp[b2n]
  exact cO
 ·have HT:Hid (r= -1):=by show _=_;rw[HR.out];simp[b2n]
  exact cO
 ·by_cases h1:lo=hi
  ·by_cases h2:s.length=0
   ·have HT:Hid (r=3):=by show _=_;rw[HR.out];simp[h1,h2,b2n]
    exact kR
   ·have HT:Hid (r= -1):=by show _=_;rw[HR.out];simp[h2]
    exact kM
  ·have HT:Hid (r= -1):=by show _=_;rw[HR.out];simp[h1]
   exact kJ
 ·by_cases h1:lo=hi
  ·by_cases h2:s.length=0
   ·have HT:Hid (r=2):=by show _=_;rw[HR.out];simp[h1,h2,b2n]
    exact kR
   ·have HT:Hid (r= -1):=by show _=_;rw[HR.out];simp[h2]
    exact kM
  ·have HT:Hid (r= -1):=by show _=_;rw[HR.out];simp[h1]
   exact kJ
 ·have HT:Hid (r= -1):=by show _=_;rw[HR.out];simp[b2n]
  exact cO
 ·have HT:Hid (r= -1):=by show _=_;rw[HR.out];simp[b2n]
  exact cO
 ·have HT:Hid (r= -1):=by show _=_;rw[HR.out];simp[b2n]
  exact cO
 ·have HT:Hid (r= -1):=by show _=_;rw[HR.out];simp[b2n]
  exact cO
 ·have HT:Hid (r= -1):=by show _=_;rw[HR.out];simp[b2n]
  exact cO
 ·by_cases h1:lo=hi
  ·by_cases h2:s.length=0
   ·have HT:Hid (r=0):=by show _=_;rw[HR.out];simp[h1,h2,b2n]
    exact kR
   ·have HT:Hid (r= -1):=by show _=_;rw[HR.out];simp[h2]
    exact kM
  ·have HT:Hid (r= -1):=by show _=_;rw[HR.out];simp[h1]
   exact kJ
 ·have HT:Hid (r= -1):=by show _=_;rw[HR.out];simp[b2n]
  exact cO
 ·have HT:Hid (r= -1):=by show _=_;rw[HR.out];simp[b2n]
  exact cO
 ·have HT:Hid (r= -1):=by show _=_;rw[HR.out];simp[b2n]
  exact cO
end
end Go.Proofs.YtmapdpcfanecdabGreatDoor
