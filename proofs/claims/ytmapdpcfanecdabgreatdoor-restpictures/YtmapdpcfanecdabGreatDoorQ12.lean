import Derived.Test.YtmapdpcfanecdabGreatDoorQ11
open List renaming length→X
open Go.Ending renaming returned→Rt
open Go.IntKind renaming i64→Y
open Go.Proofs.Tryz renaming prog→pG,prog→f
open Go.Value renaming int→I,bool→O
open Option renaming none→E
open Go renaming World→C
open Bool renaming true→W5
set_option linter.all false
open Go.Proofs.Tryz
set_option maxHeartbeats 8000000
set_option maxRecDepth 100000
namespace Go.Proofs.YtmapdpcfanecdabGreatDoor
variable {p:Prop}
section
open Go.RowKit
def Uk (g:Gs):Int:=if g.f then 3 else if g.t then 2 else if !g.sp.n then 1 else if g.n then 0 else -1
def cx (g:Gs):Int:=if gJ g then Uk g else -1

def Yz (g h:Gs):(!dw g h)=(decide (cx g < 0)||(decide (cx g≠cx h)||@decide _ (@instDecidableNot _ (g.sp.dq h.sp)))):=by
 unfold dw cx;obtain⟨n,sp,t,f,s⟩:=g;obtain⟨m,a,c,l,k⟩:=h;by_cases hs:sp=a
 .subst hs
  obtain⟨i,lo,hi⟩:=sp;by_cases b:lo=hi<;>by_cases j:X s=0<;>by_cases e:X k=0<;>cases n<;>cases i<;>cases t<;>cases f<;>cases m<;>cases c<;>cases l<;>simp[gJ,Uk,b2n,b,j,e]
 .simp[hs]

def gN (w:C):Calls f 111 #[] w λe w'=>e=Rt (gv a4q E 0)/\bl w w':=by
 go_enter func111,ntmps111;go_wp2;refine bodyPost_ret (v:=gv a4q E 0) (by simp[results,results111,go_sem,a4q]) rfl ⟨rfl,ai⟩

def iP(h:p:=by
 go_wp2;go_ret;exact⟨bF (by rw[HR.out];simp),ai⟩):=h
section
variable (g:Gs)(ss:oA)(a:Nat)(w:C)
def nV:
  Calls pG 116 #[gv g ss a] w λe w'=>e=Rt (O (aq g))/\bl w w':=by
 have HR:Hid (aq g=(g.sp.n&& !(g.n||(g.t||(g.f||decide (0 < X g.s)))))):=rfl;generalize aq g=r at HR |-;obtain⟨n,⟨i,lo,hi⟩,t,f,s⟩:=g;cases n
 .cases i
  .go_enter func116,ntmps116
   exact iP
  .cases t
   .cases f
    .by_cases j:X s=0
     .have c:=DT
      have b:=EC;go_enter func116,ntmps116;go_wp2;go_ret;exact⟨bF (by rw[HR.out];simp[j]),ai⟩
     .have c:=Dl
      have b:(0:Int) < (X s:Int):=aa;go_enter func116,ntmps116;go_wp2;go_ret;exact⟨bF UC,ai⟩
    .go_enter func116,ntmps116
     exact iP
   .go_enter func116,ntmps116
    exact iP
 .go_enter func116,ntmps116
  exact iP

def AE:
  Calls pG 171 #[gv g ss a] w λe w'=>e=Rt (O (aT g))/\bl w w':=by
 have HR:Hid (aT g=(g.n||(g.t||(g.f||decide (0 < X g.s))))):=rfl;generalize aT g=r at HR |-;obtain⟨n,⟨i,lo,hi⟩,t,f,s⟩:=g;cases n
 .cases t
  .cases f
   .by_cases j:X s=0
    .have b:=EC;go_enter func171,ntmps171;go_wp2;go_ret;exact⟨bF (by rw[HR.out];simp[j]),ai⟩
    .have b:(0:Int) < (X s:Int):=aa;go_enter func171,ntmps171;go_wp2;go_ret;exact⟨bF UC,ai⟩
   .go_enter func171,ntmps171
    exact iP
  .go_enter func171,ntmps171
   exact iP
 .go_enter func171,ntmps171
  exact iP

def dg(h:p:=by
 clear HR;go_enter func170,ntmps170;go_wp2
 go_rounds 5
 go_ret;exact⟨bE (HT.out.symm),ai⟩):=h
def oH(h:p:=by
 have h1':(lo !=hi)=true:=iA;by_cases h2:X s=0
 .have jX:¬((0:Int) < (X s:Int)):=by omega
  have h2n:¬(0 < X s):=aa;exact dg
 .have jX:=vA
  have h2n:0 < X s:=aa;clear HR;go_enter func170,ntmps170;go_wp2
  go_rounds 5
  go_ret;exact⟨bE (HT.out.symm),ai⟩):=h
def oe(h:p:=by
 have jX:=EC;have h2n:¬(0 < X s):=aa;subst h1;exact dg):=h
def ou(h:p:=by
 have jX:(0:Int) < (X s:Int):=aa;have h2n:0 < X s:=aa;subst h1;exact dg):=h
def Iz:
  Calls pG 170 #[gv g ss a] w λe w'=>e=Rt (I Y (cx g))/\bl w w':=by
 have HR:Hid (cx g=if (decide (b2n g.n+b2n (!g.sp.n)+b2n g.t+b2n g.f=1)&&(decide (g.sp.lo=g.sp.hi)&&decide (X g.s=0)))=W5 then(if g.f then 3 else if g.t then 2 else if !g.sp.n then 1 else if g.n then 0 else -1) else -1):=rfl;generalize cx g=r at HR |-;obtain⟨n,⟨i,lo,hi⟩,t,f,s⟩:=g;cases n<;>cases i<;>cases t<;>cases f
 .by_cases h1:lo=hi
  .by_cases h2:X s=0
   .have HT:Hid (r=1):=by show _=_;rw[HR.out];simp[h1,h2,b2n]
    exact oe
   .have HT:Hid (r= -1):=by show _=_;rw[HR.out];simp[h2]
    exact ou
  .have HT:Hid (r= -1):=by show _=_;rw[HR.out];simp[h1]
   exact oH
 .have HT:Hid (r= -1):=by show _=_;rw[HR.out];simp[b2n]
  exact dg
 .have HT:Hid (r= -1):=by show _=_;rw[HR.out];simp[b2n]
  exact dg
 .have HT:Hid (r= -1):=by show _=_;rw[HR.out];simp[b2n]
  exact dg
 .have HT:Hid (r= -1):=by show _=_;rw[HR.out];simp[b2n]
  exact dg
 .by_cases h1:lo=hi
  .by_cases h2:X s=0
   .have HT:Hid (r=3):=by show _=_;rw[HR.out];simp[h1,h2,b2n]
    exact oe
   .have HT:Hid (r= -1):=by show _=_;rw[HR.out];simp[h2]
    exact ou
  .have HT:Hid (r= -1):=by show _=_;rw[HR.out];simp[h1]
   exact oH
 .by_cases h1:lo=hi
  .by_cases h2:X s=0
   .have HT:Hid (r=2):=by show _=_;rw[HR.out];simp[h1,h2,b2n]
    exact oe
   .have HT:Hid (r= -1):=by show _=_;rw[HR.out];simp[h2]
    exact ou
  .have HT:Hid (r= -1):=by show _=_;rw[HR.out];simp[h1]
   exact oH
 .have HT:Hid (r= -1):=by show _=_;rw[HR.out];simp[b2n]
  exact dg
 .have HT:Hid (r= -1):=by show _=_;rw[HR.out];simp[b2n]
  exact dg
 .have HT:Hid (r= -1):=by show _=_;rw[HR.out];simp[b2n]
  exact dg
 .have HT:Hid (r= -1):=by show _=_;rw[HR.out];simp[b2n]
  exact dg
 .have HT:Hid (r= -1):=by show _=_;rw[HR.out];simp[b2n]
  exact dg
 .by_cases h1:lo=hi
  .by_cases h2:X s=0
   .have HT:Hid (r=0):=by show _=_;rw[HR.out];simp[h1,h2,b2n]
    exact oe
   .have HT:Hid (r= -1):=by show _=_;rw[HR.out];simp[h2]
    exact ou
  .have HT:Hid (r= -1):=by show _=_;rw[HR.out];simp[h1]
   exact oH
 .have HT:Hid (r= -1):=by show _=_;rw[HR.out];simp[b2n]
  exact dg
 .have HT:Hid (r= -1):=by show _=_;rw[HR.out];simp[b2n]
  exact dg
 .have HT:Hid (r= -1):=by show _=_;rw[HR.out];simp[b2n]
  exact dg
end
