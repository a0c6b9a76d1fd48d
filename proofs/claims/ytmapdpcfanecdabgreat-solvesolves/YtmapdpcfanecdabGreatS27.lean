import Derived.Test.YtmapdpcfanecdabGreatS26
open Go.Ending renaming returned→Rt
open Go.IntKind renaming i64→Y
open Go.Proofs.Tryz renaming prog→pG
open Go.Value renaming bool→Bb,int→I
open Option renaming none→nO
set_option linter.unusedSimpArgs false
set_option linter.unusedVariables false
set_option maxHeartbeats 8000000
set_option maxRecDepth 100000
namespace Go.Proofs.YtmapdpcfanecdabGreat
section
open Go.RowKit
def uF (g:Gs):Int:=if g.f then 3 else if g.t then 2 else if !g.sp.n then 1 else if g.n then 0 else -1
def bp (g:Gs):Int:=if du g then uF g else -1

theorem ic (g h:Gs):(!cq g h)=(decide (bp g < 0)||(decide (bp g≠bp h)||@decide _ (@instDecidableNot _ (g.sp.dq h.sp)))):=by
 unfold cq bp;obtain⟨n,sp,t,f,s⟩:=g;obtain⟨n',sp',t',f',s'⟩:=h;by_cases hs:sp=sp'
 ·subst hs
  obtain⟨sn,lo,hi⟩:=sp;by_cases h1:lo=hi<;>by_cases h2:s.length=0<;>by_cases h3:s'.length=0<;>cases n<;>cases sn<;>cases t<;>cases f<;>cases n'<;>cases t'<;>cases f'<;>simp[du,uF,b2n,h1,h2,h3]
 ·simp[hs]

theorem cG (w:World):Calls pG 21 #[] w λe w'=>e=Rt (gv noneG nO 0)/\Below w.heap.size w w':=by
 go_enter Tryz.func21,Tryz.ntmps21;go_wp2;refine bodyPost_ret (v:=gv noneG nO 0) (by simp[results,Tryz.results21,go_sem,noneG]) rfl ⟨rfl,by go_grown⟩

theorem aW (g:Gs)(ss:oA)(gc:Nat)(w:World):
  Calls pG 28 #[gv g ss gc] w λe w'=>e=Rt (Bb (ae g))/\Below w.heap.size w w':=by
 have HR:Hid (ae g=(g.sp.n&& !(g.n||(g.t||(g.f||decide (0 < g.s.length)))))):=rfl;generalize ae g=r at HR |-;obtain⟨n,⟨sn,lo,hi⟩,t,f,s⟩:=g;cases n
 ·cases sn
  ·go_enter Tryz.func28,Tryz.ntmps28
   go_wp2;go_ret;exact⟨av (by rw[HR.out];simp),by go_grown⟩
  ·cases t
   ·cases f
    ·by_cases h2:s.length=0
     ·have h2':((s.length:Int)==0)=true:=by simp only[beq_iff_eq];omega
      have h2'':¬((0:Int) < (s.length:Int)):=by omega
      go_enter Tryz.func28,Tryz.ntmps28;go_wp2;go_ret;exact⟨av (by rw[HR.out];simp[h2]),by go_grown⟩
     ·have h2':((s.length:Int)==0)=false:=by simp only[beq_eq_false_iff_ne];omega
      have h2'':(0:Int) < (s.length:Int):=by omega
      go_enter Tryz.func28,Tryz.ntmps28;go_wp2;go_ret;exact⟨av (by rw[HR.out];first|(simp;done)|(simp;omega)),by go_grown⟩
    ·go_enter Tryz.func28,Tryz.ntmps28
     go_wp2;go_ret;exact⟨av (by rw[HR.out];simp),by go_grown⟩
   ·go_enter Tryz.func28,Tryz.ntmps28
    go_wp2;go_ret;exact⟨av (by rw[HR.out];simp),by go_grown⟩
 ·go_enter Tryz.func28,Tryz.ntmps28
  go_wp2;go_ret;exact⟨av (by rw[HR.out];simp),by go_grown⟩

theorem cY (g:Gs)(ss:oA)(gc:Nat)(w:World):
  Calls pG 62 #[gv g ss gc] w λe w'=>e=Rt (Bb (aD g))/\Below w.heap.size w w':=by
 have HR:Hid (aD g=(g.n||(g.t||(g.f||decide (0 < g.s.length))))):=rfl;generalize aD g=r at HR |-;obtain⟨n,⟨sn,lo,hi⟩,t,f,s⟩:=g;cases n
 ·cases t
  ·cases f
   ·by_cases h2:s.length=0
    ·have h2':((s.length:Int)==0)=true:=by simp only[beq_iff_eq];omega
     have h2'':¬((0:Int) < (s.length:Int)):=by omega
     go_enter Tryz.func62,Tryz.ntmps62;go_wp2;go_ret;exact⟨av (by rw[HR.out];simp[h2]),by go_grown⟩
    ·have h2':((s.length:Int)==0)=false:=by simp only[beq_eq_false_iff_ne];omega
     have h2'':(0:Int) < (s.length:Int):=by omega
     go_enter Tryz.func62,Tryz.ntmps62;go_wp2;go_ret;exact⟨av (by rw[HR.out];first|(simp;done)|(simp;omega)),by go_grown⟩
   ·go_enter Tryz.func62,Tryz.ntmps62
    go_wp2;go_ret;exact⟨av (by rw[HR.out];simp),by go_grown⟩
  ·go_enter Tryz.func62,Tryz.ntmps62
   go_wp2;go_ret;exact⟨av (by rw[HR.out];simp),by go_grown⟩
 ·go_enter Tryz.func62,Tryz.ntmps62
  go_wp2;go_ret;exact⟨av (by rw[HR.out];simp),by go_grown⟩

theorem bX {p:Prop}(h:p:=by
 clear HR;go_enter Tryz.func61,Tryz.ntmps61;go_wp2
 go_rounds 5
 go_ret;exact⟨bd (HT.out.symm),by go_grown⟩):p:=h
theorem gA {p:Prop}(h:p:=by
 have h1':(lo !=hi)=true:=by simpa using h1
 by_cases h2:s.length=0
 ·have h2':¬((0:Int) < (s.length:Int)):=by omega
  have h2n:¬(0 < s.length):=by omega
  exact bX
 ·have h2':(0:Int) < (s.length:Int):=by omega
  have h2n:0 < s.length:=by omega
  clear HR;go_enter Tryz.func61,Tryz.ntmps61;go_wp2
  go_rounds 5
  go_ret;exact⟨bd (HT.out.symm),by go_grown⟩):p:=h
theorem gP {p:Prop}(h:p:=by
 have h2':¬((0:Int) < (s.length:Int)):=by omega
 have h2n:¬(0 < s.length):=by omega
 subst h1;exact bX):p:=h
theorem gD {p:Prop}(h:p:=by
 have h2':(0:Int) < (s.length:Int):=by omega
 have h2n:0 < s.length:=by omega
 subst h1;exact bX):p:=h
theorem dL (g:Gs)(ss:oA)(gc:Nat)(w:World):
  Calls pG 61 #[gv g ss gc] w λe w'=>e=Rt (I Y (bp g))/\Below w.heap.size w w':=by
 have HR:Hid (bp g=if (decide (b2n g.n+b2n (!g.sp.n)+b2n g.t+b2n g.f=1)&&(decide (g.sp.lo=g.sp.hi)&&decide (g.s.length=0)))=true then(if g.f then 3 else if g.t then 2 else if !g.sp.n then 1 else if g.n then 0 else -1) else -1):=rfl;generalize bp g=r at HR |-;obtain⟨n,⟨sn,lo,hi⟩,t,f,s⟩:=g;cases n<;>cases sn<;>cases t<;>cases f
 ·by_cases h1:lo=hi
  ·by_cases h2:s.length=0
   ·have HT:Hid (r=1):=by show _=_;rw[HR.out];simp[h1,h2,b2n]
    exact gP
   ·have HT:Hid (r= -1):=by show _=_;rw[HR.out];simp[h2]
    exact gD
  ·have HT:Hid (r= -1):=by show _=_;rw[HR.out];simp[h1]
   exact gA
 ·have HT:Hid (r= -1):=by show _=_;rw[HR.out];simp[b2n]
  exact bX
 ·have HT:Hid (r= -1):=by show _=_;rw[HR.out];simp[b2n]
  exact bX
 ·have HT:Hid (r= -1):=by show _=_;rw[HR.out];simp[b2n]
  exact bX
 ·have HT:Hid (r= -1):=by show _=_;rw[HR.out];simp[b2n]
  exact bX
 ·by_cases h1:lo=hi
  ·by_cases h2:s.length=0
   ·have HT:Hid (r=3):=by show _=_;rw[HR.out];simp[h1,h2,b2n]
    exact gP
   ·have HT:Hid (r= -1):=by show _=_;rw[HR.out];simp[h2]
    exact gD
  ·have HT:Hid (r= -1):=by show _=_;rw[HR.out];simp[h1]
   exact gA
 ·by_cases h1:lo=hi
  ·by_cases h2:s.length=0
   ·have HT:Hid (r=2):=by show _=_;rw[HR.out];simp[h1,h2,b2n]
    exact gP
   ·have HT:Hid (r= -1):=by show _=_;rw[HR.out];simp[h2]
    exact gD
  ·have HT:Hid (r= -1):=by show _=_;rw[HR.out];simp[h1]
   exact gA
 ·have HT:Hid (r= -1):=by show _=_;rw[HR.out];simp[b2n]
  exact bX
 ·have HT:Hid (r= -1):=by show _=_;rw[HR.out];simp[b2n]
  exact bX
 ·have HT:Hid (r= -1):=by show _=_;rw[HR.out];simp[b2n]
  exact bX
 ·have HT:Hid (r= -1):=by show _=_;rw[HR.out];simp[b2n]
  exact bX
 ·have HT:Hid (r= -1):=by show _=_;rw[HR.out];simp[b2n]
  exact bX
 ·by_cases h1:lo=hi
  ·by_cases h2:s.length=0
   ·have HT:Hid (r=0):=by show _=_;rw[HR.out];simp[h1,h2,b2n]
    exact gP
   ·have HT:Hid (r= -1):=by show _=_;rw[HR.out];simp[h2]
    exact gD
  ·have HT:Hid (r= -1):=by show _=_;rw[HR.out];simp[h1]
   exact gA
 ·have HT:Hid (r= -1):=by show _=_;rw[HR.out];simp[b2n]
  exact bX
 ·have HT:Hid (r= -1):=by show _=_;rw[HR.out];simp[b2n]
  exact bX
 ·have HT:Hid (r= -1):=by show _=_;rw[HR.out];simp[b2n]
  exact bX
end
end Go.Proofs.YtmapdpcfanecdabGreat
