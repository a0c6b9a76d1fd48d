import Derived.Test.YtmapdpcfanecdabGreatS01
open Go.Ending renaming returned→Rt
open Go.IntKind renaming i64→Y
open Go.Obj renaming cells→Cc
open Go.Proofs.Tryz renaming prog→pG
open Go.Value renaming agg→Ag,bool→Bb,int→I,tuple→Tu
open Option renaming none→nO,some→sO
set_option linter.unusedSimpArgs false
set_option linter.unusedVariables false
set_option maxHeartbeats 2000000
namespace Go.Proofs.YtmapdpcfanecdabGreat
section
open Go.RowKit
theorem nm {B:Nat}{n:Bool}{lo hi:Int}{w w1:World}(hb:Below B (w.alloc (Cc #[Bb n,I Y lo,I Y hi] 58)) w1)(hB:w.heap.size < B):w1.cell? ⟨w.heap.size,0,nO⟩=sO (Bb n)/\w1.cell? ⟨w.heap.size,1,nO⟩=sO (I Y lo)/\w1.cell? ⟨w.heap.size,2,nO⟩=sO (I Y hi):=by
 rw[hb.cell (by simpa using hB),hb.cell (by simpa using hB),hb.cell (by simpa using hB)];simp[go_sem]

theorem il {B:Nat}{n n':Bool}{lo hi lo' hi':Int}{w w1:World}(hb:Below B ((w.alloc (Cc #[Bb n,I Y lo,I Y hi] 58)).alloc (Cc #[Bb n',I Y lo',I Y hi'] 58)) w1)(hB:w.heap.size+1 < B):w1.cell? ⟨w.heap.size,0,nO⟩=sO (Bb n)/\w1.cell? ⟨w.heap.size,1,nO⟩=sO (I Y lo)/\w1.cell? ⟨w.heap.size,2,nO⟩=sO (I Y hi)/\w1.cell? ⟨w.heap.size+1,0,nO⟩=sO (Bb n')/\w1.cell? ⟨w.heap.size+1,1,nO⟩=sO (I Y lo')/\w1.cell? ⟨w.heap.size+1,2,nO⟩=sO (I Y hi'):=by
 rw[hb.cell (by simp;omega),hb.cell (by simp;omega),hb.cell (by simp;omega),hb.cell (by simpa using hB),hb.cell (by simpa using hB),hb.cell (by simpa using hB)];simp[go_sem]

theorem lZ {a b:Bool}{v:Value}(h:a=b):Ending.returned (Tu #[Bb a,v])=Rt (Tu #[Bb b,v]):=by rw[h]

theorem Dy (s:Sp)(x:Int)(w:World)(h:bK s≠0):
  Calls pG 142 #[sv s,I Y x] w λe w'=>e=Rt (Tu #[Bb false,I Y (bK s)])/\Below w.heap.size w w':=by
 obtain⟨n,lo,hi⟩:=s;have h0:Below w.heap.size w (w.alloc (Cc #[Bb n,I Y lo,I Y hi] 58)):=by go_grown
 go_enter Tryz.func142,Tryz.ntmps142;go_wp2_with (go_at_call 161;refine(fD ⟨n,lo,hi⟩ _).mono ?_;rintro e w1 ⟨rfl,hb1⟩)
 go_ret2
 exact⟨rfl,h0.trans (hb1.mono (by simp))⟩

theorem DT (s:Sp)(x:Int)(w:World)(h:bK s=0):
  Calls pG 142 #[sv s,I Y x] w λe w'=>e=Rt (Tu #[Bb (s.has x),I Y 0])/\Below w.heap.size w w':=by
 obtain⟨n,lo,hi⟩:=s;have h0:Below w.heap.size w (w.alloc (Cc #[Bb n,I Y lo,I Y hi] 58)):=by go_grown
 go_enter Tryz.func142,Tryz.ntmps142;go_wp2_with (go_at_call 161;fail);refine(fD ⟨n,lo,hi⟩ _).mono ?_;rintro e w1 ⟨rfl,hb1⟩;rw[h];obtain⟨c0,c1,c2⟩:=nm hb1 (by simp);have s1:w.heap.size < w1.heap.size:=by have:=hb1.size;simp at this;omega
 cases n with
 |true=>
  go_wp2
  go_ret2
  exact⟨lZ (by simp[Sp.has, *]),h0.trans (hb1.mono (by simp))⟩
 |false=>
  by_cases hl:lo<=x
  ·have d1:decide (lo<=x)=true:=by simpa using hl
   go_wp2
   go_ret2
   exact⟨lZ (by simp[Sp.has, *]),h0.trans (hb1.mono (by simp))⟩
  ·have d1:decide (lo<=x)=false:=by simpa using hl
   go_wp2
   go_ret2
   exact⟨lZ (by simp[Sp.has, *]),h0.trans (hb1.mono (by simp))⟩

theorem Dz (s:Sp)(x:Int)(w:World):
  Calls pG 142 #[sv s,I Y x] w λe w'=>e=Rt (Tu #[Bb (decide (bK s=0)&&s.has x),I Y (bK s)])/\Below w.heap.size w w':=by
 by_cases h:bK s=0
 ·have:=DT s x w h
  rw[h];simpa using this
 ·have:=Dy s x w h
  simpa[h] using this

theorem dg (s t:Sp)(w:World):
  Calls pG 138 #[sv s,sv t] w λe w'=>e=Rt (I Y (bj s t))/\Below w.heap.size w w':=by
 have e0:bj s t=if bK s=0 then bK t else bK s:=rfl
 obtain⟨n,lo,hi⟩:=s;obtain⟨n',lo',hi'⟩:=t;by_cases h:bK ⟨n,lo,hi⟩=0
 ·rw[if_pos h] at e0
  rw[e0];go_enter Tryz.func138,Tryz.ntmps138;go_wp2_with (go_at_call 161;fail);refine(fD ⟨n,lo,hi⟩ _).mono ?_;rintro e w1 ⟨rfl,hb1⟩;rw[h];obtain⟨c0,c1,c2,d0,d1,d2⟩:=il hb1 (by simp);have s1:w.heap.size+1 < w1.heap.size:=by have:=hb1.size;simp at this;omega
  go_wp2_with (go_at_call 161;fail);refine(fD ⟨n',lo',hi'⟩ _).mono ?_;rintro e w2 ⟨rfl,hb2⟩;go_wp2;go_ret;refine⟨rfl,?_⟩;exact(Below.trans (by go_grown) (hb1.mono (by simp;omega))).trans (hb2.mono (by omega))
 ·rw[if_neg h] at e0
  rw[e0];go_enter Tryz.func138,Tryz.ntmps138;go_wp2_with (go_at_call 161;fail);refine(fD ⟨n,lo,hi⟩ _).mono ?_;rintro e w1 ⟨rfl,hb1⟩;go_wp2;go_ret;refine⟨rfl,?_⟩;exact Below.trans (by go_grown) (hb1.mono (by simp;omega))

theorem eF {n:Bool}{lo hi:Int}{t:Sp}(h:t=⟨n,lo,hi⟩):Ending.returned (Ag #[Bb n,I Y lo,I Y hi])=Rt (sv t):=by rw[h]

theorem tu (s t:Sp)(w:World):
  Calls pG 137 #[sv s,sv t] w λe w'=>e=Rt (sv (aT s t))/\Below w.heap.size w w':=by
 obtain⟨n,lo,hi⟩:=s;obtain⟨n',lo',hi'⟩:=t;cases n with
 |true=>
  go_enter Tryz.func137,Tryz.ntmps137;go_wp2
  go_returns
  exact⟨rfl,by go_grown⟩
 |false=>
  cases n' with
  |true=>
   go_enter Tryz.func137,Tryz.ntmps137;go_wp2
   go_returns
   exact⟨rfl,by go_grown⟩
  |false=>
   go_enter Tryz.func137,Tryz.ntmps137;go_wp2
   all_goals go_returns
   all_goals exact⟨eF (by simp[aT]<;>omega),by go_grown⟩

theorem Ar {lo hi lo' hi':Int}(h:min hi hi' < max lo lo'):au ⟨false,lo,hi⟩ ⟨false,lo',hi'⟩=⟨true,0,0⟩:=by
 unfold au;rw[if_pos (by simp only[Bool.false_or];exact decide_eq_true h)]
theorem uN {lo hi lo' hi' a b:Int}(ha:a=max lo lo')(hb:b=min hi hi')(h:a<=b):au ⟨false,lo,hi⟩ ⟨false,lo',hi'⟩=⟨false,a,b⟩:=by
 subst ha hb;unfold au;rw[if_neg (by simp only[Bool.false_or,decide_eq_true_eq];omega)]

theorem Bh (s t:Sp)(w:World):
  Calls pG 112 #[sv s,sv t] w λe w'=>e=Rt (sv (au s t))/\Below w.heap.size w w':=by
 obtain⟨n,lo,hi⟩:=s;obtain⟨n',lo',hi'⟩:=t;have h0:Below w.heap.size w (((w.alloc (Cc #[Bb n,I Y lo,I Y hi] 58)).alloc (Cc #[Bb n',I Y lo',I Y hi'] 58)).alloc (Cc #[Bb false,I Y 0,I Y 0] 58)):=by go_grown
 rcases Int.lt_or_le lo lo' with h1|h1<;>rcases Int.lt_or_le hi' hi with h2|h2<;>cases n<;>cases n'
 all_goals
  go_enter Tryz.func112,Tryz.ntmps112;go_wp2
  go_quiet (fail)
  go_wp2_with (go_at_call 139;refine(p4 _).mono ?_;rintro e w1 ⟨rfl,rfl⟩)
 all_goals go_returns
 all_goals exact⟨eF (by first|rfl|exact meet_n _ _ _ _ _|exact uN (by omega) (by omega) (by omega)|exact Ar (by omega)),by go_grown;exact below_drewN (by go_grown) _⟩
end
end Go.Proofs.YtmapdpcfanecdabGreat
