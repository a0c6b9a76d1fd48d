import Derived.Test.YtmapdpcfanecdabGreatProg
import Derived.WalkKit
import Derived.WalkSpells
import Derived.WalkLawsBesides
import Derived.Handy
import Derived.BigQuiet
import Derived.Deep.RegionHeld3
import Derived.Lib.QuietBelow
import Derived.Deep.RegionHeld
import Derived.OwnWalk
import Derived.Deep.AppendLies
import Derived.Laws.OwnMore
import Derived.Deep.QuietTactic
import Derived.RangeFuncNested
import Derived.RangeFuncLeaves
import Derived.OrdersIn
import Derived.TacticsIn
import Derived.Laws.CopyRow
import Derived.Lib.SlBuf
open Bool renaming and_eq_true→j0
open Go.Ending renaming returned→Rt
open Go.IntKind renaming i64→Y
open Go.Obj renaming cells→Cc
open Go.Proofs.Tryz renaming prog→pG
open Go.RowKit.Below renaming refl→bR
open Go.Value renaming agg→Ag,bool→Bb,int→I,slice→U
open Go.World renaming alloc_heap_new→q2,size_alloc→zA
open List renaming mem_cons→j9,mem_cons_of_mem→q0,mem_cons_self→q1,replicate→j2,zipWith→j1
open Nat renaming le_refl→lR,lt_of_lt_of_le→lL
open Option renaming none→nO,some→sO
set_option linter.unusedSimpArgs false
set_option linter.unusedVariables false
set_option maxHeartbeats 2000000
set_option maxRecDepth 100000
namespace Go.Proofs.YtmapdpcfanecdabGreat
section
def btw (n l m:Int):Bool:=decide (l<=n/\n<=m)
theorem dM {n l m:Int}(h1:l<=n)(h2:n<=m):btw n l m=true:=by simp[btw,h1,h2]
theorem DX {n l m:Int}(h:¬l<=n):btw n l m=false:=by simp[btw,h]
theorem DY {n l m:Int}(h:¬n<=m):btw n l m=false:=by simp[btw,h]

theorem kZ {k:Int}(h:btw k 1 19=true):k=1\/k=2\/k=3\/k=4\/k=5\/k=6\/k=7\/k=8\/k=9\/k=10\/k=11\/k=12\/k=13\/k=14\/k=15\/k=16\/k=17\/k=18\/k=19:=by
 simp[btw] at h;omega

theorem Em (k:Int):btw k 1 19=(decide (1<=k)&&decide (k<=19)):=by simp[btw]

def nTo (k:Int):Bool:=btw k 1 12||decide (k=14)
def nA (k:Int):Bool:=btw k 4 10||decide (k=12)||decide (k=13)||decide (k=15)||decide (k=17)||decide (k=18)
def nB (k:Int):Bool:=btw k 5 9||decide (k=13)
def nN (k:Int):Bool:=decide (k=1)||decide (k=2)||btw k 12 14
def nG (k:Int):Bool:=decide (k=15)||decide (k=16)

structure Ins where
 k:Int
 tgt:Int
 a:Int
 b:Int
 n:Int
 g:Int

def aU (V F L:Int)(i:Ins):Int:=
 if btw i.k 1 19=false then 6
 else if (nTo i.k&& !btw i.tgt 0 (V - 1))||(nA i.k&& !btw i.a 0 (V - 1))||(nB i.k&& !btw i.b 0 (V - 1))||((decide (i.k=12)||decide (i.k=13))&& !btw i.n 0 (F - 1))||(nG i.k&& !btw i.g 0 L) then 5
 else if (decide (i.k=1)&& !btw i.n (-2147483648) 2147483647)||(decide (i.k=2)&& !btw i.n 0 1)||(decide (i.k=14)&& !btw i.n 0 1000000) then 3
 else if (!nTo i.k&&decide (i.tgt≠0))||(!nA i.k&&decide (i.a≠0))||(!nB i.k&&decide (i.b≠0))||(!nN i.k&&decide (i.n≠0))||(!nG i.k&&decide (i.g≠0)) then 1
 else 0

def dE (V F L:Int):List Ins->Int
 |[]=>0
 |i::r=>if aU V F L i=0 then dE V F L r else aU V F L i

def ag (V F:Int)(c:List Ins):Int:=
 if btw V 1 8=false||btw F 0 3=false then 3 else if 60 < c.length then 2 else dE V F c.length c

def aJ:Int->ByteArray
 |1=>⟨#[110,117,109,98,101,114]⟩
 |2=>⟨#[116,114,117,116,104]⟩
 |3=>⟨#[110,117,108,108]⟩
 |4=>⟨#[99,111,112,121]⟩
 |5=>⟨#[97,100,100]⟩
 |6=>⟨#[115,117,98]⟩
 |7=>⟨#[109,117,108]⟩
 |8=>⟨#[108,101,115,115]⟩
 |9=>⟨#[115,97,109,101]⟩
 |10=>⟨#[110,111,116]⟩
 |11=>⟨#[110,101,119]⟩
 |12=>⟨#[103,101,116]⟩
 |13=>⟨#[112,117,116]⟩
 |14=>⟨#[105,110,112,117,116]⟩
 |15=>⟨#[105,102]⟩
 |16=>⟨#[103,111,116,111]⟩
 |17=>⟨#[101,120,112,101,99,116]⟩
 |18=>⟨#[112,114,105,110,116]⟩
 |19=>⟨#[101,110,100]⟩
 |_=>⟨#[]⟩

theorem oV {k:Int}(h:btw k 1 19=false):aJ k=⟨#[]⟩:=by
 have:¬(1<=k/\k<=19):=by simpa[btw] using h
 unfold aJ;split<;>first|rfl|omega
abbrev oA:=Option Go.Addr
open Go.RowKit

theorem av {a b:Bool}(h:a=b):Ending.returned (Bb a)=Rt (Bb b):=by rw[h]
theorem bd {k:IntKind}{a b:Int}(h:a=b):Ending.returned (.int k a)=Rt (.int k b):=by rw[h]
theorem CB {a b:ByteArray}(h:a=b):Ending.returned (.string a)=Rt (.string b):=by rw[h]

theorem sq {W w1:World}(hb:Below W.heap.size W w1):(∀b o,b < W.heap.size->w1.cell? ⟨b,o,nO⟩=W.cell? ⟨b,o,nO⟩)/\(∀b o,b < W.heap.size->w1.frozen? ⟨b,o,nO⟩=W.frozen? ⟨b,o,nO⟩):=
 ⟨λb o h=>hb.cell (p:=⟨b,o,nO⟩) h,λb o h=>hb.frozen (p:=⟨b,o,nO⟩) h⟩

theorem cE (n l m:Int)(w:World):
  Calls pG 38 #[I Y n,I Y l,I Y m] w λe w'=>e=Rt (Bb (btw n l m))/\w'=w:=by
 by_cases h1:l<=n
 ·by_cases h2:n<=m
  ·have hb:=dM h1 h2
   go_enter Tryz.func38,Tryz.ntmps38;go_wp2;go_ret;exact⟨av hb.symm,rfl⟩
  ·have hb:=DY (l:=l) h2
   go_enter Tryz.func38,Tryz.ntmps38;go_wp2;go_ret;exact⟨rfl,rfl⟩
 ·have hb:=DX (m:=m) h1
  go_enter Tryz.func38,Tryz.ntmps38;go_wp2;go_ret;exact⟨rfl,rfl⟩
end
section
open Go.RowKit
theorem gO {p:Prop}(h:p:=by
 go_wp2_with (go_at_call 38;refine(cE _ _ _ _).mono ?_;rintro e w' ⟨rfl,rfl⟩)
 all_goals go_ret
 all_goals exact⟨av (by simp_all[BEq.beq]),rfl⟩):p:=h
theorem um (k:Int)(w:World):
  Calls pG 74 #[I Y k] w λe w'=>e=Rt (Bb (nTo k))/\w'=w:=by
 unfold nTo;go_enter Tryz.func74,Tryz.ntmps74;exact gO

theorem gr (k:Int)(w:World):
  Calls pG 22 #[I Y k] w λe w'=>e=Rt (Bb (nA k))/\w'=w:=by
 unfold nA;go_enter Tryz.func22,Tryz.ntmps22;exact gO

theorem gK (k:Int)(w:World):
  Calls pG 23 #[I Y k] w λe w'=>e=Rt (Bb (nB k))/\w'=w:=by
 unfold nB;go_enter Tryz.func23,Tryz.ntmps23;exact gO

theorem vh (k:Int)(w:World):
  Calls pG 76 #[I Y k] w λe w'=>e=Rt (Bb (nN k))/\w'=w:=by
 unfold nN;go_enter Tryz.func76,Tryz.ntmps76;exact gO

theorem rN (k:Int)(w:World):
  Calls pG 75 #[I Y k] w λe w'=>e=Rt (Bb (nG k))/\w'=w:=by
 unfold nG;go_enter Tryz.func75,Tryz.ntmps75;go_wp2
 all_goals go_ret
 all_goals exact⟨av (by simp_all[BEq.beq]),rfl⟩
def InsAt (w:World)(b o:Nat)(i:Ins):Prop:=
 w.cell? ⟨b,o,nO⟩=sO (I Y i.k)/\w.cell? ⟨b,o+1,nO⟩=sO (I Y i.tgt)/\w.cell? ⟨b,o+2,nO⟩=sO (I Y i.a)/\
 w.cell? ⟨b,o+3,nO⟩=sO (I Y i.b)/\w.cell? ⟨b,o+4,nO⟩=sO (I Y i.n)/\w.cell? ⟨b,o+5,nO⟩=sO (I Y i.g)

def CodeAt (w:World)(s:oA)(c:List Ins):Prop:=
 c=[]\/∃b off,s=sO ⟨b,off,nO⟩/\b < w.heap.size/\∀k (h:k < c.length),InsAt w b (off+k * 6) c[k]

theorem InsAt.below {B:Nat}{w w':World}{b o:Nat}{i:Ins}(h:InsAt w b o i)(hb:Below B w w')(hB:b < B):InsAt w' b o i:=by
 obtain⟨h0,h1,h2,h3,h4,h5⟩:=h;refine⟨?_,?_,?_,?_,?_,?_⟩<;>rw[hb.cell (by simpa using hB)]<;>assumption

theorem CodeAt.below {B:Nat}{w w':World}{s:oA}{c:List Ins}(h:CodeAt w s c)(hb:Below B w w')(hB:w.heap.size<=B):CodeAt w' s c:=by
 rcases h with h|⟨b,off,hs,hlt,hi⟩
 ·exact .inl h
 ·exact .inr ⟨b,off,hs,lL hlt hb.size,λk h=>(hi k h).below hb (by omega)⟩

def IntsAt (w:World)(s:oA)(l:List Int):Prop:=
 l=[]\/∃b off,s=sO ⟨b,off,nO⟩/\b < w.heap.size/\∀k (h:k < l.length),w.cell? ⟨b,off+k,nO⟩=sO (I Y l[k])

theorem IntsAt.below {B:Nat}{w w':World}{s:oA}{l:List Int}(h:IntsAt w s l)(hb:Below B w w')(hB:w.heap.size<=B):IntsAt w' s l:=by
 rcases h with h|⟨b,off,hs,hlt,hi⟩
 ·exact .inl h
 ·exact .inr ⟨b,off,hs,lL hlt hb.size,λk h=>by rw[hb.cell (by simp;omega)];exact hi k h⟩
end
section
structure Sp where
 n:Bool
 lo:Int
 hi:Int
def Sp.dq(s t:Sp):Decidable (s=t):=decidable_of_iff (s.n=t.n/\s.lo=t.lo/\s.hi=t.hi) (by cases s;cases t;simp)

abbrev aS (x:Int):Prop:= -2147483648<=x/\x<=2147483647

def bK (s:Sp):Int:=
 if¬(aS s.lo/\aS s.hi) then 3 else if s.n=true/\¬(s.lo=0/\s.hi=0) then 1 else if s.hi < s.lo then 4 else 0

def bj (s t:Sp):Int:=if bK s=0 then bK t else bK s

def Sp.Ok (s:Sp):Prop:=aS s.lo/\aS s.hi/\(s.n=true->s.lo=0/\s.hi=0)/\s.lo<=s.hi

theorem ckSp_ok {s:Sp}:bK s=0↔s.Ok:=by
 unfold bK Sp.Ok;by_cases h1:aS s.lo/\aS s.hi
 ·rw[if_neg (not_not_intro h1)]
  by_cases h2:s.n=true/\¬(s.lo=0/\s.hi=0)
  ·rw[if_pos h2]
   refine⟨λh=>absurd h (by decide),λh=>absurd (h.2.2.1 h2.1) h2.2⟩
  ·rw[if_neg h2]
   have h3:s.n=true->s.lo=0/\s.hi=0:=λhn=>Decidable.not_not.1 λhc=>h2 ⟨hn,hc⟩;by_cases h4:s.hi < s.lo
   ·rw[if_pos h4]
    exact⟨λh=>absurd h (by decide),λh=>absurd h.2.2.2 (by omega)⟩
   ·rw[if_neg h4]
    exact⟨λ_=>⟨h1.1,h1.2,h3,by omega⟩,λ_=>rfl⟩
 ·rw[if_pos h1]
  exact⟨λh=>absurd h (by decide),λh=>absurd ⟨h.1,h.2.1⟩ h1⟩

theorem ckSps_ok {s t:Sp}:bj s t=0↔s.Ok/\t.Ok:=by
 unfold bj;by_cases h:bK s=0
 ·rw[if_pos h,ckSp_ok]
  exact⟨λht=>⟨ckSp_ok.1 h,ht⟩,λht=>ht.2⟩
 ·rw[if_neg h]
  exact⟨λht=>absurd ht h,λht=>absurd (ckSp_ok.2 ht.1) h⟩

def Sp.has (s:Sp)(x:Int):Bool:= !s.n&&(decide (s.lo<=x)&&decide (x<=s.hi))
def aT (s t:Sp):Sp:=if s.n then t else if t.n then s else⟨false,min s.lo t.lo,max s.hi t.hi⟩
def aV (s t:Sp):Sp:=if s.n then t else if t.n then s else⟨false,if t.lo < s.lo then -2147483648 else s.lo,if s.hi < t.hi then 2147483647 else s.hi⟩
def au (s t:Sp):Sp:=if s.n||t.n||decide (min s.hi t.hi < max s.lo t.lo) then⟨true,0,0⟩ else⟨false,max s.lo t.lo,min s.hi t.hi⟩
def cZ (s t:Sp):Bool:=s.n||(t.has s.lo&&t.has s.hi)

def kU (k x y:Int):Int:=if k=5 then x+y else if k=6 then x - y else x * y
def cT (a b c d:Int):Int:=min (min (min a b) c) d
def cU (a b c d:Int):Int:=max (max (max a b) c) d
def d9 (a b c d:Int):Sp:=if aS (cT a b c d)/\aS (cU a b c d) then⟨false,cT a b c d,cU a b c d⟩ else⟨false,-2147483648,2147483647⟩
def bO (k:Int)(s t:Sp):Sp:=if s.n||t.n then⟨true,0,0⟩ else d9 (kU k s.lo t.lo) (kU k s.lo t.hi) (kU k s.hi t.lo) (kU k s.hi t.hi)

def bn:Sp:=⟨false,0,0⟩
theorem Ec {k:Int}{s t:Sp}(hs:s.Ok)(ht:t.Ok):(bO k s t).Ok:=by
 unfold bO;split
 ·exact⟨by decide,by decide,λ_=>⟨rfl,rfl⟩,Int.le_refl _⟩
 ·unfold d9
  split
  ·rename_i h
   refine⟨h.1,h.2,λhn=>(by cases hn),?_⟩;unfold cT cU;simp only;omega
  ·exact⟨by decide,by decide,λhn=>(by cases hn),by decide⟩

theorem Du {s t:Sp}(hs:s.Ok)(ht:t.Ok):(aT s t).Ok:=by
 unfold aT;split
 ·exact ht
 ·split
  ·exact hs
  ·obtain⟨a,b,_,d⟩:=hs
   obtain⟨a',b',_,d'⟩:=ht;unfold aS at a b a' b';refine⟨?_,?_,λhn=>(by cases hn),?_⟩<;>(try unfold aS)<;>simp only<;>omega

theorem Cv {s t:Sp}(hs:s.Ok)(ht:t.Ok):(aV s t).Ok:=by
 unfold aV;split
 ·exact ht
 ·split
  ·exact hs
  ·obtain⟨a,b,_,d⟩:=hs
   obtain⟨a',b',_,d'⟩:=ht;unfold aS at a b a' b';refine⟨?_,?_,λhn=>(by cases hn),?_⟩<;>(try unfold aS)<;>simp only<;>(repeat' split)<;>omega
structure Gs where
 n:Bool
 sp:Sp
 t:Bool
 f:Bool
 s:List Int

def bk (c:List Ins)(x:Int):Bool:=decide (0<=x)&&(decide (x < c.length)&&decide ((c.getD x.toNat ⟨0,0,0,0,0,0⟩).k=11))

def bS:List Int->Bool
 |[]=>true
 |[_]=>true
 |a::b::r=>decide (a < b)&&bS (b::r)

def ap (c:List Ins)(g:Gs):Int:=if bK g.sp≠0 then bK g.sp else if g.s.all (bk c)=false then 5 else if bS g.s=false then 4 else 0

def bm (c:List Ins):List Gs->Int
 |[]=>0
 |g::r=>if ap c g=0 then bm c r else ap c g

def aP (V F:Int)(c:List Ins)(l:List Gs):Int:=if ag V F c=0 then bm c l else ag V F c

def eU (a b:List Int):List Int:=((List.range 60).map λn:Nat=>(n:Int)).filter λx=>a.contains x||b.contains x

def ac (wide:Bool)(g h:Gs):Gs:=⟨g.n||h.n,if wide then aV g.sp h.sp else aT g.sp h.sp,g.t||h.t,g.f||h.f,eU g.s h.s⟩
def bT (g h:Gs):Bool:= !(g.n&& !h.n)&&(!(g.t&& !h.t)&&(!(g.f&& !h.f)&&(cZ g.sp h.sp&&g.s.all λx=>h.s.contains x)))
def bI (g:Gs):Bool:=(!g.sp.n&& !decide (g.sp.lo=0/\g.sp.hi=0))||(g.t||decide (0 < g.s.length))
def b9 (g:Gs):Bool:=g.sp.has 0||(g.n||g.f)
def aD (g:Gs):Bool:=g.n||(g.t||(g.f||decide (0 < g.s.length)))
def ae (g:Gs):Bool:=g.sp.n&& !aD g
def noneG:Gs:=⟨false,⟨true,0,0⟩,false,false,[]⟩
def bl:Gs:=⟨false,⟨false,0,0⟩,false,false,[]⟩
def b2n (b:Bool):Nat:=if b then 1 else 0
def du (g:Gs):Bool:=decide (b2n g.n+b2n (!g.sp.n)+b2n g.t+b2n g.f=1)&&(decide (g.sp.lo=g.sp.hi)&&decide (g.s.length=0))
def cq (g h:Gs):Bool:=du g&&(du h&&(g.n==h.n&&(@decide _ (g.sp.dq h.sp)&&(g.t==h.t&&g.f==h.f))))

def bY (k:Int)(g h:Gs):Gs×Bool:=
 if k=4 then(g,false)
 else if k=10 then(⟨false,⟨true,0,0⟩,b9 g,bI g,[]⟩,false)
 else if ae g||ae h then(noneG,false)
 else if k=9 then(⟨false,⟨true,0,0⟩,(g.n&&h.n)||(!(au g.sp h.sp).n||((g.t&&h.t)||((g.f&&h.f)||g.s.any λx=>h.s.contains x))),!cq g h,[]⟩,false)
 else if k=8 then(⟨false,⟨true,0,0⟩,!(g.sp.n||h.sp.n)&&decide (g.sp.lo < h.sp.hi),!(g.sp.n||h.sp.n)&&decide (h.sp.lo<=g.sp.hi),[]⟩,aD g||aD h)
 else(⟨false,bO k g.sp h.sp,false,false,[]⟩,aD g||aD h)
end
section
open Go.RowKit
abbrev sv (s:Sp):Value:=Ag #[Bb s.n,I Y s.lo,I Y s.hi]

theorem eP (n:Int)(w:World):
  Calls pG 163 #[I Y n] w λe w'=>e=Rt (Bb (!decide (aS n)))/\w'=w:=by
 have e1:decide (aS n)=(decide (-2147483648<=n)&&decide (n<=2147483647)):=by unfold aS;exact Bool.decide_and _ _
 rw[e1];by_cases h1:n < -2147483648
 ·go_enter Tryz.func163,Tryz.ntmps163
  go_wp2;go_ret;exact⟨av (by simp<;>omega),rfl⟩
 ·by_cases h2:n > 2147483647
  ·go_enter Tryz.func163,Tryz.ntmps163
   go_wp2;go_ret;exact⟨av (by simp<;>omega),rfl⟩
  ·go_enter Tryz.func163,Tryz.ntmps163
   go_wp2;go_ret;exact⟨av (by simp<;>omega),rfl⟩

theorem p4 (w:World):
  Calls pG 139 #[] w λe w'=>e=Rt (sv ⟨true,0,0⟩)/\w'=w.alloc (Cc #[Bb true,I Y 0,I Y 0] 58):=by
 go_enter Tryz.func139,Tryz.ntmps139;go_wp2
 go_returns
 exact⟨rfl,by simp[go_sem]⟩

theorem AG (w:World):
  Calls pG 139 #[] w λe w'=>e=Rt (sv ⟨true,0,0⟩)/\Below w.heap.size w w':=by
 refine(p4 w).mono ?_;rintro e w' ⟨rfl,rfl⟩;exact⟨rfl,by go_grown⟩

theorem yM (w:World):
  Calls pG 164 #[] w λe w'=>e=Rt (sv ⟨false,-2147483648,2147483647⟩)/\w'=w.alloc (Cc #[Bb false,I Y (-2147483648),I Y 2147483647] 58):=by
 go_enter Tryz.func164,Tryz.ntmps164;go_wp2
 go_returns
 exact⟨rfl,by simp[go_sem]⟩

theorem lU (n m:Int)(w:World)(h:wrap64 (n+m)=n+m):
  Calls pG 146 #[I Y n,I Y m] w λe w'=>e=Rt (I Y (n+m))/\w'=w:=by
 go_enter Tryz.func146,Tryz.ntmps146;go_wp2;go_ret;exact⟨bd h,rfl⟩

theorem lY (n m:Int)(w:World)(h:wrap64 (n - m)=n - m):
  Calls pG 147 #[I Y n,I Y m] w λe w'=>e=Rt (I Y (n - m))/\w'=w:=by
 go_enter Tryz.func147,Tryz.ntmps147;go_wp2;go_ret;exact⟨bd h,rfl⟩

theorem ma (n m:Int)(w:World)(h:wrap64 (n * m)=n * m):
  Calls pG 148 #[I Y n,I Y m] w λe w'=>e=Rt (I Y (n * m))/\w'=w:=by
 go_enter Tryz.func148,Tryz.ntmps148;go_wp2;go_ret;exact⟨bd h,rfl⟩

theorem ns {p:Prop}(h:p:=by
 go_enter Tryz.func161,Tryz.ntmps161;go_wp2_with (go_at_call 163;refine(eP _ _).mono ?_;rintro e w' ⟨rfl,rfl⟩);go_ret;exact⟨rfl,by go_grown⟩):p:=h
theorem Cy (n:Bool)(lo hi:Int)(w:World)(h:¬aS lo):
  Calls pG 161 #[sv ⟨n,lo,hi⟩] w λe w'=>e=Rt (I Y 3)/\Below w.heap.size w w':=by
 have h1:decide (aS lo)=false:=by simpa using h
 exact ns

theorem Dd (n:Bool)(lo hi:Int)(w:World)(h:aS lo)(h':¬aS hi):
  Calls pG 161 #[sv ⟨n,lo,hi⟩] w λe w'=>e=Rt (I Y 3)/\Below w.heap.size w w':=by
 have h1:decide (aS lo)=true:=by simpa using h
 have h2:decide (aS hi)=false:=by simpa using h'
 exact ns

theorem kG {p:Prop}(h:p:=by
 go_enter Tryz.func161,Tryz.ntmps161;go_wp2_with (go_at_call 163;refine(eP _ _).mono ?_;rintro e w' ⟨rfl,rfl⟩);refine wp_region_quiet_below (by kernel_rfl) (by kernel_rfl) ?_
 repeat (quiet_step (exact Calls.regrown_of (AG _)))
 refine wpQuiet_nil ?_;intro _ hw';obtain⟨⟨dq,osq⟩,hw''⟩:=hw';subst hw'';go_wp2;go_ret;exact⟨rfl,Below.trans (by go_grown) ((below_regrown _ dq osq).mono (by go_size))⟩):p:=h
theorem Cj (lo hi:Int)(w:World)(h:aS lo)(h':aS hi)(hz:(lo==0)=false):
  Calls pG 161 #[sv ⟨true,lo,hi⟩] w λe w'=>e=Rt (I Y 1)/\Below w.heap.size w w':=by
 have h1:decide (aS lo)=true:=by simpa using h
 have h2:decide (aS hi)=true:=by simpa using h'
 have c0:=cell_regrown (w:=w.alloc (Cc #[Bb true,I Y lo,I Y hi] 58)) (a:=⟨w.heap.size,0,nO⟩) (v:=Bb true) (by simp[go_sem]);have c1:=cell_regrown (w:=w.alloc (Cc #[Bb true,I Y lo,I Y hi] 58)) (a:=⟨w.heap.size,1,nO⟩) (v:=I Y lo) (by simp[go_sem]);have c2:=cell_regrown (w:=w.alloc (Cc #[Bb true,I Y lo,I Y hi] 58)) (a:=⟨w.heap.size,2,nO⟩) (v:=I Y hi) (by simp[go_sem]);exact kG

theorem AW (hi:Int)(w:World)(h':aS hi)(hz:(hi==0)=false):
  Calls pG 161 #[sv ⟨true,0,hi⟩] w λe w'=>e=Rt (I Y 1)/\Below w.heap.size w w':=by
 have h1:decide (aS 0)=true:=by decide
 have h2:decide (aS hi)=true:=by simpa using h'
 have c0:=cell_regrown (w:=w.alloc (Cc #[Bb true,I Y 0,I Y hi] 58)) (a:=⟨w.heap.size,0,nO⟩) (v:=Bb true) (by simp[go_sem]);have c1:=cell_regrown (w:=w.alloc (Cc #[Bb true,I Y 0,I Y hi] 58)) (a:=⟨w.heap.size,1,nO⟩) (v:=I Y 0) (by simp[go_sem]);have c2:=cell_regrown (w:=w.alloc (Cc #[Bb true,I Y 0,I Y hi] 58)) (a:=⟨w.heap.size,2,nO⟩) (v:=I Y hi) (by simp[go_sem]);exact kG

theorem CF (w:World):
  Calls pG 161 #[sv ⟨true,0,0⟩] w λe w'=>e=Rt (I Y 0)/\Below w.heap.size w w':=by
 have h1:decide (aS 0)=true:=by decide
 have c0:=cell_regrown (w:=w.alloc (Cc #[Bb true,I Y 0,I Y 0] 58)) (a:=⟨w.heap.size,0,nO⟩) (v:=Bb true) (by simp[go_sem]);have c1:=cell_regrown (w:=w.alloc (Cc #[Bb true,I Y 0,I Y 0] 58)) (a:=⟨w.heap.size,1,nO⟩) (v:=I Y 0) (by simp[go_sem]);have c2:=cell_regrown (w:=w.alloc (Cc #[Bb true,I Y 0,I Y 0] 58)) (a:=⟨w.heap.size,2,nO⟩) (v:=I Y 0) (by simp[go_sem]);exact kG

theorem ou {p:Prop}(h:p:=by
 have h1:decide (aS lo)=true:=by simpa using h
 have h2:decide (aS hi)=true:=by simpa using h'
 go_enter Tryz.func161,Tryz.ntmps161;go_wp2_with (go_at_call 163;refine(eP _ _).mono ?_;rintro e w' ⟨rfl,rfl⟩)
 go_quiet (fail)
 go_wp2;go_ret;exact⟨rfl,below_drewN (by go_grown) _⟩):p:=h
theorem CO (lo hi:Int)(w:World)(h:aS lo)(h':aS hi)(hz:hi < lo):
  Calls pG 161 #[sv ⟨false,lo,hi⟩] w λe w'=>e=Rt (I Y 4)/\Below w.heap.size w w':=ou

theorem Cw (lo hi:Int)(w:World)(h:aS lo)(h':aS hi)(hz:¬hi < lo):
  Calls pG 161 #[sv ⟨false,lo,hi⟩] w λe w'=>e=Rt (I Y 0)/\Below w.heap.size w w':=ou

theorem fD (s:Sp)(w:World):
  Calls pG 161 #[sv s] w λe w'=>e=Rt (I Y (bK s))/\Below w.heap.size w w':=by
 obtain⟨n,lo,hi⟩:=s;unfold bK;by_cases h:aS lo
 ·by_cases h':aS hi
  ·rw[if_neg (by simp[h,h'])]
   cases n with
   |true=>
    by_cases hz:lo=0
    ·subst hz
     by_cases hz':hi=0
     ·subst hz'
      rw[if_neg (by simp),if_neg (by simp)];exact CF w
     ·rw[if_pos (by simp[hz'])]
      exact AW hi w h' (by simpa using hz')
    ·rw[if_pos (by simp[hz])]
     exact Cj lo hi w h h' (by simpa using hz)
   |false=>
    rw[if_neg (by simp)];by_cases hz:hi < lo
    ·rw[if_pos hz]
     exact CO lo hi w h h' hz
    ·rw[if_neg hz]
     exact Cw lo hi w h h' hz
  ·rw[if_pos (by simp[h'])]
   exact Dd n lo hi w h h'
 ·rw[if_pos (by simp[h])]
  exact Cy n lo hi w h
end
section
structure Pic where
 none:Bool
 vars:List Gs
 flds:List (List Gs)

def nonePic:Pic:=⟨true,[],[]⟩
def cQ:Pic:=⟨false,[],[]⟩
def bu (x:Pic):List Gs:=x.vars++x.flds.flatten
def cR (g h:Gs):Bool:=g.n==h.n&&(@decide _ (g.sp.dq h.sp)&&(g.t==h.t&&(g.f==h.f&&decide (g.s=h.s))))
theorem sameGs_iff {g h:Gs}:cR g h=true↔g=h:=by
 obtain⟨a,b,c,d,e⟩:=g;obtain⟨a',b',c',d',e'⟩:=h;simp only[cR,j0,beq_iff_eq,decide_eq_true_eq,Gs.mk.injEq]
def cu (g:Gs):Bool:= !cR g noneG
def bh (V F:Int)(c:List Ins)(x:Pic):Bool:=
 if x.none then decide (x.vars.length=0)&&decide (x.flds.length=0)
 else decide ((x.vars.length:Int)=V)&&(decide (x.flds.length=c.length)&& !(x.flds.any λr=> !decide ((r.length:Int)=F)))
def bJ (c:List Ins)(p:Gs->Bool):Nat->List (List Gs)->Bool
 |_,[]=>false
 |i,r::l=>(!bk c i&&r.any p)||bJ c p (i+1) l
def an (V F:Int)(c:List Ins)(x:Pic):Int:=
 if bh V F c x=false then 1 else if bm c (bu x)≠0 then bm c (bu x) else if bJ c (λg=> !ae g) 0 x.flds then 4 else 0
def bx (V F:Int)(c:List Ins):List Pic->Int
 |[]=>0
 |x::l=>if an V F c x=0 then bx V F c l else an V F c x
def aq (V F:Int)(c:List Ins)(l:List Pic):Int:=if ag V F c=0 then bx V F c l else ag V F c

def cc:Gs:=⟨true,⟨true,0,0⟩,false,false,[]⟩
def aQ (V F:Int)(c:List Ins):Pic:=⟨false,j2 V.toNat cc,j2 c.length (j2 F.toNat noneG)⟩
def aE (j:Gs->Gs->Gs)(a b:List Gs):List Gs:=j1 j a b
def aw (j:Gs->Gs->Gs)(x y:Pic):Pic:=if x.none then y else if y.none then x else⟨false,aE j x.vars y.vars,j1 (aE j) x.flds y.flds⟩
def cN (a b:List Gs):Bool:=(j1 bT a b).all id
def aH (x y:Pic):Bool:=x.none||(!y.none&&(cN x.vars y.vars&&(j1 cN x.flds y.flds).all id))

theorem lA {c:List Ins}:∀{l:List Gs},bm c l=0->∀g∈l,ap c g=0
 |[],_,g,hg=>by simp at hg
 |a::r,h,g,hg=>by
  unfold bm at h;split at h
  ·rename_i h1
   rcases j9.1 hg with rfl|hg
   ·exact h1
   ·exact lA h g hg
  ·contradiction
theorem ya {c:List Ins}{g:Gs}(h:ap c g=0):cu g= !ae g:=by
 have hs:bK g.sp=0:=by
  unfold ap at h;split at h
  ·exact h
  ·rename_i h1;simpa using h1
 have hok:=ckSp_ok.1 hs;obtain⟨n,⟨sn,lo,hi⟩,t,f,s⟩:=g;have h3:=hok.2.2.1;simp only at h3;unfold cu ae aD cR noneG;cases sn with
 |false=>simp
 |true=>
  obtain⟨e1,e2⟩:=h3 rfl;subst e1 e2;cases n<;>cases t<;>cases f<;>cases s<;>simp
theorem kP {c:List Ins}{p q:Gs->Bool}:∀{l:List (List Gs)} {i:Nat},(∀r∈l,∀g∈r,p g=q g)->bJ c p i l=bJ c q i l
 |[],_,_=>rfl
 |r::l,i,h=>by
  unfold bJ;rw[kP (l:=l) λr' hr'=>h r' (q0 _ hr')];have:r.any p=r.any q:=by
   have h1:=h r q1;clear h
   induction r with
   |nil=>rfl
   |cons a r ih=>
    simp only[List.any_cons];rw[h1 a q1,ih λg hg=>h1 g (q0 _ hg)]
  rw[this]
theorem wu (V F:Int)(c:List Ins)(x:Pic):an V F c x=if bh V F c x=false then 1 else if bm c (bu x)≠0 then bm c (bu x) else if bJ c cu 0 x.flds then 4 else 0:=by
 unfold an;by_cases h1:bh V F c x=false
 ·rw[if_pos h1,if_pos h1]
 rw[if_neg h1,if_neg h1];by_cases h2:bm c (bu x)≠0
 ·rw[if_pos h2,if_pos h2]
 rw[if_neg h2,if_neg h2];have h3:bm c (bu x)=0:=by simpa using h2
 rw[kP (p:=cu) (q:=λg=> !ae g) λr hr g hg=>ya (lA h3 g ?_)];unfold bu;rw[List.mem_append,List.mem_flatten];exact .inr ⟨r,hr,hg⟩
end
section
open Go
section
variable {P:Program} {ops:Array Oper} {Q:Exit->Act->World->Prop} {md:Region.Mode} {S:World->Prop} {zs:List Nat}

def bU (P:Program)(md:Region.Mode)(ops:Array Oper)(Q:Exit->Act->World->Prop)(S:World->Prop)(zs:List Nat):Nat->Array Bool->Act->World->Prop
 |0,listed,a,w=>Region.ready md ops listed=[]/\Q .normal a w
 |fuel+1,listed,a,w=>
  (Region.ready md ops listed=[]->Q .normal a w)/\
  ∀i∈Region.ready md ops listed,wpOp P ops Q i (λa' w'=>(i∉zs->S w->S w')/\bU P md ops Q S zs fuel (listed.setIfInBounds i true) a' w') a w

theorem kF:∀(fuel:Nat) (listed:Array Bool) (a:Act) (w:World),bU P md ops Q S zs fuel listed a w->wpAny P md ops Q fuel listed a w
 |0,_,_,_,h=>h
 |fuel+1,_,_,_,h=>⟨h.1,λi hi=>wpOp_mono (λa' w' h'=>kF fuel _ a' w' h'.2) (h.2 i hi)⟩

def pI (md:Region.Mode)(ops:Array Oper)(i:Nat):Nat->List Nat->List Nat
 |0,ws=>ws
 |n+1,ws=>pI md ops i n ((List.range ops.size).filter λx=>((ops[x]?).map λo=>o.after.any λe=>Region.binds md e&&(e.on==i||ws.contains e.on)).getD false)
def uT (md:Region.Mode)(ops:Array Oper)(listed:Array Bool)(i:Nat)(ws:List Nat):Bool:=
 ws.all λx=> !(listed.getD x true)&&((ops[x]?).map λo=>o.after.any λe=>Region.binds md e&&(e.on==i||ws.contains e.on)).getD false
def zOk (md:Region.Mode)(ops:Array Oper)(listed:Array Bool)(i:Nat)(zs:List Nat):Bool:=
 !zs.contains i&&(let ws:=pI md ops i 8 [];uT md ops listed i ws&&zs.all λz=>listed.getD z true||ws.contains z)

theorem sS {i:Nat}{oi:Oper}{v:Value}(hi:ops[i]? =sO oi)(hsel:∀(j:Nat) (o:Oper) cs b,ops[j]? =sO o->o.op≠.select cs b)
  (hQ:∀c a w,Q (.panic c) (a.put oi.dst v) w->Q (.panic c) a w)(hiz:i∉zs)(ws:List Nat)
  (hws:∀x∈ws,∀o,ops[x]? =sO o->∃e∈o.after,Region.binds md e=true/\(e.on=i\/e.on∈ws)):
  ∀(fuel:Nat) (listed:Array Bool) (a:Act) (w:World),
   (∀j oj,ops[j]? =sO oj->j≠i->listed.getD j true=false->(∀e∈oj.after,Region.binds md e=true->e.on≠i)->oi.apart ops oj=true)->
   (∀x∈ws,listed.getD x true=false)->(∀z∈zs,listed.getD z true=true\/z∈ws)->
   i∈Region.ready md ops listed->YieldsIf P ops S oi v a->S w->
   bU P md ops Q S zs fuel (listed.setIfInBounds i true) (a.put oi.dst v) w->bU P md ops Q S zs (fuel+1) listed a w:=by
 intro fuel
 induction fuel with
 |zero=>
  intro listed a w _ _ _ hr hy hS H;refine⟨λh=>(by rw[h] at hr;cases hr),λj hj=> ?_⟩;by_cases hji:j=i
  ·subst hji;exact hy.wpOp hi hS ⟨λ_ _=>hS,H⟩
  ·have:=ready_mono hj hji
   rw[H.1] at this;cases this
 |succ fuel ih=>
  intro listed a w hfree hun hzs hr hy hS H;refine⟨λh=>(by rw[h] at hr;cases hr),λj hj=> ?_⟩;by_cases hji:j=i
  ·subst hji;exact hy.wpOp hi hS ⟨λ_ _=>hS,H⟩
  ·have h1:=H.2 j (ready_mono hj hji)
   obtain⟨hjun,oj,hoj,hall⟩:=mem_ready.1 hj;have h0:=(mem_ready.1 hr).1;have hf:∀x,listed.getD x true=false->listed.getD x false=false:=λx hx=>by
    rcases Nat.lt_or_ge x listed.size with h'|h'
    ·simp[h'] at hx |-;exact hx
    ·simp[Array.getElem?_eq_none h'] at hx
   have hjw:j∉ws:=λhj'=>by
    obtain⟨e,he,hb,hon⟩:=hws j hj' oj hoj;have h2:=hall e he hb;rcases hon with hon|hon
    ·rw[hon,hf i h0] at h2;cases h2
    ·rw[hf _ (hun _ hon)] at h2;cases h2
   have hjz:j∉zs:=λhj'=>by
    rcases hzs j hj' with h|h
    ·rw[h] at hjun;cases hjun
    ·exact hjw h
   have hnot:∀e∈oj.after,Region.binds md e=true->e.on≠i:=λe he hb heq=>by
    have h2:=hall e he hb;rw[heq,hf i h0] at h2;cases h2
   have h2:=wpOp_putIf hoj (hfree j oj hoj hji hjun hnot) (λcs b=>hsel i oi cs b hi) (λcs b=>hsel j oj cs b hoj) hQ hy h1;have hset:∀k,(listed.setIfInBounds j true).getD k true=false->listed.getD k true=false:=λk hk=>by
    by_cases hjk:j=k
    ·subst hjk;exact hjun
    ·rw[getD_set_ne true hjk] at hk;exact hk
   have hfree':∀k ok,ops[k]? =sO ok->k≠i->(listed.setIfInBounds j true).getD k true=false->
     (∀e∈ok.after,Region.binds md e=true->e.on≠i)->oi.apart ops ok=true:=λk ok hk hki hun' hno=>hfree k ok hk hki (hset k hun') hno
   refine wpOp_mono (λa' w' h3=>⟨h3.2.1,ih (listed.setIfInBounds j true) a' w' hfree' (λx hx=> ?_) (λz hz=> ?_) (ready_mono hr (Ne.symm hji)) h3.1 (h3.2.1 hjz hS) ?_⟩) h2
   ·rw[getD_set_ne true (λe=>hjw (by rw[e];exact hx))];exact hun x hx
   ·rcases hzs z hz with h|h
    ·left
     by_cases hjk:j=z
     ·exact absurd (hjk ▸ hz) hjz
     ·rw[getD_set_ne true hjk];exact h
    ·exact .inr h
   ·rw[Array.setIfInBounds_comm _ _ hji]
    exact h3.2.2

theorem tX {i:Nat}{oi:Oper}{v:Value}(hi:ops[i]? =sO oi)(hsel:∀(j:Nat) (o:Oper) cs b,ops[j]? =sO o->o.op≠.select cs b)
  (hQ:∀c a w,Q (.panic c) (a.put oi.dst v) w->Q (.panic c) a w):
  ∀(fuel:Nat) (listed:Array Bool) (a:Act) (w:World),
   (∀j oj,ops[j]? =sO oj->j≠i->listed.getD j true=false->(∀e∈oj.after,Region.binds md e=true->e.on≠i)->oi.apart ops oj=true)->
   i∈Region.ready md ops listed->YieldsIf P ops (λ_=>True) oi v a->
   bU P md ops Q S zs fuel (listed.setIfInBounds i true) (a.put oi.dst v) w->bU P md ops Q S zs (fuel+1) listed a w:=by
 intro fuel
 induction fuel with
 |zero=>
  intro listed a w _ hr hy H;refine⟨λh=>(by rw[h] at hr;cases hr),λj hj=> ?_⟩;by_cases hji:j=i
  ·subst hji;exact hy.wpOp hi trivial ⟨λ_ h=>h,H⟩
  ·have:=ready_mono hj hji
   rw[H.1] at this;cases this
 |succ fuel ih=>
  intro listed a w hfree hr hy H;refine⟨λh=>(by rw[h] at hr;cases hr),λj hj=> ?_⟩;by_cases hji:j=i
  ·subst hji;exact hy.wpOp hi trivial ⟨λ_ h=>h,H⟩
  ·have h1:=H.2 j (ready_mono hj hji)
   obtain⟨hjun,oj,hoj,hall⟩:=mem_ready.1 hj;have h0:=(mem_ready.1 hr).1;have hf:∀x,listed.getD x true=false->listed.getD x false=false:=λx hx=>by
    rcases Nat.lt_or_ge x listed.size with h'|h'
    ·simp[h'] at hx |-;exact hx
    ·simp[Array.getElem?_eq_none h'] at hx
   have hnot:∀e∈oj.after,Region.binds md e=true->e.on≠i:=λe he hb heq=>by
    have h2:=hall e he hb;rw[heq,hf i h0] at h2;cases h2
   have h2:=wpOp_putIf hoj (hfree j oj hoj hji hjun hnot) (λcs b=>hsel i oi cs b hi) (λcs b=>hsel j oj cs b hoj) hQ hy h1;have hset:∀k,(listed.setIfInBounds j true).getD k true=false->listed.getD k true=false:=λk hk=>by
    by_cases hjk:j=k
    ·subst hjk;exact hjun
    ·rw[getD_set_ne true hjk] at hk;exact hk
   have hfree':∀k ok,ops[k]? =sO ok->k≠i->(listed.setIfInBounds j true).getD k true=false->
     (∀e∈ok.after,Region.binds md e=true->e.on≠i)->oi.apart ops ok=true:=λk ok hk hki hun' hno=>hfree k ok hk hki (hset k hun') hno
   refine wpOp_mono (λa' w' h3=>⟨h3.2.1,ih (listed.setIfInBounds j true) a' w' hfree' (ready_mono hr (Ne.symm hji)) h3.1 ?_⟩) h2;rw[Array.setIfInBounds_comm _ _ hji];exact h3.2.2
theorem uB {i:Nat}{oi:Oper}{v:Value}{fuel:Nat}{listed:Array Bool}{a:Act}{w:World}(hi:ops[i]? =sO oi)
  (hs:Region.noSelect ops=true)(hf:Region.free md ops listed i=true)(hr:(Region.ready md ops listed).contains i=true)
  (hQ:∀c a w,Q (.panic c) (a.put oi.dst v) w->Q (.panic c) a w)(hy:YieldsIf P ops (λ_=>True) oi v a)
  (h:bU P md ops Q S zs fuel (listed.setIfInBounds i true) (a.put oi.dst v) w):bU P md ops Q S zs (fuel+1) listed a w:=
 tX hi (Region.noSelect_spec hs) hQ fuel listed a w (Region.free_spec hi hf) (by simpa using hr) hy h

theorem my {i:Nat}{oi:Oper}{v:Value}{fuel:Nat}{listed:Array Bool}{a:Act}{w:World}(hi:ops[i]? =sO oi)
  (hs:Region.noSelect ops=true)(hf:(Region.free md ops listed i&&zOk md ops listed i zs)=true)(hr:(Region.ready md ops listed).contains i=true)
  (hQ:∀c a w,Q (.panic c) (a.put oi.dst v) w->Q (.panic c) a w)(hy:YieldsIf P ops S oi v a)(hS:S w)
  (h:bU P md ops Q S zs fuel (listed.setIfInBounds i true) (a.put oi.dst v) w):bU P md ops Q S zs (fuel+1) listed a w:=by
 rw[j0] at hf;obtain⟨hf,hz⟩:=hf;simp only[zOk,j0,uT,List.all_eq_true,Bool.not_eq_true',Bool.or_eq_true] at hz;obtain⟨hz1,hz2,hz3⟩:=hz;refine sS hi (Region.noSelect_spec hs) hQ (by simpa using hz1) (pI md ops i 8 []) (λx hx o ho=> ?_) fuel listed a w (Region.free_spec hi hf) (λx hx=>(hz2 x hx).1) (λz hz=> ?_) (by simpa using hr) hy hS h
 ·have:=(hz2 x hx).2
  rw[ho] at this;simp only[Option.map_some,Option.getD_some,Array.any_eq_true,j0,Bool.or_eq_true,beq_iff_eq] at this;obtain⟨k,hk,hb,hon⟩:=this;exact⟨_,Array.getElem_mem hk,hb,hon.imp id (by simp)⟩
 ·rcases hz3 z hz with h|h
  ·exact .inl h
  ·exact .inr (by simpa using h)

theorem aj {listed:Array Bool}{a:Act}{w:World}(hr:Region.ready md ops listed=[])(h:Q .normal a w):
  ∀fuel,bU P md ops Q S zs fuel listed a w
 |0=>⟨hr,h⟩
 |_+1=>⟨λ_=>h,by rw[hr];simp⟩

theorem ai {i:Nat}{o:Oper}{fuel:Nat}{listed:Array Bool}{a:Act}{w:World}(ho:ops[i]? =sO o)(hr:Region.ready md ops listed=[i])
  (h:∀K':Act->World->Prop,Shut (∀a w,S w->(S w->bU P md ops Q S zs fuel (listed.setIfInBounds i true) a w)->K' a w)->if Region.wanted o (yielded ops a.tmps)=true then Oper.wp P o a w K' Q else K' (a.put o.dst undef) w):
  bU P md ops Q S zs (fuel+1) listed a w:=by
 refine⟨λh0=>(by rw[hr] at h0;cases h0),λj hj=> ?_⟩;rw[hr] at hj;obtain rfl:j=i:=by simpa using hj
 exact wpOp_step ho (λK' hK=>h K' (λa w hS hW=>hK a w ⟨λ_ _=>hS,hW hS⟩))
theorem wU {i j:Nat}{oi oj:Oper}{fuel:Nat}{listed:Array Bool}{a:Act}{w:World}(hoi:ops[i]? =sO oi)(hoj:ops[j]? =sO oj)(hr:Region.ready md ops listed=[i,j])
  (h:∀K':Act->World->Prop,Shut (∀a w,S w->(S w->bU P md ops Q S zs fuel (listed.setIfInBounds i true) a w)->K' a w)->if Region.wanted oi (yielded ops a.tmps)=true then Oper.wp P oi a w K' Q else K' (a.put oi.dst undef) w)
  (h':∀K':Act->World->Prop,Shut (∀a w,S w->(S w->bU P md ops Q S zs fuel (listed.setIfInBounds j true) a w)->K' a w)->if Region.wanted oj (yielded ops a.tmps)=true then Oper.wp P oj a w K' Q else K' (a.put oj.dst undef) w):
  bU P md ops Q S zs (fuel+1) listed a w:=by
 refine⟨λh0=>(by rw[hr] at h0;cases h0),λk hk=> ?_⟩;rw[hr] at hk;rcases j9.1 hk with rfl|hk
 ·exact wpOp_step hoi (λK' hK=>h K' (λa w hS hW=>hK a w ⟨λ_ _=>hS,hW hS⟩))
 ·obtain rfl:k=j:=by simpa using hk
  exact wpOp_step hoj (λK' hK=>h' K' (λa w hS hW=>hK a w ⟨λ_ _=>hS,hW hS⟩))
theorem bo {i:Nat}{o:Oper}{fuel:Nat}{listed:Array Bool}{a:Act}{w:World}(ho:ops[i]? =sO o)(hr:Region.ready md ops listed=[i])(hz:zs.contains i=true)
  (h:∀K':Act->World->Prop,Shut (∀a w,bU P md ops Q S zs fuel (listed.setIfInBounds i true) a w->K' a w)->if Region.wanted o (yielded ops a.tmps)=true then Oper.wp P o a w K' Q else K' (a.put o.dst undef) w):
  bU P md ops Q S zs (fuel+1) listed a w:=by
 refine⟨λh0=>(by rw[hr] at h0;cases h0),λj hj=> ?_⟩;rw[hr] at hj;obtain rfl:j=i:=by simpa using hj
 exact wpOp_step ho (λK' hK=>h K' (λa w hW=>hK a w ⟨λhn=>absurd (by simpa using hz) hn,hW⟩))

theorem am {id:Nat}{a:Act}{w:World}(zs:List Nat)(hm:P.follows .mixedOrders=true)(hS:S w.drew)
  (h:S w.drew->bU P .any ops Q S zs ops.size (Array.replicate ops.size false) a w.drew):(Code.region id ops true).wp P Q a w:=
 wp_region_any hm (kF _ _ _ _ (h hS))
end
theorem sm {p q:Prop}(h:q)(e:q->p:=by(intro h;(try simp only[Act.put,List.getElem_toArray,List.getElem_cons_zero,List.getElem_cons_succ,List.setIfInBounds_toArray,List.set_cons_zero,List.set_cons_succ]);exact h)):p:=e h
section
variable {P:Program} {ops:Array Oper} {Q:Exit->Act->World->Prop} {md:Region.Mode} {S:World->Prop} {zs:List Nat}
theorem tZ (i:Nat){oi:Oper}(v:Value){fuel:Nat}{listed:Array Bool}{a:Act}{w:World}
  (h:bU P md ops Q S zs fuel (listed.setIfInBounds i true) (a.put oi.dst v) w)(hi:ops[i]? =some oi:=by rfl)(hy:∀w,S w->(execOp a.eval oi).run P w=.ok (.value v) w:=by(intro w hSw;(try dsimp only at hSw);first|(go_simp;done)|(go_simp;with_reducible rfl)))
  (hs:Region.noSelect ops=true:=by kernel_rfl)(hf:(Region.free md ops listed i&&zOk md ops listed i zs)=true:=by kernel_rfl)(hr:(Region.ready md ops listed).contains i=true:=by kernel_rfl)
  (hQ:∀c a w,Q (.panic c) (a.put oi.dst v) w->Q (.panic c) a w:=by exact λ_ _ _ h=>h)(hw:Region.wanted oi (yielded ops a.tmps)=true:=by rfl)(hS:S w:=by assumption):bU P md ops Q S zs (fuel+1) listed a w:=
 my hi hs hf hr hQ (.inl ⟨hw,hy⟩) hS h
theorem tH (i:Nat){oi:Oper}(v:Value){fuel:Nat}{listed:Array Bool}{a:Act}{w:World}
  (h:wpAnyH P md ops Q S fuel (listed.setIfInBounds i true) (a.put oi.dst v) w)(hi:ops[i]? =some oi:=by rfl)(hy:∀w,S w->(execOp a.eval oi).run P w=.ok (.value v) w:=by(intro w hSw;(try dsimp only at hSw);first|(go_simp;done)|(go_simp;with_reducible rfl)))
  (hs:Region.noSelect ops=true:=by kernel_rfl)(hf:Region.free md ops listed i=true:=by kernel_rfl)(hr:(Region.ready md ops listed).contains i=true:=by kernel_rfl)
  (hQ:∀c a w,Q (.panic c) (a.put oi.dst v) w->Q (.panic c) a w:=by exact λ_ _ _ h=>h)(hw:Region.wanted oi (yielded ops a.tmps)=true:=by rfl)(hS:S w:=by assumption):wpAnyH P md ops Q S (fuel+1) listed a w:=
 wpAnyH_take hi hs hf hr hQ (.inl ⟨hw,hy⟩) hS h
theorem uH (i:Nat){oi:Oper}{fuel:Nat}{listed:Array Bool}{a:Act}{w:World}
  (h:wpAnyH P md ops Q S fuel (listed.setIfInBounds i true) (a.put oi.dst undef) w)(hi:ops[i]? =some oi:=by rfl)
  (hs:Region.noSelect ops=true:=by kernel_rfl)(hf:Region.free md ops listed i=true:=by kernel_rfl)(hr:(Region.ready md ops listed).contains i=true:=by kernel_rfl)
  (hQ:∀c a w,Q (.panic c) (a.put oi.dst undef) w->Q (.panic c) a w:=by exact λ_ _ _ h=>h)(hw:Region.wanted oi (yielded ops a.tmps)=false:=by rfl)(hS:S w:=by assumption):wpAnyH P md ops Q S (fuel+1) listed a w:=
 wpAnyH_take hi hs hf hr hQ (.inr ⟨hw,rfl⟩) hS h
theorem pZ (i:Nat){oi:Oper}(v:Value){fuel:Nat}{listed:Array Bool}{a:Act}{w:World}
  (h:bU P md ops Q S zs fuel (listed.setIfInBounds i true) (a.put oi.dst v) w)(hi:ops[i]? =some oi:=by rfl)(hy:∀w,True->(execOp a.eval oi).run P w=.ok (.value v) w:=by(intro w _;first|(go_simp;done)|(go_simp;with_reducible rfl)))
  (hs:Region.noSelect ops=true:=by kernel_rfl)(hf:Region.free md ops listed i=true:=by kernel_rfl)(hr:(Region.ready md ops listed).contains i=true:=by kernel_rfl)
  (hQ:∀c a w,Q (.panic c) (a.put oi.dst v) w->Q (.panic c) a w:=by exact λ_ _ _ h=>h)(hw:Region.wanted oi (yielded ops a.tmps)=true:=by rfl):bU P md ops Q S zs (fuel+1) listed a w:=
 uB hi hs hf hr hQ (.inl ⟨hw,hy⟩) h
end
section
variable {P:Program} {ops:Array Oper} {Q:Exit->Act->World->Prop} {md:Region.Mode} {S:World->Prop} {zs:List Nat}
theorem vZ (i:Nat){oi:Oper}(v:Value){fuel:Nat}{listed:Array Bool}{a:Act}{w:World}{q:Prop}
  (h:q)(hi:ops[i]? =some oi:=by rfl)(hy:∀w,S w->(execOp a.eval oi).run P w=.ok (.value v) w:=by(intro w hSw;(try dsimp only at hSw);first|(go_simp;done)|(go_simp;with_reducible rfl)))
  (hs:Region.noSelect ops=true:=by kernel_rfl)(hf:(Region.free md ops listed i&&zOk md ops listed i zs)=true:=by kernel_rfl)(hr:(Region.ready md ops listed).contains i=true:=by kernel_rfl)
  (hQ:∀c a w,Q (.panic c) (a.put oi.dst v) w->Q (.panic c) a w:=by exact λ_ _ _ h=>h)(hw:Region.wanted oi (yielded ops a.tmps)=true:=by rfl)(hS:S w:=by assumption)
  (e:q->bU P md ops Q S zs fuel (listed.setIfInBounds i true) (a.put oi.dst v) w:=by(intro h;(try simp only[Act.put,List.getElem_toArray,List.getElem_cons_zero,List.getElem_cons_succ,List.setIfInBounds_toArray,List.set_cons_zero,List.set_cons_succ]);exact h)):bU P md ops Q S zs (fuel+1) listed a w:=
 my hi hs hf hr hQ (.inl ⟨hw,hy⟩) hS (e h)
theorem vH (i:Nat){oi:Oper}(v:Value){fuel:Nat}{listed:Array Bool}{a:Act}{w:World}{q:Prop}
  (h:q)(hi:ops[i]? =some oi:=by rfl)(hy:∀w,S w->(execOp a.eval oi).run P w=.ok (.value v) w:=by(intro w hSw;(try dsimp only at hSw);first|(go_simp;done)|(go_simp;with_reducible rfl)))
  (hs:Region.noSelect ops=true:=by kernel_rfl)(hf:Region.free md ops listed i=true:=by kernel_rfl)(hr:(Region.ready md ops listed).contains i=true:=by kernel_rfl)
  (hQ:∀c a w,Q (.panic c) (a.put oi.dst v) w->Q (.panic c) a w:=by exact λ_ _ _ h=>h)(hw:Region.wanted oi (yielded ops a.tmps)=true:=by rfl)(hS:S w:=by assumption)
  (e:q->wpAnyH P md ops Q S fuel (listed.setIfInBounds i true) (a.put oi.dst v) w:=by(intro h;(try simp only[Act.put,List.getElem_toArray,List.getElem_cons_zero,List.getElem_cons_succ,List.setIfInBounds_toArray,List.set_cons_zero,List.set_cons_succ]);exact h)):wpAnyH P md ops Q S (fuel+1) listed a w:=
 wpAnyH_take hi hs hf hr hQ (.inl ⟨hw,hy⟩) hS (e h)
end
section
variable {P:Program} (w:World)
theorem pS (t ty:TypeId)(base:Nat)(e:TypeId)(i:TypeInfo)(z:Value)(size bytes:Nat)(ht:P.underlying t=sO (.slice e))(hi:P.info? e=sO i)(hz:i.zero=sO z)
  (hsize:i.size=size)(hby:i.bytes=bytes)(hzs:z.cells.size=size)(hsz:0 < size)
  (v:Value)(n:Nat)(xs:List Value)(hown:w.ownsRow base e size v n xs)
  (ao:Option Addr)(m c:Nat)(news:List Value)(hl:news.length=m * size)(hao:ao=none->m=0)(hnews:∀ad,ao=sO ad->∀j u,news[j]? =sO u->w.cell? (ad.add j)=sO u)(h1:∀u∈news,u.oneCell'=true)
  (h63:n+m<=maxLen)(hbytes:(n+m) * bytes<=140737488355328)(hbase:base<=w.heap.size):
  ∃v' w',(Builtin.append_ #[t,t] ty #[v,U ao m c]).run P w=.ok v' w'/\w'.ownsRow base e size v' (n+m) (xs++news)/\w.grownBy w' v.ownBlock/\(v'.ownBlock=v.ownBlock\/v'.ownBlock=sO w.heap.size):=by
 cases ao with
 |some ad=>
  obtain⟨v',w',hr,h2,h3,_,h5⟩:=run_append_own_at (P:=P) w base t ty e i z size bytes ht hi hz hsize hby hzs hsz v n xs hown ad m c news hl (hnews ad rfl) h1 h63 hbytes hbase;exact⟨v',w',hr,h2,h3,h5⟩
 |none=>
  obtain rfl:=hao rfl;obtain rfl:news=[]:=List.eq_nil_of_length_eq_zero (by simpa using hl);refine⟨v,w,?_,by simpa using hown,⟨rfl,rfl,rfl,lR _,λ_ _ _=>rfl⟩,.inl rfl⟩;rcases hown.2 with⟨rfl,rfl⟩|⟨g,cap,cur,rfl,_,_,hnc,_⟩
  ·simp[Builtin.append_,run_underlying ht,sizeOf,typeInfo,hi,Builtin.lenOf,Builtin.firstCells]
  ·simp[Builtin.append_,run_underlying ht,sizeOf,typeInfo,hi,Builtin.lenOf,Builtin.firstCells,hnc,storeCells]

theorem kL {o:Oper}{a:Act}{K:Act->World->Prop}{Q:Exit->Act->World->Prop}(s x:Operand)(t:TypeId)
  (ho:o.op=.call {callee:=.builtin .append,args:=#[s,x],argTypes:=#[t,t]})
  (base:Nat)(e:TypeId)(i:TypeInfo)(z:Value)(size bytes:Nat)(ht:P.underlying t=sO (.slice e))(hi:P.info? e=sO i)(hz:i.zero=sO z)
  (hsize:i.size=size)(hby:i.bytes=bytes)(hzs:z.cells.size=size)(hsz:0 < size)
  (v:Value)(n:Nat)(xs:List Value)(hs:a.eval s=v)(hown:w.ownsRow base e size v n xs)
  (ao:Option Addr)(m c:Nat)(news:List Value)(hx:a.eval x=U ao m c)(hl:news.length=m * size)(hao:ao=none->m=0)(hnews:∀ad,ao=sO ad->∀j u,news[j]? =sO u->w.cell? (ad.add j)=sO u)(h1:∀u∈news,u.oneCell'=true)
  (h63:n+m<=maxLen)(hbytes:(n+m) * bytes<=140737488355328)(hbase:base<=w.heap.size)
  (h:∀v' w',w'.ownsRow base e size v' (n+m) (xs++news)->w.grownBy w' v.ownBlock->(v'.ownBlock=v.ownBlock\/v'.ownBlock=sO w.heap.size)->K (a.put o.dst v') w'):o.wp P a w K Q:=by
 obtain⟨v',w',hr,h2,h3,h4⟩:=pS (P:=P) w t o.type base e i z size bytes ht hi hz hsize hby hzs hsz v n xs hown ao m c news hl hao hnews h1 h63 hbytes hbase;unfold Oper.wp execOp;simp only[ho,resolve,invoke,builtin,Sem.run_bind,Sem.run_pure,Result.andThen_ok,List.map_toArray,List.map_cons,List.map_nil,hs,hx,hr];exact h v' w' h2 h3 h4

theorem aY {ops:Array Oper}{rest:List Oper}{o:Oper}{a:Act}{Q:Exit->Act->World->Prop}(hgd:o.guard=nO)(s x:Operand)(t:TypeId)
  (ho:o.op=.call {callee:=.builtin .append,args:=#[s,x],argTypes:=#[t,t]})
  (base:Nat)(e:TypeId)(i:TypeInfo)(z:Value)(size bytes:Nat)(ht:P.underlying t=sO (.slice e))(hi:P.info? e=sO i)(hz:i.zero=sO z)
  (hsize:i.size=size)(hby:i.bytes=bytes)(hzs:z.cells.size=size)(hsz:0 < size)
  (v:Value)(n:Nat)(xs:List Value)(hs:a.eval s=v)(hown:w.ownsRow base e size v n xs)
  (ao:Option Addr)(m c:Nat)(news:List Value)(hx:a.eval x=U ao m c)(hl:news.length=m * size)(hao:ao=none->m=0)(hnews:∀ad,ao=sO ad->∀j u,news[j]? =sO u->w.cell? (ad.add j)=sO u)(h1:∀u∈news,u.oneCell'=true)
  (h63:n+m<=maxLen)(hbytes:(n+m) * bytes<=140737488355328)(hbase:base<=w.heap.size)
  (h:∀v' w',w'.ownsRow base e size v' (n+m) (xs++news)->w.grownBy w' v.ownBlock->(v'.ownBlock=v.ownBlock\/v'.ownBlock=sO w.heap.size)->wpList P ops Q rest (a.put o.dst v') w'):wpList P ops Q (o::rest) a w:=
 wpList_plain hgd λ_ hK=>kL w s x t ho base e i z size bytes ht hi hz hsize hby hzs hsz v n xs hs hown ao m c news hx hl hao hnews h1 h63 hbytes hbase λv' w' h2 h3 h4=>hK _ _ (h v' w' h2 h3 h4)

theorem da {ops:Array Oper}{o:Oper}{a:Act}{K:Act->World->Prop}{Q:Exit->Act->World->Prop}{E:Prop}(hgd:o.guard=nO)(s x:Operand)(t:TypeId)
  (ho:o.op=.call {callee:=.builtin .append,args:=#[s,x],argTypes:=#[t,t]})
  (base:Nat)(e:TypeId)(i:TypeInfo)(z:Value)(size bytes:Nat)(ht:P.underlying t=sO (.slice e))(hi:P.info? e=sO i)(hz:i.zero=sO z)
  (hsize:i.size=size)(hby:i.bytes=bytes)(hzs:z.cells.size=size)(hsz:0 < size)
  (v:Value)(n:Nat)(xs:List Value)(hs:a.eval s=v)(hown:w.ownsRow base e size v n xs)
  (ao:Option Addr)(m c:Nat)(news:List Value)(hx:a.eval x=U ao m c)(hl:news.length=m * size)(hao:ao=none->m=0)(hnews:∀ad,ao=sO ad->∀j u,news[j]? =sO u->w.cell? (ad.add j)=sO u)(h1:∀u∈news,u.oneCell'=true)
  (h63:n+m<=maxLen)(hbytes:(n+m) * bytes<=140737488355328)(hbase:base<=w.heap.size)
  (h:∀v' w',w'.ownsRow base e size v' (n+m) (xs++news)->w.grownBy w' v.ownBlock->(v'.ownBlock=v.ownBlock\/v'.ownBlock=sO w.heap.size)->K (a.put o.dst v') w'):
  if Region.wanted o (yielded ops a.tmps)=true then Oper.wp P o a w K Q else E:=by
 have hw:Region.wanted o (yielded ops a.tmps)=true:=by simp[Region.wanted,hgd]
 rw[if_pos hw];exact kL w s x t ho base e i z size bytes ht hi hz hsize hby hzs hsz v n xs hs hown ao m c news hx hl hao hnews h1 h63 hbytes hbase h
end
end
section
open Go.RowKit
theorem sZ (s1 s2:oA)(c1 c2:Nat)(w:World):
  Calls pG 129 #[U s1 0 c1,U s2 0 c2] w λe w'=>e=Rt (Bb true)/\Below w.heap.size w w':=by
 go_enter Tryz.func129,Tryz.ntmps129;go_wp2
 go_rounds 1
 go_ret;exact⟨rfl,bR _ _⟩
end
section
open Go.RowKit Go
def cr (fn:FuncId)(tmps:Array Value)(ps:Array Tmp)(assign body:Code)(D:Nat)(st:LoopState)(pe:Option Code):Loop:={state:=st,pending:=pe,fn:=fn,tmps:=tmps,params:=ps,assign:=assign,body:=body,defers:=D}
structure LoopAt (W:World) (l D:Nat) (r:Loop):Prop where
 lp:W.heap[l]? =sO (.loop r)
 dfr:W.heap[D]? =sO (.deferred (sO []))
theorem LoopAt.below {W W':World}{l D:Nat}{r:Loop}(h:LoopAt W l D r)(hb:Below W.heap.size W W'):LoopAt W' l D r:=⟨(hb.block l (Array.getElem?_eq_some_iff.1 h.lp).1).trans h.lp,(hb.block D (Array.getElem?_eq_some_iff.1 h.dfr).1).trans h.dfr⟩
section
variable {P:Program} {n:Nat} {fn:FuncId} {g:Operand} {ps:Array Tmp} {assign body:Code} {Q:Exit->Act->World->Prop} {a:Act} {w:World}
theorem oL {gf:Nat}{lb:Array Value}(hg:a.eval g=.func (.func gf) #[] lb)(eg:∀args w,(callFunc gf args).run P w=.ok (.enter gf args) w)
  (J:Nat->Nat->Loop->World->Prop)(Jx:Nat->Nat->Loop->Code->World->Prop)
  (hit:∀fn W1,LoopAt W1 (w.heap.size+1) w.heap.size (cr fn a.tmps ps assign body w.heap.size .ready nO)->Below w.heap.size w W1->CallsIn Fence.wide (n - 1) P gf (#[.func (.yield (w.heap.size+1)) #[] #[]]++lb) W1 λe W'=>(∃v,e=Rt v)/\((LoopAt W' (w.heap.size+1) w.heap.size (cr fn a.tmps ps assign body w.heap.size .ready nO)/\J (w.heap.size+1) w.heap.size (cr fn a.tmps ps assign body w.heap.size .ready nO) W')\/∃c,LoopAt W' (w.heap.size+1) w.heap.size (cr fn a.tmps ps assign body w.heap.size .done (sO c))/\Jx (w.heap.size+1) w.heap.size (cr fn a.tmps ps assign body w.heap.size .done (sO c)) c W'))
  (hdone:∀r W,LoopAt W (w.heap.size+1) w.heap.size r->J (w.heap.size+1) w.heap.size r W->∀r',Q .normal {a with defers:={target:=.collected w.heap.size,args:=#[]}::a.defers} (W.putObj (w.heap.size+1) r'))
  (hstop:∀r c W,LoopAt W (w.heap.size+1) w.heap.size r->Jx (w.heap.size+1) w.heap.size r c W->∀r',c.wpIn Fence.wide n P Q {a with defers:={target:=.collected w.heap.size,args:=#[]}::a.defers} (W.putObj (w.heap.size+1) r')):
  (Code.rangeFunc g ps assign body).wpIn Fence.wide n P Q a w:=by
 refine wpIn_rangeFunc λfn _=> ?_;have hs:(w.alloc (.deferred (sO []))).heap.size=w.heap.size+1:=zA _ _;obtain⟨W1,hW1⟩:∃W1,W1=(w.alloc (.deferred (sO []))).alloc (.loop (cr fn a.tmps ps assign body w.heap.size .ready nO)):=⟨_,rfl⟩;have hb:Below w.heap.size w W1:=by rw[hW1];exact((bR _ w).alloc (lR _) _).alloc (by rw[hs];omega) _
 have h1:LoopAt W1 (w.heap.size+1) w.heap.size (cr fn a.tmps ps assign body w.heap.size .ready nO):=by
  rw[hW1];refine⟨?_,(Below.heap_alloc _ _ _ (by rw[hs];omega)).trans (q2 w _)⟩;have:=q2 (w.alloc (.deferred (sO []))) (.loop (cr fn a.tmps ps assign body w.heap.size .ready nO));rwa [hs] at this
 refine⟨w.heap.size+1,[{target:=.collected w.heap.size,args:=#[]}],W1,{target:=.fn (.func gf) lb,args:=#[.func (.yield (w.heap.size+1)) #[] #[]]},W1,gf,#[.func (.yield (w.heap.size+1)) #[] #[]]++lb,W1,?_,?_,λ_ _=>trivial,?_,λh=>(by cases h),?_⟩
 ·rw[hW1]
  exact run_enterLoop_outer _ _ _ _ _
 ·simp only[resolve,hg]
  simp[go_sem]
 ·simp[invoke,go_sem,eg]
 ·refine(hit fn _ h1 hb).mono ?_
  rintro e W' ⟨⟨v,rfl⟩,⟨hl,hj⟩|⟨c,hl,hj⟩⟩
  ·exact⟨nO,_,run_endLoop hl.lp (by simp[cr]),hdone _ _ hl hj _⟩
  ·exact⟨sO c,_,run_endLoop hl.lp (by simp[cr]),hstop _ c _ hl hj _⟩
theorem tr {l D m:Nat}{args:Array Value}{tmps:Array Value}{W:World}{R:Ending->World->Prop}(hl:LoopAt W l D (cr fn tmps ps assign body D .ready nO))(hz:args.size=ps.size)
  (h:assign.wpIn (Fence.wide.inRound l) m P (Exit.then (λa₁ W₁=>LoopAt W₁ l D (cr fn tmps ps assign body D .ready nO)/\body.wpIn (Fence.wide.inRound l) m P (λe _ W₃=>LoopAt W₃ l D (cr fn tmps ps assign body D .busy nO)/\(match e with
    |.normal=>R (Rt (Bb true)) (W₃.putObj l (.loop (cr fn tmps ps assign body D .ready nO)))
    |.ret=>R (Rt (Bb false)) (W₃.putObj l (.loop (cr fn tmps ps assign body D .done (sO .ret))))
    |.exit i=>R (Rt (Bb false)) (W₃.putObj l (.loop (cr fn tmps ps assign body D .done (sO (.exit i)))))
    |_=>False)) a₁ (W₁.putObj l (.loop (cr fn tmps ps assign body D .busy nO)))) (λ_ _ _=>False)) {tmps:=(ps.zip args).foldl (λt (p,v)=>t.setIfInBounds p v) tmps,defers:=[]} W):
  YieldAt Fence.wide m P l args W R:=by
 refine⟨fn,_,assign,body,run_yield hl.lp hz,roundIn_of_wpIn trivial (wpIn_mono h ?_)⟩;intro e a1 W1 q;cases e with
 |normal=>
  obtain⟨hl1,hb⟩:=q;refine⟨_,run_beginRound hl1.lp rfl,wpIn_mono hb ?_⟩;intro e a3 W3 q3;obtain⟨hl3,q3⟩:=q3;cases e with
  |normal=>exact⟨_,_,run_endRound nO hl3.lp,q3⟩
  |ret=>exact⟨_,_,run_endRound (sO .ret) hl3.lp,q3⟩
  |exit i=>exact⟨_,_,run_endRound (sO (.exit i)) hl3.lp,q3⟩
  |goto t=>exact q3.elim
  |panic ch=>exact q3.elim
  |outgrown=>exact q3.elim
 |ret=>exact q
 |exit i=>exact q
 |goto t=>exact q
 |panic ch=>exact q
 |outgrown=>exact q
end
end
section
open Go.RowKit
theorem Tryz.info_int:(Tryz.prog.info? 3).map (λi=>(i.zero,i.size,i.bytes))=sO (sO (I Y 0),1,8):=by kernel_rfl
end
section
open Go
section
variable {P:Program} {ops:Array Oper} {Q:Exit->Act->World->Prop} {md:Region.Mode} {l m:Nat}
def lV (ops:Array Oper):Prop:=∀o∈ops,∀c,o.op≠.defer c
theorem yq {row:String}{args:Array Value}{w:World}{R:Value->World->Prop}(h:Rows P row args w R):RowsIn Fence.wide m P row args w R:=λc cs _=>by
 obtain⟨v,w',hr,hs⟩:=h c cs;exact⟨v,w',hr,stepsIn_wide.2 hs⟩
theorem tw {i:Nat}{K:Act->World->Prop}{a:Act}{w:World}(hd:∀o,ops[i]? =sO o->∀c,o.op≠.defer c)(hQ:¬LetsOut Q)(h:wpOp P ops Q i K a w):wpOpIn (Fence.wide.inRound l) m P ops Q i K a w:=by
 unfold wpOp at h;unfold wpOpIn;cases e:ops[i]? with
 |none=>simpa[e] using h
 |some o=>
  simp only[e] at h |-;by_cases hw:Region.wanted o (yielded ops a.tmps)=true
  ·rw[if_pos hw] at h |-
   rcases h with h|⟨_,h⟩
   ·refine⟨λ_ _=>trivial,?_⟩
    rw[show (Fence.wide.inRound l).round=sO l from rfl,Oper.semAt_some l _ o (hd o e)];unfold Oper.wp at h;generalize Sem.run P (execOp a.eval o) w=r at h |-;unfold Oper.upon at h;unfold Oper.uponIn;split at h
    ·exact h
    ·exact h
    ·exact h
    ·exact⟨λh=>(by cases h),callsIn_wide.2 h⟩
    ·exact⟨λh=>(by cases h),yq h⟩
    ·exact h
    ·exact h.elim
   ·exact absurd h hQ
  ·rw[if_neg hw] at h |-
   exact⟨λ_ _=>trivial,h⟩
theorem kO (hd:lV ops)(hQ:¬LetsOut Q):∀(fuel:Nat) (listed:Array Bool) (a:Act) (w:World),wpAny P md ops Q fuel listed a w->wpAnyIn (Fence.wide.inRound l) m P md ops Q fuel listed a w
 |0,_,_,_,h=>h
 |fuel+1,_,_,_,h=>⟨h.1,λi hi=>tw (λo ho=>hd o (Array.mem_of_getElem? ho)) hQ (wpOp_mono (λa' w' h'=>kO hd hQ fuel _ a' w' h') (h.2 i hi))⟩
theorem u9 {S:World->Prop}{id:Nat}{a:Act}{w:World}(zs:List Nat)(hm:P.follows .mixedOrders=true)(hd:lV ops)(hQ:¬LetsOut Q)(hS:S w.drew)
  (h:S w.drew->bU P .any ops Q S zs ops.size (Array.replicate ops.size false) a w.drew):(Code.region id ops true).wpIn (Fence.wide.inRound l) m P Q a w:=
 wpIn_region_any hm (kO hd hQ _ _ _ _ (kF _ _ _ _ (h hS)))
theorem lS {F:Fence}{d:Code}{K:Act->World->Prop}{a:Act}{w:World}(h:d.wpIn F m P (Exit.then K (λ_ _ _=>False)) a w):d.wpIn F m P (Exit.then K Q) a w:=wpIn_mono h λe a w q=>by
 cases e<;>first|exact q|exact q.elim
theorem Ap {K:Act->World->Prop}:¬LetsOut (Exit.then K (λ_ _ _=>False)):=λ⟨_,_,h⟩=>h
end
end
section
open Go.RowKit
theorem dV {w w':World}{B:Nat}{e:TypeId}{z:Nat}{v:Value}{n:Nat}{xs:List Value}(h:w.ownsRow B e z v n xs)(hb:∀k,v.ownBlock=sO k->w'.heap[k]? =w.heap[k]?):w'.ownsRow B e z v n xs:=by
 obtain⟨h1,h2⟩:=h;refine⟨h1,?_⟩;rcases h2 with h2|⟨g,cap,cur,hv,hB,hg,r⟩
 ·exact .inl h2
 ·exact .inr ⟨g,cap,cur,hv,hB,by rw[hb g (by rw[hv];rfl)];exact hg,r⟩
end
section
open Go
theorem rP {P:Program}(w:World)(dT sT ty elem:TypeId)(g o dLen dCap:Nat)(a:Addr)(sLen sCap k:Nat)(cur:Array Value)(t:TypeId)(cs:List Value)
  (hu:P.underlying dT=sO (.slice elem))(hs:(P.info? elem).map (·.size)=sO k)
  (hg:w.heap[g]? =sO (Cc cur t (0,0)))(hn:cs.length=Nat.min sLen dLen * k)
  (hsrc:∀j v,cs[j]? =sO v->w.cell? (a.add j)=sO v)(hfit:o+cs.length<=cur.size)(h1:∀v∈cs,v.oneCell'=true):
  (Builtin.copy_ #[dT,sT] ty #[U (sO ⟨g,o,nO⟩) dLen dCap,U (sO a) sLen sCap]).run P w=
   .ok (goInt (Nat.min sLen dLen)) (w.setRow g (cur.toList.take o++cs++cur.toList.drop (o+cs.length)).toArray):=by
 have hl:=run_loadCells_list (P:=P) w a cs hsrc;have hst:=run_storeCells_at P g o t cs 0 cur w hg (by simpa using hfit) h1;cases hq:P.info? elem with
 |none=>simp[hq] at hs
 |some i=>
  have hi:i.size=k:=by simpa[hq] using hs
  simp[Builtin.copy_,run_underlying hu,Builtin.lenOf,Builtin.firstCells,sizeOf,typeInfo,hq,hi,<-hn,hl,hst]
end
section
open Go.RowKit
def c7:List Ins:=[⟨1,0,0,0,5,0⟩,⟨18,0,0,0,0,0⟩]

theorem rd (w:World):
  Calls pG 30 #[] w λe w'=>∃b,e=Rt (Ag #[I Y 1,I Y 0,U (sO ⟨b,0,nO⟩) 2 2])/\CodeAt w' (sO ⟨b,0,nO⟩) c7/\Below w.heap.size w w':=by
 go_enter Tryz.func30,Tryz.ntmps30;go_wp2;refine bodyPost_ret (v:=Ag #[I Y 1,I Y 0,U (sO ⟨w.heap.size+1,0,nO⟩) 2 2]) (by simp[results,Tryz.results30,go_sem]) rfl ⟨w.heap.size+1,rfl,.inr ⟨_,_,rfl,by simp,?_⟩,by go_grown⟩;intro k hk
 match k,hk with
 |0,_=>refine⟨?_,?_,?_,?_,?_,?_⟩<;>simp[go_sem,c7]
 |1,_=>refine⟨?_,?_,?_,?_,?_,?_⟩<;>simp[go_sem,c7]
 |k+2,h=>simp[c7] at h;omega
end
section
open Go.RowKit Go
section
variable {P:Program} {ops:Array Oper} {Q:Exit->Act->World->Prop} {a:Act} {w:World} {rest:List Oper} {o:Oper}
theorem tL (v:Value)(h:wpList P ops Q rest (a.put o.dst v) w)(hy:(execOp a.eval o).run P w=.ok (.value v) w:=by first|(go_simp;done)|(go_simp;with_reducible rfl))(hw:Region.wanted o (yielded ops a.tmps)=true:=by rfl):wpList P ops Q (o::rest) a w:=by
 unfold wpList;rw[if_pos hw];left;unfold Oper.wp;rw[hy];exact h
theorem tLb (b:Bool)(X:Value)(h:∀v,Hid (v=if b=true then undef else X)->wpList P ops Q rest (a.put o.dst v) w)(h0:b=false->Region.wanted o (yielded ops a.tmps)=true/\(execOp a.eval o).run P w=.ok (.value X) w)(h1:b=true->Region.wanted o (yielded ops a.tmps)=false):wpList P ops Q (o::rest) a w:=by
 cases b with
 |false=>
  obtain⟨hw,hy⟩:=h0 rfl;exact tL X (h X (by show _=_;simp)) hy hw
 |true=>
  unfold wpList;rw[if_neg (by rw[h1 rfl];decide)];exact h _ (by show _=_;simp)
end
end
end Go.Proofs.YtmapdpcfanecdabGreat
