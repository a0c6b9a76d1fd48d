import Derived.WalkKit
import Derived.WalkSpells
import Derived.WalkLawsBesides
import Derived.Handy
import Derived.Deep.RegionHeld3
import Derived.Test.YtmapdpcfanecdabGreatDoorM03
import Derived.Lib.ItoaNum
import Derived.Lib.ItoaLen
import Derived.Lib.QuietBelow
import Derived.BigQuiet
import Derived.Deep.AppendLies
import Derived.Laws.OwnMore
import Derived.Lib.SplitLaws
import Derived.Lib.AtoiTie
import Derived.RangeFuncNested
import Derived.RangeFuncLeaves
import Derived.Deep.RegionHeld
import Derived.OwnWalk
import Derived.OrdersIn
import Derived.TacticsIn
import Derived.Laws.CopyRow
import Derived.Lib.SlBuf
import Derived.Deep.DrawnRows
import Derived.BigRegion
import Derived.Deep.QuietTactic
import Derived.Deep.RegionHeldLaw
open Array renaming getElem?_eq_some_iff→z8
open Bool renaming and_eq_true→j2,false_eq_true→x8,not_eq_false→Q1,not_eq_true'→z5,not_false→J9,or_eq_true→z4,true_and→Q0
open Go.Ending renaming returned→Rt
open Go.IntKind renaming i64→Y
open Go.Obj renaming cells→Cc
open Go.Proofs.Tryz renaming prog→pG
open Go.RowKit.Below renaming heap_setCell→hSe,refl→bR
open Go.Value renaming agg→Ag,bool→Bb,int→I,ownBlock→j1,pointer→Pp,slice→U,tuple→Tu
open Go.World renaming alloc_heap_new→X1,cell?_of_block→j8,cell?_setCell_other→J1,cell?_setCell_same→J0,frozen?_of_block→z9,frozen?_setCell→x6,ownsRow_nil→X9,setCell→Q7,size_alloc→zA
open Int renaming eq_ofNat_of_zero_le→J5,mul_comm→x9
open List renaming all_eq_true→J4,any_eq_false→X4,cons_append→Q8,contains_iff_mem→Z2,drop_eq_getElem_cons→z7,drop_eq_nil_of_le→Qb,eq_nil_of_length_eq_zero→Q6,getD→j4,getElem?_eq_getElem→j7,getElem?_eq_none→Z3,getElem_append_left→X8,getElem_mem→gM,getElem_modify→Q3,getElem_of_mem→x7,getElem_zipWith→j9,isPrefixOf→J3,length_append→X6,length_cons→z0,length_modify→Z1,length_nil→X7,length_set→Z4,length_zipWith→j6,map_append→Q5,map_cons→J6,map_nil→J7,mem_append→z3,mem_cons→j0,mem_cons_of_mem→J2,mem_cons_self→Q9,mem_flatten→Z0,mem_map→j5,mem_replicate→X2,mem_singleton→j3,pairwise_cons→z6,replicate→z1,set_cons_succ→J8,zipWith→z2
open Nat renaming le_refl→lR,le_trans→lT,lt_of_lt_of_le→lL,not_lt→Q4,zero_add→Z5
open Option renaming getD_none→X5,getD_some→Q2,isSome_iff_exists→Qa,none→nO,some→sO
set_option linter.unusedSimpArgs false
set_option linter.unusedVariables false
set_option maxHeartbeats 4000000
set_option maxRecDepth 100000
namespace Go.Proofs.YtmapdpcfanecdabGreatDoor
section
def btw (n l m:Int):Bool:=decide (l≤n∧n≤m)
theorem iB {n l m:Int}(h1:l≤n)(h2:n≤m):btw n l m=true:=by simp[btw,h1,h2]
theorem Dk {n l m:Int}(h:¬l≤n):btw n l m=false:=by simp[btw,h]
theorem DG {n l m:Int}(h:¬n≤m):btw n l m=false:=by simp[btw,h]

theorem ur {k:Int}(h:btw k 1 19=true):k=1∨k=2∨k=3∨k=4∨k=5∨k=6∨k=7∨k=8∨k=9∨k=10∨k=11∨k=12∨k=13∨k=14∨k=15∨k=16∨k=17∨k=18∨k=19:=by
 simp[btw] at h;omega

def nTo (k:Int):Bool:=btw k 1 12||decide (k=14)
def nA (k:Int):Bool:=btw k 4 10||decide (k=12)||decide (k=13)||decide (k=15)||decide (k=17)||decide (k=18)
def nB (k:Int):Bool:=btw k 5 9||decide (k=13)
def nN (k:Int):Bool:=decide (k=1)||decide (k=2)||btw k 12 14
def nG (k:Int):Bool:=decide (k=15)||decide (k=16)

structure Ins where
 k:Int
 tgt:Int
 a:Int
 b:Int
 n:Int
 g:Int

def bD (V F L:Int)(i:Ins):Int:=
 if btw i.k 1 19=false then 6
 else if (nTo i.k&& !btw i.tgt 0 (V - 1))||(nA i.k&& !btw i.a 0 (V - 1))||(nB i.k&& !btw i.b 0 (V - 1))||((decide (i.k=12)||decide (i.k=13))&& !btw i.n 0 (F - 1))||(nG i.k&& !btw i.g 0 L) then 5
 else if (decide (i.k=1)&& !btw i.n (-2147483648) 2147483647)||(decide (i.k=2)&& !btw i.n 0 1)||(decide (i.k=14)&& !btw i.n 0 1000000) then 3
 else if (!nTo i.k&&decide (i.tgt≠0))||(!nA i.k&&decide (i.a≠0))||(!nB i.k&&decide (i.b≠0))||(!nN i.k&&decide (i.n≠0))||(!nG i.k&&decide (i.g≠0)) then 1
 else 0

def fE (V F L:Int):List Ins→Int
 |[]=>0
 |i::r=>if bD V F L i=0 then fE V F L r else bD V F L i

def ai (V F:Int)(c:List Ins):Int:=
 if btw V 1 8=false||btw F 0 3=false then 3 else if 60 < c.length then 2 else fE V F c.length c

def bi:Int→ByteArray
 |1=>⟨#[110,117,109,98,101,114]⟩
 |2=>⟨#[116,114,117,116,104]⟩
 |3=>⟨#[110,117,108,108]⟩
 |4=>⟨#[99,111,112,121]⟩
 |5=>⟨#[97,100,100]⟩
 |6=>⟨#[115,117,98]⟩
 |7=>⟨#[109,117,108]⟩
 |8=>⟨#[108,101,115,115]⟩
 |9=>⟨#[115,97,109,101]⟩
 |10=>⟨#[110,111,116]⟩
 |11=>⟨#[110,101,119]⟩
 |12=>⟨#[103,101,116]⟩
 |13=>⟨#[112,117,116]⟩
 |14=>⟨#[105,110,112,117,116]⟩
 |15=>⟨#[105,102]⟩
 |16=>⟨#[103,111,116,111]⟩
 |17=>⟨#[101,120,112,101,99,116]⟩
 |18=>⟨#[112,114,105,110,116]⟩
 |19=>⟨#[101,110,100]⟩
 |_=>⟨#[]⟩
structure Val where
 k:Int
 n:Int

structure Thg where
 site:Int
 fs:List Val

structure St where
 at_:Int
 vars:List Val
 things:List Thg
 taken:Int
 lines:List ByteArray
 fin:Int

def bS (T:Nat)(v:Val):Prop:=(v.k=0∧v.n=0)∨(v.k=1∧ -2147483648≤v.n∧v.n≤2147483647)∨(v.k=2∧(v.n=0∨v.n=1))∨(v.k=3∧0≤v.n∧v.n < T)

def cnt (v:Val):Bool:=decide (v.k=3)||((decide (v.k=1)||decide (v.k=2))&&decide (v.n≠0))

def wr (n:Int):Int:=(n+2147483648) % 4294967296 - 2147483648

def b8 (b:Bool):Val:=⟨2,if b then 1 else 0⟩

def dI (s:St)(i:Int):Val:=s.vars.getD i.toNat ⟨0,0⟩
def dg (s:St)(i:Int)(v:Val):St:={s with vars:=s.vars.set i.toNat v}

def kh (n x:Int):Int:=if x > n then n else if x < -n then -n else x

def iE (s:St)(t f:Int):Val:=((s.things.getD t.toNat ⟨0,[]⟩).fs).getD f.toNat ⟨0,0⟩
def bT (s:St)(t f:Int)(v:Val):St:={s with things:=s.things.modify t.toNat λx=>{x with fs:=x.fs.set f.toNat v}}
end
section
open Go.RowKit
theorem aI {a b:Bool}(h:a=b):Ending.returned (Bb a)=Rt (Bb b):=by rw[h]
theorem bu {k:IntKind}{a b:Int}(h:a=b):Ending.returned (.int k a)=Rt (.int k b):=by rw[h]
theorem Gd {W w1:World}(hb:Below W.heap.size W w1):(∀b o,b < W.heap.size→w1.cell? ⟨b,o,nO⟩=W.cell? ⟨b,o,nO⟩)∧(∀b o,b < W.heap.size→w1.frozen? ⟨b,o,nO⟩=W.frozen? ⟨b,o,nO⟩):=
 ⟨λb o h=>hb.cell (p:=⟨b,o,nO⟩) h,λb o h=>hb.frozen (p:=⟨b,o,nO⟩) h⟩
def InsAt (w:World)(b o:Nat)(i:Ins):Prop:=
 w.cell? ⟨b,o,nO⟩=sO (I Y i.k)∧w.cell? ⟨b,o+1,nO⟩=sO (I Y i.tgt)∧w.cell? ⟨b,o+2,nO⟩=sO (I Y i.a)∧
 w.cell? ⟨b,o+3,nO⟩=sO (I Y i.b)∧w.cell? ⟨b,o+4,nO⟩=sO (I Y i.n)∧w.cell? ⟨b,o+5,nO⟩=sO (I Y i.g)

def CodeAt (w:World)(s:Option Addr)(c:List Ins):Prop:=
 c=[]∨∃b off,s=sO ⟨b,off,nO⟩∧b < w.heap.size∧∀k (h:k < c.length),InsAt w b (off+k * 6) c[k]

theorem InsAt.below {B:Nat}{w w':World}{b o:Nat}{i:Ins}(h:InsAt w b o i)(hb:Below B w w')(hB:b < B):InsAt w' b o i:=by
 obtain⟨h0,h1,h2,h3,h4,h5⟩:=h
 refine⟨?_,?_,?_,?_,?_,?_⟩<;>rw[hb.cell (by simpa using hB)]<;>assumption

theorem CodeAt.below {B:Nat}{w w':World}{s:Option Addr}{c:List Ins}(h:CodeAt w s c)(hb:Below B w w')(hB:w.heap.size≤B):CodeAt w' s c:=by
 rcases h with h|⟨b,off,hs,hlt,hi⟩
 ·exact .inl h
 ·exact .inr ⟨b,off,hs,lL hlt hb.size,λk h=>(hi k h).below hb (by omega)⟩

def IntsAt (w:World)(s:Option Addr)(l:List Int):Prop:=
 l=[]∨∃b off,s=sO ⟨b,off,nO⟩∧b < w.heap.size∧∀k (h:k < l.length),w.cell? ⟨b,off+k,nO⟩=sO (I Y l[k])

def ValsAt (w:World)(s:Option Addr)(l:List Val):Prop:=
 l=[]∨∃b off,s=sO ⟨b,off,nO⟩∧b < w.heap.size∧∀k (h:k < l.length),w.cell? ⟨b,off+k * 2,nO⟩=sO (I Y l[k].k)∧w.cell? ⟨b,off+k * 2+1,nO⟩=sO (I Y l[k].n)

theorem IntsAt.below {B:Nat}{w w':World}{s:Option Addr}{l:List Int}(h:IntsAt w s l)(hb:Below B w w')(hB:w.heap.size≤B):IntsAt w' s l:=by
 rcases h with h|⟨b,off,hs,hlt,hi⟩
 ·exact .inl h
 ·exact .inr ⟨b,off,hs,lL hlt hb.size,λk h=>by rw[hb.cell (by simp;omega)];exact hi k h⟩

theorem ValsAt.below {B:Nat}{w w':World}{s:Option Addr}{l:List Val}(h:ValsAt w s l)(hb:Below B w w')(hB:w.heap.size≤B):ValsAt w' s l:=by
 rcases h with h|⟨b,off,hs,hlt,hi⟩
 ·exact .inl h
 ·exact .inr ⟨b,off,hs,lL hlt hb.size,λk h=>by rw[hb.cell (by simp;omega),hb.cell (by simp;omega)];exact hi k h⟩
theorem BY {V F L:Int}{c:List Ins}{k:Nat}(h:k < c.length):fE V F L (c.drop k)=if bD V F L c[k]=0 then fE V F L (c.drop (k+1)) else bD V F L c[k]:=by
 rw[z7 h];rfl
theorem oc:∃j,Tryz.prog.info? 122=sO j∧j.size=2:=by
 obtain⟨j,hj,hjs⟩:=Option.map_eq_some_iff.1 Tryz.Builder_Extra_169.sizeBuilder
 exact⟨j,hj,hjs⟩

theorem tA (b:Nat)(w:World)(h0:w.cell? ⟨b,0,nO⟩=sO (Pp (sO ⟨b,0,nO⟩))):
  Calls pG 119 #[Pp (sO ⟨b,0,nO⟩)] w λe w'=>e=Rt (Tu #[])∧w'=w:=by
 obtain⟨j,hj,_⟩:=oc
 go_enter Tryz.func119,Tryz.ntmps119
 go_wp2
 rw[Lib.run_neq_ptr_same w _ Tryz.underlying119 hj]
 go_wp2
 go_end0
 exact⟨rfl,rfl⟩

theorem rB (b:Nat)(w:World)(h0:w.cell? ⟨b,0,nO⟩=sO (Pp nO))(hsh:w.shape? b=sO (122,2))(hfz:w.frozen? ⟨b,0,nO⟩=false):
  Calls pG 119 #[Pp (sO ⟨b,0,nO⟩)] w λe w'=>e=Rt (Tu #[])∧w'=w.setCell ⟨b,0,nO⟩ (Pp (sO ⟨b,0,nO⟩)):=by
 obtain⟨j,hj,hjs⟩:=oc
 go_enter Tryz.func119,Tryz.ntmps119
 go_wp2
 rw[Lib.run_to_unsafe w ⟨b,0,nO⟩ Tryz.underlying119 Tryz.underlying219 hj (by rw[hjs];decide) hsh (Nat.zero_lt_succ 1)]
 simp only[Result.andThen]
 rw[Oper.upon_value]
 go_wp2
 rw[run_callFunc_extern Tryz.func177 (by kernel_rfl) (by kernel_rfl) (by kernel_rfl) (e:=Extern.AbiNoEscape.same) (by kernel_rfl)]
 rw[Lib.run_noEscape]
 simp only[Result.andThen]
 rw[Oper.upon_value]
 go_wp2
 rw[Lib.run_from_unsafe w ⟨b,0,nO⟩ Tryz.underlying219 Tryz.underlying119 hj hsh Tryz.Builder_Extra_169.liesBuilder]
 simp only[Result.andThen]
 rw[Oper.upon_value]
 go_wp2
 go_end0
 exact⟨rfl,rfl⟩

theorem vk (B b:Nat)(bs:List Value)(w:World)(h:Lib.IsBuilder 122 5 B b bs w):
  Calls pG 119 #[Pp (sO ⟨b,0,nO⟩)] w λe w'=>e=Rt (Tu #[])∧(Lib.BuilderAt 122 5 B b (Pp (sO ⟨b,0,nO⟩)) bs w'∧Below B w w'):=by
 rcases h with h|h
 ·refine(rB b w h.cell0 h.shape h.frozen0).mono ?_
  rintro e w' ⟨rfl,rfl⟩
  exact⟨rfl,h.used _,(bR B w).setCell (p:=⟨b,0,nO⟩) h.1 _⟩
 ·refine(tA b w h.cell0).mono ?_
  rintro e w' ⟨rfl,rfl⟩
  exact⟨rfl,h,bR B _⟩

theorem sE (B b:Nat)(bs:List Value)(s:ByteArray)(w:World)(h:Lib.IsBuilder 122 5 B b bs w)(hlen:bs.length+s.size≤140737488355328)(hBw:B≤w.heap.size):
  Calls pG 62 #[Pp (sO ⟨b,0,nO⟩),.string s] w λe w'=>e=Rt (Tu #[I Y s.size,.nilIface])∧(Lib.BuilderAt 122 5 B b (Pp (sO ⟨b,0,nO⟩)) (bs++Lib.strCells s) w'∧Below B w w'):=by
 obtain⟨ti,hi,hz0,hz1,hz2⟩:=info_parts Tryz.Builder_Extra_169.infoByte
 go_enter Tryz.func62,Tryz.ntmps62
 go_wp2_with (go_at_call 119;refine(vk B b bs _ h).mono ?_)
 rintro e w1 ⟨rfl,h1,hb1⟩
 obtain⟨hB,v,hbk,hown,hne⟩:=h1
 have c0:w1.cell? ⟨b,0,nO⟩=sO (Pp (sO ⟨b,0,nO⟩)):=by rw[Lib.cell_of_heap hbk];rfl
 have c1:w1.cell? ⟨b,1,nO⟩=sO v:=by rw[Lib.cell_of_heap hbk];rfl
 go_wp2_with (at_builtin;refine Lib.wpList_append_own_string _ rfl _ _ 120 9 rfl B 5 ti Tryz.underlying120 Tryz.underlying9 hi hz0 hz1 hz2 _ _ _ rfl hown s rfl ?c3 ?c4 ?c5 ?_)
 case c3=>unfold maxLen;omega
 case c4=>omega
 case c5=>have:=hb1.size;omega
 intro v' w2 hown' hgrow _
 have hlt:b < w1.heap.size:=(z8.1 hbk).1
 have hb2:w2.heap[b]? =sO (Cc #[Pp (sO ⟨b,0,nO⟩),v] 122 (0,0)):=by
  rw[hgrow.block b hlt (λe=>hne e.symm)]
  exact hbk
 have d0:w2.cell? ⟨b,0,nO⟩=sO (Pp (sO ⟨b,0,nO⟩)):=by rw[Lib.cell_of_heap hb2];rfl
 have d1:w2.cell? ⟨b,1,nO⟩=sO v:=by rw[Lib.cell_of_heap hb2];rfl
 have f1:w2.frozen? ⟨b,1,nO⟩=false:=Lib.frozen_of_heap hb2 1
 obtain⟨ao,n',cap,rfl⟩:∃ao n' cap,v'=U ao n' cap:=by
  rcases hown'.2 with⟨hv,_⟩|⟨g,cap,cur,hv,_⟩
  ·exact⟨_,_,_,hv⟩
  ·exact⟨_,_,_,hv⟩
 go_wp2
 go_ret2
 refine⟨rfl,?_,?_⟩
 ·exact Lib.BuilderAt.put (T:=122) (e:=5) hB hb2 (bs':=bs++Lib.strCells s) (by simpa[Lib.strCells_length] using hown') Tryz.Builder_Extra_169.neB5
 ·exact(hb1.grown hgrow (by have:=hb1.size;omega) (λk hk=>(hown.lt k hk).1)).setCell (p:=⟨b,1,nO⟩) hB _
def kZ (n:Int):Prop:= -9223372036854775808≤n∧n≤9223372036854775807
def fI (n:Int):ByteArray:=⟨(Lib.itoa n).toArray⟩
theorem mo (n:Int)(h:kZ n):(fI n).size≤21:=Lib.itoa_length_le n h.1 h.2
def bU:List Val→List Value
 |[]=>[]
 |v::r=>I Y v.k::I Y v.n::bU r

theorem ip (l:List Val):(bU l).length=l.length * 2:=by
 induction l with
 |nil=>rfl
 |cons v r ih=>simp[bU,ih];omega

theorem kj (l:List Val):∀(i:Nat) (h:i < l.length),(bU l)[i * 2]? =sO (I Y l[i].k):=by
 induction l with
 |nil=>intro i h;simp at h
 |cons v r ih=>
  intro i h
  cases i with
  |zero=>rfl
  |succ i=>rw[show (i+1) * 2=i * 2+1+1 by omega];simpa[bU] using ih i (by simpa using h)

theorem kH (l:List Val):∀(i:Nat) (h:i < l.length),(bU l)[i * 2+1]? =sO (I Y l[i].n):=by
 induction l with
 |nil=>intro i h;simp at h
 |cons v r ih=>
  intro i h
  cases i with
  |zero=>rfl
  |succ i=>rw[show (i+1) * 2+1=(i * 2+1)+1+1 by omega];simpa[bU] using ih i (by simpa using h)

theorem nr (l:List Val)(v:Val):∀(i:Nat),i < l.length→((bU l).set (i * 2) (I Y v.k)).set (i * 2+1) (I Y v.n)=bU (l.set i v):=by
 induction l with
 |nil=>intro i h;simp at h
 |cons x r ih=>
  intro i h
  cases i with
  |zero=>rfl
  |succ i=>
   have:=ih i (by simpa using h)
   rw[show (i+1) * 2+1=(i * 2+1)+1+1 by omega,show (i+1) * 2=i * 2+1+1 by omega]
   simp only[bU,J8,this]

abbrev ValRow (w:World)(B:Nat)(v:Value)(l:List Val):Prop:=w.ownsRow B 82 2 v l.length (bU l)

def bL:List Int→List Value→List Value
 |s::ss,f::fs=>I Y s::f::bL ss fs
 |_,_=>[]

structure OwnRun (w:World) (B m:Nat) (s:St) (vv tv lv:Value) (fv:List Value):Prop where
 low:B≤m
 at_:w.cell? ⟨m,0,nO⟩=sO (I Y s.at_)
 vars_:w.cell? ⟨m,1,nO⟩=sO vv
 things_:w.cell? ⟨m,2,nO⟩=sO tv
 taken_:w.cell? ⟨m,3,nO⟩=sO (I Y s.taken)
 lines_:w.cell? ⟨m,4,nO⟩=sO lv
 fin_:w.cell? ⟨m,5,nO⟩=sO (I Y s.fin)
 thaw:∀j,w.frozen? ⟨m,j,nO⟩=false
 vars:ValRow w B vv s.vars
 things:w.ownsRow B 84 2 tv s.things.length (bL (s.things.map (·.site)) fv)
 count:fv.length=s.things.length
 fields:∀i (h:i < s.things.length),ValRow w B (fv[i]'(by rw[count];exact h)) (s.things[i].fs)
 lines:w.ownsRow B 9 1 lv s.lines.length (s.lines.map .string)
 apart:(sO m::vv.ownBlock::tv.ownBlock::lv.ownBlock::fv.map j1).Pairwise λa b=>∀x,a=sO x→b≠sO x

theorem aM {w:World}{B:Nat}{e:TypeId}{z:Nat}{v:Value}{n:Nat}{xs:List Value}(h:w.ownsRow B e z v n xs){k:Nat}(hk:v.ownBlock=sO k):k < w.heap.size∧B≤k:=by
 rcases h.2 with⟨rfl,_⟩|⟨g,cap,cur,rfl,hb,hg,_⟩
 ·cases hk
 ·cases hk
  exact⟨(z8.1 hg).1,hb⟩

theorem aw {w w':World}{B:Nat}{e:TypeId}{z:Nat}{v:Value}{n:Nat}{xs:List Value}(h:w.ownsRow B e z v n xs)(hb:∀k,v.ownBlock=sO k→w'.heap[k]? =w.heap[k]?):w'.ownsRow B e z v n xs:=by
 obtain⟨h1,h2⟩:=h
 refine⟨h1,?_⟩
 rcases h2 with h2|⟨g,cap,cur,hv,hB,hg,r⟩
 ·exact .inl h2
 ·exact .inr ⟨g,cap,cur,hv,hB,by rw[hb g (by rw[hv];rfl)];exact hg,r⟩

def ag (m:Nat)(vv tv lv:Value)(fv:List Value):List (Option Nat):=sO m::vv.ownBlock::tv.ownBlock::lv.ownBlock::fv.map j1

theorem OwnRun.same {w w':World}{B m:Nat}{s:St}{vv tv lv:Value}{fv:List Value}(h:OwnRun w B m s vv tv lv fv)(hb:∀k,sO k∈ag m vv tv lv fv→w'.heap[k]? =w.heap[k]?):OwnRun w' B m s vv tv lv fv:=by
 have hm:=hb m (by simp[ag])
 have c:∀j,w'.cell? ⟨m,j,nO⟩=w.cell? ⟨m,j,nO⟩:=λj=>j8 (a:=⟨m,j,nO⟩) hm
 have fz:∀j,w'.frozen? ⟨m,j,nO⟩=w.frozen? ⟨m,j,nO⟩:=λj=>z9 (a:=⟨m,j,nO⟩) hm
 exact⟨h.low,by rw[c];exact h.at_,by rw[c];exact h.vars_,by rw[c];exact h.things_,by rw[c];exact h.taken_,by rw[c];exact h.lines_,by rw[c];exact h.fin_,λj=>by rw[fz];exact h.thaw j,
  aw h.vars (λk hk=>hb k (by simp[ag,hk])),aw h.things (λk hk=>hb k (by simp[ag,hk])),h.count,
  λi hi=>aw (h.fields i hi) (λk hk=>hb k (by
   simp only[ag,j0];right;right;right;right
   exact j5.2 ⟨_,gM _,hk⟩)),
  aw h.lines (λk hk=>hb k (by simp[ag,hk])),h.apart⟩

theorem OwnRun.lt {w:World}{B m:Nat}{s:St}{vv tv lv:Value}{fv:List Value}(h:OwnRun w B m s vv tv lv fv){k:Nat}(hk:sO k∈ag m vv tv lv fv):k < w.heap.size:=by
 simp only[ag,j0] at hk
 rcases hk with hk|hk|hk|hk|hk
 ·cases hk
  exact World.block_lt_of_cell? w ⟨m,0,nO⟩ h.at_
 ·exact(aM h.vars hk.symm).1
 ·exact(aM h.things hk.symm).1
 ·exact(aM h.lines hk.symm).1
 ·obtain⟨x,hx,hxk⟩:=j5.1 hk
  obtain⟨i,hi,rfl⟩:=x7 hx
  exact(aM (h.fields i (by rw[←h.count];exact hi)) hxk).1

theorem OwnRun.below {w w':World}{B m:Nat}{s:St}{vv tv lv:Value}{fv:List Value}(h:OwnRun w B m s vv tv lv fv)(hb:Below w.heap.size w w'):OwnRun w' B m s vv tv lv fv:=
 h.same λk hk=>hb.block k (h.lt hk)
theorem lK {w:World}{B:Nat}{e:TypeId}{z:Nat}{v:Value}{n:Nat}{xs:List Value}(h:w.ownsRow B e z v n xs){k:Nat}(hk:v.ownBlock=sO k):B≤k:=by
 rcases h.2 with⟨rfl,_⟩|⟨g,cap,cur,rfl,hb,hg,_⟩
 ·cases hk
 ·cases hk
  exact hb
end
section
def cO (c:UInt8):List UInt8→List (List UInt8)
 |[]=>[[]]
 |b::l=>if b=c then []::cO c l else match cO c l with
  |[]=>[[b]]
  |x::r=>(b::x)::r
def fR (c:UInt8):List (List UInt8)→List UInt8
 |[]=>[]
 |x::r=>x++r.flatMap λy=>c::y

theorem iL (c:UInt8)(l:List UInt8):∃x r,cO c l=x::r:=by
 cases l with
 |nil=>exact⟨_,_,rfl⟩
 |cons b l=>
  unfold cO
  split
  ·exact⟨_,_,rfl⟩
  ·split<;>exact⟨_,_,rfl⟩
theorem pH (c:UInt8):∀l,fR c (cO c l)=l
 |[]=>rfl
 |b::l=>by
  have ih:=pH c l
  obtain⟨x,r,h⟩:=iL c l
  rw[h] at ih
  unfold cO
  split
  ·rename_i e
   rw[h]
   simp only[fR,List.flatMap_cons,List.nil_append] at ih ⊢
   rw[e,Q8,ih]
  ·rw[h]
   simp only[fR] at ih ⊢
   rw[Q8,ih]
theorem lM (c:UInt8):∀l,∀x∈cO c l,c∉x
 |[],x,hx=>by simp[cO] at hx;simp[hx]
 |b::l,x,hx=>by
  have ih:=lM c l
  obtain⟨y,r,h⟩:=iL c l
  unfold cO at hx
  rw[h] at hx ih
  split at hx
  ·rcases j0.1 hx with rfl|hx
   ·simp
   ·exact ih x hx
  ·rename_i hne
   rcases j0.1 hx with rfl|hx
   ·intro hm
    rcases j0.1 hm with e|hm
    ·exact hne e.symm
    ·exact ih y (Q9 ..) hm
   ·exact ih x (J2 _ hx)
theorem rJ (c:UInt8):∀s:List UInt8,Lib.splitK [c] 0 (Lib.count s [c]) s=cO c s
 |[]=>by rw[Lib.count_miss (by simp[Lib.index])];rfl
 |b::l=>by
  have ih:=rJ c l
  by_cases hb:b=c
  ·subst hb
   have hix:Lib.index (b::l) [b]=((0:Nat):Int):=by rw[Lib.index];simp[J3]
   rw[Lib.count_cons_eq,Nat.add_comm,Lib.splitK,if_neg (by rw[hix];decide),hix]
   unfold cO
   rw[if_pos rfl,←ih]
   simp
  ·have hp:([c]:List UInt8).isPrefixOf (b::l)=false:=by simp[J3,Ne.symm hb]
   have hix:Lib.index (b::l) [c]=if Lib.index l [c]== -1 then -1 else Lib.index l [c]+1:=by rw[Lib.index,hp];simp
   rw[Lib.count_cons_ne b c l hb]
   unfold cO
   rw[if_neg hb,←ih]
   by_cases hm:Lib.index l [c]= -1
   ·rw[Lib.count_miss hm];rfl
   ·have hge:=Lib.index_ge l [c]
    obtain⟨j,hj⟩:∃j:Nat,Lib.index l [c]=j:=⟨(Lib.index l [c]).toNat,by omega⟩
    have hix':Lib.index (b::l) [c]=((j+1:Nat):Int):=by rw[hix,if_neg (λe=>hm (beq_iff_eq.1 e)),hj];omega
    rw[Lib.count_hit (by simp) hj,Nat.add_comm,Lib.splitK,if_neg (by rw[hix'];intro e;have:=beq_iff_eq.1 e;omega),hix',Lib.splitK,if_neg (by rw[hj];intro e;have:=beq_iff_eq.1 e;omega),hj]
    simp
theorem wN (c:UInt8):∀x:List UInt8,c∉x→Lib.index x [c]= -1
 |[],_=>by simp[Lib.index]
 |b::l,h=>by
  have hb:¬b=c:=λe=>h (by simp[e])
  have hp:([c]:List UInt8).isPrefixOf (b::l)=false:=by simp[J3,Ne.symm hb]
  rw[Lib.index,hp]
  have:=wN c l (λhm=>h (J2 _ hm))
  simp[this]
theorem tY (c:UInt8)(m:List UInt8):∀x:List UInt8,c∉x→Lib.index (x++c::m) [c]=(x.length:Int)
 |[],_=>by show Lib.index (c::m) [c]=_;rw[Lib.index];simp[J3]
 |b::l,h=>by
  have hb:¬b=c:=λe=>h (by simp[e])
  have hp:([c]:List UInt8).isPrefixOf (b::(l++c::m))=false:=by simp[J3,Ne.symm hb]
  show Lib.index (b::(l++c::m)) [c]=_
  rw[Lib.index,hp]
  have:=tY c m l (λhm=>h (J2 _ hm))
  rw[this]
  have e1:¬((l.length:Int)== -1)=true:=by intro e;have:=beq_iff_eq.1 e;omega
  simp only[x8,if_false]
  rw[if_neg e1]
  simp
theorem EU (c:UInt8)(x:List UInt8)(h:c∉x):Lib.cut x [c]=(x,[],false):=by
 unfold Lib.cut
 rw[wN c x h,if_neg (by decide)]
theorem As (c:UInt8)(x m:List UInt8)(h:c∉x):Lib.cut (x++c::m) [c]=(x,m,true):=by
 unfold Lib.cut
 rw[tY c m x h,if_pos (by omega)]
 simp

def dm (s:List UInt8):Option Int:=if s.length≤11 then(match Lib.atoi s with|some v=>if Lib.itoa v=s then sO v else nO|none=>nO) else nO
def prt (k:Nat):List Nat:=match k with
 |1=>[0,4]|2=>[0,5]|3=>[0]|4=>[0,1]|5=>[0,1,2]|6=>[0,1,2]|7=>[0,1,2]|8=>[0,1,2]|9=>[0,1,2]|10=>[0,1]
 |11=>[0]|12=>[0,1,7]|13=>[1,7,2]|14=>[0,6]|15=>[1,3]|16=>[3]|17=>[1]|18=>[1]|_=>[]
def cV (q:Nat)(v:Int)(i:Ins):Ins:=match q with
 |0=>⟨i.k,v,i.a,i.b,i.n,i.g⟩
 |1=>⟨i.k,i.tgt,v,i.b,i.n,i.g⟩
 |2=>⟨i.k,i.tgt,i.a,v,i.n,i.g⟩
 |3=>⟨i.k,i.tgt,i.a,i.b,i.n,v⟩
 |_=>⟨i.k,i.tgt,i.a,i.b,v,i.g⟩
def wF:List Nat→List Int→Ins→Ins
 |q::r,v::t,i=>wF r t (cV q v i)
 |_,_,i=>i
def no:List (List UInt8)→Option (List Int)
 |[]=>sO []
 |x::r=>match dm x with
  |none=>nO
  |some v=>match no r with
   |none=>nO
   |some t=>sO (v::t)
def fX (w:List UInt8)(n k:Nat):Bool:=(bi k).data.toList==w&&(prt k).length==n
def fM (w:List UInt8)(n:Nat):Option Nat:=[1,2,3,4,5,6,7,8,9,10,11,12,13,14,15,16,17,18,19].find? (fX w n)
def gr (l:List UInt8):Option Ins:=match cO 32 l with
 |[]=>nO
 |w::ns=>match fM w ns.length with
  |none=>nO
  |some k=>match no ns with
   |none=>nO
   |some vs=>sO (wF (prt k) vs ⟨k,0,0,0,0,0⟩)
def rO:List UInt8:=[118,97,114,115]
def oN:List UInt8:=[102,105,101,108,100,115]
def fD (l:List UInt8):Option (Int×Int):=match cO 32 l with
 |[a,b,c,d]=>if a=rO∧c=oN then(match dm b with
  |none=>nO
  |some v=>match dm d with
   |none=>nO
   |some f=>sO (v,f)) else nO
 |_=>nO
def it:Nat→List (List UInt8)→Except Nat (List Ins)
 |k,[]=>.error k
 |k,[x]=>if x=[] then .ok [] else .error k
 |k,x::y::r=>match gr x with
  |none=>.error k
  |some i=>match it (k+1) (y::r) with
   |.error e=>.error e
   |.ok c=>.ok (i::c)
def kN (s:List UInt8):Except Nat (Int×Int×List Ins):=match cO 10 s with
 |h::y::r=>match fD h with
  |none=>.error 1
  |some (V,F)=>match it 2 (y::r) with
   |.error e=>.error e
   |.ok c=>.ok (V,F,c)
 |_=>.error 1

theorem AE {w:List UInt8}{n k:Nat}(h:fM w n=sO k):(1≤k∧k≤19)∧(bi k).data.toList=w∧(prt k).length=n:=by
 have h1:=List.find?_some h
 have h2:=List.mem_of_find?_eq_some h
 unfold fX at h1
 rw[j2,beq_iff_eq,beq_iff_eq] at h1
 refine⟨?_,h1.1,h1.2⟩
 simp at h2
 omega
theorem s9 {V F L:Int}:∀{c:List Ins},fE V F L c=0→∀i∈c,bD V F L i=0
 |[],_,i,hi=>by cases hi
 |x::r,h,i,hi=>by
  unfold fE at h
  split at h
  ·rename_i hx
   rcases j0.1 hi with rfl|hi
   ·exact hx
   ·exact s9 h i hi
  ·exact absurd h (by assumption)
theorem yq {V F:Int}{c:List Ins}(h:ai V F c=0):(1≤V∧V≤8)∧(0≤F∧F≤3)∧c.length≤60∧∀i∈c,bD V F c.length i=0:=by
 unfold ai at h
 split at h
 ·cases h
 ·rename_i h3
  split at h
  ·cases h
  ·rename_i h60
   simp[btw] at h3
   exact⟨⟨by omega,by omega⟩,⟨by omega,by omega⟩,by omega,s9 h⟩
structure Sp where
 n:Bool
 lo:Int
 hi:Int
def Sp.dq(s t:Sp):Decidable (s=t):=decidable_of_iff (s.n=t.n/\s.lo=t.lo/\s.hi=t.hi) (by cases s;cases t;simp)

abbrev aV (x:Int):Prop:= -2147483648≤x∧x≤2147483647

def dd (s:Sp):Int:=
 if¬(aV s.lo∧aV s.hi) then 3 else if s.n=true∧¬(s.lo=0∧s.hi=0) then 1 else if s.hi < s.lo then 4 else 0

def br (s t:Sp):Int:=if dd s=0 then dd t else dd s

def Sp.Ok (s:Sp):Prop:=aV s.lo∧aV s.hi∧(s.n=true→s.lo=0∧s.hi=0)∧s.lo≤s.hi

theorem ckSp_ok {s:Sp}:dd s=0↔s.Ok:=by
 unfold dd Sp.Ok
 by_cases h1:aV s.lo∧aV s.hi
 ·rw[if_neg (not_not_intro h1)]
  by_cases h2:s.n=true∧¬(s.lo=0∧s.hi=0)
  ·rw[if_pos h2]
   refine⟨λh=>absurd h (by decide),λh=>absurd (h.2.2.1 h2.1) h2.2⟩
  ·rw[if_neg h2]
   have h3:s.n=true→s.lo=0∧s.hi=0:=λhn=>Decidable.not_not.1 λhc=>h2 ⟨hn,hc⟩
   by_cases h4:s.hi < s.lo
   ·rw[if_pos h4]
    exact⟨λh=>absurd h (by decide),λh=>absurd h.2.2.2 (by omega)⟩
   ·rw[if_neg h4]
    exact⟨λ_=>⟨h1.1,h1.2,h3,by omega⟩,λ_=>rfl⟩
 ·rw[if_pos h1]
  exact⟨λh=>absurd h (by decide),λh=>absurd ⟨h.1,h.2.1⟩ h1⟩

theorem ckSps_ok {s t:Sp}:br s t=0↔s.Ok∧t.Ok:=by
 unfold br
 by_cases h:dd s=0
 ·rw[if_pos h,ckSp_ok]
  exact⟨λht=>⟨ckSp_ok.1 h,ht⟩,λht=>ht.2⟩
 ·rw[if_neg h]
  exact⟨λht=>absurd ht h,λht=>absurd (ckSp_ok.2 ht.1) h⟩

def Sp.has (s:Sp)(x:Int):Bool:= !s.n&&(decide (s.lo≤x)&&decide (x≤s.hi))
def bq (s t:Sp):Sp:=if s.n then t else if t.n then s else⟨false,min s.lo t.lo,max s.hi t.hi⟩
def bB (s t:Sp):Sp:=if s.n then t else if t.n then s else⟨false,if t.lo < s.lo then -2147483648 else s.lo,if s.hi < t.hi then 2147483647 else s.hi⟩
def aR (s t:Sp):Sp:=if s.n||t.n||decide (min s.hi t.hi < max s.lo t.lo) then⟨true,0,0⟩ else⟨false,max s.lo t.lo,min s.hi t.hi⟩
def eK (s t:Sp):Bool:=s.n||(t.has s.lo&&t.has s.hi)

def fi (k x y:Int):Int:=if k=5 then x+y else if k=6 then x - y else x * y
def gR (a b c d:Int):Int:=min (min (min a b) c) d
def gW (a b c d:Int):Int:=max (max (max a b) c) d
def kd (a b c d:Int):Sp:=if aV (gR a b c d)∧aV (gW a b c d) then⟨false,gR a b c d,gW a b c d⟩ else⟨false,-2147483648,2147483647⟩
def cK (k:Int)(s t:Sp):Sp:=if s.n||t.n then⟨true,0,0⟩ else kd (fi k s.lo t.lo) (fi k s.lo t.hi) (fi k s.hi t.lo) (fi k s.hi t.hi)

def bA:Sp:=⟨false,0,0⟩
def wrS (n:Int):Int:=(n+2147483648) % 4294967296 - 2147483648
theorem Gh (n:Int):aV (wrS n):=by unfold aV wrS;omega
theorem Iy {n:Int}(h:aV n):wrS n=n:=by unfold aV at h;unfold wrS;omega

theorem lB {a b lo hi:Int}(h1:lo≤a)(h2:a≤hi):min (lo * b) (hi * b)≤a * b∧a * b≤max (lo * b) (hi * b):=by
 rcases Int.le_total 0 b with hb|hb
 ·have e1:=Int.mul_le_mul_of_nonneg_right h1 hb
  have e2:=Int.mul_le_mul_of_nonneg_right h2 hb
  omega
 ·have e1:=Int.mul_le_mul_of_nonpos_right h1 hb
  have e2:=Int.mul_le_mul_of_nonpos_right h2 hb
  omega

theorem Bg {k a b lo hi lo' hi':Int}(hk:k=5∨k=6∨k=7)(h1:lo≤a)(h2:a≤hi)(h3:lo'≤b)(h4:b≤hi'):
  gR (fi k lo lo') (fi k lo hi') (fi k hi lo') (fi k hi hi')≤fi k a b∧fi k a b≤gW (fi k lo lo') (fi k lo hi') (fi k hi lo') (fi k hi hi'):=by
 rcases hk with rfl|rfl|rfl
 ·simp only[fi,gR,gW]
  simp only[if_true]
  omega
 ·simp only[fi,gR,gW]
  simp only[show¬((6:Int)=5) by decide,if_false,if_true]
  omega
 ·simp only[fi,gR,gW]
  simp only[show¬((7:Int)=5) by decide,show¬((7:Int)=6) by decide,if_false]
  have e1:=lB (b:=b) h1 h2
  have e2:=lB (b:=lo) h3 h4
  have e3:=lB (b:=hi) h3 h4
  rw[x9 b lo,x9 lo' lo,x9 hi' lo] at e2
  rw[x9 b hi,x9 lo' hi,x9 hi' hi] at e3
  omega

theorem Ge {k:Int}{s t:Sp}(hs:s.Ok)(ht:t.Ok):(cK k s t).Ok:=by
 unfold cK
 split
 ·exact⟨by decide,by decide,λ_=>⟨rfl,rfl⟩,Int.le_refl _⟩
 ·unfold kd
  split
  ·rename_i h
   refine⟨h.1,h.2,λhn=>(by cases hn),?_⟩
   unfold gR gW
   simp only
   omega
  ·exact⟨by decide,by decide,λhn=>(by cases hn),by decide⟩

theorem IL {k a b:Int}{s t:Sp}(hk:k=5∨k=6∨k=7)(hs:s.n=false)(ht:t.n=false)(ha:s.lo≤a∧a≤s.hi)(hb:t.lo≤b∧b≤t.hi):(cK k s t).has (wrS (fi k a b))=true:=by
 have hop:=Bg hk ha.1 ha.2 hb.1 hb.2
 unfold cK
 rw[hs,ht,if_neg (by simp)]
 unfold kd
 split
 ·rename_i h
  have hn:aV (fi k a b):=⟨Int.le_trans h.1.1 hop.1,Int.le_trans hop.2 h.2.2⟩
  rw[Iy hn]
  simp only[Sp.has,J9,Q0,j2,decide_eq_true_eq]
  exact hop
 ·have:=Gh (fi k a b)
  simp only[Sp.has,J9,Q0,j2,decide_eq_true_eq]
  exact this

theorem Gm {s t:Sp}(hs:s.Ok)(ht:t.Ok):(bq s t).Ok:=by
 unfold bq
 split
 ·exact ht
 ·split
  ·exact hs
  ·obtain⟨a,b,_,d⟩:=hs
   obtain⟨a',b',_,d'⟩:=ht
   unfold aV at a b a' b'
   refine⟨?_,?_,λhn=>(by cases hn),?_⟩<;>(try unfold aV)<;>simp only<;>omega

theorem Hb {s t:Sp}(hs:s.Ok)(ht:t.Ok):(bB s t).Ok:=by
 unfold bB
 split
 ·exact ht
 ·split
  ·exact hs
  ·obtain⟨a,b,_,d⟩:=hs
   obtain⟨a',b',_,d'⟩:=ht
   unfold aV at a b a' b'
   refine⟨?_,?_,λhn=>(by cases hn),?_⟩<;>(try unfold aV)<;>simp only<;>(repeat' split)<;>omega
structure Gs where
 n:Bool
 sp:Sp
 t:Bool
 f:Bool
 s:List Int

def bQ (c:List Ins)(x:Int):Bool:=decide (0≤x)&&(decide (x < c.length)&&decide ((c.getD x.toNat ⟨0,0,0,0,0,0⟩).k=11))

def cX:List Int→Bool
 |[]=>true
 |[_]=>true
 |a::b::r=>decide (a < b)&&cX (b::r)

def aC (c:List Ins)(g:Gs):Int:=if dd g.sp≠0 then dd g.sp else if g.s.all (bQ c)=false then 5 else if cX g.s=false then 4 else 0

def bW (c:List Ins):List Gs→Int
 |[]=>0
 |g::r=>if aC c g=0 then bW c r else aC c g

def aX (V F:Int)(c:List Ins)(l:List Gs):Int:=if ai V F c=0 then bW c l else ai V F c

def gj (a b:List Int):List Int:=((List.range 60).map λn:Nat=>(n:Int)).filter λx=>a.contains x||b.contains x

def ae (wide:Bool)(g h:Gs):Gs:=⟨g.n||h.n,if wide then bB g.sp h.sp else bq g.sp h.sp,g.t||h.t,g.f||h.f,gj g.s h.s⟩
def cB (g h:Gs):Bool:= !(g.n&& !h.n)&&(!(g.t&& !h.t)&&(!(g.f&& !h.f)&&(eK g.sp h.sp&&g.s.all λx=>h.s.contains x)))
def dB (g:Gs)(k n site:Int):Bool:=if k=0 then g.n else if k=1 then g.sp.has n else if k=2 then(g.t&&decide (n=1))||(g.f&&decide (n=0)) else g.s.contains site
def ca (g:Gs):Bool:=(!g.sp.n&& !decide (g.sp.lo=0∧g.sp.hi=0))||(g.t||decide (0 < g.s.length))
def cT (g:Gs):Bool:=g.sp.has 0||(g.n||g.f)
def aW (g:Gs):Bool:=g.n||(g.t||(g.f||decide (0 < g.s.length)))
def aB (g:Gs):Bool:=g.sp.n&& !aW g
def bX:Gs:=⟨false,⟨true,0,0⟩,false,false,[]⟩
def dK:Gs:=⟨false,⟨false,0,0⟩,false,false,[]⟩
def b2n (b:Bool):Nat:=if b then 1 else 0
def fp (g:Gs):Bool:=decide (b2n g.n+b2n (!g.sp.n)+b2n g.t+b2n g.f=1)&&(decide (g.sp.lo=g.sp.hi)&&decide (g.s.length=0))
def fA (g h:Gs):Bool:=fp g&&(fp h&&(g.n==h.n&&(@decide _ (g.sp.dq h.sp)&&(g.t==h.t&&g.f==h.f))))

def cQ (k:Int)(g h:Gs):Gs×Bool:=
 if k=4 then(g,false)
 else if k=10 then(⟨false,⟨true,0,0⟩,cT g,ca g,[]⟩,false)
 else if aB g||aB h then(bX,false)
 else if k=9 then(⟨false,⟨true,0,0⟩,(g.n&&h.n)||(!(aR g.sp h.sp).n||((g.t&&h.t)||((g.f&&h.f)||g.s.any λx=>h.s.contains x))),!fA g h,[]⟩,false)
 else if k=8 then(⟨false,⟨true,0,0⟩,!(g.sp.n||h.sp.n)&&decide (g.sp.lo < h.sp.hi),!(g.sp.n||h.sp.n)&&decide (h.sp.lo≤g.sp.hi),[]⟩,aW g||aW h)
 else(⟨false,cK k g.sp h.sp,false,false,[]⟩,aW g||aW h)
end
section
open Go.RowKit
abbrev sv (s:Sp):Value:=Ag #[Bb s.n,I Y s.lo,I Y s.hi]

theorem fF (n:Int)(w:World):
  Calls pG 225 #[I Y n] w λe w'=>e=Rt (Bb (!decide (aV n)))∧w'=w:=by
 have e1:decide (aV n)=(decide (-2147483648≤n)&&decide (n≤2147483647)):=by unfold aV;exact Bool.decide_and _ _
 rw[e1]
 by_cases h1:n < -2147483648
 ·go_enter Tryz.func225,Tryz.ntmps225
  go_wp2
  go_ret
  exact⟨aI (by simp<;>omega),rfl⟩
 ·by_cases h2:n > 2147483647
  ·go_enter Tryz.func225,Tryz.ntmps225
   go_wp2
   go_ret
   exact⟨aI (by simp<;>omega),rfl⟩
  ·go_enter Tryz.func225,Tryz.ntmps225
   go_wp2
   go_ret
   exact⟨aI (by simp<;>omega),rfl⟩

theorem oO (w:World):
  Calls pG 226 #[] w λe w'=>e=Rt (sv ⟨true,0,0⟩)∧w'=w.alloc (Cc #[Bb true,I Y 0,I Y 0] 89):=by
 go_enter Tryz.func226,Tryz.ntmps226
 go_wp2
 go_returns
 exact⟨rfl,by simp[go_sem]⟩

theorem FE (w:World):
  Calls pG 226 #[] w λe w'=>e=Rt (sv ⟨true,0,0⟩)∧Below w.heap.size w w':=by
 refine(oO w).mono ?_
 rintro e w' ⟨rfl,rfl⟩
 exact⟨rfl,by go_grown⟩

theorem Dv (w:World):
  Calls pG 245 #[] w λe w'=>e=Rt (sv ⟨false,-2147483648,2147483647⟩)∧w'=w.alloc (Cc #[Bb false,I Y (-2147483648),I Y 2147483647] 89):=by
 go_enter Tryz.func245,Tryz.ntmps245
 go_wp2
 go_returns
 exact⟨rfl,by simp[go_sem]⟩

theorem oR (n m:Int)(w:World)(h:wrap64 (n+m)=n+m):
  Calls pG 229 #[I Y n,I Y m] w λe w'=>e=Rt (I Y (n+m))∧w'=w:=by
 go_enter Tryz.func229,Tryz.ntmps229
 go_wp2
 go_ret
 exact⟨bu h,rfl⟩

theorem oQ (n m:Int)(w:World)(h:wrap64 (n - m)=n - m):
  Calls pG 230 #[I Y n,I Y m] w λe w'=>e=Rt (I Y (n - m))∧w'=w:=by
 go_enter Tryz.func230,Tryz.ntmps230
 go_wp2
 go_ret
 exact⟨bu h,rfl⟩

theorem oS (n m:Int)(w:World)(h:wrap64 (n * m)=n * m):
  Calls pG 231 #[I Y n,I Y m] w λe w'=>e=Rt (I Y (n * m))∧w'=w:=by
 go_enter Tryz.func231,Tryz.ntmps231
 go_wp2
 go_ret
 exact⟨bu h,rfl⟩

theorem GO (n:Bool)(lo hi:Int)(w:World)(h:¬aV lo):
  Calls pG 195 #[sv ⟨n,lo,hi⟩] w λe w'=>e=Rt (I Y 3)∧Below w.heap.size w w':=by
 have h1:decide (aV lo)=false:=by simpa using h
 go_enter Tryz.func195,Tryz.ntmps195
 go_wp2_with (go_at_call 225;refine(fF _ _).mono ?_;rintro e w' ⟨rfl,rfl⟩)
 go_ret
 exact⟨rfl,by go_grown⟩

theorem Hu (n:Bool)(lo hi:Int)(w:World)(h:aV lo)(h':¬aV hi):
  Calls pG 195 #[sv ⟨n,lo,hi⟩] w λe w'=>e=Rt (I Y 3)∧Below w.heap.size w w':=by
 have h1:decide (aV lo)=true:=by simpa using h
 have h2:decide (aV hi)=false:=by simpa using h'
 go_enter Tryz.func195,Tryz.ntmps195
 go_wp2_with (go_at_call 225;refine(fF _ _).mono ?_;rintro e w' ⟨rfl,rfl⟩)
 go_ret
 exact⟨rfl,by go_grown⟩

theorem mT {p:Prop}(h:p:=by
 go_enter Tryz.func195,Tryz.ntmps195
 go_wp2_with (go_at_call 225;refine(fF _ _).mono ?_;rintro e w' ⟨rfl,rfl⟩)
 refine wp_region_quiet_below (by kernel_rfl) (by kernel_rfl) ?_
 repeat (quiet_step (exact Calls.regrown_of (FE _)))
 refine wpQuiet_nil ?_
 intro _ hw'
 obtain⟨⟨dq,osq⟩,hw''⟩:=hw'
 subst hw''
 go_wp2
 go_ret
 exact⟨rfl,Below.trans (by go_grown) ((below_regrown _ dq osq).mono (by go_size))⟩):p:=h
theorem Fv (lo hi:Int)(w:World)(h:aV lo)(h':aV hi)(hz:(lo==0)=false):
  Calls pG 195 #[sv ⟨true,lo,hi⟩] w λe w'=>e=Rt (I Y 1)∧Below w.heap.size w w':=by
 have h1:decide (aV lo)=true:=by simpa using h
 have h2:decide (aV hi)=true:=by simpa using h'
 have c0:=cell_regrown (w:=w.alloc (Cc #[Bb true,I Y lo,I Y hi] 89)) (a:=⟨w.heap.size,0,nO⟩) (v:=Bb true) (by simp[go_sem])
 have c1:=cell_regrown (w:=w.alloc (Cc #[Bb true,I Y lo,I Y hi] 89)) (a:=⟨w.heap.size,1,nO⟩) (v:=I Y lo) (by simp[go_sem])
 have c2:=cell_regrown (w:=w.alloc (Cc #[Bb true,I Y lo,I Y hi] 89)) (a:=⟨w.heap.size,2,nO⟩) (v:=I Y hi) (by simp[go_sem])
 exact mT

theorem FI (hi:Int)(w:World)(h':aV hi)(hz:(hi==0)=false):
  Calls pG 195 #[sv ⟨true,0,hi⟩] w λe w'=>e=Rt (I Y 1)∧Below w.heap.size w w':=by
 have h1:decide (aV 0)=true:=by decide
 have h2:decide (aV hi)=true:=by simpa using h'
 have c0:=cell_regrown (w:=w.alloc (Cc #[Bb true,I Y 0,I Y hi] 89)) (a:=⟨w.heap.size,0,nO⟩) (v:=Bb true) (by simp[go_sem])
 have c1:=cell_regrown (w:=w.alloc (Cc #[Bb true,I Y 0,I Y hi] 89)) (a:=⟨w.heap.size,1,nO⟩) (v:=I Y 0) (by simp[go_sem])
 have c2:=cell_regrown (w:=w.alloc (Cc #[Bb true,I Y 0,I Y hi] 89)) (a:=⟨w.heap.size,2,nO⟩) (v:=I Y hi) (by simp[go_sem])
 exact mT

theorem Ho (w:World):
  Calls pG 195 #[sv ⟨true,0,0⟩] w λe w'=>e=Rt (I Y 0)∧Below w.heap.size w w':=by
 have h1:decide (aV 0)=true:=by decide
 have c0:=cell_regrown (w:=w.alloc (Cc #[Bb true,I Y 0,I Y 0] 89)) (a:=⟨w.heap.size,0,nO⟩) (v:=Bb true) (by simp[go_sem])
 have c1:=cell_regrown (w:=w.alloc (Cc #[Bb true,I Y 0,I Y 0] 89)) (a:=⟨w.heap.size,1,nO⟩) (v:=I Y 0) (by simp[go_sem])
 have c2:=cell_regrown (w:=w.alloc (Cc #[Bb true,I Y 0,I Y 0] 89)) (a:=⟨w.heap.size,2,nO⟩) (v:=I Y 0) (by simp[go_sem])
 exact mT

theorem sJ {p:Prop}(h:p:=by
 have h1:decide (aV lo)=true:=by simpa using h
 have h2:decide (aV hi)=true:=by simpa using h'
 go_enter Tryz.func195,Tryz.ntmps195
 go_wp2_with (go_at_call 225;refine(fF _ _).mono ?_;rintro e w' ⟨rfl,rfl⟩)
 go_quiet (fail)
 go_wp2
 go_ret
 exact⟨rfl,below_drewN (by go_grown) _⟩):p:=h
theorem Hg (lo hi:Int)(w:World)(h:aV lo)(h':aV hi)(hz:hi < lo):
  Calls pG 195 #[sv ⟨false,lo,hi⟩] w λe w'=>e=Rt (I Y 4)∧Below w.heap.size w w':=sJ

theorem GB (lo hi:Int)(w:World)(h:aV lo)(h':aV hi)(hz:¬hi < lo):
  Calls pG 195 #[sv ⟨false,lo,hi⟩] w λe w'=>e=Rt (I Y 0)∧Below w.heap.size w w':=sJ

theorem g7 (s:Sp)(w:World):
  Calls pG 195 #[sv s] w λe w'=>e=Rt (I Y (dd s))∧Below w.heap.size w w':=by
 obtain⟨n,lo,hi⟩:=s
 unfold dd
 by_cases h:aV lo
 ·by_cases h':aV hi
  ·rw[if_neg (by simp[h,h'])]
   cases n with
   |true=>
    by_cases hz:lo=0
    ·subst hz
     by_cases hz':hi=0
     ·subst hz'
      rw[if_neg (by simp),if_neg (by simp)]
      exact Ho w
     ·rw[if_pos (by simp[hz'])]
      exact FI hi w h' (by simpa using hz')
    ·rw[if_pos (by simp[hz])]
     exact Fv lo hi w h h' (by simpa using hz)
   |false=>
    rw[if_neg (by simp)]
    by_cases hz:hi < lo
    ·rw[if_pos hz]
     exact Hg lo hi w h h' hz
    ·rw[if_neg hz]
     exact GB lo hi w h h' hz
  ·rw[if_pos (by simp[h'])]
   exact Hu n lo hi w h h'
 ·rw[if_pos (by simp[h])]
  exact GO n lo hi w h
end
section
structure Pic where
 none:Bool
 vars:List Gs
 flds:List (List Gs)

def nonePic:Pic:=⟨true,[],[]⟩
def dH:Pic:=⟨false,[],[]⟩
def bJ (x:Pic):List Gs:=x.vars++x.flds.flatten
def dC (g h:Gs):Bool:=g.n==h.n&&(@decide _ (g.sp.dq h.sp)&&(g.t==h.t&&(g.f==h.f&&decide (g.s=h.s))))
theorem sameGs_iff {g h:Gs}:dC g h=true↔g=h:=by
 obtain⟨a,b,c,d,e⟩:=g
 obtain⟨a',b',c',d',e'⟩:=h
 simp only[dC,j2,beq_iff_eq,decide_eq_true_eq,Gs.mk.injEq]
def cM (g:Gs):Bool:= !dC g bX
def bG (V F:Int)(c:List Ins)(x:Pic):Bool:=
 if x.none then decide (x.vars.length=0)&&decide (x.flds.length=0)
 else decide ((x.vars.length:Int)=V)&&(decide (x.flds.length=c.length)&& !(x.flds.any λr=> !decide ((r.length:Int)=F)))
def dG (c:List Ins)(p:Gs→Bool):Nat→List (List Gs)→Bool
 |_,[]=>false
 |i,r::l=>(!bQ c i&&r.any p)||dG c p (i+1) l
def aK (V F:Int)(c:List Ins)(x:Pic):Int:=
 if bG V F c x=false then 1 else if bW c (bJ x)≠0 then bW c (bJ x) else if dG c (λg=> !aB g) 0 x.flds then 4 else 0
def cy (V F:Int)(c:List Ins):List Pic→Int
 |[]=>0
 |x::l=>if aK V F c x=0 then cy V F c l else aK V F c x
def aJ (V F:Int)(c:List Ins)(l:List Pic):Int:=if ai V F c=0 then cy V F c l else ai V F c

def iw:Gs:=⟨true,⟨true,0,0⟩,false,false,[]⟩
def cH (V F:Int)(c:List Ins):Pic:=⟨false,z1 V.toNat iw,z1 c.length (z1 F.toNat bX)⟩
def bh (j:Gs→Gs→Gs)(a b:List Gs):List Gs:=z2 j a b
def aT (j:Gs→Gs→Gs)(x y:Pic):Pic:=if x.none then y else if y.none then x else⟨false,bh j x.vars y.vars,z2 (bh j) x.flds y.flds⟩
def fr (a b:List Gs):Bool:=(z2 cB a b).all id
def bw (x y:Pic):Bool:=x.none||(!y.none&&(fr x.vars y.vars&&(z2 fr x.flds y.flds).all id))

theorem oH {c:List Ins}:∀{l:List Gs},bW c l=0→∀g∈l,aC c g=0
 |[],_,g,hg=>by simp at hg
 |a::r,h,g,hg=>by
  unfold bW at h
  split at h
  ·rename_i h1
   rcases j0.1 hg with rfl|hg
   ·exact h1
   ·exact oH h g hg
  ·contradiction
theorem Dd {c:List Ins}{g:Gs}(h:aC c g=0):cM g= !aB g:=by
 have hs:dd g.sp=0:=by
  unfold aC at h
  split at h
  ·exact h
  ·rename_i h1;simpa using h1
 have hok:=ckSp_ok.1 hs
 obtain⟨n,⟨sn,lo,hi⟩,t,f,s⟩:=g
 have h3:=hok.2.2.1
 simp only at h3
 unfold cM aB aW dC bX
 cases sn with
 |false=>simp
 |true=>
  obtain⟨e1,e2⟩:=h3 rfl
  subst e1 e2
  cases n<;>cases t<;>cases f<;>cases s<;>simp
theorem nd {c:List Ins}{p q:Gs→Bool}:∀{l:List (List Gs)} {i:Nat},(∀r∈l,∀g∈r,p g=q g)→dG c p i l=dG c q i l
 |[],_,_=>rfl
 |r::l,i,h=>by
  unfold dG
  rw[nd (l:=l) λr' hr'=>h r' (J2 _ hr')]
  have:r.any p=r.any q:=by
   have h1:=h r Q9
   clear h
   induction r with
   |nil=>rfl
   |cons a r ih=>
    simp only[List.any_cons]
    rw[h1 a Q9,ih λg hg=>h1 g (J2 _ hg)]
  rw[this]
theorem BW (V F:Int)(c:List Ins)(x:Pic):aK V F c x=if bG V F c x=false then 1 else if bW c (bJ x)≠0 then bW c (bJ x) else if dG c cM 0 x.flds then 4 else 0:=by
 unfold aK
 by_cases h1:bG V F c x=false
 ·rw[if_pos h1,if_pos h1]
 rw[if_neg h1,if_neg h1]
 by_cases h2:bW c (bJ x)≠0
 ·rw[if_pos h2,if_pos h2]
 rw[if_neg h2,if_neg h2]
 have h3:bW c (bJ x)=0:=by simpa using h2
 rw[nd (p:=cM) (q:=λg=> !aB g) λr hr g hg=>Dd (oH h3 g ?_)]
 unfold bJ
 rw[z3,Z0]
 exact .inr ⟨r,hr,hg⟩
end
section
open Go.RowKit Go
def dE (fn:FuncId)(tmps:Array Value)(ps:Array Tmp)(assign body:Code)(D:Nat)(st:LoopState)(pe:Option Code):Loop:={state:=st,pending:=pe,fn:=fn,tmps:=tmps,params:=ps,assign:=assign,body:=body,defers:=D}
structure LoopAt (W:World) (l D:Nat) (r:Loop):Prop where
 lp:W.heap[l]? =sO (.loop r)
 dfr:W.heap[D]? =sO (.deferred (sO []))
theorem LoopAt.below {W W':World}{l D:Nat}{r:Loop}(h:LoopAt W l D r)(hb:Below W.heap.size W W'):LoopAt W' l D r:=⟨(hb.block l (z8.1 h.lp).1).trans h.lp,(hb.block D (z8.1 h.dfr).1).trans h.dfr⟩
section
variable {P:Program} {n:Nat} {fn:FuncId} {g:Operand} {ps:Array Tmp} {assign body:Code} {Q:Exit→Act→World→Prop} {a:Act} {w:World}
theorem Ci {gf:Nat}{lb:Array Value}(hg:a.eval g=.func (.func gf) #[] lb)(eg:∀args w,(callFunc gf args).run P w=.ok (.enter gf args) w)
  (J:Nat→Nat→Loop→World→Prop)(Jx:Nat→Nat→Loop→Code→World→Prop)
  (hit:∀fn W1,LoopAt W1 (w.heap.size+1) w.heap.size (dE fn a.tmps ps assign body w.heap.size .ready nO)→Below w.heap.size w W1→CallsIn Fence.wide (n - 1) P gf (#[.func (.yield (w.heap.size+1)) #[] #[]]++lb) W1 λe W'=>(∃v,e=Rt v)∧((LoopAt W' (w.heap.size+1) w.heap.size (dE fn a.tmps ps assign body w.heap.size .ready nO)∧J (w.heap.size+1) w.heap.size (dE fn a.tmps ps assign body w.heap.size .ready nO) W')∨∃c,LoopAt W' (w.heap.size+1) w.heap.size (dE fn a.tmps ps assign body w.heap.size .done (sO c))∧Jx (w.heap.size+1) w.heap.size (dE fn a.tmps ps assign body w.heap.size .done (sO c)) c W'))
  (hdone:∀r W,LoopAt W (w.heap.size+1) w.heap.size r→J (w.heap.size+1) w.heap.size r W→∀r',Q .normal {a with defers:={target:=.collected w.heap.size,args:=#[]}::a.defers} (W.putObj (w.heap.size+1) r'))
  (hstop:∀r c W,LoopAt W (w.heap.size+1) w.heap.size r→Jx (w.heap.size+1) w.heap.size r c W→∀r',c.wpIn Fence.wide n P Q {a with defers:={target:=.collected w.heap.size,args:=#[]}::a.defers} (W.putObj (w.heap.size+1) r')):
  (Code.rangeFunc g ps assign body).wpIn Fence.wide n P Q a w:=by
 refine wpIn_rangeFunc λfn _=> ?_
 have hs:(w.alloc (.deferred (sO []))).heap.size=w.heap.size+1:=zA _ _
 obtain⟨W1,hW1⟩:∃W1,W1=(w.alloc (.deferred (sO []))).alloc (.loop (dE fn a.tmps ps assign body w.heap.size .ready nO)):=⟨_,rfl⟩
 have hb:Below w.heap.size w W1:=by rw[hW1];exact((bR _ w).alloc (lR _) _).alloc (by rw[hs];omega) _
 have h1:LoopAt W1 (w.heap.size+1) w.heap.size (dE fn a.tmps ps assign body w.heap.size .ready nO):=by
  rw[hW1]
  refine⟨?_,(Below.heap_alloc _ _ _ (by rw[hs];omega)).trans (X1 w _)⟩
  have:=X1 (w.alloc (.deferred (sO []))) (.loop (dE fn a.tmps ps assign body w.heap.size .ready nO))
  rwa [hs] at this
 refine⟨w.heap.size+1,[{target:=.collected w.heap.size,args:=#[]}],W1,{target:=.fn (.func gf) lb,args:=#[.func (.yield (w.heap.size+1)) #[] #[]]},W1,gf,#[.func (.yield (w.heap.size+1)) #[] #[]]++lb,W1,?_,?_,λ_ _=>trivial,?_,λh=>(by cases h),?_⟩
 ·rw[hW1]
  exact run_enterLoop_outer _ _ _ _ _
 ·simp only[resolve,hg]
  simp[go_sem]
 ·simp[invoke,go_sem,eg]
 ·refine(hit fn _ h1 hb).mono ?_
  rintro e W' ⟨⟨v,rfl⟩,⟨hl,hj⟩|⟨c,hl,hj⟩⟩
  ·exact⟨nO,_,run_endLoop hl.lp (by simp[dE]),hdone _ _ hl hj _⟩
  ·exact⟨sO c,_,run_endLoop hl.lp (by simp[dE]),hstop _ c _ hl hj _⟩
theorem Fd {l D m:Nat}{args:Array Value}{tmps:Array Value}{W:World}{R:Ending→World→Prop}(hl:LoopAt W l D (dE fn tmps ps assign body D .ready nO))(hz:args.size=ps.size)
  (h:assign.wpIn (Fence.wide.inRound l) m P (Exit.then (λa₁ W₁=>LoopAt W₁ l D (dE fn tmps ps assign body D .ready nO)∧body.wpIn (Fence.wide.inRound l) m P (λe _ W₃=>LoopAt W₃ l D (dE fn tmps ps assign body D .busy nO)∧(match e with
    |.normal=>R (Rt (Bb true)) (W₃.putObj l (.loop (dE fn tmps ps assign body D .ready nO)))
    |.ret=>R (Rt (Bb false)) (W₃.putObj l (.loop (dE fn tmps ps assign body D .done (sO .ret))))
    |.exit i=>R (Rt (Bb false)) (W₃.putObj l (.loop (dE fn tmps ps assign body D .done (sO (.exit i)))))
    |_=>False)) a₁ (W₁.putObj l (.loop (dE fn tmps ps assign body D .busy nO)))) (λ_ _ _=>False)) {tmps:=(ps.zip args).foldl (λt (p,v)=>t.setIfInBounds p v) tmps,defers:=[]} W):
  YieldAt Fence.wide m P l args W R:=by
 refine⟨fn,_,assign,body,run_yield hl.lp hz,roundIn_of_wpIn trivial (wpIn_mono h ?_)⟩
 intro e a1 W1 q
 cases e with
 |normal=>
  obtain⟨hl1,hb⟩:=q
  refine⟨_,run_beginRound hl1.lp rfl,wpIn_mono hb ?_⟩
  intro e a3 W3 q3
  obtain⟨hl3,q3⟩:=q3
  cases e with
  |normal=>exact⟨_,_,run_endRound nO hl3.lp,q3⟩
  |ret=>exact⟨_,_,run_endRound (sO .ret) hl3.lp,q3⟩
  |exit i=>exact⟨_,_,run_endRound (sO (.exit i)) hl3.lp,q3⟩
  |goto t=>exact q3.elim
  |panic ch=>exact q3.elim
  |outgrown=>exact q3.elim
 |ret=>exact q
 |exit i=>exact q
 |goto t=>exact q
 |panic ch=>exact q
 |outgrown=>exact q
end
end
section
def w64 (n:Int):Int:=(n+9223372036854775808) % 18446744073709551616 - 9223372036854775808
theorem CK {n:Int}(h0: -9223372036854775808≤n)(h1:n≤9223372036854775807):w64 n=n:=by unfold w64;omega
def Aw:Ins:=⟨0,0,0,0,0,0⟩
def aO (c:List Ins)(p:Int):Ins:=c.getD p.toNat Aw
def iO (v:Val):ByteArray:=
 if v.k=0 then⟨#[110,117,108,108]⟩ else if v.k=1 then fI v.n
 else if v.k=2 then(if v.n=1 then⟨#[116,114,117,101]⟩ else⟨#[102,97,108,115,101]⟩) else⟨#[116,104,105,110,103]⟩
def dN (T:Nat)(i:Ins)(a b:Val):Int:=
 if i.k=19 then 1
 else if (btw i.k 5 8&&(decide (a.k≠1)||decide (b.k≠1)))||((decide (i.k=12)||decide (i.k=13))&&decide (a.k≠3)) then 2
 else if decide (i.k=17)&& !cnt a then 3
 else if decide (i.k=11)&&decide (T=100) then 5
 else 0
def iK (r:St)(ins:List Int)(i:Ins)(a b:Val):Val:=
 if i.k=1 then⟨1,i.n⟩ else if i.k=2 then⟨2,i.n⟩ else if i.k=4 then a
 else if i.k=5 then⟨1,wr (a.n+b.n)⟩ else if i.k=6 then⟨1,wr (a.n - b.n)⟩ else if i.k=7 then⟨1,wr (a.n * b.n)⟩
 else if i.k=8 then b8 (decide (a.n < b.n)) else if i.k=9 then b8 (decide (a.k=b.k)&&decide (a.n=b.n)) else if i.k=10 then b8 (!cnt a)
 else if i.k=11 then⟨3,r.things.length⟩ else if i.k=12 then iE r a.n i.n
 else if i.k=14 then⟨1,if r.taken < ins.length then kh i.n (ins.getD r.taken.toNat 0) else 0⟩
 else⟨0,0⟩
def vD (F:Int)(ins:List Int)(r:St)(i:Ins)(a b:Val):St:=
 let v:=iK r ins i a b
 let r1:St:=if i.k=11 then {r with things:=r.things++[⟨r.at_,z1 F.toNat ⟨0,0⟩⟩]} else if i.k=13 then bT r a.n i.n b
  else if i.k=14 then {r with taken:=w64 (r.taken+1)} else if i.k=18 then {r with lines:=r.lines++[iO a]} else r
 let r2:St:=if nTo i.k then dg r1 i.tgt v else r1
 {r2 with at_:=if i.k=16∨(i.k=15∧cnt a=true) then i.g else r.at_+1}
def bp (F:Int)(c:List Ins)(ins:List Int)(r:St):St:=
 if r.fin≠0 then r
 else if r.at_=c.length then {r with fin:=1}
 else
  let i:=aO c r.at_
  let a:=if nA i.k then dI r i.a else⟨0,0⟩
  let b:=if nB i.k then dI r i.b else⟨0,0⟩
  if dN r.things.length i a b≠0 then {r with fin:=dN r.things.length i a b} else vD F ins r i a b
def bj (V:Int):St:=⟨0,z1 V.toNat ⟨0,0⟩,[],0,[],0⟩
def stepsSt (F:Int)(c:List Ins)(ins:List Int):Nat→St→St×Nat
 |0,r=>(r,0)
 |n+1,r=>if r.fin≠0 then(r,0) else((stepsSt F c ins n (bp F c ins r)).1,(stepsSt F c ins n (bp F c ins r)).2+1)
def bE (V F:Int)(c:List Ins)(ins:List Int)(fuel:Nat):St×Nat:=
 let q:=stepsSt F c ins fuel (bj V)
 (if q.1.fin=0 then {q.1 with fin:=4} else q.1,q.2)
def bF (T:Nat)(v:Val):Bool:=(decide (v.k=0)&&decide (v.n=0))||((decide (v.k=1)&&btw v.n (-2147483648) 2147483647)||((decide (v.k=2)&&btw v.n 0 1)||(decide (v.k=3)&&btw v.n 0 ((T:Int) - 1))))
def fH (c:List Ins)(x:Int):Bool:=btw x 0 ((c.length:Int) - 1)&&decide ((aO c x).k=11)
def kG (V F:Int)(c:List Ins)(r:St):Int:=
 if (!btw r.at_ 0 c.length||decide (r.taken < 0))|| !btw r.fin 0 5 then 3
 else if (r.vars.length:Int)≠V then 1
 else if 100 < r.things.length then 2
 else if r.things.all (λt=>fH c t.site)=false then 5
 else if r.things.all (λt=>decide ((t.fs.length:Int)=F))=false then 1
 else if (r.vars.all (bF r.things.length)&&r.things.all λt=>t.fs.all (bF r.things.length))=false then 4
 else 0
theorem okValB_iff {T:Nat}{v:Val}:bF T v=true↔bS T v:=by
 unfold bF bS btw
 simp only[z4,j2,decide_eq_true_eq]
 constructor
 ·rintro (h|h|h|h)
  ·exact .inl h
  ·exact .inr (.inl ⟨h.1,h.2⟩)
  ·exact .inr (.inr (.inl ⟨h.1,by omega⟩))
  ·exact .inr (.inr (.inr ⟨h.1,by omega,by omega⟩))
 ·rintro (h|h|h|h)
  ·exact .inl h
  ·exact .inr (.inl ⟨h.1,h.2⟩)
  ·exact .inr (.inr (.inl ⟨h.1,by omega⟩))
  ·exact .inr (.inr (.inr ⟨h.1,by omega,by omega⟩))

structure RunOk (V F:Int) (c:List Ins) (r:St):Prop where
 at0:0≤r.at_
 at1:r.at_≤c.length
 tk:0≤r.taken
 fin0:0≤r.fin
 fin5:r.fin≤5
 vars:(r.vars.length:Int)=V
 things:r.things.length≤100
 sites:∀t∈r.things,fH c t.site=true
 fields:∀t∈r.things,(t.fs.length:Int)=F
 vals:∀v∈r.vars,bS r.things.length v
 fvals:∀t∈r.things,∀v∈t.fs,bS r.things.length v

theorem FL {V F:Int}{c:List Ins}{r:St}(h:kG V F c r=0):RunOk V F c r:=by
 unfold kG at h
 split at h
 ·cases h
 rename_i h1
 split at h
 ·cases h
 rename_i h2
 split at h
 ·cases h
 rename_i h3
 split at h
 ·cases h
 rename_i h4
 split at h
 ·cases h
 rename_i h5
 split at h
 ·cases h
 rename_i h6
 simp only[btw,z4,z5,decide_eq_false_iff_not,decide_eq_true_eq,not_or,Decidable.not_not] at h1
 simp only[ne_eq,Decidable.not_not] at h2
 simp only[Q1,J4,decide_eq_true_eq,j2] at h4 h5 h6
 exact⟨by omega,by omega,by omega,by omega,by omega,h2,by omega,h4,h5,λv hv=>okValB_iff.1 (h6.1 v hv),λt ht v hv=>okValB_iff.1 (h6.2 t ht v hv)⟩

section
variable {V F L:Int} {i:Ins}
theorem bn (h:bD V F L i=0):btw i.k 1 19=true∧(nTo i.k=true→0≤i.tgt∧i.tgt < V)∧(nA i.k=true→0≤i.a∧i.a < V)∧(nB i.k=true→0≤i.b∧i.b < V)∧(i.k=12∨i.k=13→0≤i.n∧i.n < F)∧(nG i.k=true→0≤i.g∧i.g≤L)∧(i.k=1→ -2147483648≤i.n∧i.n≤2147483647)∧(i.k=2→i.n=0∨i.n=1)∧(i.k=14→0≤i.n∧i.n≤1000000):=by
 unfold bD at h
 split at h
 ·cases h
 rename_i h1
 split at h
 ·cases h
 rename_i h2
 split at h
 ·cases h
 rename_i h3
 simp only[z4,j2,z5,not_or,not_and,Q1,decide_eq_true_eq,btw] at h2 h3
 obtain⟨⟨⟨⟨a1,a2⟩,a3⟩,a4⟩,a5⟩:=h2
 obtain⟨⟨b1,b2⟩,b3⟩:=h3
 refine⟨by simpa using h1,λh=> ?_,λh=> ?_,λh=> ?_,λh=> ?_,λh=> ?_,λh=> ?_,λh=> ?_,λh=> ?_⟩
 ·have:=a1 h;omega
 ·have:=a2 h;omega
 ·have:=a3 h;omega
 ·have:=a4 h;omega
 ·have:=a5 h;omega
 ·have:=b1 h;omega
 ·have:=b2 h;omega
 ·have:=b3 h;omega
end

theorem Dp {V F L:Int}{c:List Ins}(h:fE V F L c=0):∀i∈c,bD V F L i=0:=by
 induction c with
 |nil=>intro i hi;cases hi
 |cons x r ih=>
  unfold fE at h
  split at h
  ·rename_i hx
   intro i hi
   rcases j0.1 hi with rfl|hi
   ·exact hx
   ·exact ih h i hi
  ·rename_i hx;exact absurd h hx
structure ProgOk (V F:Int) (c:List Ins):Prop where
 v1:1≤V
 v8:V≤8
 f0:0≤F
 f3:F≤3
 len:c.length≤60
 each:∀i∈c,bD V F c.length i=0
theorem bK {V F:Int}{c:List Ins}(h:ai V F c=0):ProgOk V F c:=by
 unfold ai at h
 split at h
 ·cases h
 rename_i h1
 split at h
 ·cases h
 rename_i h2
 simp[btw] at h1
 exact⟨by omega,by omega,by omega,by omega,by omega,Dp h⟩

theorem pS {c:List Ins}{p:Nat}(h:p < c.length):aO c (p:Int)=c[p]:=by
 unfold aO
 simp[j4,j7 h]
theorem hU {c:List Ins}{p:Int}(h0:0≤p)(h:p < c.length):aO c p∈c:=by
 obtain⟨k,rfl⟩:=J5 h0
 rw[pS (by omega)]
 exact gM _

theorem mv {T T':Nat}{v:Val}(h:bS T v)(hT:T≤T'):bS T' v:=by
 unfold bS at h ⊢
 omega
theorem gx {T:Nat}:bS T ⟨0,0⟩:=.inl ⟨rfl,rfl⟩
theorem Ep (n:Int): -2147483648≤wr n∧wr n≤2147483647:=by unfold wr;omega
theorem lz {T:Nat}(n:Int):bS T ⟨1,wr n⟩:=.inr (.inl ⟨rfl,Ep n⟩)
theorem ia {T:Nat}(b:Bool):bS T (b8 b):=.inr (.inr (.inl ⟨rfl,by cases b<;>simp[b8]⟩))
theorem uB {r:St}{i:Int}(h0:0≤i)(h:i < r.vars.length):dI r i∈r.vars:=by
 obtain⟨k,rfl⟩:=J5 h0
 have hk:k < r.vars.length:=by omega
 unfold dI
 simp only[Int.toNat_natCast,j4,j7 hk,Q2]
 exact gM hk
theorem gT {r:St}{k:Nat}(h:k < r.vars.length):dI r (k:Int)=r.vars[k]:=by
 unfold dI
 simp[j4,j7 h]
theorem sF {r:St}{t f:Nat}(h:t < r.things.length)(hf:f < r.things[t].fs.length):iE r (t:Int) (f:Int)=r.things[t].fs[f]:=by
 unfold iE
 simp[j4,j7 h,j7 hf]
theorem lC {n x:Int}(h0:0≤n): -n≤kh n x∧kh n x≤n:=by unfold kh;split;omega;split<;>omega
theorem ir {α:Type}{l:List α}{i:Nat}{v x:α}(h:x∈l.set i v):x=v∨x∈l:=(List.mem_or_eq_of_mem_set h).symm

theorem FA {V F:Int}{c:List Ins}{r:St}{ins:List Int}(hr:RunOk V F c r){i:Ins}(hi:bD V F c.length i=0){a b:Val}(ha:bS r.things.length a)(he:dN r.things.length i a b=0):
  bS (if i.k=11 then r.things.length+1 else r.things.length) (iK r ins i a b):=by
 obtain⟨h1,h2,h3,h4,h5,h6,h7,h8,h9⟩:=bn hi
 have up:∀{v:Val},bS r.things.length v→bS (if i.k=11 then r.things.length+1 else r.things.length) v:=λh=>mv h (by split<;>omega)
 unfold iK
 by_cases k1:i.k=1
 ·rw[if_pos k1];exact up (.inr (.inl ⟨rfl,h7 k1⟩))
 rw[if_neg k1]
 by_cases k2:i.k=2
 ·rw[if_pos k2];exact up (.inr (.inr (.inl ⟨rfl,h8 k2⟩)))
 rw[if_neg k2]
 by_cases k4:i.k=4
 ·rw[if_pos k4];exact up ha
 rw[if_neg k4]
 by_cases k5:i.k=5
 ·rw[if_pos k5];exact lz _
 rw[if_neg k5]
 by_cases k6:i.k=6
 ·rw[if_pos k6];exact lz _
 rw[if_neg k6]
 by_cases k7:i.k=7
 ·rw[if_pos k7];exact lz _
 rw[if_neg k7]
 by_cases k8:i.k=8
 ·rw[if_pos k8];exact ia _
 rw[if_neg k8]
 by_cases k9:i.k=9
 ·rw[if_pos k9];exact ia _
 rw[if_neg k9]
 by_cases k10:i.k=10
 ·rw[if_pos k10];exact ia _
 rw[if_neg k10]
 by_cases k11:i.k=11
 ·rw[if_pos k11,if_pos k11]
  exact .inr (.inr (.inr ⟨rfl,by simp only;omega,by simp only;omega⟩))
 rw[if_neg k11,if_neg k11]
 by_cases k12:i.k=12
 ·rw[if_pos k12]
  have hk3:a.k=3:=by
   unfold dN at he
   simp[k12,btw] at he
   exact he
  rcases ha with ha|ha|ha|ha
  ·omega
  ·omega
  ·omega
  ·obtain⟨t,ht⟩:=J5 ha.2.1
   obtain⟨f,hf⟩:=J5 (h5 (.inl k12)).1
   have htl:t < r.things.length:=by omega
   have hfl:f < r.things[t].fs.length:=by have:=hr.fields _ (gM htl);have:=(h5 (.inl k12)).2;omega
   rw[ht,hf,sF htl hfl]
   exact hr.fvals _ (gM htl) _ (gM hfl)
 rw[if_neg k12]
 by_cases k14:i.k=14
 ·rw[if_pos k14]
  have:=lC (x:=ins.getD r.taken.toNat 0) (h9 k14).1
  have:=(h9 k14).2
  refine .inr (.inl ⟨rfl,?_⟩)
  simp only
  split<;>omega
 ·rw[if_neg k14];exact gx

theorem ke {α:Type}{l:List α}{i:Nat}{f:α→α}{x:α}(h:x∈l.modify i f):x∈l∨∃y∈l,x=f y:=by
 obtain⟨k,hk,rfl⟩:=x7 h
 rw[Q3]
 rw[Z1] at hk
 split
 ·exact .inr ⟨_,gM hk,rfl⟩
 ·exact .inl (gM hk)

theorem Fg {V F:Int}{c:List Ins}{r:St}{ins:List Int}(hp:ProgOk V F c)(hr:RunOk V F c r)(hat:r.at_ < c.length)(htk:r.taken < 9223372036854775807){i:Ins}(hii:i=aO c r.at_){a b:Val}(ha:bS r.things.length a)(hb:bS r.things.length b)(he:dN r.things.length i a b=0):
  RunOk V F c (vD F ins r i a b):=by
 have hi:bD V F c.length i=0:=hp.each _ (by rw[hii];exact hU hr.at0 hat)
 have hm:=FA (ins:=ins) hr hi (b:=b) ha he
 obtain⟨h1,h2,h3,h4,h5,h6,h7,h8,h9⟩:=bn hi
 have HR:∀q:St,q.at_=r.at_→0≤q.taken→q.fin=r.fin→(q.vars.length:Int)=V→q.things.length≤100→(∀t∈q.things,fH c t.site=true)→(∀t∈q.things,(t.fs.length:Int)=F)→(∀v∈q.vars,bS q.things.length v)→(∀t∈q.things,∀v∈t.fs,bS q.things.length v)→bS q.things.length (iK r ins i a b)→
   RunOk V F c {(if nTo i.k then dg q i.tgt (iK r ins i a b) else q) with at_:=if i.k=16∨(i.k=15∧cnt a=true) then i.g else r.at_+1}:=by
  intro q q1 q2 q3 q4 q5 q6 q7 q8 q9 q10
  have hg:0≤(if i.k=16∨(i.k=15∧cnt a=true) then i.g else r.at_+1)∧(if i.k=16∨(i.k=15∧cnt a=true) then i.g else r.at_+1)≤c.length:=by
   split
   ·rename_i hk
    exact h6 (by unfold nG;rcases hk with hk|hk<;>simp[hk])
   ·have:=hr.at0;omega
  have f0:=hr.fin0
  have f5:=hr.fin5
  cases hn:nTo i.k with
  |true=>
   simp only[if_true,dg]
   exact⟨hg.1,hg.2,q2,by simp only;omega,by simp only;omega,by simpa using q4,q5,q6,q7,λv hv=>by
    rcases ir hv with rfl|hv
    ·exact q10
    ·exact q8 v hv,q9⟩
  |false=>
   simp only[x8,if_false]
   exact⟨hg.1,hg.2,q2,by simp only;omega,by simp only;omega,q4,q5,q6,q7,q8,q9⟩
 unfold vD
 simp only
 by_cases k11:i.k=11
 ·rw[if_pos k11] at hm
  have hT:r.things.length≠100:=by
   intro h100
   unfold dN at he
   simp[k11,btw,h100] at he
  have hl:=hr.things
  rw[if_pos k11]
  refine HR _ rfl hr.tk rfl hr.vars (by simp;omega) (λt ht=> ?_) (λt ht=> ?_) (λv hv=> ?_) (λt ht v hv=> ?_) (by simpa using hm)
  ·rcases z3.1 ht with ht|ht
   ·exact hr.sites t ht
   ·obtain rfl:=j3.1 ht
    simp only
    unfold fH
    rw[←hii,k11,iB hr.at0 (by omega)]
    rfl
  ·rcases z3.1 ht with ht|ht
   ·exact hr.fields t ht
   ·obtain rfl:=j3.1 ht
    have:=hp.f0
    simp;omega
  ·exact mv (hr.vals v hv) (by simp)
  ·rcases z3.1 ht with ht|ht
   ·exact mv (hr.fvals t ht v hv) (by simp)
   ·obtain rfl:=j3.1 ht
    rw[(X2.1 hv).2]
    exact gx
 rw[if_neg k11] at hm
 rw[if_neg k11]
 by_cases k13:i.k=13
 ·rw[if_pos k13]
  unfold bT
  refine HR _ rfl hr.tk rfl hr.vars (by simpa using hr.things) (λt ht=> ?_) (λt ht=> ?_) (λv hv=> ?_) (λt ht v hv=> ?_) (by simpa using hm)
  ·rcases ke ht with ht|⟨y,hy,rfl⟩
   ·exact hr.sites t ht
   ·exact hr.sites y hy
  ·rcases ke ht with ht|⟨y,hy,rfl⟩
   ·exact hr.fields t ht
   ·simpa using hr.fields y hy
  ·simpa using hr.vals v hv
  ·simp only[Z1]
   rcases ke ht with ht|⟨y,hy,rfl⟩
   ·exact hr.fvals t ht v hv
   ·rcases ir hv with rfl|hv
    ·exact hb
    ·exact hr.fvals y hy v hv
 rw[if_neg k13]
 by_cases k14:i.k=14
 ·rw[if_pos k14]
  have:=hr.tk
  exact HR _ rfl (by simp only;rw[CK (by omega) (by omega)];omega) rfl hr.vars hr.things hr.sites hr.fields hr.vals hr.fvals hm
 rw[if_neg k14]
 by_cases k18:i.k=18
 ·rw[if_pos k18]
  exact HR _ rfl hr.tk rfl hr.vars hr.things hr.sites hr.fields hr.vals hr.fvals hm
 rw[if_neg k18]
 exact HR _ rfl hr.tk rfl hr.vars hr.things hr.sites hr.fields hr.vals hr.fvals hm

def aOf (r:St)(i:Ins):Val:=if nA i.k then dI r i.a else⟨0,0⟩
def bOf (r:St)(i:Ins):Val:=if nB i.k then dI r i.b else⟨0,0⟩
theorem sP {V F:Int}{c:List Ins}{r:St}(hr:RunOk V F c r){i:Ins}(hi:bD V F c.length i=0):bS r.things.length (aOf r i):=by
 unfold aOf
 split
 ·rename_i h
  have:=(bn hi).2.2.1 h
  exact hr.vals _ (uB this.1 (by rw[hr.vars];exact this.2))
 ·exact gx
theorem vK {V F:Int}{c:List Ins}{r:St}(hr:RunOk V F c r){i:Ins}(hi:bD V F c.length i=0):bS r.things.length (bOf r i):=by
 unfold bOf
 split
 ·rename_i h
  have:=(bn hi).2.2.2.1 h
  exact hr.vals _ (uB this.1 (by rw[hr.vars];exact this.2))
 ·exact gx
theorem Ai (T:Nat)(i:Ins)(a b:Val):0≤dN T i a b∧dN T i a b≤5:=by
 unfold dN
 split
 ·omega
 split
 ·omega
 split
 ·omega
 split
 ·omega
 ·omega
theorem RunOk.finish {V F:Int}{c:List Ins}{r:St}(hr:RunOk V F c r)(x:Int)(h0:0≤x)(h5:x≤5):RunOk V F c {r with fin:=x}:=
 ⟨hr.at0,hr.at1,hr.tk,h0,h5,hr.vars,hr.things,hr.sites,hr.fields,hr.vals,hr.fvals⟩

theorem nv {V F:Int}{c:List Ins}{r:St}(ins:List Int)(hp:ProgOk V F c)(hr:RunOk V F c r)(htk:r.taken < 9223372036854775807):RunOk V F c (bp F c ins r):=by
 unfold bp
 split
 ·exact hr
 split
 ·exact hr.finish 1 (by omega) (by omega)
 rename_i h1 h2
 have hat:r.at_ < c.length:=by have:=hr.at1;omega
 have hi:bD V F c.length (aO c r.at_)=0:=hp.each _ (hU hr.at0 hat)
 have e:=Ai r.things.length (aO c r.at_) (aOf r (aO c r.at_)) (bOf r (aO c r.at_))
 show RunOk V F c (if dN r.things.length (aO c r.at_) (aOf r (aO c r.at_)) (bOf r (aO c r.at_))≠0 then _ else vD F ins r (aO c r.at_) (aOf r (aO c r.at_)) (bOf r (aO c r.at_)))
 split
 ·exact hr.finish _ e.1 e.2
 ·rename_i h0
  exact Fg hp hr hat htk rfl (sP hr hi) (vK hr hi) (by simpa using h0)
theorem lE {α β:Type}{f:α→β→Bool}{a:List α}{b:List β}:(z2 f a b).all id=true↔∀i (h1:i < a.length) (h2:i < b.length),f a[i] b[i]=true:=by
 induction a generalizing b with
 |nil=>simp
 |cons x a ih=>
  cases b with
  |nil=>simp
  |cons y b=>
   rw[List.zipWith_cons_cons,List.all_cons,j2,ih]
   constructor
   ·rintro ⟨h,h'⟩ i h1 h2
    cases i with
    |zero=>exact h
    |succ i=>exact h' i (by simpa using h1) (by simpa using h2)
   ·intro h
    exact⟨h 0 (by simp) (by simp),λi h1 h2=>h (i+1) (by simpa using h1) (by simpa using h2)⟩

def eX (r:St)(v:Val):Int:=if v.k=3 then(r.things.getD v.n.toNat ⟨0,[]⟩).site else -1
def bO (r:St)(g:Gs)(v:Val):Bool:=dB g v.k v.n (eX r v)
def ge (r:St)(l:List Gs)(vs:List Val):Bool:=(z2 (bO r) l vs).all id
def b9 (x:Pic)(r:St):Bool:= !x.none&&(ge r x.vars r.vars&&r.things.all λt=>ge r (x.flds.getD t.site.toNat []) t.fs)

theorem mem_siteSet {a b:List Int}{x:Int}:x∈gj a b↔(0≤x∧x < 60)∧(x∈a∨x∈b):=by
 unfold gj
 simp only[List.mem_filter,j5,List.mem_range,z4,Z2]
 constructor
 ·rintro ⟨⟨n,hn,rfl⟩,h⟩
  exact⟨by omega,h⟩
 ·rintro ⟨⟨h0,h1⟩,h⟩
  exact⟨⟨x.toNat,by omega,by omega⟩,h⟩
theorem oq (a b:List Int):(gj a b).Pairwise (· < ·):=by
 unfold gj
 refine List.Pairwise.filter _ ?_
 rw[List.pairwise_map]
 exact List.pairwise_lt_range.imp (by intro a b h;omega)
theorem lS:∀{l:List Int},l.Pairwise (· < ·)→cX l=true
 |[],_=>rfl
 |[_],_=>rfl
 |a::b::r,h=>by
  unfold cX
  rw[z6] at h
  simp[h.1 b (by simp),lS h.2]
theorem ckGs_iff {c:List Ins}{g:Gs}:aC c g=0↔g.sp.Ok∧(∀x∈g.s,bQ c x=true)∧cX g.s=true:=by
 unfold aC
 by_cases h1:dd g.sp=0
 ·rw[if_neg (by simpa using h1)]
  by_cases h2:g.s.all (bQ c)=false
  ·rw[if_pos h2]
   refine⟨(λh=>by cases h),λh=> ?_⟩
   rw[J4.2 h.2.1] at h2
   cases h2
  ·rw[if_neg h2]
   have h2':∀x∈g.s,bQ c x=true:=by simpa using h2
   by_cases h3:cX g.s=false
   ·rw[if_pos h3]
    exact⟨λh=>(by cases h),λh=>(by rw[h.2.2] at h3;cases h3)⟩
   ·rw[if_neg h3]
    exact⟨λ_=>⟨ckSp_ok.1 h1,h2',by simpa using h3⟩,λ_=>rfl⟩
 ·rw[if_pos h1]
  exact⟨λh=>absurd h h1,λh=>absurd (ckSp_ok.2 h.1) h1⟩
theorem dt {c:List Ins}{x:Int}(h:bQ c x=true):0≤x∧x < c.length:=by
 unfold bQ at h
 simp only[j2,decide_eq_true_eq] at h
 omega

theorem has_iff {s:Sp}{a:Int}:s.has a=true↔s.n=false∧s.lo≤a∧a≤s.hi:=by
 unfold Sp.has
 simp only[j2,z5,decide_eq_true_eq]
theorem dD {s t:Sp}(h:s.lo≤s.hi):eK s t=true↔s.n=true∨(t.n=false∧t.lo≤s.lo∧s.hi≤t.hi):=by
 unfold eK
 rw[z4,j2,has_iff,has_iff]
 constructor
 ·rintro (h|⟨⟨h1,h2,h3⟩,_,h4,h5⟩)
  ·exact .inl h
  ·exact .inr ⟨h1,h2,h5⟩
 ·rintro (h|⟨h1,h2,h3⟩)
  ·exact .inl h
  ·exact .inr ⟨⟨h1,by omega,by omega⟩,h1,by omega,by omega⟩
theorem Hd {s t:Sp}(hs:s.Ok)(ht:t.Ok):eK s (bq s t)=true∧eK t (bq s t)=true:=by
 obtain⟨_,_,_,h1⟩:=hs
 obtain⟨_,_,_,h2⟩:=ht
 rw[dD h1,dD h2]
 unfold bq
 cases hn:s.n with
 |true=>
  simp only[if_true]
  cases ht':t.n with
  |true=>simp
  |false=>simp
 |false=>
  simp only[x8,if_false]
  cases ht':t.n with
  |true=>simp[hn]
  |false=>simp;omega
theorem Gx {s t:Sp}(hs:s.Ok)(ht:t.Ok):eK s (bB s t)=true∧eK t (bB s t)=true:=by
 obtain⟨⟨s1,s2⟩,⟨s3,s4⟩,_,h1⟩:=hs
 obtain⟨⟨t1,t2⟩,⟨t3,t4⟩,_,h2⟩:=ht
 rw[dD h1,dD h2]
 unfold bB
 cases hn:s.n with
 |true=>
  simp only[if_true]
  cases ht':t.n with
  |true=>simp
  |false=>simp
 |false=>
  simp only[x8,if_false]
  cases ht':t.n with
  |true=>simp[hn]
  |false=>
   simp only[x8,if_false,false_or,true_and]
   (repeat' split)<;>omega
section
variable {c:List Ins} {g h:Gs} {w:Bool}
theorem nC (w:Bool)(g h:Gs):(ae w g h).sp=if w then bB g.sp h.sp else bq g.sp h.sp:=rfl
theorem gY (hg:aC c g=0)(hh:aC c h=0):aC c (ae w g h)=0:=by
 rw[ckGs_iff] at hg hh ⊢
 refine⟨?_,λx hx=> ?_,lS (oq _ _)⟩
 ·rw[nC]
  cases w
  ·exact Gm hg.1 hh.1
  ·exact Hb hg.1 hh.1
 ·rcases (mem_siteSet.1 hx).2 with h|h
  ·exact hg.2.1 x h
  ·exact hh.2.1 x h
theorem inGs_iff {g h:Gs}:cB g h=true↔(g.n=true→h.n=true)∧(g.t=true→h.t=true)∧(g.f=true→h.f=true)∧eK g.sp h.sp=true∧∀x∈g.s,x∈h.s:=by
 unfold cB
 simp only[j2,z5,Bool.and_eq_false_imp,Bool.not_eq_false',J4,Z2]
theorem kM (h60:c.length≤60)(hg:aC c g=0)(hh:aC c h=0):cB g (ae w g h)=true∧cB h (ae w g h)=true:=by
 rw[ckGs_iff] at hg hh
 have hs:eK g.sp (ae w g h).sp=true∧eK h.sp (ae w g h).sp=true:=by
  rw[nC]
  cases w
  ·exact Hd hg.1 hh.1
  ·exact Gx hg.1 hh.1
 have hm:∀x,x∈g.s∨x∈h.s→x∈(ae w g h).s:=λx hx=>mem_siteSet.2 ⟨by
  rcases hx with hx|hx
  ·have:=dt (hg.2.1 x hx);omega
  ·have:=dt (hh.2.1 x hx);omega,hx⟩
 rw[inGs_iff,inGs_iff]
 refine⟨⟨λe=> ?_,λe=> ?_,λe=> ?_,hs.1,λx hx=>hm x (.inl hx)⟩,⟨λe=> ?_,λe=> ?_,λe=> ?_,hs.2,λx hx=>hm x (.inr hx)⟩⟩<;>simp[ae,e]
theorem lV {k n s:Int}(hi:cB g h=true)(hg:g.sp.lo≤g.sp.hi)(hd:dB g k n s=true):dB h k n s=true:=by
 obtain⟨h1,h2,h3,h4,h5⟩:=inGs_iff.1 hi
 unfold dB at hd ⊢
 split at hd
 ·rename_i e;rw[if_pos e];exact h1 hd
 rename_i e0
 rw[if_neg e0]
 split at hd
 ·rename_i e
  rw[if_pos e]
  rw[has_iff] at hd ⊢
  rcases (dD hg).1 h4 with hn|⟨a,b,d⟩
  ·rw[hd.1] at hn;cases hn
  ·exact⟨a,by omega,by omega⟩
 rename_i e1
 rw[if_neg e1]
 split at hd
 ·rename_i e
  rw[if_pos e]
  simp only[z4,j2] at hd ⊢
  rcases hd with⟨a,b⟩|⟨a,b⟩
  ·exact .inl ⟨h2 a,b⟩
  ·exact .inr ⟨h3 a,b⟩
 rename_i e2
 rw[if_neg e2,Z2] at *
 exact h5 s hd
end

theorem lD {c:List Ins}{p:Gs→Bool}:∀{l:List (List Gs)} {i:Nat},dG c p i l=false↔∀k (h:k < l.length),bQ c ((i+k:Nat):Int)=true∨∀g∈l[k],p g=false
 |[],i=>by simp[dG]
 |r::l,i=>by
  unfold dG
  rw[Bool.or_eq_false_iff,lD (l:=l)]
  constructor
  ·rintro ⟨h,h'⟩ k hk
   cases k with
   |zero=>
    rw[Bool.and_eq_false_iff] at h
    rcases h with h|h
    ·exact .inl (by simpa using h)
    ·exact .inr (by simpa using h)
   |succ k=>
    have:=h' k (by simpa using hk)
    rwa [show i+1+k=i+(k+1) by omega] at this
  ·intro h
   refine⟨?_,λk hk=> ?_⟩
   ·rw[Bool.and_eq_false_iff]
    rcases h 0 (by simp) with h|h
    ·exact .inl (by simpa using h)
    ·exact .inr (by simpa using h)
   ·have:=h (k+1) (by simpa using hk)
    rwa [show i+(k+1)=i+1+k by omega] at this
theorem od {c:List Ins}:∀{l:List Gs},bW c l=0↔∀g∈l,aC c g=0
 |[]=>by simp[bW]
 |g::l=>by
  unfold bW
  by_cases h:aC c g=0
  ·rw[if_pos h,od]
   simp[h]
  ·rw[if_neg h]
   exact⟨λe=>absurd e h,λe=>e g (by simp)⟩
structure PicOk (V F:Int) (c:List Ins) (x:Pic):Prop where
 none:x.none=false
 vars:(x.vars.length:Int)=V
 flds:x.flds.length=c.length
 row:∀k (h:k < x.flds.length),(x.flds[k].length:Int)=F
 gv:∀g∈x.vars,aC c g=0
 gf:∀k (h:k < x.flds.length),∀g∈x.flds[k],aC c g=0
 stray:∀k (h:k < x.flds.length),bQ c (k:Int)=true∨∀g∈x.flds[k],aB g=true
theorem kv {V F:Int}{c:List Ins}{x:Pic}(hn:x.none=true):aK V F c x=0↔x=nonePic:=by
 obtain⟨n,vars,flds⟩:=x
 simp only at hn
 subst hn
 unfold aK bG nonePic
 simp only[if_true,Pic.mk.injEq,true_and]
 constructor
 ·intro h
  split at h
  ·cases h
  ·rename_i h1
   simpa using h1
 ·rintro ⟨rfl,rfl⟩
  rfl
theorem uq {V F:Int}{c:List Ins}{x:Pic}(hn:x.none=false):aK V F c x=0↔PicOk V F c x:=by
 obtain⟨n,vars,flds⟩:=x
 simp only at hn
 subst hn
 unfold aK bG bJ
 simp only[x8,if_false]
 constructor
 ·intro h
  split at h
  ·cases h
  rename_i h1
  split at h
  ·rename_i h2;exact absurd h h2
  rename_i h2
  split at h
  ·cases h
  rename_i h3
  simp only[Q1,j2,decide_eq_true_eq,z5,X4,decide_eq_false_iff_not,Decidable.not_not] at h1
  simp only[ne_eq,Decidable.not_not] at h2
  rw[od] at h2
  rw[Bool.not_eq_true,lD] at h3
  refine⟨rfl,h1.1,h1.2.1,λk h=> ?_,λg hg=>h2 g (by simp[hg]),λk h g hg=>h2 g ?_,λk h=> ?_⟩
  ·have:=h1.2.2 _ (gM h)
   simpa using this
  ·rw[z3,Z0]
   exact .inr ⟨_,gM h,hg⟩
  ·rcases h3 k h with h3|h3
   ·exact .inl (by simpa using h3)
   ·exact .inr λg hg=>by simpa using h3 g hg
 ·rintro ⟨-,h1,h2,h3,h4,h5,h6⟩
  simp only at h1 h2 h3 h4 h5 h6
  rw[if_neg,if_neg,if_neg]
  ·rw[Bool.not_eq_true,lD]
   intro k h
   rcases h6 k h with h6|h6
   ·exact .inl (by simpa using h6)
   ·exact .inr λg hg=>by simpa using h6 g hg
  ·rw[ne_eq,Decidable.not_not,od]
   intro g hg
   rw[z3,Z0] at hg
   rcases hg with hg|⟨r,hr,hg⟩
   ·exact h4 g hg
   ·obtain⟨k,hk,rfl⟩:=x7 hr
    exact h5 k hk g hg
  ·simp only[Q1,j2,decide_eq_true_eq,z5,X4]
   refine⟨h1,h2,λr hr=> ?_⟩
   obtain⟨k,hk,rfl⟩:=x7 hr
   simpa using h3 k hk
section
variable {V F:Int} {c:List Ins} {x y:Pic} {w:Bool} {r:St}
theorem bY (h:aK V F c x=0)(hn:x.none=false):PicOk V F c x:=(uq hn).1 h
theorem PicOk.ck (h:PicOk V F c x):aK V F c x=0:=(uq h.none).2 h
theorem nothing_iff {g:Gs}:aB g=true↔g.sp.n=true∧g.n=false∧g.t=false∧g.f=false∧g.s=[]:=by
 unfold aB aW
 simp only[j2,z5,Bool.or_eq_false_iff,decide_eq_false_iff_not,Q4,Nat.le_zero,List.length_eq_zero_iff]
theorem wi {g h:Gs}(hg:aB g=true)(hh:aB h=true):aB (ae w g h)=true:=by
 rw[nothing_iff] at hg hh ⊢
 obtain⟨a1,a2,a3,a4,a5⟩:=hg
 obtain⟨b1,b2,b3,b4,b5⟩:=hh
 refine⟨?_,by simp[ae,a2,b2],by simp[ae,a3,b3],by simp[ae,a4,b4],by simp[ae,gj,a5,b5]⟩
 rw[nC]
 cases w<;>simp[bq,bB,a1,b1]
theorem lG {j:Gs→Gs→Gs}{a b:List Gs}:(bh j a b).length=min a.length b.length:=j6
theorem lI {j:Gs→Gs→Gs}{a b:List Gs}{g:Gs}(h:g∈bh j a b):∃i,∃(h1:i < a.length) (h2:i < b.length),g=j a[i] b[i]:=by
 obtain⟨i,hi,rfl⟩:=x7 h
 have hi':=hi
 rw[lG] at hi'
 exact⟨i,by omega,by omega,by simp[bh]⟩
theorem PicOk.join (hx:PicOk V F c x)(hy:PicOk V F c y):PicOk V F c (aT (ae w) x y):=by
 have e:aT (ae w) x y=⟨false,bh (ae w) x.vars y.vars,z2 (bh (ae w)) x.flds y.flds⟩:=by
  unfold aT
  rw[if_neg (by rw[hx.none];decide),if_neg (by rw[hy.none];decide)]
 rw[e]
 have l1:=hx.vars
 have l2:=hy.vars
 have l3:=hx.flds
 have l4:=hy.flds
 refine⟨rfl,?_,?_,λk h=> ?_,λg hg=> ?_,λk h g hg=> ?_,λk h=> ?_⟩
 ·simp only[lG];omega
 ·simp only[j6];omega
 ·simp only[j6] at h
  have:=hx.row k (by omega)
  have:=hy.row k (by omega)
  simp only[j9,lG]
  omega
 ·obtain⟨i,h1,h2,rfl⟩:=lI hg
  exact gY (hx.gv _ (gM _)) (hy.gv _ (gM _))
 ·simp only[j6] at h
  simp only[j9] at hg
  obtain⟨i,h1,h2,rfl⟩:=lI hg
  exact gY (hx.gf k (by omega) _ (gM _)) (hy.gf k (by omega) _ (gM _))
 ·simp only[j6] at h
  rcases hx.stray k (by omega) with a|a
  ·exact .inl a
  rcases hy.stray k (by omega) with b|b
  ·exact .inl b
  right
  intro g hg
  simp only[j9] at hg
  obtain⟨i,h1,h2,rfl⟩:=lI hg
  exact wi (a _ (gM _)) (b _ (gM _))
theorem rQ (hx:aK V F c x=0)(hy:aK V F c y=0):aK V F c (aT (ae w) x y)=0:=by
 cases hn:x.none with
 |true=>unfold aT;rw[if_pos hn];exact hy
 |false=>
  cases hm:y.none with
  |true=>unfold aT;rw[if_neg (by rw[hn];decide),if_pos hm];exact hx
  |false=>exact((bY hx hn).join (bY hy hm)).ck
theorem uC {a b:List Gs}:fr a b=true↔∀i (h1:i < a.length) (h2:i < b.length),cB a[i] b[i]=true:=lE
theorem dZ (hn:x.none=false)(hm:y.none=false):bw x y=true↔(∀i (h1:i < x.vars.length) (h2:i < y.vars.length),cB x.vars[i] y.vars[i]=true)∧∀k (h1:k < x.flds.length) (h2:k < y.flds.length) i (h3:i < x.flds[k].length) (h4:i < y.flds[k].length),cB x.flds[k][i] y.flds[k][i]=true:=by
 unfold bw
 rw[hn,hm]
 simp only[Bool.false_or,J9,Q0,j2]
 rw[uC,lE]
 simp only[uC]
theorem fQ {g:Gs}(h:aC c g=0):g.sp.lo≤g.sp.hi:=(ckGs_iff.1 h).1.2.2.2
theorem showsRow_iff {l:List Gs}{vs:List Val}:ge r l vs=true↔∀i (h1:i < l.length) (h2:i < vs.length),bO r l[i] vs[i]=true:=lE
theorem fZ (hn:x.none=false):b9 x r=true↔ge r x.vars r.vars=true∧∀t∈r.things,ge r (x.flds.getD t.site.toNat []) t.fs=true:=by
 unfold b9
 rw[hn]
 simp only[J9,Q0,j2,J4]
theorem pq {a b:List Gs}{vs:List Val}(hl:a.length=b.length)(hc:∀g∈a,aC c g=0)(hi:∀i (h1:i < a.length) (h2:i < b.length),cB a[i] b[i]=true)(h:ge r a vs=true):ge r b vs=true:=by
 rw[showsRow_iff] at h ⊢
 intro i h1 h2
 exact lV (hi i (by omega) h1) (fQ (hc _ (gM (by omega)))) (h i (by omega) h2)
theorem gS {L:List (List Gs)}{k:Nat}(h:k < L.length):L.getD k []=L[k]:=by simp[j4,j7 h]
theorem uG {L:List (List Gs)}{k:Nat}(h:¬k < L.length):L.getD k []=[]:=by simp[j4,Z3 (Q4.1 h)]
theorem wR (hx:aK V F c x=0)(hy:aK V F c y=0)(hi:bw x y=true)(h:b9 x r=true):b9 y r=true:=by
 have hn:x.none=false:=by
  cases e:x.none with
  |false=>rfl
  |true=>simp[b9,e] at h
 have hm:y.none=false:=by
  cases e:y.none with
  |false=>rfl
  |true=>simp[bw,e,hn] at hi
 have kx:=bY hx hn
 have ky:=bY hy hm
 obtain⟨i1,i2⟩:=(dZ hn hm).1 hi
 obtain⟨s1,s2⟩:=(fZ hn).1 h
 have a1:=kx.vars
 have a2:=ky.vars
 have a3:=kx.flds
 have a4:=ky.flds
 rw[fZ hm]
 refine⟨pq (by omega) kx.gv i1 s1,λt ht=> ?_⟩
 have:=s2 t ht
 by_cases hk:t.site.toNat < x.flds.length
 ·have hk':t.site.toNat < y.flds.length:=by omega
  rw[gS hk] at this
  rw[gS hk']
  have b1:=kx.row _ hk
  have b2:=ky.row _ hk'
  exact pq (by omega) (kx.gf _ hk) (i2 _ hk hk') this
 ·rw[uG (by omega),showsRow_iff]
  intro i h1
  simp at h1
theorem mH (h60:c.length≤60)(hx:aK V F c x=0)(hy:aK V F c y=0):bw x (aT (ae w) x y)=true∧bw y (aT (ae w) x y)=true:=by
 have self:∀{z:Pic},aK V F c z=0→bw z z=true:=by
  intro z hz
  cases hn:z.none with
  |true=>simp[bw,hn]
  |false=>
   have kz:=bY hz hn
   rw[dZ hn hn]
   have sg:∀{g:Gs},aC c g=0→cB g g=true:=λhg=>inGs_iff.2 ⟨id,id,id,by
    rw[dD (fQ hg)]
    rename_i g
    cases e:g.sp.n with
    |true=>exact .inl rfl
    |false=>exact .inr ⟨rfl,by omega,by omega⟩,λ_ h=>h⟩
   exact⟨λi h1 _=>sg (kz.gv _ (gM _)),λk h1 _ i h3 _=>sg (kz.gf k h1 _ (gM _))⟩
 cases hn:x.none with
 |true=>
  have e:aT (ae w) x y=y:=by unfold aT;rw[if_pos hn]
  rw[e]
  exact⟨by simp[bw,hn],self hy⟩
 |false=>
  cases hm:y.none with
  |true=>
   have e:aT (ae w) x y=x:=by unfold aT;rw[if_neg (by rw[hn];decide),if_pos hm]
   rw[e]
   exact⟨self hx,by simp[bw,hm]⟩
  |false=>
   have kx:=bY hx hn
   have ky:=bY hy hm
   have e:aT (ae w) x y=⟨false,bh (ae w) x.vars y.vars,z2 (bh (ae w)) x.flds y.flds⟩:=by
    unfold aT
    rw[if_neg (by rw[hn];decide),if_neg (by rw[hm];decide)]
   rw[e,dZ hn rfl,dZ hm rfl]
   refine⟨⟨λi h1 h2=> ?_,λk h1 h2 i h3 h4=> ?_⟩,⟨λi h1 h2=> ?_,λk h1 h2 i h3 h4=> ?_⟩⟩
   ·simp only[bh,j6] at h2
    simp only[bh,j9]
    exact(kM h60 (kx.gv _ (gM _)) (ky.gv _ (gM _))).1
   ·simp only[j6] at h2
    simp only[bh,j9,j6] at h4
    simp only[bh,j9]
    exact(kM h60 (kx.gf k h1 _ (gM _)) (ky.gf k (by omega) _ (gM _))).1
   ·simp only[bh,j6] at h2
    simp only[bh,j9]
    exact(kM h60 (kx.gv _ (gM _)) (ky.gv _ (gM _))).2
   ·simp only[j6] at h2
    simp only[bh,j9,j6] at h4
    simp only[bh,j9]
    exact(kM h60 (kx.gf k (by omega) _ (gM _)) (ky.gf k h1 _ (gM _))).2
end
def bV (F:Int)(ins:List Int)(r:St)(i:Ins)(a b:Val):St:=
 let v:=iK r ins i a b
 let r1:St:=if i.k=11 then {r with things:=r.things++[⟨r.at_,z1 F.toNat ⟨0,0⟩⟩]} else if i.k=13 then bT r a.n i.n b
  else if i.k=14 then {r with taken:=w64 (r.taken+1)} else if i.k=18 then {r with lines:=r.lines++[iO a]} else r
 if nTo i.k then dg r1 i.tgt v else r1
def de (r:St)(i:Ins)(a:Val):Int:=if i.k=16∨(i.k=15∧cnt a=true) then i.g else r.at_+1
def ft (r:St)(i:Ins):Int:=dN r.things.length i (aOf r i) (bOf r i)
def BL (F:Int)(ins:List Int)(r:St)(i:Ins):St:=if ft r i=0 then bV F ins r i (aOf r i) (bOf r i) else r
theorem ie (F:Int)(c:List Ins)(ins:List Int)(r:St):bp F c ins r=if r.fin≠0 then r else if r.at_=c.length then {r with fin:=1} else if ft r (aO c r.at_)≠0 then {r with fin:=ft r (aO c r.at_)} else {bV F ins r (aO c r.at_) (aOf r (aO c r.at_)) (bOf r (aO c r.at_)) with at_:=de r (aO c r.at_) (aOf r (aO c r.at_))}:=rfl

theorem pF (F:Int)(ins:List Int)(r:St)(i:Ins)(a b:Val):(bV F ins r i a b).at_=r.at_:=by
 have h:∀q:St,q.at_=r.at_→(if nTo i.k then dg q i.tgt (iK r ins i a b) else q).at_=r.at_:=λq h=>by split<;>exact h
 unfold bV
 simp only
 apply h
 split
 ·rfl
 split
 ·rfl
 split
 ·rfl
 split<;>rfl
theorem ud (F:Int)(ins:List Int)(r:St)(i:Ins)(a b:Val):(bV F ins r i a b).fin=r.fin:=by
 have h:∀q:St,q.fin=r.fin→(if nTo i.k then dg q i.tgt (iK r ins i a b) else q).fin=r.fin:=λq h=>by split<;>exact h
 unfold bV
 simp only
 apply h
 split
 ·rfl
 split
 ·rfl
 split
 ·rfl
 split<;>rfl

section
variable {F:Int} {ins:List Int} {r:St} {t a b n g:Int} {A C:Val}
theorem Kq:bV F ins r ⟨1,t,a,b,n,g⟩ A C={r with vars:=r.vars.set t.toNat ⟨1,n⟩}:=rfl
theorem KC:bV F ins r ⟨2,t,a,b,n,g⟩ A C={r with vars:=r.vars.set t.toNat ⟨2,n⟩}:=rfl
theorem Kx:bV F ins r ⟨3,t,a,b,n,g⟩ A C={r with vars:=r.vars.set t.toNat ⟨0,0⟩}:=rfl
theorem Kt:bV F ins r ⟨4,t,a,b,n,g⟩ A C={r with vars:=r.vars.set t.toNat A}:=rfl
theorem Ks:bV F ins r ⟨5,t,a,b,n,g⟩ A C={r with vars:=r.vars.set t.toNat ⟨1,wr (A.n+C.n)⟩}:=rfl
theorem IY:bV F ins r ⟨6,t,a,b,n,g⟩ A C={r with vars:=r.vars.set t.toNat ⟨1,wr (A.n - C.n)⟩}:=rfl
theorem Kr:bV F ins r ⟨7,t,a,b,n,g⟩ A C={r with vars:=r.vars.set t.toNat ⟨1,wr (A.n * C.n)⟩}:=rfl
theorem Ke:bV F ins r ⟨8,t,a,b,n,g⟩ A C={r with vars:=r.vars.set t.toNat (b8 (decide (A.n < C.n)))}:=rfl
theorem KG:bV F ins r ⟨9,t,a,b,n,g⟩ A C={r with vars:=r.vars.set t.toNat (b8 (decide (A.k=C.k)&&decide (A.n=C.n)))}:=rfl
theorem Ia:bV F ins r ⟨10,t,a,b,n,g⟩ A C={r with vars:=r.vars.set t.toNat (b8 (!cnt A))}:=rfl
theorem D7:bV F ins r ⟨11,t,a,b,n,g⟩ A C={r with vars:=r.vars.set t.toNat ⟨3,r.things.length⟩,things:=r.things++[⟨r.at_,z1 F.toNat ⟨0,0⟩⟩]}:=rfl
theorem IU:bV F ins r ⟨12,t,a,b,n,g⟩ A C={r with vars:=r.vars.set t.toNat (iE r A.n n)}:=rfl
theorem vI:bV F ins r ⟨13,t,a,b,n,g⟩ A C=bT r A.n n C:=rfl
theorem Id:bV F ins r ⟨14,t,a,b,n,g⟩ A C={r with vars:=r.vars.set t.toNat ⟨1,if r.taken < ins.length then kh n (ins.getD r.taken.toNat 0) else 0⟩,taken:=w64 (r.taken+1)}:=rfl
theorem Da:bV F ins r ⟨18,t,a,b,n,g⟩ A C={r with lines:=r.lines++[iO A]}:=rfl
theorem gX (k:Int)(h:k=15∨k=16∨k=17∨k=19):bV F ins r ⟨k,t,a,b,n,g⟩ A C=r:=by rcases h with rfl|rfl|rfl|rfl<;>rfl
theorem cq (T:Nat)(k:Int)(h:k=1∨k=2∨k=3∨k=4∨k=9∨k=10∨k=14∨k=15∨k=16∨k=18):dN T ⟨k,t,a,b,n,g⟩ A C=0:=by rcases h with rfl|rfl|rfl|rfl|rfl|rfl|rfl|rfl|rfl|rfl<;>rfl
theorem DO (T:Nat):dN T ⟨17,t,a,b,n,g⟩ A C=if cnt A=true then 0 else 3:=by cases h:cnt A<;>simp[dN,btw,h]
theorem Dl (T:Nat):dN T ⟨19,t,a,b,n,g⟩ A C=1:=rfl
theorem DU (T:Nat):dN T ⟨11,t,a,b,n,g⟩ A C=if T=100 then 5 else 0:=by by_cases h:T=100<;>simp[dN,btw,h]
theorem th (T:Nat)(k:Int)(h:k=12∨k=13):dN T ⟨k,t,a,b,n,g⟩ A C=if A.k=3 then 0 else 2:=by rcases h with rfl|rfl<;>by_cases h:A.k=3<;>simp[dN,btw,h]
theorem oU (T:Nat)(k:Int)(h:k=5∨k=6∨k=7∨k=8):dN T ⟨k,t,a,b,n,g⟩ A C=if (decide (A.k≠1)||decide (C.k≠1))=true then 2 else 0:=by
 rcases h with rfl|rfl|rfl|rfl<;>by_cases h1:A.k=1<;>by_cases h2:C.k=1<;>simp[dN,btw,h1,h2]
end
structure Edg where
 tgt:Int
 pic:Pic
def gAt (x:Pic)(i:Int):Gs:=x.vars.getD i.toNat bX
def bd (x:Pic)(i:Int)(g:Gs):Pic:={x with vars:=x.vars.set i.toNat g}
def fAt (x:Pic)(s n:Int):Gs:=(x.flds.getD s.toNat []).getD n.toNat bX
def gH (x:Pic)(s n:Int)(g:Gs):Pic:={x with flds:=x.flds.modify s.toNat λr=>r.set n.toNat g}
def cn (s:Sp):Sp:=if s.n then⟨true,0,0⟩ else if (if s.hi=0 then -1 else s.hi) < (if s.lo=0 then 1 else s.lo) then⟨true,0,0⟩ else⟨false,if s.lo=0 then 1 else s.lo,if s.hi=0 then -1 else s.hi⟩
def cW (g:Gs):Gs:=⟨false,cn g.sp,g.t,false,g.s⟩
def da (g:Gs):Gs:=⟨g.n,if g.sp.has 0 then⟨false,0,0⟩ else⟨true,0,0⟩,false,g.f,[]⟩
def bI (g:Gs):Bool:=g.n||(!g.sp.n||(g.t||g.f))
def fq (x:Pic)(n:Int)(l:List Int):Gs:=l.foldl (λg s=>ae false g (fAt x s n)) bX
def cN (x:Pic)(n:Int)(b:Gs)(l:List Int):Pic:=l.foldl (λy s=>gH y s n (ae false (fAt y s n) b)) x
def aQ (i:Ins)(at_:Int)(x:Pic):Gs×Bool:=
 if i.k=1 then(⟨false,⟨false,i.n,i.n⟩,false,false,[]⟩,false)
 else if i.k=2 then(⟨false,⟨true,0,0⟩,decide (i.n=1),decide (i.n=0),[]⟩,false)
 else if i.k=3 then(iw,false)
 else if i.k=11 then(⟨false,⟨true,0,0⟩,false,false,[at_]⟩,false)
 else if i.k=12 then(fq x i.n (gAt x i.a).s,bI (gAt x i.a))
 else if i.k=14 then(⟨false,⟨false,-i.n,i.n⟩,false,false,[]⟩,false)
 else cQ i.k (gAt x i.a) (gAt x i.b)
def fg (at_:Int)(x:Pic):Pic:={x with flds:=x.flds.modify at_.toNat λr=>r.map λg=>{g with n:=true}}
def aA (i:Ins)(at_:Int)(x:Pic):List Edg×Bool×Bool:=
 if x.none then([],false,false)
 else if i.k=19 then([],false,false)
 else if i.k=18 then([⟨at_+1,x⟩],false,false)
 else if i.k=16 then([⟨i.g,x⟩],false,false)
 else if i.k=15 then((if ca (gAt x i.a) then [⟨i.g,bd x i.a (cW (gAt x i.a))⟩] else [])++(if cT (gAt x i.a) then [⟨at_+1,bd x i.a (da (gAt x i.a))⟩] else []),false,false)
 else if i.k=17 then((if ca (gAt x i.a) then [⟨at_+1,bd x i.a (cW (gAt x i.a))⟩] else []),false,cT (gAt x i.a))
 else if i.k=13 then(if (gAt x i.a).s.length=0 then([],bI (gAt x i.a),false) else([⟨at_+1,cN x i.n (gAt x i.b) (gAt x i.a).s⟩],bI (gAt x i.a),false))
 else if aB (aQ i at_ x).1 then([],(aQ i at_ x).2,false)
 else([⟨at_+1,bd (if i.k=11 then fg at_ x else x) i.tgt (aQ i at_ x).1⟩],(aQ i at_ x).2,false)

section
variable {V F:Int} {c:List Ins} {x:Pic} {g b:Gs}
theorem fN (hx:PicOk V F c x)(i:Int):aC c (gAt x i)=0:=by
 unfold gAt
 by_cases h:i.toNat < x.vars.length
 ·simp only[j4,j7 h,Q2]
  exact hx.gv _ (gM h)
 ·simp only[j4,Z3 (Q4.1 h),X5]
  rfl
theorem gd (hx:PicOk V F c x)(s n:Int):aC c (fAt x s n)=0:=by
 unfold fAt
 by_cases h:s.toNat < x.flds.length
 ·rw[gS h]
  by_cases h2:n.toNat < x.flds[s.toNat].length
  ·simp only[j4,j7 h2,Q2]
   exact hx.gf _ h _ (gM h2)
  ·simp only[j4,Z3 (Q4.1 h2),X5]
   rfl
 ·rw[uG h]
  rfl
theorem PicOk.setVar (hx:PicOk V F c x)(i:Int)(hg:aC c g=0):PicOk V F c (bd x i g):=by
 refine⟨hx.none,by simpa[Go.Proofs.YtmapdpcfanecdabGreatDoor.bd] using hx.vars,hx.flds,hx.row,λh hh=> ?_,hx.gf,hx.stray⟩
 rcases ir hh with rfl|hh
 ·exact hg
 ·exact hx.gv h hh
theorem gw {L:List (List Gs)}{s k:Nat}{f:List Gs→List Gs}(h:k < (L.modify s f).length):(L.modify s f)[k]=if s=k then f (L[k]'(by simpa using h)) else L[k]'(by simpa using h):=by
 rw[Q3]
theorem PicOk.setFld (hx:PicOk V F c x)(s n:Int)(h0:0≤s)(hs:bQ c s=true)(hg:aC c g=0):PicOk V F c (gH x s n g):=by
 refine⟨hx.none,hx.vars,by simpa[Go.Proofs.YtmapdpcfanecdabGreatDoor.gH] using hx.flds,λk h=> ?_,hx.gv,λk h q hq=> ?_,λk h=> ?_⟩
 ·have h':k < x.flds.length:=by simpa[Go.Proofs.YtmapdpcfanecdabGreatDoor.gH] using h
  show (((x.flds.modify s.toNat λr=>r.set n.toNat g)[k]'(by simpa using h')).length:Int)=F
  rw[gw]
  split
  ·rw[Z4];exact hx.row k h'
  ·exact hx.row k h'
 ·have h':k < x.flds.length:=by simpa[Go.Proofs.YtmapdpcfanecdabGreatDoor.gH] using h
  have hq':q∈(x.flds.modify s.toNat λr=>r.set n.toNat g)[k]'(by simpa using h'):=hq
  rw[gw] at hq'
  split at hq'
  ·rcases ir hq' with rfl|hq'
   ·exact hg
   ·exact hx.gf k h' q hq'
  ·exact hx.gf k h' q hq'
 ·have h':k < x.flds.length:=by simpa[Go.Proofs.YtmapdpcfanecdabGreatDoor.gH] using h
  by_cases e:s.toNat=k
  ·left
   rw[←e,Int.toNat_of_nonneg h0]
   exact hs
  ·rcases hx.stray k h' with a|a
   ·exact .inl a
   ·right
    intro q hq
    have hq':q∈(x.flds.modify s.toNat λr=>r.set n.toNat g)[k]'(by simpa using h'):=hq
    rw[gw,if_neg e] at hq'
    exact a q hq'
theorem pQ (hx:PicOk V F c x)(n:Int)(l:List Int):aC c (fq x n l)=0:=by
 unfold fq
 have:∀(l:List Int) (g:Gs),aC c g=0→aC c (l.foldl (λg s=>ae false g (fAt x s n)) g)=0:=by
  intro l
  induction l with
  |nil=>exact λg h=>h
  |cons s l ih=>exact λg h=>ih _ (gY h (gd hx s n))
 exact this l _ rfl
theorem nS (hx:PicOk V F c x)(n:Int)(hb:aC c b=0):∀(l:List Int),(∀s∈l,bQ c s=true)→PicOk V F c (cN x n b l):=by
 intro l
 unfold cN
 induction l generalizing x with
 |nil=>exact λ_=>hx
 |cons s l ih=>
  intro h
  have hs:=h s (by simp)
  exact ih (hx.setFld s n (dt hs).1 hs (gY (gd hx s n) hb)) λt ht=>h t (by simp[ht])
theorem dw:(⟨true,0,0⟩:Sp).Ok:=⟨by unfold aV;simp only;omega,by unfold aV;simp only;omega,λ_=>⟨rfl,rfl⟩,Int.le_refl _⟩
theorem gk {lo hi:Int}(h1: -2147483648≤lo)(h2:hi≤2147483647)(h:lo≤hi):(⟨false,lo,hi⟩:Sp).Ok:=⟨⟨h1,by simp only;omega⟩,⟨by simp only;omega,h2⟩,(λh=>by cases h),h⟩
theorem DW {s:Sp}(h:s.Ok):(cn s).Ok:=by
 obtain⟨⟨a1,a2⟩,⟨a3,a4⟩,a5,a6⟩:=h
 unfold cn
 split
 ·exact dw
 generalize e1:(if s.hi=0 then(-1:Int) else s.hi)=hi
 generalize e2:(if s.lo=0 then(1:Int) else s.lo)=lo
 split
 ·exact dw
 ·have:hi≤2147483647:=by rw[←e1];split<;>omega
  have: -2147483648≤lo:=by rw[←e2];split<;>omega
  exact gk (by omega) (by omega) (by omega)
theorem lf (h:aC c g=0):aC c (cW g)=0:=by
 rw[ckGs_iff] at h ⊢
 exact⟨DW h.1,h.2⟩
theorem sD (h:aC c g=0):aC c (da g)=0:=by
 rw[ckGs_iff] at h ⊢
 refine⟨?_,λx hx=>by simp[da] at hx,rfl⟩
 show (if g.sp.has 0=true then _ else _:Sp).Ok
 split
 ·exact gk (by omega) (by omega) (by omega)
 ·exact dw
theorem cm {n t f:Bool}{sp:Sp}(h:sp.Ok):aC c ⟨n,sp,t,f,[]⟩=0:=by
 rw[ckGs_iff]
 exact⟨h,λx hx=>by simp at hx,rfl⟩
theorem GG {k:Int}{h:Gs}(hg:aC c g=0)(hh:aC c h=0):aC c (cQ k g h).1=0:=by
 unfold cQ
 split
 ·exact hg
 split
 ·exact cm dw
 split
 ·rfl
 split
 ·exact cm dw
 split
 ·exact cm dw
 ·exact cm (Ge (ckGs_iff.1 hg).1 (ckGs_iff.1 hh).1)
theorem PicOk.newPic (hx:PicOk V F c x){at_:Int}(h0:0≤at_)(hs:bQ c at_=true):PicOk V F c (fg at_ x):=by
 refine⟨hx.none,hx.vars,by simpa[Go.Proofs.YtmapdpcfanecdabGreatDoor.fg] using hx.flds,λk h=> ?_,hx.gv,λk h q hq=> ?_,λk h=> ?_⟩
 ·have h':k < x.flds.length:=by simpa[Go.Proofs.YtmapdpcfanecdabGreatDoor.fg] using h
  show (((x.flds.modify at_.toNat λr=>r.map λg=>{g with n:=true})[k]'(by simpa using h')).length:Int)=F
  rw[gw]
  split
  ·rw[List.length_map];exact hx.row k h'
  ·exact hx.row k h'
 ·have h':k < x.flds.length:=by simpa[Go.Proofs.YtmapdpcfanecdabGreatDoor.fg] using h
  have hq':q∈(x.flds.modify at_.toNat λr=>r.map λg=>{g with n:=true})[k]'(by simpa using h'):=hq
  rw[gw] at hq'
  split at hq'
  ·obtain⟨p,hp,rfl⟩:=j5.1 hq'
   have:=hx.gf k h' p hp
   rw[ckGs_iff] at this ⊢
   exact this
  ·exact hx.gf k h' q hq'
 ·have h':k < x.flds.length:=by simpa[Go.Proofs.YtmapdpcfanecdabGreatDoor.fg] using h
  by_cases e:at_.toNat=k
  ·left
   rw[←e,Int.toNat_of_nonneg h0]
   exact hs
  ·rcases hx.stray k h' with a|a
   ·exact .inl a
   ·right
    intro q hq
    have hq':q∈(x.flds.modify at_.toNat λr=>r.map λg=>{g with n:=true})[k]'(by simpa using h'):=hq
    rw[gw,if_neg e] at hq'
    exact a q hq'
theorem mA {p:Int}(h0:0≤p)(h1:p < c.length)(hk:(aO c p).k=11):bQ c p=true:=by
 unfold bQ
 unfold aO Aw at hk
 rw[hk]
 simp[h0,h1]
theorem sV (hp:ProgOk V F c)(hx:PicOk V F c x){p:Int}(h0:0≤p)(h1:p < c.length):aC c (aQ (aO c p) p x).1=0:=by
 obtain⟨q1,q2,q3,q4,q5,q6,q7,q8,q9⟩:=bn (hp.each _ (hU h0 h1))
 unfold aQ
 split
 ·rename_i h
  have:=q7 h
  exact cm (gk (by omega) (by omega) (by omega))
 split
 ·exact cm dw
 split
 ·exact cm dw
 split
 ·rename_i h
  rw[ckGs_iff]
  refine⟨dw,λy hy=> ?_,rfl⟩
  rw[j3.1 hy]
  exact mA h0 h1 h
 split
 ·exact pQ hx _ _
 split
 ·rename_i h
  have:=q9 h
  exact cm (gk (by omega) (by omega) (by omega))
 ·exact GG (fN hx _) (fN hx _)
theorem Cp (hp:ProgOk V F c)(hx:aK V F c x=0){p:Int}(h0:0≤p)(h1:p < c.length):∀e∈(aA (aO c p) p x).1,aK V F c e.pic=0∧e.pic.none=false∧0≤e.tgt∧e.tgt≤c.length:=by
 obtain⟨q1,q2,q3,q4,q5,q6,q7,q8,q9⟩:=bn (hp.each _ (hU h0 h1))
 intro e he
 unfold aA at he
 split at he
 ·simp at he
 rename_i hn
 have hn':x.none=false:=by simpa using hn
 have kx:=bY hx hn'
 split at he
 ·simp at he
 split at he
 ·obtain rfl:=j3.1 he
  exact⟨hx,hn',by simp only;omega,by simp only;omega⟩
 split at he
 ·rename_i h16
  have:=q6 (by simp[nG,h16])
  obtain rfl:=j3.1 he
  exact⟨hx,hn',by simp only;omega,by simp only;omega⟩
 split at he
 ·rename_i h15
  have:=q6 (by simp[nG,h15])
  simp only[z3] at he
  rcases he with he|he
  ·split at he
   ·obtain rfl:=j3.1 he
    exact⟨(kx.setVar _ (lf (fN kx _))).ck,hn',by simp only;omega,by simp only;omega⟩
   ·simp at he
  ·split at he
   ·obtain rfl:=j3.1 he
    exact⟨(kx.setVar _ (sD (fN kx _))).ck,hn',by simp only;omega,by simp only;omega⟩
   ·simp at he
 split at he
 ·simp only at he
  split at he
  ·obtain rfl:=j3.1 he
   exact⟨(kx.setVar _ (lf (fN kx _))).ck,hn',by simp only;omega,by simp only;omega⟩
  ·simp at he
 split at he
 ·split at he
  ·simp at he
  ·obtain rfl:=j3.1 he
   have:=nS kx (aO c p).n (fN kx (aO c p).b) (gAt x (aO c p).a).s ((ckGs_iff.1 (fN kx _)).2.1)
   exact⟨this.ck,this.none,by simp only;omega,by simp only;omega⟩
 split at he
 ·simp at he
 ·obtain rfl:=j3.1 he
  have:PicOk V F c (if (aO c p).k=11 then fg p x else x):=by
   split
   ·rename_i h11;exact kx.newPic h0 (mA h0 h1 h11)
   ·exact kx
  have:=this.setVar (aO c p).tgt (sV hp kx h0 h1)
  exact⟨this.ck,this.none,by simp only;omega,by simp only;omega⟩
end
end
section
open Go.RowKit
section
variable {w w':World} {B m:Nat} {s:St} {vv tv lv:Value} {fv:List Value}

theorem lw (w:World)(g j j':Nat)(u u':Value)(k:Nat)(h:k≠g):((w.setCell ⟨g,j,nO⟩ u).setCell ⟨g,j',nO⟩ u').heap[k]? =w.heap[k]? :=by
 rw[hSe _ _ _ _ h,hSe _ _ _ _ h]

theorem OwnRun.vars_apart (h:OwnRun w B m s vv tv lv fv){g:Nat}(hg:vv.ownBlock=sO g):∀k,sO k∈(sO m::tv.ownBlock::lv.ownBlock::fv.map j1)→k≠g:=by
 have ha:=h.apart
 simp only[z6,j0] at ha
 obtain⟨h1,h2,_⟩:=ha
 intro k hk e
 subst e
 rcases j0.1 hk with hk|hk
 ·cases hk
  exact h1 _ (.inl rfl) _ rfl hg
 ·exact h2 (sO k) (by simpa[or_assoc] using hk) k hg rfl

theorem OwnRun.m_apart (h:OwnRun w B m s vv tv lv fv):∀k,sO k∈(vv.ownBlock::tv.ownBlock::lv.ownBlock::fv.map j1)→k≠m:=by
 have ha:=h.apart
 simp only[z6] at ha
 intro k hk e
 subst e
 exact ha.1 (sO k) hk k rfl rfl

theorem pa {e:TypeId}{z:Nat}{a:Option Addr}{n n' cap:Nat}{xs:List Value}(h:w.ownsRow B e z (U a n cap) n' xs):n=n':=by
 rcases h.2 with⟨hv,hn⟩|⟨g,c,cur,hv,_⟩
 ·cases hv;exact hn.symm
 ·cases hv;rfl

theorem OwnRun.put {g n cap:Nat}(h:OwnRun w B m s (U (sO ⟨g,0,nO⟩) n cap) tv lv fv)(i:Nat)(hi:i < s.vars.length)(v:Val):
  OwnRun ((w.setCell ⟨g,i * 2,nO⟩ (I Y v.k)).setCell ⟨g,i * 2+1,nO⟩ (I Y v.n)) B m {s with vars:=s.vars.set i v} (U (sO ⟨g,0,nO⟩) n cap) tv lv fv:=by
 have ap:=h.vars_apart (g:=g) rfl
 have hb:=lw w g (i * 2) (i * 2+1) (I Y v.k) (I Y v.n)
 have hm:=hb m (ap m (by simp))
 have c:∀j,((w.setCell ⟨g,i * 2,nO⟩ (I Y v.k)).setCell ⟨g,i * 2+1,nO⟩ (I Y v.n)).cell? ⟨m,j,nO⟩=w.cell? ⟨m,j,nO⟩:=λj=>j8 (a:=⟨m,j,nO⟩) hm
 have fz:∀j,((w.setCell ⟨g,i * 2,nO⟩ (I Y v.k)).setCell ⟨g,i * 2+1,nO⟩ (I Y v.n)).frozen? ⟨m,j,nO⟩=w.frozen? ⟨m,j,nO⟩:=λj=>z9 (a:=⟨m,j,nO⟩) hm
 have hn:n=s.vars.length:=pa h.vars
 have hv0:w.ownsRow B 82 2 (U (sO ⟨g,0,nO⟩) n cap) n (bU s.vars):=by have:=h.vars;unfold ValRow at this;rw[←hn] at this;exact this
 have hv1:=(((hv0.stored (i * 2) (I Y v.k)).1).stored (i * 2+1) (I Y v.n)).1
 rw[nr s.vars v i hi] at hv1
 refine⟨h.low,by rw[c];exact h.at_,by rw[c];exact h.vars_,by rw[c];exact h.things_,by rw[c];exact h.taken_,by rw[c];exact h.lines_,by rw[c];exact h.fin_,λj=>by rw[fz];exact h.thaw j,
  ?_,aw h.things (λk hk=>hb k (ap k (by simp[hk]))),h.count,λj hj=>aw (h.fields j hj) (λk hk=>hb k (ap k (by
   simp only[j0];right;right;right
   exact j5.2 ⟨_,gM _,hk⟩))),aw h.lines (λk hk=>hb k (ap k (by simp[hk]))),h.apart⟩
 unfold ValRow
 simp only[Z4]
 rw[←hn]
 exact hv1

theorem OwnRun.setM (h:OwnRun w B m s vv tv lv fv)(j:Nat)(x:Int)(hj:j=0∨j=3∨j=5):
  OwnRun (w.setCell ⟨m,j,nO⟩ (I Y x)) B m {s with at_:=if j=0 then x else s.at_,taken:=if j=3 then x else s.taken,fin:=if j=5 then x else s.fin} vv tv lv fv:=by
 have ap:=h.m_apart
 have hb:∀k,k≠m→(w.setCell ⟨m,j,nO⟩ (I Y x)).heap[k]? =w.heap[k]? :=λk hk=>hSe _ _ _ _ hk
 have hold:∃u,w.cell? ⟨m,j,nO⟩=sO u:=by
  rcases hj with rfl|rfl|rfl
  ·exact⟨_,h.at_⟩
  ·exact⟨_,h.taken_⟩
  ·exact⟨_,h.fin_⟩
 obtain⟨u,hu⟩:=hold
 have cs:(w.setCell ⟨m,j,nO⟩ (I Y x)).cell? ⟨m,j,nO⟩=sO (I Y x):=J0 _ _ _ hu
 have co:∀i,i≠j→(w.setCell ⟨m,j,nO⟩ (I Y x)).cell? ⟨m,i,nO⟩=w.cell? ⟨m,i,nO⟩:=λi hi=>J1 _ _ _ _ (by intro e;cases e;exact hi rfl)
 refine⟨h.low,?_,by rw[co 1 (by omega)];exact h.vars_,by rw[co 2 (by omega)];exact h.things_,?_,by rw[co 4 (by omega)];exact h.lines_,?_,λi=>by rw[x6];exact h.thaw i,
  aw h.vars (λk hk=>hb k (ap k (by simp[hk]))),aw h.things (λk hk=>hb k (ap k (by simp[hk]))),h.count,λi hi=>aw (h.fields i hi) (λk hk=>hb k (ap k (by
   simp only[j0];right;right;right
   exact j5.2 ⟨_,gM _,hk⟩))),aw h.lines (λk hk=>hb k (ap k (by simp[hk]))),h.apart⟩
 ·rcases hj with rfl|rfl|rfl
  ·simpa using cs
  ·rw[co 0 (by omega)];simpa using h.at_
  ·rw[co 0 (by omega)];simpa using h.at_
 ·rcases hj with rfl|rfl|rfl
  ·rw[co 3 (by omega)];simpa using h.taken_
  ·simpa using cs
  ·rw[co 3 (by omega)];simpa using h.taken_
 ·rcases hj with rfl|rfl|rfl
  ·rw[co 5 (by omega)];simpa using h.fin_
  ·rw[co 5 (by omega)];simpa using h.fin_
  ·simpa using cs
end
section
variable {w w' w1:World} {B m:Nat} {s:St} {vv tv lv:Value} {fv:List Value}

theorem OwnRun.parted (h:OwnRun w B m s vv tv lv fv):(∀x,sO x∈(vv.ownBlock::tv.ownBlock::lv.ownBlock::fv.map j1)→x≠m)∧(∀x,vv.ownBlock=sO x→sO x∉(tv.ownBlock::lv.ownBlock::fv.map j1))∧(∀x,tv.ownBlock=sO x→sO x∉(lv.ownBlock::fv.map j1))∧(∀x,lv.ownBlock=sO x→sO x∉fv.map j1)∧(fv.map j1).Pairwise (λa b=>∀x,a=sO x→b≠sO x):=by
 have ha:=h.apart
 simp only[z6] at ha
 obtain⟨h1,h2,h3,h4,h5⟩:=ha
 exact⟨λx hx e=>h1 _ hx m rfl (by rw[e]),λx hx hm=>h2 _ hm x hx rfl,λx hx hm=>h3 _ hm x hx rfl,λx hx hm=>h4 _ hm x hx rfl,h5⟩

theorem wG (h1:∀x,sO x∈(vv.ownBlock::tv.ownBlock::lv.ownBlock::fv.map j1)→x≠m)(h2:∀x,vv.ownBlock=sO x→sO x∉(tv.ownBlock::lv.ownBlock::fv.map j1))(h3:∀x,tv.ownBlock=sO x→sO x∉(lv.ownBlock::fv.map j1))(h4:∀x,lv.ownBlock=sO x→sO x∉fv.map j1)(h5:(fv.map j1).Pairwise (λa b=>∀x,a=sO x→b≠sO x)):
  (sO m::vv.ownBlock::tv.ownBlock::lv.ownBlock::fv.map j1).Pairwise λa b=>∀x,a=sO x→b≠sO x:=by
 simp only[z6]
 refine⟨λb hb x hx e=> ?_,λb hb x hx e=> ?_,λb hb x hx e=> ?_,λb hb x hx e=> ?_,h5⟩
 ·cases hx;subst e;exact h1 _ hb rfl
 ·subst e;exact h2 x hx hb
 ·subst e;exact h3 x hx hb
 ·subst e;exact h4 x hx hb

theorem OwnRun.grow_lines (h:OwnRun w B m s vv tv lv fv){g cap:Nat}{t:ByteArray}(hB:B≤w.heap.size)
  (hown:w1.ownsRow B 9 1 (U (sO ⟨g,0,nO⟩) (s.lines.length+1) cap) (s.lines.length+1) (s.lines.map .string++[.string t]))(hgrow:w.grownBy w1 lv.ownBlock)(hat:lv.ownBlock=sO g∨w.heap.size≤g):
  OwnRun (w1.setCell ⟨m,4,nO⟩ (U (sO ⟨g,0,nO⟩) (s.lines.length+1) cap)) B m {s with lines:=s.lines++[t]} vv tv (U (sO ⟨g,0,nO⟩) (s.lines.length+1) cap) fv:=by
 obtain⟨p1,p2,p3,p4,p5⟩:=h.parted
 have lt:∀{k:Nat},sO k∈ag m vv tv lv fv→k < w.heap.size:=λhk=>h.lt hk
 have hm:m < w.heap.size:=lt (by simp[ag])
 have hlm:sO m≠lv.ownBlock:=λe=>p1 m (by rw[e];simp) rfl
 have hgm:g≠m:=by
  rcases hat with e|e
  ·exact p1 g (by rw[←e];simp)
  ·omega
 have bm:=hgrow.block m hm hlm
 have c:∀j,w1.cell? ⟨m,j,nO⟩=w.cell? ⟨m,j,nO⟩:=λj=>j8 (a:=⟨m,j,nO⟩) bm
 have fz:∀j,w1.frozen? ⟨m,j,nO⟩=w.frozen? ⟨m,j,nO⟩:=λj=>z9 (a:=⟨m,j,nO⟩) bm
 have co:∀i,i≠4→(w1.setCell ⟨m,4,nO⟩ (U (sO ⟨g,0,nO⟩) (s.lines.length+1) cap)).cell? ⟨m,i,nO⟩=w.cell? ⟨m,i,nO⟩:=λi hi=>by rw[J1 _ _ _ _ (by intro e;cases e;exact hi rfl),c]
 have cs:(w1.setCell ⟨m,4,nO⟩ (U (sO ⟨g,0,nO⟩) (s.lines.length+1) cap)).cell? ⟨m,4,nO⟩=sO (U (sO ⟨g,0,nO⟩) (s.lines.length+1) cap):=J0 _ _ _ (by rw[c];exact h.lines_)
 have hb:∀k,k < w.heap.size→k≠m→sO k≠lv.ownBlock→(w1.setCell ⟨m,4,nO⟩ (U (sO ⟨g,0,nO⟩) (s.lines.length+1) cap)).heap[k]? =w.heap[k]? :=λk h1 h2 h3=>by rw[hSe _ _ _ _ h2,hgrow.block k h1 h3]
 have hv:∀k,vv.ownBlock=sO k→k < w.heap.size∧k≠m∧sO k≠lv.ownBlock:=λk hk=>⟨lt (by simp[ag,hk]),p1 k (by simp[hk]),λe=>p2 k hk (by simp[e])⟩
 have ht:∀k,tv.ownBlock=sO k→k < w.heap.size∧k≠m∧sO k≠lv.ownBlock:=λk hk=>⟨lt (by simp[ag,hk]),p1 k (by simp[hk]),λe=>p3 k hk (by simp[e])⟩
 have hf:∀k,sO k∈fv.map j1→k < w.heap.size∧k≠m∧sO k≠lv.ownBlock:=λk hk=>⟨lt (by simp only[ag,j0];simp only[hk,or_true]),p1 k (by simp only[j0];simp only[hk,or_true]),λe=>p4 k e.symm hk⟩
 have hg:∀k,k < w.heap.size→sO k≠lv.ownBlock→k≠g:=λk h1 h2 e=>by
  rcases hat with e'|e'
  ·exact h2 (by rw[e',e])
  ·omega
 refine⟨h.low,by rw[co 0 (by omega)];exact h.at_,by rw[co 1 (by omega)];exact h.vars_,by rw[co 2 (by omega)];exact h.things_,by rw[co 3 (by omega)];exact h.taken_,cs,by rw[co 5 (by omega)];exact h.fin_,
  λj=>by rw[x6,fz];exact h.thaw j,aw h.vars (λk hk=>hb k (hv k hk).1 (hv k hk).2.1 (hv k hk).2.2),aw h.things (λk hk=>hb k (ht k hk).1 (ht k hk).2.1 (ht k hk).2.2),h.count,
  λi hi=>aw (h.fields i hi) (λk hk=> ?_),?_,?_⟩
 ·have q:=hf k (j5.2 ⟨_,gM _,hk⟩)
  exact hb k q.1 q.2.1 q.2.2
 ·simp only[X6,z0,X7,Q5,J6,J7]
  exact aw hown (λk hk=>by cases hk;exact hSe _ _ _ _ hgm)
 ·refine wG (λx hx=> ?_) (λx hx hm'=> ?_) (λx hx hm'=> ?_) (λx hx hm'=> ?_) p5
  ·rcases j0.1 hx with hx|hx
   ·exact p1 x (by simp[hx])
   ·rcases j0.1 hx with hx|hx
    ·exact p1 x (by simp[hx])
    ·rcases j0.1 hx with hx|hx
     ·cases hx;exact hgm
     ·exact p1 x (by simp only[j0];simp only[hx,or_true])
  ·rcases j0.1 hm' with hm'|hm'
   ·exact p2 x hx (by simp[hm'])
   ·rcases j0.1 hm' with hm'|hm'
    ·cases hm';exact hg g (hv g hx).1 (hv g hx).2.2 rfl
    ·exact p2 x hx (by simp only[j0];simp only[hm',or_true])
  ·rcases j0.1 hm' with hm'|hm'
   ·cases hm';exact hg g (ht g hx).1 (ht g hx).2.2 rfl
   ·exact p3 x hx (by simp only[j0];simp only[hm',or_true])
  ·cases hx
   have q:=hf g hm'
   exact hg g q.1 q.2.2 rfl

theorem mZ:∀(ss:List Int) (fs:List Value) (_:fs.length=ss.length) (x:Int) (f:Value),bL (ss++[x]) (fs++[f])=bL ss fs++[I Y x,f]
 |[],[],_,_,_=>rfl
 |[],_::_,h,_,_=>by simp at h
 |_::_,[],h,_,_=>by simp at h
 |a::ss,b::fs,h,x,f=>by
  have:=mZ ss fs (by simpa using h) x f
  simp only[Q8,bL,this]
theorem fS:∀(ss:List Int) (fs:List Value) (_:fs.length=ss.length),(bL ss fs).length=ss.length * 2
 |[],_,_=>by simp[bL]
 |_::_,[],h=>by simp at h
 |_::ss,_::fs,h=>by
  have:=fS ss fs (by simpa using h)
  simp only[bL,z0,this];omega
theorem gK:∀(ss:List Int) (fs:List Value) (_:fs.length=ss.length) (i:Nat) (h:i < ss.length),(bL ss fs)[i * 2]? =sO (I Y ss[i])
 |[],_,_,_,h=>by simp at h
 |_::_,[],h,_,_=>by simp at h
 |_::_,_::_,_,0,_=>rfl
 |_::ss,_::fs,h,i+1,hi=>by
  rw[show (i+1) * 2=i * 2+1+1 by omega]
  simpa[bL] using gK ss fs (by simpa using h) i (by simpa using hi)
theorem fu:∀(ss:List Int) (fs:List Value) (_:fs.length=ss.length) (i:Nat) (h:i < fs.length),(bL ss fs)[i * 2+1]? =sO fs[i]
 |[],[],_,_,h=>by simp at h
 |[],_::_,h,_,_=>by simp at h
 |_::_,[],h,_,_=>by simp at h
 |_::_,_::_,_,0,_=>rfl
 |_::ss,_::fs,h,i+1,hi=>by
  rw[show (i+1) * 2+1=(i * 2+1)+1+1 by omega]
  simpa[bL] using fu ss fs (by simpa using h) i (by simpa using hi)

theorem OwnRun.grow_things (h:OwnRun w B m s vv tv lv fv){g cap:Nat}{x:Int}{l:List Val}{fn:Value}(hf0:ValRow w B fn l)(hfa:∀k,fn.ownBlock=sO k→sO k∉ag m vv tv lv fv)
  (hown:w1.ownsRow B 84 2 (U (sO ⟨g,0,nO⟩) (s.things.length+1) cap) (s.things.length+1) (bL (s.things.map (·.site)) fv++[I Y x,fn]))(hgrow:w.grownBy w1 tv.ownBlock)(hat:tv.ownBlock=sO g∨w.heap.size≤g):
  OwnRun (w1.setCell ⟨m,2,nO⟩ (U (sO ⟨g,0,nO⟩) (s.things.length+1) cap)) B m {s with things:=s.things++[⟨x,l⟩]} vv (U (sO ⟨g,0,nO⟩) (s.things.length+1) cap) lv (fv++[fn]):=by
 obtain⟨p1,p2,p3,p4,p5⟩:=h.parted
 have lt:∀{k:Nat},sO k∈ag m vv tv lv fv→k < w.heap.size:=λhk=>h.lt hk
 have hm:m < w.heap.size:=lt (by simp[ag])
 have hlm:sO m≠tv.ownBlock:=λe=>p1 m (by rw[e];simp) rfl
 have hgm:g≠m:=by
  rcases hat with e|e
  ·exact p1 g (by rw[←e];simp)
  ·omega
 have bm:=hgrow.block m hm hlm
 have c:∀j,w1.cell? ⟨m,j,nO⟩=w.cell? ⟨m,j,nO⟩:=λj=>j8 (a:=⟨m,j,nO⟩) bm
 have fz:∀j,w1.frozen? ⟨m,j,nO⟩=w.frozen? ⟨m,j,nO⟩:=λj=>z9 (a:=⟨m,j,nO⟩) bm
 have co:∀i,i≠2→(w1.setCell ⟨m,2,nO⟩ (U (sO ⟨g,0,nO⟩) (s.things.length+1) cap)).cell? ⟨m,i,nO⟩=w.cell? ⟨m,i,nO⟩:=λi hi=>by rw[J1 _ _ _ _ (by intro e;cases e;exact hi rfl),c]
 have cs:(w1.setCell ⟨m,2,nO⟩ (U (sO ⟨g,0,nO⟩) (s.things.length+1) cap)).cell? ⟨m,2,nO⟩=sO (U (sO ⟨g,0,nO⟩) (s.things.length+1) cap):=J0 _ _ _ (by rw[c];exact h.things_)
 have hb:∀k,k < w.heap.size→k≠m→sO k≠tv.ownBlock→(w1.setCell ⟨m,2,nO⟩ (U (sO ⟨g,0,nO⟩) (s.things.length+1) cap)).heap[k]? =w.heap[k]? :=λk h1 h2 h3=>by rw[hSe _ _ _ _ h2,hgrow.block k h1 h3]
 have hv:∀k,vv.ownBlock=sO k→k < w.heap.size∧k≠m∧sO k≠tv.ownBlock:=λk hk=>⟨lt (by simp[ag,hk]),p1 k (by simp[hk]),λe=>p2 k hk (by simp[e])⟩
 have ht:∀k,lv.ownBlock=sO k→k < w.heap.size∧k≠m∧sO k≠tv.ownBlock:=λk hk=>⟨lt (by simp[ag,hk]),p1 k (by simp[hk]),λe=>p3 k e.symm (by simp[hk])⟩
 have hf:∀k,sO k∈fv.map j1→k < w.heap.size∧k≠m∧sO k≠tv.ownBlock:=λk hk=>⟨lt (by simp only[ag,j0];simp only[hk,or_true]),p1 k (by simp only[j0];simp only[hk,or_true]),λe=>p3 k e.symm (by simp only[j0];simp only[hk,or_true])⟩
 have hn:∀k,fn.ownBlock=sO k→k < w.heap.size∧k≠m∧sO k≠tv.ownBlock:=λk hk=>⟨(aM hf0 hk).1,λe=>hfa k hk (by simp[ag,e]),λe=>hfa k hk (by simp[ag,e])⟩
 have hg:∀k,k < w.heap.size→sO k≠tv.ownBlock→k≠g:=λk h1 h2 e=>by
  rcases hat with e'|e'
  ·exact h2 (by rw[e',e])
  ·omega
 have hfn:∀k,fn.ownBlock=sO k→vv.ownBlock≠sO k∧lv.ownBlock≠sO k∧sO k∉fv.map j1:=λk hk=>⟨λe=>hfa k hk (by simp[ag,e]),λe=>hfa k hk (by simp[ag,e]),λe=>hfa k hk (by simp only[ag,j0];simp only[e,or_true])⟩
 refine⟨h.low,by rw[co 0 (by omega)];exact h.at_,by rw[co 1 (by omega)];exact h.vars_,cs,by rw[co 3 (by omega)];exact h.taken_,by rw[co 4 (by omega)];exact h.lines_,by rw[co 5 (by omega)];exact h.fin_,
  λj=>by rw[x6,fz];exact h.thaw j,aw h.vars (λk hk=>hb k (hv k hk).1 (hv k hk).2.1 (hv k hk).2.2),?_,by simp[h.count],
  λi hi=> ?_,aw h.lines (λk hk=>hb k (ht k hk).1 (ht k hk).2.1 (ht k hk).2.2),?_⟩
 ·simp only[X6,z0,X7,Q5,J6,J7]
  rw[mZ _ _ (by simp[h.count])]
  exact aw hown (λk hk=>by cases hk;exact hSe _ _ _ _ hgm)
 ·by_cases hi':i < s.things.length
  ·have e1:(fv++[fn])[i]'(by simp[h.count];omega)=fv[i]'(by rw[h.count];exact hi'):=X8 _
   have e2:(s.things++[(⟨x,l⟩:Thg)])[i]=s.things[i]:=X8 hi'
   rw[e1,e2]
   refine aw (h.fields i hi') (λk hk=> ?_)
   have q:=hf k (j5.2 ⟨_,gM _,hk⟩)
   exact hb k q.1 q.2.1 q.2.2
  ·have hi2:i=s.things.length:=by simp at hi;omega
   subst hi2
   have e1:(fv++[fn])[s.things.length]'(by simp[h.count])=fn:=by simp[←h.count]
   have e2:(s.things++[(⟨x,l⟩:Thg)])[s.things.length]=⟨x,l⟩:=by simp
   rw[e1,e2]
   exact aw hf0 (λk hk=>hb k (hn k hk).1 (hn k hk).2.1 (hn k hk).2.2)
 ·have memS:∀x,sO x∈(fv++[fn]).map j1→sO x∈fv.map j1∨fn.ownBlock=sO x:=λx hx=>by
   simp only[Q5,J6,J7,z3,j3] at hx
   exact hx.imp id Eq.symm
  refine wG (λx hx=> ?_) (λx hx hm'=> ?_) (λx hx hm'=> ?_) (λx hx hm'=> ?_) ?_
  ·rcases j0.1 hx with hx|hx
   ·exact p1 x (by simp[hx])
   ·rcases j0.1 hx with hx|hx
    ·cases hx;exact hgm
    ·rcases j0.1 hx with hx|hx
     ·exact p1 x (by simp[hx])
     ·rcases memS x hx with hx|hx
      ·exact p1 x (by simp only[j0];simp only[hx,or_true])
      ·exact(hn x hx).2.1
  ·rcases j0.1 hm' with hm'|hm'
   ·cases hm';exact hg g (hv g hx).1 (hv g hx).2.2 rfl
   ·rcases j0.1 hm' with hm'|hm'
    ·exact p2 x hx (by simp[hm'])
    ·rcases memS x hm' with hm'|hm'
     ·exact p2 x hx (by simp only[j0];simp only[hm',or_true])
     ·exact(hfn x hm').1 hx
  ·cases hx
   rcases j0.1 hm' with hm'|hm'
   ·exact hg g (ht g hm'.symm).1 (ht g hm'.symm).2.2 rfl
   ·rcases memS g hm' with hm'|hm'
    ·exact hg g (hf g hm').1 (hf g hm').2.2 rfl
    ·exact hg g (hn g hm').1 (hn g hm').2.2 rfl
  ·rcases memS x hm' with hm'|hm'
   ·exact p4 x hx hm'
   ·exact(hfn x hm').2.1 hx
  ·rw[Q5]
   refine List.pairwise_append.2 ⟨p5,by simp,λa ha b hb' x hx e=> ?_⟩
   simp only[J6,J7,j3] at hb'
   subst hb'
   subst hx
   exact(hfn x e).2.2 ha

theorem OwnRun.put_field {g n cap:Nat}(h:OwnRun w B m s vv tv lv fv)(t:Nat)(ht:t < s.things.length)(hfv:fv[t]'(by rw[h.count];exact ht)=U (sO ⟨g,0,nO⟩) n cap)(i:Nat)(hi:i < s.things[t].fs.length)(v:Val):
  OwnRun ((w.setCell ⟨g,i * 2,nO⟩ (I Y v.k)).setCell ⟨g,i * 2+1,nO⟩ (I Y v.n)) B m (bT s t i v) vv tv lv fv:=by
 obtain⟨p1,p2,p3,p4,p5⟩:=h.parted
 have htf:t < fv.length:=by rw[h.count];exact ht
 have hgm:sO g∈fv.map j1:=j5.2 ⟨_,gM htf,by rw[hfv];rfl⟩
 have hb:=lw w g (i * 2) (i * 2+1) (I Y v.k) (I Y v.n)
 have am:m≠g:=λe=>p1 g (by simp only[j0];simp only[hgm,or_true]) e.symm
 have bm:=hb m am
 have c:∀j,((w.setCell ⟨g,i * 2,nO⟩ (I Y v.k)).setCell ⟨g,i * 2+1,nO⟩ (I Y v.n)).cell? ⟨m,j,nO⟩=w.cell? ⟨m,j,nO⟩:=λj=>j8 (a:=⟨m,j,nO⟩) bm
 have fz:∀j,((w.setCell ⟨g,i * 2,nO⟩ (I Y v.k)).setCell ⟨g,i * 2+1,nO⟩ (I Y v.n)).frozen? ⟨m,j,nO⟩=w.frozen? ⟨m,j,nO⟩:=λj=>z9 (a:=⟨m,j,nO⟩) bm
 have hfs:=h.fields t ht
 rw[hfv] at hfs
 have hn:n=s.things[t].fs.length:=pa hfs
 have hv0:w.ownsRow B 82 2 (U (sO ⟨g,0,nO⟩) n cap) n (bU s.things[t].fs):=by have:=hfs;unfold ValRow at this;rw[←hn] at this;exact this
 have hv1:=(((hv0.stored (i * 2) (I Y v.k)).1).stored (i * 2+1) (I Y v.n)).1
 rw[nr s.things[t].fs v i hi] at hv1
 have hlen:(s.things.modify t λx=>{x with fs:=x.fs.set i v}).length=s.things.length:=Z1 ..
 have hmap:(s.things.modify t λx=>{x with fs:=x.fs.set i v}).map (·.site)=s.things.map (·.site):=by
  apply List.ext_getElem
  ·simp
  ·intro k h1 h2
   simp only[List.getElem_map,Q3]
   split<;>rfl
 have e0:bT s t i v={s with things:=s.things.modify t λx=>{x with fs:=x.fs.set i v}}:=by simp[bT]
 rw[e0]
 refine⟨h.low,by rw[c];exact h.at_,by rw[c];exact h.vars_,by rw[c];exact h.things_,by rw[c];exact h.taken_,by rw[c];exact h.lines_,by rw[c];exact h.fin_,λj=>by rw[fz];exact h.thaw j,
  aw h.vars (λk hk=>hb k (λe=>p2 k hk (by simp only[j0];rw[e];simp only[hgm,or_true]))),?_,by rw[hlen];exact h.count,λj hj=> ?_,aw h.lines (λk hk=>hb k (λe=>p4 k hk (by rw[e];exact hgm))),h.apart⟩
 ·simp only[hlen,hmap]
  exact aw h.things (λk hk=>hb k (λe=>p3 k hk (by simp only[j0];rw[e];simp only[hgm,or_true])))
 ·have hj':j < s.things.length:=by rw[hlen] at hj;exact hj
  simp only[Q3]
  by_cases htj:t=j
  ·subst htj
   simp only[if_true]
   rw[hfv]
   unfold ValRow
   simp only[Z4]
   rw[←hn]
   exact hv1
  ·simp only[htj,if_false]
   refine aw (h.fields j hj') (λk hk=>hb k (λe=> ?_))
   subst e
   have hjf:j < fv.length:=by rw[h.count];exact hj'
   rw[List.pairwise_iff_getElem] at p5
   rcases Nat.lt_or_gt_of_ne htj with hlt|hlt
   ·exact p5 t j (by simpa using htf) (by simpa using hjf) hlt k (by simp[hfv,j1]) (by simpa using hk)
   ·exact p5 j t (by simpa using hjf) (by simpa using htf) hlt k (by simpa using hk) (by simp[hfv,j1])
end
def ThgsAt (w:World)(s:Option Addr)(l:List Thg):Prop:=
 l=[]∨∃b off,s=sO ⟨b,off,nO⟩∧b < w.heap.size∧∀k (h:k < l.length),w.cell? ⟨b,off+k * 2,nO⟩=sO (I Y l[k].site)∧∃f fc,w.cell? ⟨b,off+k * 2+1,nO⟩=sO (U f l[k].fs.length fc)∧ValsAt w f l[k].fs
def StrsAt (w:World)(s:Option Addr)(l:List ByteArray):Prop:=
 l=[]∨∃b off,s=sO ⟨b,off,nO⟩∧b < w.heap.size∧∀k (h:k < l.length),w.cell? ⟨b,off+k,nO⟩=sO (.string l[k])
theorem ThgsAt.below {B:Nat}{w w':World}{s:Option Addr}{l:List Thg}(h:ThgsAt w s l)(hb:Below B w w')(hB:w.heap.size≤B):ThgsAt w' s l:=by
 rcases h with h|⟨b,off,hs,hlt,hi⟩
 ·exact .inl h
 ·refine .inr ⟨b,off,hs,lL hlt hb.size,λk h=> ?_⟩
  obtain⟨h1,f,fc,h2,h3⟩:=hi k h
  exact⟨by rw[hb.cell (by simp;omega)];exact h1,f,fc,by rw[hb.cell (by simp;omega)];exact h2,h3.below hb hB⟩
theorem StrsAt.below {B:Nat}{w w':World}{s:Option Addr}{l:List ByteArray}(h:StrsAt w s l)(hb:Below B w w')(hB:w.heap.size≤B):StrsAt w' s l:=by
 rcases h with h|⟨b,off,hs,hlt,hi⟩
 ·exact .inl h
 ·exact .inr ⟨b,off,hs,lL hlt hb.size,λk h=>by rw[hb.cell (by simp;omega)];exact hi k h⟩

def RunAt (w:World)(r:St)(vs ts ls:Option Addr):Prop:=ValsAt w vs r.vars∧ThgsAt w ts r.things∧StrsAt w ls r.lines
theorem RunAt.below {B:Nat}{w w':World}{r:St}{vs ts ls:Option Addr}(h:RunAt w r vs ts ls)(hb:Below B w w')(hB:w.heap.size≤B):RunAt w' r vs ts ls:=⟨h.1.below hb hB,h.2.1.below hb hB,h.2.2.below hb hB⟩
def mL (r:St)(vs:Option Addr)(vc:Nat)(ts:Option Addr)(tc:Nat)(ls:Option Addr)(lc:Nat):Value:=
 Ag #[I Y r.at_,U vs r.vars.length vc,U ts r.things.length tc,I Y r.taken,U ls r.lines.length lc,I Y r.fin]
def kD (r:St):Prop:=r.vars.length≤maxLen∧r.things.length≤maxLen∧r.lines.length≤maxLen∧∀t∈r.things,t.fs.length≤maxLen
structure OwnRows (w:World) (B:Nat) (s:St) (vv tv lv:Value) (fv:List Value):Prop where
 vars:ValRow w B vv s.vars
 things:w.ownsRow B 84 2 tv s.things.length (bL (s.things.map (·.site)) fv)
 count:fv.length=s.things.length
 fields:∀i (h:i < s.things.length),ValRow w B (fv[i]'(by rw[count];exact h)) (s.things[i].fs)
 lines:w.ownsRow B 9 1 lv s.lines.length (s.lines.map .string)
 apart:(vv.ownBlock::tv.ownBlock::lv.ownBlock::fv.map j1).Pairwise λa b=>∀x,a=sO x→b≠sO x

section
variable {w w':World} {B m:Nat} {s:St} {vv tv lv:Value} {fv:List Value}

theorem OwnRun.rows (h:OwnRun w B m s vv tv lv fv):OwnRows w B s vv tv lv fv:=
 ⟨h.vars,h.things,h.count,h.fields,h.lines,by have:=h.apart;rw[z6] at this;exact this.2⟩

def dX (vv tv lv:Value)(fv:List Value):List (Option Nat):=vv.ownBlock::tv.ownBlock::lv.ownBlock::fv.map j1

theorem OwnRows.same (h:OwnRows w B s vv tv lv fv)(hb:∀k,sO k∈dX vv tv lv fv→w'.heap[k]? =w.heap[k]?):OwnRows w' B s vv tv lv fv:=
 ⟨aw h.vars (λk hk=>hb k (by simp[dX,hk])),aw h.things (λk hk=>hb k (by simp[dX,hk])),h.count,
  λi hi=>aw (h.fields i hi) (λk hk=>hb k (by
   simp only[dX,j0];right;right;right
   exact j5.2 ⟨_,gM _,hk⟩)),
  aw h.lines (λk hk=>hb k (by simp[dX,hk])),h.apart⟩

theorem OwnRows.lt (h:OwnRows w B s vv tv lv fv){k:Nat}(hk:sO k∈dX vv tv lv fv):k < w.heap.size∧B≤k:=by
 simp only[dX,j0] at hk
 rcases hk with hk|hk|hk|hk
 ·exact aM h.vars hk.symm
 ·exact aM h.things hk.symm
 ·exact aM h.lines hk.symm
 ·obtain⟨x,hx,hxk⟩:=j5.1 hk
  obtain⟨i,hi,rfl⟩:=x7 hx
  exact aM (h.fields i (by rw[←h.count];exact hi)) hxk

theorem OwnRows.below (h:OwnRows w B s vv tv lv fv)(hb:Below w.heap.size w w'):OwnRows w' B s vv tv lv fv:=h.same λk hk=>hb.block k (h.lt hk).1
theorem cC {e:TypeId}{z:Nat}{v:Value}{n:Nat}{xs:List Value}{B':Nat}(h:w.ownsRow B e z v n xs)(hB:B'≤B):w.ownsRow B' e z v n xs:=by
 obtain⟨h1,h2⟩:=h
 refine⟨h1,?_⟩
 rcases h2 with h2|⟨g,cap,cur,hv,hb,r⟩
 ·exact .inl h2
 ·exact .inr ⟨g,cap,cur,hv,lT hB hb,r⟩
theorem OwnRows.down {B':Nat}(h:OwnRows w B s vv tv lv fv)(hB:B'≤B):OwnRows w B' s vv tv lv fv:=
 ⟨cC h.vars hB,cC h.things hB,h.count,λi hi=>cC (h.fields i hi) hB,cC h.lines hB,h.apart⟩

def pM (w:World)(m:Nat)(s:St)(vv tv lv:Value):Prop:=
 (w.cell? ⟨m,0,nO⟩=sO (I Y s.at_)∧w.cell? ⟨m,1,nO⟩=sO vv∧w.cell? ⟨m,2,nO⟩=sO tv∧w.cell? ⟨m,3,nO⟩=sO (I Y s.taken)∧w.cell? ⟨m,4,nO⟩=sO lv∧w.cell? ⟨m,5,nO⟩=sO (I Y s.fin))∧∀j,w.frozen? ⟨m,j,nO⟩=false

theorem OwnRows.run (h:OwnRows w B s vv tv lv fv)(hc:pM w m s vv tv lv){B':Nat}(hB:B'≤B)(hm:B'≤m)(hmB:m < B):OwnRun w B' m s vv tv lv fv:=by
 obtain⟨⟨h0,h1,h2,h3,h4,h5⟩,hz⟩:=hc
 refine⟨hm,h0,h1,h2,h3,h4,h5,hz,cC h.vars hB,cC h.things hB,h.count,λi hi=>cC (h.fields i hi) hB,cC h.lines hB,?_⟩
 rw[z6]
 refine⟨λb hb x hx e=> ?_,h.apart⟩
 cases hx
 have:=(h.lt (k:=m) (by unfold dX;rw[←e];exact hb)).2
 omega
theorem OwnRows.run' (h:OwnRows w B s vv tv lv fv)(hc:pM w m s vv tv lv)(hm:B≤m)(hne:sO m∉dX vv tv lv fv):OwnRun w B m s vv tv lv fv:=by
 obtain⟨⟨h0,h1,h2,h3,h4,h5⟩,hz⟩:=hc
 refine⟨hm,h0,h1,h2,h3,h4,h5,hz,h.vars,h.things,h.count,h.fields,h.lines,?_⟩
 rw[z6]
 refine⟨λb hb x hx e=> ?_,h.apart⟩
 cases hx
 exact hne (by unfold dX;rw[←e];exact hb)

theorem ValRow.at {v:Value}{l:List Val}(h:ValRow w B v l):∃vs vc,v=U vs l.length vc∧ValsAt w vs l:=by
 unfold ValRow at h
 rcases h.2 with⟨hv,hn⟩|⟨g,cap,cur,hv,hb,hg,_⟩
 ·exact⟨nO,0,by rw[hv,hn],.inl (Q6 hn)⟩
 ·subst hv
  refine⟨sO ⟨g,0,nO⟩,cap,rfl,?_⟩
  by_cases h0:l=[]
  ·exact .inl h0
  ·refine .inr ⟨g,0,rfl,(z8.1 hg).1,λk hk=> ?_⟩
   rw[Z5,h.cellAt (k * 2) (by omega),h.cellAt (k * 2+1) (by omega)]
   exact⟨kj l k hk,kH l k hk⟩
theorem StrRow.at {v:Value}{l:List ByteArray}(h:w.ownsRow B 9 1 v l.length (l.map .string)):∃vs vc,v=U vs l.length vc∧StrsAt w vs l:=by
 rcases h.2 with⟨hv,hn⟩|⟨g,cap,cur,hv,hb,hg,_⟩
 ·exact⟨nO,0,by rw[hv,hn],.inl (Q6 hn)⟩
 ·subst hv
  refine⟨sO ⟨g,0,nO⟩,cap,rfl,?_⟩
  by_cases h0:l=[]
  ·exact .inl h0
  ·refine .inr ⟨g,0,rfl,(z8.1 hg).1,λk hk=> ?_⟩
   rw[Z5,h.cellAt k (by omega)]
   simp[hk]
theorem OwnRows.at (h:OwnRows w B s vv tv lv fv):∃vs vc ts tc ls lc,vv=U vs s.vars.length vc∧tv=U ts s.things.length tc∧lv=U ls s.lines.length lc∧RunAt w s vs ts ls:=by
 obtain⟨vs,vc,e1,h1⟩:=ValRow.at h.vars
 obtain⟨ls,lc,e3,h3⟩:=StrRow.at h.lines
 have ht:=h.things
 rcases ht.2 with⟨hv,hn⟩|⟨g,cap,cur,hv,hb,hg,_⟩
 ·exact⟨vs,vc,nO,0,ls,lc,e1,by rw[hv,hn],e3,h1,.inl (Q6 hn),h3⟩
 ·subst hv
  refine⟨vs,vc,sO ⟨g,0,nO⟩,cap,ls,lc,e1,rfl,e3,h1,?_,h3⟩
  by_cases h0:s.things=[]
  ·exact .inl h0
  ·refine .inr ⟨g,0,rfl,(z8.1 hg).1,λk hk=> ?_⟩
   obtain⟨f,fc,e,hf⟩:=ValRow.at (h.fields k hk)
   rw[Z5,ht.cellAt (k * 2) (by omega),ht.cellAt (k * 2+1) (by omega)]
   refine⟨?_,f,fc,?_,hf⟩
   ·rw[gK _ _ (by simp[h.count]) k (by simpa using hk)]
    simp
   ·rw[fu _ _ (by simp[h.count]) k (by rw[h.count];exact hk),e]
theorem OwnRun.thing (h:OwnRun w B m s vv tv lv fv){t:Nat}(ht:t < s.things.length):∃g cap,tv=U (sO ⟨g,0,nO⟩) s.things.length cap∧g < w.heap.size∧w.cell? ⟨g,t * 2,nO⟩=sO (I Y s.things[t].site)∧w.cell? ⟨g,t * 2+1,nO⟩=sO (fv[t]'(by rw[h.count];exact ht))∧B≤g:=by
 have hth:=h.things
 obtain⟨g,cap,rfl,hb,hlt⟩:=hth.form (by omega)
 refine⟨g,cap,rfl,hlt,?_,?_,hb⟩
 ·rw[hth.cellAt (t * 2) (by omega),gK _ _ (by simp[h.count]) t (by simpa using ht)]
  simp
 ·rw[hth.cellAt (t * 2+1) (by omega),fu _ _ (by simp[h.count]) t (by rw[h.count];exact ht)]
theorem OwnRun.field (h:OwnRun w B m s vv tv lv fv){t f:Nat}(ht:t < s.things.length)(hf:f < s.things[t].fs.length):∃g cap,fv[t]'(by rw[h.count];exact ht)=U (sO ⟨g,0,nO⟩) s.things[t].fs.length cap∧g < w.heap.size∧w.cell? ⟨g,f * 2,nO⟩=sO (I Y s.things[t].fs[f].k)∧w.cell? ⟨g,f * 2+1,nO⟩=sO (I Y s.things[t].fs[f].n)∧(∀j,w.frozen? ⟨g,j,nO⟩=false)∧B≤g:=by
 have hfs:=h.fields t ht
 unfold ValRow at hfs
 obtain⟨g,cap,e,hb,hlt⟩:=hfs.form (by omega)
 rw[e] at hfs
 refine⟨g,cap,e,hlt,?_,?_,λj=>hfs.frozenAt j,hb⟩
 ·rw[hfs.cellAt (f * 2) (by omega)];exact kj _ f hf
 ·rw[hfs.cellAt (f * 2+1) (by omega)];exact kH _ f hf
end
def R6 (w:World)(b:Nat)(x0 x1 x2 x3 x4 x5:Value):Prop:=(w.cell? ⟨b,0,nO⟩=sO x0∧w.cell? ⟨b,1,nO⟩=sO x1∧w.cell? ⟨b,2,nO⟩=sO x2∧w.cell? ⟨b,3,nO⟩=sO x3∧w.cell? ⟨b,4,nO⟩=sO x4∧w.cell? ⟨b,5,nO⟩=sO x5)∧b < w.heap.size∧∀j,w.frozen? ⟨b,j,nO⟩=false
abbrev fL (w:World)(b:Nat)(y0 y1 y2 y3 y4 y5:Value):World:=(((((w.setCell ⟨b,0,nO⟩ y0).setCell ⟨b,1,nO⟩ y1).setCell ⟨b,2,nO⟩ y2).setCell ⟨b,3,nO⟩ y3).setCell ⟨b,4,nO⟩ y4).setCell ⟨b,5,nO⟩ y5
section
variable {w w':World} {B b:Nat} {x0 x1 x2 x3 x4 x5:Value}
theorem R6.same (h:R6 w b x0 x1 x2 x3 x4 x5)(hb:w'.heap[b]? =w.heap[b]?)(hz:w.heap.size≤w'.heap.size):R6 w' b x0 x1 x2 x3 x4 x5:=by
 have hc:∀j,w'.cell? ⟨b,j,nO⟩=w.cell? ⟨b,j,nO⟩:=λj=>j8 (a:=⟨b,j,nO⟩) hb
 have hf:∀j,w'.frozen? ⟨b,j,nO⟩=w.frozen? ⟨b,j,nO⟩:=λj=>z9 (a:=⟨b,j,nO⟩) hb
 obtain⟨⟨h0,h1,h2,h3,h4,h5⟩,h6,h7⟩:=h
 exact⟨⟨(hc _).trans h0,(hc _).trans h1,(hc _).trans h2,(hc _).trans h3,(hc _).trans h4,(hc _).trans h5⟩,lL h6 hz,λj=>(hf j).trans (h7 j)⟩
theorem R6.below (h:R6 w b x0 x1 x2 x3 x4 x5)(hb:Below B w w')(hB:b < B):R6 w' b x0 x1 x2 x3 x4 x5:=h.same (hb.block b hB) hb.size
theorem R6.call (h:R6 w b x0 x1 x2 x3 x4 x5)(hb:Below w.heap.size w w'):R6 w' b x0 x1 x2 x3 x4 x5:=h.below hb h.2.1
theorem R6.new (w:World)(t:TypeId)(x0 x1 x2 x3 x4 x5:Value):R6 (w.alloc (Cc #[x0,x1,x2,x3,x4,x5] t)) w.heap.size x0 x1 x2 x3 x4 x5:=by
 refine⟨⟨?_,?_,?_,?_,?_,?_⟩,by simp,λj=> ?_⟩<;>simp[go_sem]
theorem Fm (w:World)(b:Nat)(y0 y1 y2 y3 y4 y5:Value)(k:Nat)(hk:k≠b):(fL w b y0 y1 y2 y3 y4 y5).heap[k]? =w.heap[k]? :=by
 unfold fL
 rw[hSe _ _ _ _ hk,hSe _ _ _ _ hk,hSe _ _ _ _ hk,hSe _ _ _ _ hk,hSe _ _ _ _ hk,hSe _ _ _ _ hk]
theorem Dy (w:World)(b:Nat)(y0 y1 y2 y3 y4 y5:Value):(fL w b y0 y1 y2 y3 y4 y5).heap.size=w.heap.size:=by simp[fL,Q7]
theorem dU {a:World}(h:Below B a w)(hB:B≤b)(y0 y1 y2 y3 y4 y5:Value):Below B a (fL w b y0 y1 y2 y3 y4 y5):=
 (((((h.setCell (p:=⟨b,0,nO⟩) hB _).setCell (p:=⟨b,1,nO⟩) hB _).setCell (p:=⟨b,2,nO⟩) hB _).setCell (p:=⟨b,3,nO⟩) hB _).setCell (p:=⟨b,4,nO⟩) hB _).setCell (p:=⟨b,5,nO⟩) hB _
theorem aS {w:World}{b i j:Nat}(h:i≠j)(y:Value):(w.setCell ⟨b,i,nO⟩ y).cell? ⟨b,j,nO⟩=w.cell? ⟨b,j,nO⟩:=J1 _ _ _ _ (by intro e;cases e;exact h rfl)
theorem fw {w:World}{b j:Nat}{u:Value}(h:w.cell? ⟨b,j,nO⟩=sO u)(y:Value):(w.setCell ⟨b,j,nO⟩ y).cell? ⟨b,j,nO⟩=sO y:=J0 _ _ _ h
theorem R6.put (h:R6 w b x0 x1 x2 x3 x4 x5)(y0 y1 y2 y3 y4 y5:Value):R6 (fL w b y0 y1 y2 y3 y4 y5) b y0 y1 y2 y3 y4 y5:=by
 obtain⟨⟨h0,h1,h2,h3,h4,h5⟩,h6,h7⟩:=h
 refine⟨⟨?_,?_,?_,?_,?_,?_⟩,by rw[Dy];exact h6,λj=>by simp only[fL,x6];exact h7 j⟩
 ·unfold fL
  rw[aS (by omega),aS (by omega),aS (by omega),aS (by omega),aS (by omega)]
  exact fw h0 _
 ·unfold fL
  rw[aS (by omega),aS (by omega),aS (by omega),aS (by omega)]
  exact fw (by rw[aS (by omega)];exact h1) _
 ·unfold fL
  rw[aS (by omega),aS (by omega),aS (by omega)]
  exact fw (by rw[aS (by omega),aS (by omega)];exact h2) _
 ·unfold fL
  rw[aS (by omega),aS (by omega)]
  exact fw (by rw[aS (by omega),aS (by omega),aS (by omega)];exact h3) _
 ·unfold fL
  rw[aS (by omega)]
  exact fw (by rw[aS (by omega),aS (by omega),aS (by omega),aS (by omega)];exact h4) _
 ·unfold fL
  exact fw (by rw[aS (by omega),aS (by omega),aS (by omega),aS (by omega),aS (by omega)];exact h5) _
theorem OwnRun.r6 {s:St}{vv tv lv:Value}{fv:List Value}(h:OwnRun w B b s vv tv lv fv):R6 w b (I Y s.at_) vv tv (I Y s.taken) lv (I Y s.fin):=⟨⟨h.at_,h.vars_,h.things_,h.taken_,h.lines_,h.fin_⟩,h.lt (by simp[ag]),h.thaw⟩
theorem OwnRows.set6 {s:St}{vv tv lv:Value}{fv:List Value}(h:OwnRows w B s vv tv lv fv)(hb:b < B)(y0 y1 y2 y3 y4 y5:Value):OwnRows (fL w b y0 y1 y2 y3 y4 y5) B s vv tv lv fv:=by
 refine h.same λk hk=>Fm _ _ _ _ _ _ _ _ k (λe=> ?_)
 have:=(h.lt hk).2
 omega
theorem rG {v g:Nat}(h8:v≤8)(h:w.ownsRow B 82 2 (U (sO ⟨g,0,nO⟩) v v) v (bU (z1 v ⟨0,0⟩))):OwnRows w B (bj v) (U (sO ⟨g,0,nO⟩) v v) (U nO 0 0) (U nO 0 0) []:=by
 refine⟨?_,X9 _ _ _ _,rfl,λi hi=>by simp[bj] at hi,X9 _ _ _ _,by simp[j1]⟩
 unfold ValRow
 simpa[bj] using h
end
def cu (w:World)(b:Nat):Nat→List Value→World
 |_,[]=>w
 |i,y::ys=>cu (w.setCell ⟨b,i,nO⟩ y) b (i+1) ys
theorem pV (b k:Nat)(hk:k≠b):∀(ys:List Value) (i:Nat) (w:World),(cu w b i ys).heap[k]? =w.heap[k]?
 |[],_,_=>rfl
 |y::ys,i,w=>by
  show (cu (w.setCell ⟨b,i,nO⟩ y) b (i+1) ys).heap[k]? =_
  rw[pV b k hk ys (i+1) _,hSe _ _ _ _ hk]
theorem uo (b:Nat):∀(ys:List Value) (i:Nat) (w:World),(cu w b i ys).heap.size=w.heap.size
 |[],_,_=>rfl
 |y::ys,i,w=>by
  show (cu (w.setCell ⟨b,i,nO⟩ y) b (i+1) ys).heap.size=_
  rw[uo b ys (i+1) _]
  simp[Q7]
theorem pi (b j:Nat):∀(ys:List Value) (i:Nat) (w:World),(cu w b i ys).frozen? ⟨b,j,nO⟩=w.frozen? ⟨b,j,nO⟩
 |[],_,_=>rfl
 |y::ys,i,w=>by
  show (cu (w.setCell ⟨b,i,nO⟩ y) b (i+1) ys).frozen? _=_
  rw[pi b j ys (i+1) _,x6]
theorem mr {B:Nat}{a:World}(b:Nat)(hB:B≤b):∀(ys:List Value) (i:Nat) (w:World),Below B a w→Below B a (cu w b i ys)
 |[],_,_,h=>h
 |y::ys,i,w,h=>mr b hB ys (i+1) _ (h.setCell (p:=⟨b,i,nO⟩) hB y)
theorem vP (b j:Nat):∀(ys:List Value) (i:Nat) (w:World),j < i→(cu w b i ys).cell? ⟨b,j,nO⟩=w.cell? ⟨b,j,nO⟩
 |[],_,_,_=>rfl
 |y::ys,i,w,h=>by
  show (cu (w.setCell ⟨b,i,nO⟩ y) b (i+1) ys).cell? _=_
  rw[vP b j ys (i+1) _ (by omega),aS (by omega)]
theorem uy (b:Nat):∀(ys:List Value) (i:Nat) (w:World) (_:∀j,j < i+ys.length→(w.cell? ⟨b,j,nO⟩).isSome=true) (j:Nat) (hj:j < ys.length),(cu w b i ys).cell? ⟨b,i+j,nO⟩=sO ys[j]
 |[],_,_,_,_,hj=>by simp at hj
 |y::ys,i,w,h,j,hj=>by
  show (cu (w.setCell ⟨b,i,nO⟩ y) b (i+1) ys).cell? _=_
  have hs:∀j,j < i+1+ys.length→((w.setCell ⟨b,i,nO⟩ y).cell? ⟨b,j,nO⟩).isSome=true:=λj hj=>by
   have hw:=h j (by simp;omega)
   by_cases e:i=j
   ·subst e
    obtain⟨u,hu⟩:=Qa.1 hw
    rw[fw hu]
    rfl
   ·rw[aS e]
    exact hw
  cases j with
  |zero=>
   show (cu (w.setCell ⟨b,i,nO⟩ y) b (i+1) ys).cell? ⟨b,i,nO⟩=_
   rw[vP b i ys (i+1) _ (by omega)]
   obtain⟨u,hu⟩:=Qa.1 (h i (by simp))
   rw[fw hu]
   rfl
  |succ j=>
   have:=uy b ys (i+1) (w.setCell ⟨b,i,nO⟩ y) hs j (by simpa using hj)
   rw[show i+1+j=i+(j+1) by omega] at this
   exact this
end
section
open Go
section
variable {P:Program} {ops:Array Oper} {Q:Exit→Act→World→Prop} {md:Region.Mode} {S:World→Prop} {zs:List Nat}

def cx (P:Program)(md:Region.Mode)(ops:Array Oper)(Q:Exit→Act→World→Prop)(S:World→Prop)(zs:List Nat):Nat→Array Bool→Act→World→Prop
 |0,listed,a,w=>Region.ready md ops listed=[]∧Q .normal a w
 |fuel+1,listed,a,w=>
  (Region.ready md ops listed=[]→Q .normal a w)∧
  ∀i∈Region.ready md ops listed,wpOp P ops Q i (λa' w'=>(i∉zs→S w→S w')∧cx P md ops Q S zs fuel (listed.setIfInBounds i true) a' w') a w

theorem me:∀(fuel:Nat) (listed:Array Bool) (a:Act) (w:World),cx P md ops Q S zs fuel listed a w→wpAny P md ops Q fuel listed a w
 |0,_,_,_,h=>h
 |fuel+1,_,_,_,h=>⟨h.1,λi hi=>wpOp_mono (λa' w' h'=>me fuel _ a' w' h'.2) (h.2 i hi)⟩

def tF (md:Region.Mode)(ops:Array Oper)(i:Nat):Nat→List Nat→List Nat
 |0,ws=>ws
 |n+1,ws=>tF md ops i n ((List.range ops.size).filter λx=>((ops[x]?).map λo=>o.after.any λe=>Region.binds md e&&(e.on==i||ws.contains e.on)).getD false)
def At (md:Region.Mode)(ops:Array Oper)(listed:Array Bool)(i:Nat)(ws:List Nat):Bool:=
 ws.all λx=> !(listed.getD x true)&&((ops[x]?).map λo=>o.after.any λe=>Region.binds md e&&(e.on==i||ws.contains e.on)).getD false
def zOk (md:Region.Mode)(ops:Array Oper)(listed:Array Bool)(i:Nat)(zs:List Nat):Bool:=
 !zs.contains i&&(let ws:=tF md ops i 8 [];At md ops listed i ws&&zs.all λz=>listed.getD z true||ws.contains z)

theorem wP {i:Nat}{oi:Oper}{v:Value}(hi:ops[i]? =sO oi)(hsel:∀(j:Nat) (o:Oper) cs b,ops[j]? =sO o→o.op≠.select cs b)
  (hQ:∀c a w,Q (.panic c) (a.put oi.dst v) w→Q (.panic c) a w)(hiz:i∉zs)(ws:List Nat)
  (hws:∀x∈ws,∀o,ops[x]? =sO o→∃e∈o.after,Region.binds md e=true∧(e.on=i∨e.on∈ws)):
  ∀(fuel:Nat) (listed:Array Bool) (a:Act) (w:World),
   (∀j oj,ops[j]? =sO oj→j≠i→listed.getD j true=false→(∀e∈oj.after,Region.binds md e=true→e.on≠i)→oi.apart ops oj=true)→
   (∀x∈ws,listed.getD x true=false)→(∀z∈zs,listed.getD z true=true∨z∈ws)→
   i∈Region.ready md ops listed→YieldsIf P ops S oi v a→S w→
   cx P md ops Q S zs fuel (listed.setIfInBounds i true) (a.put oi.dst v) w→cx P md ops Q S zs (fuel+1) listed a w:=by
 intro fuel
 induction fuel with
 |zero=>
  intro listed a w _ _ _ hr hy hS H
  refine⟨λh=>(by rw[h] at hr;cases hr),λj hj=> ?_⟩
  by_cases hji:j=i
  ·subst hji;exact hy.wpOp hi hS ⟨λ_ _=>hS,H⟩
  ·have:=ready_mono hj hji
   rw[H.1] at this
   cases this
 |succ fuel ih=>
  intro listed a w hfree hun hzs hr hy hS H
  refine⟨λh=>(by rw[h] at hr;cases hr),λj hj=> ?_⟩
  by_cases hji:j=i
  ·subst hji;exact hy.wpOp hi hS ⟨λ_ _=>hS,H⟩
  ·have h1:=H.2 j (ready_mono hj hji)
   obtain⟨hjun,oj,hoj,hall⟩:=mem_ready.1 hj
   have h0:=(mem_ready.1 hr).1
   have hf:∀x,listed.getD x true=false→listed.getD x false=false:=λx hx=>by
    rcases Nat.lt_or_ge x listed.size with h'|h'
    ·simp[h'] at hx ⊢;exact hx
    ·simp[Array.getElem?_eq_none h'] at hx
   have hjw:j∉ws:=λhj'=>by
    obtain⟨e,he,hb,hon⟩:=hws j hj' oj hoj
    have h2:=hall e he hb
    rcases hon with hon|hon
    ·rw[hon,hf i h0] at h2;cases h2
    ·rw[hf _ (hun _ hon)] at h2;cases h2
   have hjz:j∉zs:=λhj'=>by
    rcases hzs j hj' with h|h
    ·rw[h] at hjun;cases hjun
    ·exact hjw h
   have hnot:∀e∈oj.after,Region.binds md e=true→e.on≠i:=λe he hb heq=>by
    have h2:=hall e he hb
    rw[heq,hf i h0] at h2
    cases h2
   have h2:=wpOp_putIf hoj (hfree j oj hoj hji hjun hnot) (λcs b=>hsel i oi cs b hi) (λcs b=>hsel j oj cs b hoj) hQ hy h1
   have hset:∀k,(listed.setIfInBounds j true).getD k true=false→listed.getD k true=false:=λk hk=>by
    by_cases hjk:j=k
    ·subst hjk;exact hjun
    ·rw[getD_set_ne true hjk] at hk;exact hk
   have hfree':∀k ok,ops[k]? =sO ok→k≠i→(listed.setIfInBounds j true).getD k true=false→
     (∀e∈ok.after,Region.binds md e=true→e.on≠i)→oi.apart ops ok=true:=λk ok hk hki hun' hno=>hfree k ok hk hki (hset k hun') hno
   refine wpOp_mono (λa' w' h3=>⟨h3.2.1,ih (listed.setIfInBounds j true) a' w' hfree' (λx hx=> ?_) (λz hz=> ?_) (ready_mono hr (Ne.symm hji)) h3.1 (h3.2.1 hjz hS) ?_⟩) h2
   ·rw[getD_set_ne true (λe=>hjw (by rw[e];exact hx))];exact hun x hx
   ·rcases hzs z hz with h|h
    ·left
     by_cases hjk:j=z
     ·exact absurd (hjk ▸ hz) hjz
     ·rw[getD_set_ne true hjk];exact h
    ·exact .inr h
   ·rw[Array.setIfInBounds_comm _ _ hji]
    exact h3.2.2

theorem yC {i:Nat}{oi:Oper}{v:Value}(hi:ops[i]? =sO oi)(hsel:∀(j:Nat) (o:Oper) cs b,ops[j]? =sO o→o.op≠.select cs b)
  (hQ:∀c a w,Q (.panic c) (a.put oi.dst v) w→Q (.panic c) a w):
  ∀(fuel:Nat) (listed:Array Bool) (a:Act) (w:World),
   (∀j oj,ops[j]? =sO oj→j≠i→listed.getD j true=false→(∀e∈oj.after,Region.binds md e=true→e.on≠i)→oi.apart ops oj=true)→
   i∈Region.ready md ops listed→YieldsIf P ops (λ_=>True) oi v a→
   cx P md ops Q S zs fuel (listed.setIfInBounds i true) (a.put oi.dst v) w→cx P md ops Q S zs (fuel+1) listed a w:=by
 intro fuel
 induction fuel with
 |zero=>
  intro listed a w _ hr hy H
  refine⟨λh=>(by rw[h] at hr;cases hr),λj hj=> ?_⟩
  by_cases hji:j=i
  ·subst hji;exact hy.wpOp hi trivial ⟨λ_ h=>h,H⟩
  ·have:=ready_mono hj hji
   rw[H.1] at this
   cases this
 |succ fuel ih=>
  intro listed a w hfree hr hy H
  refine⟨λh=>(by rw[h] at hr;cases hr),λj hj=> ?_⟩
  by_cases hji:j=i
  ·subst hji;exact hy.wpOp hi trivial ⟨λ_ h=>h,H⟩
  ·have h1:=H.2 j (ready_mono hj hji)
   obtain⟨hjun,oj,hoj,hall⟩:=mem_ready.1 hj
   have h0:=(mem_ready.1 hr).1
   have hf:∀x,listed.getD x true=false→listed.getD x false=false:=λx hx=>by
    rcases Nat.lt_or_ge x listed.size with h'|h'
    ·simp[h'] at hx ⊢;exact hx
    ·simp[Array.getElem?_eq_none h'] at hx
   have hnot:∀e∈oj.after,Region.binds md e=true→e.on≠i:=λe he hb heq=>by
    have h2:=hall e he hb
    rw[heq,hf i h0] at h2
    cases h2
   have h2:=wpOp_putIf hoj (hfree j oj hoj hji hjun hnot) (λcs b=>hsel i oi cs b hi) (λcs b=>hsel j oj cs b hoj) hQ hy h1
   have hset:∀k,(listed.setIfInBounds j true).getD k true=false→listed.getD k true=false:=λk hk=>by
    by_cases hjk:j=k
    ·subst hjk;exact hjun
    ·rw[getD_set_ne true hjk] at hk;exact hk
   have hfree':∀k ok,ops[k]? =sO ok→k≠i→(listed.setIfInBounds j true).getD k true=false→
     (∀e∈ok.after,Region.binds md e=true→e.on≠i)→oi.apart ops ok=true:=λk ok hk hki hun' hno=>hfree k ok hk hki (hset k hun') hno
   refine wpOp_mono (λa' w' h3=>⟨h3.2.1,ih (listed.setIfInBounds j true) a' w' hfree' (ready_mono hr (Ne.symm hji)) h3.1 ?_⟩) h2
   rw[Array.setIfInBounds_comm _ _ hji]
   exact h3.2.2
theorem Al {i:Nat}{oi:Oper}{v:Value}{fuel:Nat}{listed:Array Bool}{a:Act}{w:World}(hi:ops[i]? =sO oi)
  (hs:Region.noSelect ops=true)(hf:Region.free md ops listed i=true)(hr:(Region.ready md ops listed).contains i=true)
  (hQ:∀c a w,Q (.panic c) (a.put oi.dst v) w→Q (.panic c) a w)(hy:YieldsIf P ops (λ_=>True) oi v a)
  (h:cx P md ops Q S zs fuel (listed.setIfInBounds i true) (a.put oi.dst v) w):cx P md ops Q S zs (fuel+1) listed a w:=
 yC hi (Region.noSelect_spec hs) hQ fuel listed a w (Region.free_spec hi hf) (by simpa using hr) hy h

theorem iS {i:Nat}{oi:Oper}{v:Value}{fuel:Nat}{listed:Array Bool}{a:Act}{w:World}(hi:ops[i]? =sO oi)
  (hs:Region.noSelect ops=true)(hf:(Region.free md ops listed i&&zOk md ops listed i zs)=true)(hr:(Region.ready md ops listed).contains i=true)
  (hQ:∀c a w,Q (.panic c) (a.put oi.dst v) w→Q (.panic c) a w)(hy:YieldsIf P ops S oi v a)(hS:S w)
  (h:cx P md ops Q S zs fuel (listed.setIfInBounds i true) (a.put oi.dst v) w):cx P md ops Q S zs (fuel+1) listed a w:=by
 rw[j2] at hf
 obtain⟨hf,hz⟩:=hf
 simp only[zOk,j2,At,J4,z5,z4] at hz
 obtain⟨hz1,hz2,hz3⟩:=hz
 refine wP hi (Region.noSelect_spec hs) hQ (by simpa using hz1) (tF md ops i 8 []) (λx hx o ho=> ?_) fuel listed a w (Region.free_spec hi hf) (λx hx=>(hz2 x hx).1) (λz hz=> ?_) (by simpa using hr) hy hS h
 ·have:=(hz2 x hx).2
  rw[ho] at this
  simp only[Option.map_some,Q2,Array.any_eq_true,j2,z4,beq_iff_eq] at this
  obtain⟨k,hk,hb,hon⟩:=this
  exact⟨_,Array.getElem_mem hk,hb,hon.imp id (by simp)⟩
 ·rcases hz3 z hz with h|h
  ·exact .inl h
  ·exact .inr (by simpa using h)

theorem aq {listed:Array Bool}{a:Act}{w:World}(hr:Region.ready md ops listed=[])(h:Q .normal a w):
  ∀fuel,cx P md ops Q S zs fuel listed a w
 |0=>⟨hr,h⟩
 |_+1=>⟨λ_=>h,by rw[hr];simp⟩

theorem an {i:Nat}{o:Oper}{fuel:Nat}{listed:Array Bool}{a:Act}{w:World}(ho:ops[i]? =sO o)(hr:Region.ready md ops listed=[i])
  (h:∀K':Act→World→Prop,Shut (∀a w,S w→(S w→cx P md ops Q S zs fuel (listed.setIfInBounds i true) a w)→K' a w)→if Region.wanted o (yielded ops a.tmps)=true then Oper.wp P o a w K' Q else K' (a.put o.dst undef) w):
  cx P md ops Q S zs (fuel+1) listed a w:=by
 refine⟨λh0=>(by rw[hr] at h0;cases h0),λj hj=> ?_⟩
 rw[hr] at hj
 obtain rfl:j=i:=by simpa using hj
 exact wpOp_step ho (λK' hK=>h K' (λa w hS hW=>hK a w ⟨λ_ _=>hS,hW hS⟩))
theorem mS {i j:Nat}{oi oj:Oper}{fuel:Nat}{listed:Array Bool}{a:Act}{w:World}(hoi:ops[i]? =sO oi)(hoj:ops[j]? =sO oj)(hr:Region.ready md ops listed=[i,j])
  (h:∀K':Act→World→Prop,Shut (∀a w,S w→(S w→cx P md ops Q S zs fuel (listed.setIfInBounds i true) a w)→K' a w)→if Region.wanted oi (yielded ops a.tmps)=true then Oper.wp P oi a w K' Q else K' (a.put oi.dst undef) w)
  (h':∀K':Act→World→Prop,Shut (∀a w,S w→(S w→cx P md ops Q S zs fuel (listed.setIfInBounds j true) a w)→K' a w)→if Region.wanted oj (yielded ops a.tmps)=true then Oper.wp P oj a w K' Q else K' (a.put oj.dst undef) w):
  cx P md ops Q S zs (fuel+1) listed a w:=by
 refine⟨λh0=>(by rw[hr] at h0;cases h0),λk hk=> ?_⟩
 rw[hr] at hk
 rcases j0.1 hk with rfl|hk
 ·exact wpOp_step hoi (λK' hK=>h K' (λa w hS hW=>hK a w ⟨λ_ _=>hS,hW hS⟩))
 ·obtain rfl:k=j:=by simpa using hk
  exact wpOp_step hoj (λK' hK=>h' K' (λa w hS hW=>hK a w ⟨λ_ _=>hS,hW hS⟩))
theorem tz {o:Oper}{a:Act}{K:Act→World→Prop}{w:World}{E:Prop}(hg:o.guard=nO)(l c:Operand)(t:TypeId)(hop:o.op=Op.makeSlice t l c)
  (base:Nat)(e:TypeId)(i:TypeInfo)(z:Value)(size:Nat)(h1:P.underlying t=sO (.slice e))(h2:P.info? e=sO i)(h3:i.zero=sO z)(h4:i.size=size)
  (kl kc:IntKind)(L C:Int)(n:Nat)(hl:a.eval l=.int kl L)(hc:a.eval c=.int kc C)(hL:L=(n:Int))(hC:C=(n:Int))(b2:i.bytes * n≤281474976710656)(b3:n≤maxLen)(b4:base≤w.heap.size)
  (hK:∀w',w'.ownsRow base e size (U (sO ⟨w.heap.size,0,nO⟩) n n) n (madeCells z.cells (n * size)).toList→w.grownBy w' none→K (a.put o.dst (U (sO ⟨w.heap.size,0,nO⟩) n n)) w'):
  if Region.wanted o (yielded ops a.tmps)=true then Oper.wp P o a w K Q else E:=by
 have hw:Region.wanted o (yielded ops a.tmps)=true:=by simp[Region.wanted,hg]
 rw[if_pos hw]
 obtain⟨w',hrun,r1,r2⟩:=run_make_full (P:=P) w base t e i z size h1 h2 h3 h4 kl kc n b2 b3 b4
 subst hL
 subst hC
 unfold Oper.wp
 simp[execOp,hop,hl,hc,hrun,Result.andThen]
 exact hK w' r1 r2
theorem aL {i:Nat}{o:Oper}{fuel:Nat}{listed:Array Bool}{a:Act}{w:World}(ho:ops[i]? =sO o)(hr:Region.ready md ops listed=[i])(hz:zs.contains i=true)
  (h:∀K':Act→World→Prop,Shut (∀a w,cx P md ops Q S zs fuel (listed.setIfInBounds i true) a w→K' a w)→if Region.wanted o (yielded ops a.tmps)=true then Oper.wp P o a w K' Q else K' (a.put o.dst undef) w):
  cx P md ops Q S zs (fuel+1) listed a w:=by
 refine⟨λh0=>(by rw[hr] at h0;cases h0),λj hj=> ?_⟩
 rw[hr] at hj
 obtain rfl:j=i:=by simpa using hj
 exact wpOp_step ho (λK' hK=>h K' (λa w hW=>hK a w ⟨λhn=>absurd (by simpa using hz) hn,hW⟩))

theorem au {id:Nat}{a:Act}{w:World}(zs:List Nat)(hm:P.follows .mixedOrders=true)(hS:S w.drew)
  (h:S w.drew→cx P .any ops Q S zs ops.size (Array.replicate ops.size false) a w.drew):(Code.region id ops true).wp P Q a w:=
 wp_region_any hm (me _ _ _ _ (h hS))
end
theorem sm {p q:Prop}(h:q)(e:q→p:=by(intro h;(try simp only[Act.put,List.getElem_toArray,List.getElem_cons_zero,List.getElem_cons_succ,List.setIfInBounds_toArray,List.set_cons_zero,List.set_cons_succ]);exact h)):p:=e h
section
variable {P:Program} {ops:Array Oper} {Q:Exit→Act→World→Prop} {md:Region.Mode} {S:World→Prop} {zs:List Nat}
theorem tZ (i:Nat){oi:Oper}(v:Value){fuel:Nat}{listed:Array Bool}{a:Act}{w:World}
  (h:cx P md ops Q S zs fuel (listed.setIfInBounds i true) (a.put oi.dst v) w)(hi:ops[i]? =some oi:=by rfl)(hy:∀w,S w→(execOp a.eval oi).run P w=.ok (.value v) w:=by(intro w hSw;(try dsimp only at hSw);first|(go_simp;done)|(go_simp;with_reducible rfl)))
  (hs:Region.noSelect ops=true:=by kernel_rfl)(hf:(Region.free md ops listed i&&zOk md ops listed i zs)=true:=by kernel_rfl)(hr:(Region.ready md ops listed).contains i=true:=by kernel_rfl)
  (hQ:∀c a w,Q (.panic c) (a.put oi.dst v) w→Q (.panic c) a w:=by exact λ_ _ _ h=>h)(hw:Region.wanted oi (yielded ops a.tmps)=true:=by rfl)(hS:S w:=by assumption):cx P md ops Q S zs (fuel+1) listed a w:=
 iS hi hs hf hr hQ (.inl ⟨hw,hy⟩) hS h
theorem tH (i:Nat){oi:Oper}(v:Value){fuel:Nat}{listed:Array Bool}{a:Act}{w:World}
  (h:wpAnyH P md ops Q S fuel (listed.setIfInBounds i true) (a.put oi.dst v) w)(hi:ops[i]? =some oi:=by rfl)(hy:∀w,S w→(execOp a.eval oi).run P w=.ok (.value v) w:=by(intro w hSw;(try dsimp only at hSw);first|(go_simp;done)|(go_simp;with_reducible rfl)))
  (hs:Region.noSelect ops=true:=by kernel_rfl)(hf:Region.free md ops listed i=true:=by kernel_rfl)(hr:(Region.ready md ops listed).contains i=true:=by kernel_rfl)
  (hQ:∀c a w,Q (.panic c) (a.put oi.dst v) w→Q (.panic c) a w:=by exact λ_ _ _ h=>h)(hw:Region.wanted oi (yielded ops a.tmps)=true:=by rfl)(hS:S w:=by assumption):wpAnyH P md ops Q S (fuel+1) listed a w:=
 wpAnyH_take hi hs hf hr hQ (.inl ⟨hw,hy⟩) hS h
theorem pZ (i:Nat){oi:Oper}(v:Value){fuel:Nat}{listed:Array Bool}{a:Act}{w:World}
  (h:cx P md ops Q S zs fuel (listed.setIfInBounds i true) (a.put oi.dst v) w)(hi:ops[i]? =some oi:=by rfl)(hy:∀w,True→(execOp a.eval oi).run P w=.ok (.value v) w:=by(intro w _;first|(go_simp;done)|(go_simp;with_reducible rfl)))
  (hs:Region.noSelect ops=true:=by kernel_rfl)(hf:Region.free md ops listed i=true:=by kernel_rfl)(hr:(Region.ready md ops listed).contains i=true:=by kernel_rfl)
  (hQ:∀c a w,Q (.panic c) (a.put oi.dst v) w→Q (.panic c) a w:=by exact λ_ _ _ h=>h)(hw:Region.wanted oi (yielded ops a.tmps)=true:=by rfl):cx P md ops Q S zs (fuel+1) listed a w:=
 Al hi hs hf hr hQ (.inl ⟨hw,hy⟩) h
end
section
variable {P:Program} {ops:Array Oper} {Q:Exit→Act→World→Prop} {md:Region.Mode} {S:World→Prop} {zs:List Nat}
theorem vZ (i:Nat){oi:Oper}(v:Value){fuel:Nat}{listed:Array Bool}{a:Act}{w:World}{q:Prop}
  (h:q)(hi:ops[i]? =some oi:=by rfl)(hy:∀w,S w→(execOp a.eval oi).run P w=.ok (.value v) w:=by(intro w hSw;(try dsimp only at hSw);first|(go_simp;done)|(go_simp;with_reducible rfl)))
  (hs:Region.noSelect ops=true:=by kernel_rfl)(hf:(Region.free md ops listed i&&zOk md ops listed i zs)=true:=by kernel_rfl)(hr:(Region.ready md ops listed).contains i=true:=by kernel_rfl)
  (hQ:∀c a w,Q (.panic c) (a.put oi.dst v) w→Q (.panic c) a w:=by exact λ_ _ _ h=>h)(hw:Region.wanted oi (yielded ops a.tmps)=true:=by rfl)(hS:S w:=by assumption)
  (e:q→cx P md ops Q S zs fuel (listed.setIfInBounds i true) (a.put oi.dst v) w:=by(intro h;(try simp only[Act.put,List.getElem_toArray,List.getElem_cons_zero,List.getElem_cons_succ,List.setIfInBounds_toArray,List.set_cons_zero,List.set_cons_succ]);exact h)):cx P md ops Q S zs (fuel+1) listed a w:=
 iS hi hs hf hr hQ (.inl ⟨hw,hy⟩) hS (e h)
theorem vH (i:Nat){oi:Oper}(v:Value){fuel:Nat}{listed:Array Bool}{a:Act}{w:World}{q:Prop}
  (h:q)(hi:ops[i]? =some oi:=by rfl)(hy:∀w,S w→(execOp a.eval oi).run P w=.ok (.value v) w:=by(intro w hSw;(try dsimp only at hSw);first|(go_simp;done)|(go_simp;with_reducible rfl)))
  (hs:Region.noSelect ops=true:=by kernel_rfl)(hf:Region.free md ops listed i=true:=by kernel_rfl)(hr:(Region.ready md ops listed).contains i=true:=by kernel_rfl)
  (hQ:∀c a w,Q (.panic c) (a.put oi.dst v) w→Q (.panic c) a w:=by exact λ_ _ _ h=>h)(hw:Region.wanted oi (yielded ops a.tmps)=true:=by rfl)(hS:S w:=by assumption)
  (e:q→wpAnyH P md ops Q S fuel (listed.setIfInBounds i true) (a.put oi.dst v) w:=by(intro h;(try simp only[Act.put,List.getElem_toArray,List.getElem_cons_zero,List.getElem_cons_succ,List.setIfInBounds_toArray,List.set_cons_zero,List.set_cons_succ]);exact h)):wpAnyH P md ops Q S (fuel+1) listed a w:=
 wpAnyH_take hi hs hf hr hQ (.inl ⟨hw,hy⟩) hS (e h)
end
section
variable {P:Program} (w:World)
theorem tm (t ty:TypeId)(base:Nat)(e:TypeId)(i:TypeInfo)(z:Value)(size bytes:Nat)(ht:P.underlying t=sO (.slice e))(hi:P.info? e=sO i)(hz:i.zero=sO z)
  (hsize:i.size=size)(hby:i.bytes=bytes)(hzs:z.cells.size=size)(hsz:0 < size)
  (v:Value)(n:Nat)(xs:List Value)(hown:w.ownsRow base e size v n xs)
  (ao:Option Addr)(m c:Nat)(news:List Value)(hl:news.length=m * size)(hao:ao=none→m=0)(hnews:∀ad,ao=sO ad→∀j u,news[j]? =sO u→w.cell? (ad.add j)=sO u)(h1:∀u∈news,u.oneCell'=true)
  (h63:n+m≤maxLen)(hbytes:(n+m) * bytes≤140737488355328)(hbase:base≤w.heap.size):
  ∃v' w',(Builtin.append_ #[t,t] ty #[v,U ao m c]).run P w=.ok v' w'∧w'.ownsRow base e size v' (n+m) (xs++news)∧w.grownBy w' v.ownBlock∧(v'.ownBlock=v.ownBlock∨v'.ownBlock=sO w.heap.size):=by
 cases ao with
 |some ad=>
  obtain⟨v',w',hr,h2,h3,_,h5⟩:=run_append_own_at (P:=P) w base t ty e i z size bytes ht hi hz hsize hby hzs hsz v n xs hown ad m c news hl (hnews ad rfl) h1 h63 hbytes hbase
  exact⟨v',w',hr,h2,h3,h5⟩
 |none=>
  obtain rfl:=hao rfl
  obtain rfl:news=[]:=Q6 (by simpa using hl)
  refine⟨v,w,?_,by simpa using hown,⟨rfl,rfl,rfl,lR _,λ_ _ _=>rfl⟩,.inl rfl⟩
  rcases hown.2 with⟨rfl,rfl⟩|⟨g,cap,cur,rfl,_,_,hnc,_⟩
  ·simp[Builtin.append_,run_underlying ht,sizeOf,typeInfo,hi,Builtin.lenOf,Builtin.firstCells]
  ·simp[Builtin.append_,run_underlying ht,sizeOf,typeInfo,hi,Builtin.lenOf,Builtin.firstCells,hnc,storeCells]

theorem m8 {o:Oper}{a:Act}{K:Act→World→Prop}{Q:Exit→Act→World→Prop}(s x:Operand)(t:TypeId)
  (ho:o.op=.call {callee:=.builtin .append,args:=#[s,x],argTypes:=#[t,t]})
  (base:Nat)(e:TypeId)(i:TypeInfo)(z:Value)(size bytes:Nat)(ht:P.underlying t=sO (.slice e))(hi:P.info? e=sO i)(hz:i.zero=sO z)
  (hsize:i.size=size)(hby:i.bytes=bytes)(hzs:z.cells.size=size)(hsz:0 < size)
  (v:Value)(n:Nat)(xs:List Value)(hs:a.eval s=v)(hown:w.ownsRow base e size v n xs)
  (ao:Option Addr)(m c:Nat)(news:List Value)(hx:a.eval x=U ao m c)(hl:news.length=m * size)(hao:ao=none→m=0)(hnews:∀ad,ao=sO ad→∀j u,news[j]? =sO u→w.cell? (ad.add j)=sO u)(h1:∀u∈news,u.oneCell'=true)
  (h63:n+m≤maxLen)(hbytes:(n+m) * bytes≤140737488355328)(hbase:base≤w.heap.size)
  (h:∀v' w',w'.ownsRow base e size v' (n+m) (xs++news)→w.grownBy w' v.ownBlock→(v'.ownBlock=v.ownBlock∨v'.ownBlock=sO w.heap.size)→K (a.put o.dst v') w'):o.wp P a w K Q:=by
 obtain⟨v',w',hr,h2,h3,h4⟩:=tm (P:=P) w t o.type base e i z size bytes ht hi hz hsize hby hzs hsz v n xs hown ao m c news hl hao hnews h1 h63 hbytes hbase
 unfold Oper.wp execOp
 simp only[ho,resolve,invoke,builtin,Sem.run_bind,Sem.run_pure,Result.andThen_ok,List.map_toArray,J6,J7,hs,hx,hr]
 exact h v' w' h2 h3 h4

theorem cj {ops:Array Oper}{rest:List Oper}{o:Oper}{a:Act}{Q:Exit→Act→World→Prop}(hgd:o.guard=nO)(s x:Operand)(t:TypeId)
  (ho:o.op=.call {callee:=.builtin .append,args:=#[s,x],argTypes:=#[t,t]})
  (base:Nat)(e:TypeId)(i:TypeInfo)(z:Value)(size bytes:Nat)(ht:P.underlying t=sO (.slice e))(hi:P.info? e=sO i)(hz:i.zero=sO z)
  (hsize:i.size=size)(hby:i.bytes=bytes)(hzs:z.cells.size=size)(hsz:0 < size)
  (v:Value)(n:Nat)(xs:List Value)(hs:a.eval s=v)(hown:w.ownsRow base e size v n xs)
  (ao:Option Addr)(m c:Nat)(news:List Value)(hx:a.eval x=U ao m c)(hl:news.length=m * size)(hao:ao=none→m=0)(hnews:∀ad,ao=sO ad→∀j u,news[j]? =sO u→w.cell? (ad.add j)=sO u)(h1:∀u∈news,u.oneCell'=true)
  (h63:n+m≤maxLen)(hbytes:(n+m) * bytes≤140737488355328)(hbase:base≤w.heap.size)
  (h:∀v' w',w'.ownsRow base e size v' (n+m) (xs++news)→w.grownBy w' v.ownBlock→(v'.ownBlock=v.ownBlock∨v'.ownBlock=sO w.heap.size)→wpList P ops Q rest (a.put o.dst v') w'):wpList P ops Q (o::rest) a w:=
 wpList_plain hgd λ_ hK=>m8 w s x t ho base e i z size bytes ht hi hz hsize hby hzs hsz v n xs hs hown ao m c news hx hl hao hnews h1 h63 hbytes hbase λv' w' h2 h3 h4=>hK _ _ (h v' w' h2 h3 h4)

theorem iq {ops:Array Oper}{o:Oper}{a:Act}{K:Act→World→Prop}{Q:Exit→Act→World→Prop}{E:Prop}(hgd:o.guard=nO)(s x:Operand)(t:TypeId)
  (ho:o.op=.call {callee:=.builtin .append,args:=#[s,x],argTypes:=#[t,t]})
  (base:Nat)(e:TypeId)(i:TypeInfo)(z:Value)(size bytes:Nat)(ht:P.underlying t=sO (.slice e))(hi:P.info? e=sO i)(hz:i.zero=sO z)
  (hsize:i.size=size)(hby:i.bytes=bytes)(hzs:z.cells.size=size)(hsz:0 < size)
  (v:Value)(n:Nat)(xs:List Value)(hs:a.eval s=v)(hown:w.ownsRow base e size v n xs)
  (ao:Option Addr)(m c:Nat)(news:List Value)(hx:a.eval x=U ao m c)(hl:news.length=m * size)(hao:ao=none→m=0)(hnews:∀ad,ao=sO ad→∀j u,news[j]? =sO u→w.cell? (ad.add j)=sO u)(h1:∀u∈news,u.oneCell'=true)
  (h63:n+m≤maxLen)(hbytes:(n+m) * bytes≤140737488355328)(hbase:base≤w.heap.size)
  (h:∀v' w',w'.ownsRow base e size v' (n+m) (xs++news)→w.grownBy w' v.ownBlock→(v'.ownBlock=v.ownBlock∨v'.ownBlock=sO w.heap.size)→K (a.put o.dst v') w'):
  if Region.wanted o (yielded ops a.tmps)=true then Oper.wp P o a w K Q else E:=by
 have hw:Region.wanted o (yielded ops a.tmps)=true:=by simp[Region.wanted,hgd]
 rw[if_pos hw]
 exact m8 w s x t ho base e i z size bytes ht hi hz hsize hby hzs hsz v n xs hs hown ao m c news hx hl hao hnews h1 h63 hbytes hbase h
end
section
variable {P:Program} {ops:Array Oper} {Q:Exit→Act→World→Prop} {md:Region.Mode} {l m:Nat}
def tC (ops:Array Oper):Prop:=∀o∈ops,∀c,o.op≠.defer c
theorem Dm {row:String}{args:Array Value}{w:World}{R:Value→World→Prop}(h:Rows P row args w R):RowsIn Fence.wide m P row args w R:=λc cs _=>by
 obtain⟨v,w',hr,hs⟩:=h c cs
 exact⟨v,w',hr,stepsIn_wide.2 hs⟩
theorem wv {i:Nat}{K:Act→World→Prop}{a:Act}{w:World}(hd:∀o,ops[i]? =sO o→∀c,o.op≠.defer c)(hQ:¬LetsOut Q)(h:wpOp P ops Q i K a w):wpOpIn (Fence.wide.inRound l) m P ops Q i K a w:=by
 unfold wpOp at h
 unfold wpOpIn
 cases e:ops[i]? with
 |none=>simpa[e] using h
 |some o=>
  simp only[e] at h ⊢
  by_cases hw:Region.wanted o (yielded ops a.tmps)=true
  ·rw[if_pos hw] at h ⊢
   rcases h with h|⟨_,h⟩
   ·refine⟨λ_ _=>trivial,?_⟩
    rw[show (Fence.wide.inRound l).round=sO l from rfl,Oper.semAt_some l _ o (hd o e)]
    unfold Oper.wp at h
    generalize Sem.run P (execOp a.eval o) w=r at h ⊢
    unfold Oper.upon at h
    unfold Oper.uponIn
    split at h
    ·exact h
    ·exact h
    ·exact h
    ·exact⟨λh=>(by cases h),callsIn_wide.2 h⟩
    ·exact⟨λh=>(by cases h),Dm h⟩
    ·exact h
    ·exact h.elim
   ·exact absurd h hQ
  ·rw[if_neg hw] at h ⊢
   exact⟨λ_ _=>trivial,h⟩
theorem nc (hd:tC ops)(hQ:¬LetsOut Q):∀(fuel:Nat) (listed:Array Bool) (a:Act) (w:World),wpAny P md ops Q fuel listed a w→wpAnyIn (Fence.wide.inRound l) m P md ops Q fuel listed a w
 |0,_,_,_,h=>h
 |fuel+1,_,_,_,h=>⟨h.1,λi hi=>wv (λo ho=>hd o (Array.mem_of_getElem? ho)) hQ (wpOp_mono (λa' w' h'=>nc hd hQ fuel _ a' w' h') (h.2 i hi))⟩
theorem G8 {S:World→Prop}{id:Nat}{a:Act}{w:World}(zs:List Nat)(hm:P.follows .mixedOrders=true)(hd:tC ops)(hQ:¬LetsOut Q)(hS:S w.drew)
  (h:S w.drew→cx P .any ops Q S zs ops.size (Array.replicate ops.size false) a w.drew):(Code.region id ops true).wpIn (Fence.wide.inRound l) m P Q a w:=
 wpIn_region_any hm (nc hd hQ _ _ _ _ (me _ _ _ _ (h hS)))
theorem uh {F:Fence}{d:Code}{K:Act→World→Prop}{a:Act}{w:World}(h:d.wpIn F m P (Exit.then K (λ_ _ _=>False)) a w):d.wpIn F m P (Exit.then K Q) a w:=wpIn_mono h λe a w q=>by
 cases e<;>first|exact q|exact q.elim
theorem IM {K:Act→World→Prop}:¬LetsOut (Exit.then K (λ_ _ _=>False)):=λ⟨_,_,h⟩=>h
end
theorem vo {P:Program}(w:World)(dT sT ty elem:TypeId)(g o dLen dCap:Nat)(a:Addr)(sLen sCap k:Nat)(cur:Array Value)(t:TypeId)(cs:List Value)
  (hu:P.underlying dT=sO (.slice elem))(hs:(P.info? elem).map (·.size)=sO k)
  (hg:w.heap[g]? =sO (Cc cur t (0,0)))(hn:cs.length=Nat.min sLen dLen * k)
  (hsrc:∀j v,cs[j]? =sO v→w.cell? (a.add j)=sO v)(hfit:o+cs.length≤cur.size)(h1:∀v∈cs,v.oneCell'=true):
  (Builtin.copy_ #[dT,sT] ty #[U (sO ⟨g,o,nO⟩) dLen dCap,U (sO a) sLen sCap]).run P w=
   .ok (goInt (Nat.min sLen dLen)) (w.setRow g (cur.toList.take o++cs++cur.toList.drop (o+cs.length)).toArray):=by
 have hl:=run_loadCells_list (P:=P) w a cs hsrc
 have hst:=run_storeCells_at P g o t cs 0 cur w hg (by simpa using hfit) h1
 cases hq:P.info? elem with
 |none=>simp[hq] at hs
 |some i=>
  have hi:i.size=k:=by simpa[hq] using hs
  simp[Builtin.copy_,run_underlying hu,Builtin.lenOf,Builtin.firstCells,sizeOf,typeInfo,hq,hi,←hn,hl,hst]
end
section
theorem mP (c:UInt8):∀l,(cO c l).length≤l.length+1
 |[]=>by simp[cO]
 |b::l=>by
  have ih:=mP c l
  obtain⟨x,r,h⟩:=iL c l
  unfold cO
  rw[h] at ih ⊢
  simp only[z0] at ih ⊢
  split<;>simp only[z0]<;>omega
theorem gU (c:UInt8)(x y:List UInt8)(r:List (List UInt8)):fR c (x::y::r)=x++c::fR c (y::r):=by simp[fR]
theorem la (c:UInt8):∀(ls:List (List UInt8)) (x:List UInt8),x∈ls→x.length≤(fR c ls).length
 |[],x,h=>by cases h
 |[y],x,h=>by simp at h;subst h;simp[fR]
 |y::z::r,x,h=>by
  rw[gU]
  rcases j0.1 h with rfl|h
  ·simp
  ·have:=la c (z::r) x h
   simp
   omega
theorem nM (c:UInt8):∀(ls:List (List UInt8)) (k:Nat),(fR c (ls.drop k)).length≤(fR c ls).length
 |ls,0=>by simp
 |[],k+1=>by simp
 |[y],k+1=>by simp[fR]
 |y::z::r,k+1=>by
  have:=nM c (z::r) k
  rw[List.drop_succ_cons,gU]
  simp at this ⊢
  omega
def txB (ls:List (List UInt8))(k:Nat):ByteArray:=⟨(fR 10 (ls.drop k)).toArray⟩
def lnB (ls:List (List UInt8))(k:Nat):ByteArray:=⟨(ls.getD k []).toArray⟩
theorem fk (ls:List (List UInt8))(k:Nat):(txB ls k).data.toList=fR 10 (ls.drop k):=by simp[txB]
theorem dF (ls:List (List UInt8))(k:Nat):(lnB ls k).data.toList=ls.getD k []:=by simp[lnB]
theorem kV {ls:List (List UInt8)}{k:Nat}(h:k < ls.length):ls.getD k []=ls[k]:=by simp[j4,j7 h]
theorem sS {ls:List (List UInt8)}{k:Nat}(h:k+1 < ls.length)(hf:∀x∈ls,(10:UInt8)∉x):Lib.cut (txB ls k).data.toList [10]=((lnB ls k).data.toList,(txB ls (k+1)).data.toList,true):=by
 rw[fk,fk,dF,kV (by omega:k < ls.length),z7 (by omega:k < ls.length),z7 h,gU]
 exact As 10 _ _ (hf _ (gM _))
theorem Ay {ls:List (List UInt8)}{k:Nat}(h:k+1=ls.length)(hf:∀x∈ls,(10:UInt8)∉x):Lib.cut (txB ls k).data.toList [10]=((lnB ls k).data.toList,(⟨#[]⟩:ByteArray).data.toList,false):=by
 rw[fk,dF,kV (by omega:k < ls.length),z7 (by omega:k < ls.length),Qb (by omega)]
 simp only[fR,List.flatMap_nil,List.append_nil]
 exact EU 10 _ (hf _ (gM _))
theorem Bd {ls:List (List UInt8)}{k:Nat}(h:k+1 < ls.length):txB ls k≠⟨#[]⟩:=by
 intro e
 have h2:(txB ls k).data.toList=[]:=by rw[e]
 rw[fk,z7 (by omega:k < ls.length),z7 h,gU] at h2
 simp at h2
theorem DT {ls:List (List UInt8)}{k:Nat}(h:k+1=ls.length):(txB ls k).data.toList=ls.getD k []:=by
 rw[fk,kV (by omega:k < ls.length),z7 (by omega:k < ls.length),Qb (by omega)]
 simp[fR]
theorem AC:∀{ls:List (List UInt8)} {m:Nat} {c:List Ins},it m ls=.ok c→ls.length=c.length+1∧ls.getD c.length []=[]∧∀k (h:k < c.length),gr (ls.getD k [])=sO c[k]
 |[],_,_,h=>by cases h
 |[x],m,c,h=>by
  unfold it at h
  split at h
  ·rename_i e
   cases h
   exact⟨rfl,by rw[e];rfl,λk h=>by cases h⟩
  ·cases h
 |x::y::r,m,c,h=>by
  unfold it at h
  split at h
  ·cases h
  ·rename_i i hi
   split at h
   ·cases h
   ·rename_i c' hc
    cases h
    obtain⟨h1,h2,h3⟩:=AC hc
    refine⟨by simp only[z0] at h1 ⊢;omega,?_,?_⟩
    ·simpa using h2
    ·intro k hk
     cases k with
     |zero=>simpa using hi
     |succ k=>simpa using h3 k (by simpa using hk)
theorem ww:∀{ls:List (List UInt8)} {m e:Nat},ls≠[]→it m ls=.error e→∃n,e=m+n∧n < ls.length∧(∀k,k < n→∃i,gr (ls.getD k [])=sO i)∧((n+1=ls.length∧ls.getD n []≠[])∨(n+1 < ls.length∧gr (ls.getD n [])=nO))
 |[],_,_,hn,_=>absurd rfl hn
 |[x],m,e,_,h=>by
  unfold it at h
  split at h
  ·cases h
  ·rename_i hx
   cases h
   exact⟨0,rfl,by simp,λk hk=>by omega,.inl ⟨rfl,by simpa using hx⟩⟩
 |x::y::r,m,e,_,h=>by
  unfold it at h
  split at h
  ·rename_i hi
   cases h
   exact⟨0,rfl,by simp,λk hk=>by omega,.inr ⟨by simp,by simpa using hi⟩⟩
  ·rename_i i hi
   split at h
   ·rename_i e' hc
    cases h
    obtain⟨n,h1,h2,h3,h4⟩:=ww (by simp) hc
    refine⟨n+1,by omega,by simp only[z0] at h2 ⊢;omega,?_,?_⟩
    ·intro k hk
     cases k with
     |zero=>exact⟨i,by simpa using hi⟩
     |succ k=>simpa using h3 k (by omega)
    ·rcases h4 with⟨h5,h6⟩|⟨h5,h6⟩
     ·exact .inl ⟨by simp only[z0] at h5 ⊢;omega,by simpa using h6⟩
     ·exact .inr ⟨by simp only[z0] at h5 ⊢;omega,by simpa using h6⟩
   ·cases h
theorem fW {F:Int}{c:List Ins}{ins:List Int}{n:Nat}{r:St}(h:n=0∨r.fin≠0):stepsSt F c ins n r=(r,0):=by
 cases n with
 |zero=>rfl
 |succ n=>unfold stepsSt;rw[if_pos (by rcases h with h|h;exact absurd h (by omega);exact h)]
theorem rq {F:Int}{c:List Ins}{ins:List Int}{n:Nat}{r:St}(h:r.fin=0):stepsSt F c ins (n+1) r=((stepsSt F c ins n (bp F c ins r)).1,(stepsSt F c ins n (bp F c ins r)).2+1):=by
 rw[stepsSt.eq_def]
 simp[h]
theorem yx (F:Int)(ins:List Int)(r:St)(i:Ins)(a b:Val):(bV F ins r i a b).lines.length≤r.lines.length+1:=by
 have h:∀q:St,q.lines.length≤r.lines.length+1→(if nTo i.k then dg q i.tgt (iK r ins i a b) else q).lines.length≤r.lines.length+1:=λq h=>by split<;>exact h
 unfold bV
 simp only
 apply h
 split
 ·simp
 split
 ·simp[bT]
 split
 ·simp
 split
 ·simp
 ·simp
theorem yY (F:Int)(ins:List Int)(r:St)(i:Ins)(a b:Val)(h0:0≤r.taken)(h1:r.taken < 9223372036854775807):(bV F ins r i a b).taken≤r.taken+1:=by
 have h:∀q:St,q.taken≤r.taken+1→(if nTo i.k then dg q i.tgt (iK r ins i a b) else q).taken≤r.taken+1:=λq h=>by split<;>exact h
 unfold bV
 simp only
 apply h
 split
 ·simp only;omega
 split
 ·simp only[bT];omega
 split
 ·simp only;rw[CK (by omega) (by omega)];omega
 split
 ·simp only;omega
 ·omega
theorem wj (F:Int)(c:List Ins)(ins:List Int)(r:St):(bp F c ins r).lines.length≤r.lines.length+1:=by
 rw[ie]
 split
 ·omega
 split
 ·simp
 split
 ·simp
 ·exact yx F ins r _ _ _
theorem nu (F:Int)(c:List Ins)(ins:List Int)(r:St)(h0:0≤r.taken)(h1:r.taken < 9223372036854775807):(bp F c ins r).taken≤r.taken+1:=by
 rw[ie]
 split
 ·omega
 split
 ·simp only;omega
 split
 ·simp only;omega
 ·exact yY F ins r _ _ _ h0 h1
theorem mc {V F:Int}{c:List Ins}(hp:ProgOk V F c):RunOk V F c (bj V):=by
 have:=hp.v1
 refine⟨by simp[bj],by simp[bj],by simp[bj],by simp[bj],by simp[bj],by simp[bj];omega,by simp[bj],λt ht=> ?_,λt ht=> ?_,λv hv=> ?_,λt ht=> ?_⟩
 ·simp[bj] at ht
 ·simp[bj] at ht
 ·simp only[bj] at hv
  rw[(X2.1 hv).2]
  exact gx
 ·simp[bj] at ht
theorem wu {V F:Int}{c:List Ins}{ins:List Int}{fuel k:Nat}{s:St}(h:stepsSt F c ins fuel (bj V)=(s,k)):bE V F c ins fuel=(if s.fin=0 then {s with fin:=4} else s,k):=by
 unfold bE
 rw[h]
end
section
open Go.RowKit
def smallC:List Ins:=[⟨1,0,0,0,5,0⟩,⟨18,0,0,0,0,0⟩]

theorem g8 (w:World):
  Calls pG 39 #[] w λe w'=>∃b,e=Rt (Ag #[I Y 1,I Y 0,U (sO ⟨b,0,nO⟩) 2 2])∧CodeAt w' (sO ⟨b,0,nO⟩) smallC∧Below w.heap.size w w':=by
 go_enter Tryz.func39,Tryz.ntmps39
 go_wp2
 refine bodyPost_ret (v:=Ag #[I Y 1,I Y 0,U (sO ⟨w.heap.size+1,0,nO⟩) 2 2]) (by simp[results,Tryz.results39,go_sem]) rfl ⟨w.heap.size+1,rfl,.inr ⟨_,_,rfl,by simp,?_⟩,by go_grown⟩
 intro k hk
 match k,hk with
 |0,_=>refine⟨?_,?_,?_,?_,?_,?_⟩<;>simp[go_sem,smallC]
 |1,_=>refine⟨?_,?_,?_,?_,?_,?_⟩<;>simp[go_sem,smallC]
 |k+2,h=>simp[smallC] at h;omega
theorem DN (n:Int):wrap32 n=wr n:=by unfold wrap32 wr;omega

theorem uO (n:Int):wrap64 (wrap32 n)=wrap32 n:=by unfold wrap64 wrap32;omega

theorem FP {a b c d:Value}(h:a=c)(h':b=d):Ending.returned (Ag #[a,b])=Rt (Ag #[c,d]):=by rw[h,h']

theorem gh (n:Int)(w:World):
  Calls pG 145 #[I Y n] w λe w'=>e=Rt (Ag #[I Y 1,I Y (wr n)])∧Below w.heap.size w w':=by
 go_enter Tryz.func145,Tryz.ntmps145
 go_wp2
 go_returns
 exact⟨FP rfl (by rw[←DN,uO]),by go_grown⟩

theorem cP (b:Bool)(w:World):
  Calls pG 146 #[Bb b] w λe w'=>e=Rt (Ag #[I Y (b8 b).k,I Y (b8 b).n])∧Below w.heap.size w w':=by
 cases b
 all_goals
  go_enter Tryz.func146,Tryz.ntmps146
  go_wp2
  go_returns
  exact⟨rfl,by go_grown⟩

theorem go {p:Prop}(h:p:=by
 have t0:(b8 false).k=2:=rfl
 have t1:(b8 false).n=0:=rfl
 have t2:wr 0=0:=rfl
 go_enter Tryz.func148,Tryz.ntmps148
 go_wp2
 refine wp_region_quiet_below (by kernel_rfl) (by kernel_rfl) ?_
 repeat (quiet_step (first|exact Calls.regrown_of (cP false _)|exact Calls.regrown_of (gh 0 _)))
 refine wpQuiet_nil ?_
 intro _ hw'
 obtain⟨⟨dq,osq⟩,hw''⟩:=hw'
 subst hw''
 go_wp2
 go_ret
 exact⟨rfl,Below.trans (by go_grown) ((below_regrown _ dq osq).mono (by go_size))⟩):p:=h
theorem y8 (w:World):
  Calls pG 148 #[Ag #[I Y 0,I Y 0]] w λe w'=>e=Rt (Bb false)∧Below w.heap.size w w':=by
 have c0:=cell_regrown (w:=w.alloc (Cc #[I Y 0,I Y 0] 82)) (a:=⟨w.heap.size,0,nO⟩) (v:=I Y 0) (by simp[go_sem])
 have c1:=cell_regrown (w:=w.alloc (Cc #[I Y 0,I Y 0] 82)) (a:=⟨w.heap.size,1,nO⟩) (v:=I Y 0) (by simp[go_sem])
 exact go

theorem Bj (n:Int)(w:World)(h:(n==0)=false):
  Calls pG 148 #[Ag #[I Y 1,I Y n]] w λe w'=>e=Rt (Bb true)∧Below w.heap.size w w':=by
 have c0:=cell_regrown (w:=w.alloc (Cc #[I Y 1,I Y n] 82)) (a:=⟨w.heap.size,0,nO⟩) (v:=I Y 1) (by simp[go_sem])
 have c1:=cell_regrown (w:=w.alloc (Cc #[I Y 1,I Y n] 82)) (a:=⟨w.heap.size,1,nO⟩) (v:=I Y n) (by simp[go_sem])
 exact go

theorem yO (w:World):
  Calls pG 148 #[Ag #[I Y 1,I Y 0]] w λe w'=>e=Rt (Bb false)∧Below w.heap.size w w':=by
 have c0:=cell_regrown (w:=w.alloc (Cc #[I Y 1,I Y 0] 82)) (a:=⟨w.heap.size,0,nO⟩) (v:=I Y 1) (by simp[go_sem])
 have c1:=cell_regrown (w:=w.alloc (Cc #[I Y 1,I Y 0] 82)) (a:=⟨w.heap.size,1,nO⟩) (v:=I Y 0) (by simp[go_sem])
 exact go

theorem y9 (w:World):
  Calls pG 148 #[Ag #[I Y 2,I Y 1]] w λe w'=>e=Rt (Bb true)∧Below w.heap.size w w':=by
 have c0:=cell_regrown (w:=w.alloc (Cc #[I Y 2,I Y 1] 82)) (a:=⟨w.heap.size,0,nO⟩) (v:=I Y 2) (by simp[go_sem])
 have c1:=cell_regrown (w:=w.alloc (Cc #[I Y 2,I Y 1] 82)) (a:=⟨w.heap.size,1,nO⟩) (v:=I Y 1) (by simp[go_sem])
 exact go

theorem wY (w:World):
  Calls pG 148 #[Ag #[I Y 2,I Y 0]] w λe w'=>e=Rt (Bb false)∧Below w.heap.size w w':=by
 have c0:=cell_regrown (w:=w.alloc (Cc #[I Y 2,I Y 0] 82)) (a:=⟨w.heap.size,0,nO⟩) (v:=I Y 2) (by simp[go_sem])
 have c1:=cell_regrown (w:=w.alloc (Cc #[I Y 2,I Y 0] 82)) (a:=⟨w.heap.size,1,nO⟩) (v:=I Y 0) (by simp[go_sem])
 exact go

theorem wQ (n:Int)(w:World):
  Calls pG 148 #[Ag #[I Y 3,I Y n]] w λe w'=>e=Rt (Bb true)∧Below w.heap.size w w':=by
 have c0:=cell_regrown (w:=w.alloc (Cc #[I Y 3,I Y n] 82)) (a:=⟨w.heap.size,0,nO⟩) (v:=I Y 3) (by simp[go_sem])
 have c1:=cell_regrown (w:=w.alloc (Cc #[I Y 3,I Y n] 82)) (a:=⟨w.heap.size,1,nO⟩) (v:=I Y n) (by simp[go_sem])
 exact go

theorem mG (T:Nat)(v:Val)(w:World)(h:bS T v):
  Calls pG 148 #[Ag #[I Y v.k,I Y v.n]] w λe w'=>e=Rt (Bb (cnt v))∧Below w.heap.size w w':=by
 obtain⟨k,n⟩:=v
 simp only[bS] at h
 rcases h with⟨rfl,rfl⟩|⟨rfl,_⟩|⟨rfl,rfl|rfl⟩|⟨rfl,_⟩
 ·exact y8 w
 ·by_cases hn:n=0
  ·subst hn;exact yO w
  ·simpa[cnt,hn] using Bj n w (by simpa using hn)
 ·exact wY w
 ·exact y9 w
 ·exact wQ n w
end
section
open Go.RowKit
attribute [local go_sem ↓] Go.wp_at_zero Go.wp_at_succ
theorem OwnRun.form {w:World}{B m:Nat}{s:St}{vv tv lv:Value}{fv:List Value}(h:OwnRun w B m s vv tv lv fv)(hn:0 < s.vars.length):
  ∃g cap,vv=U (sO ⟨g,0,nO⟩) s.vars.length cap∧B≤g∧g < w.heap.size∧(∀i (hi:i < s.vars.length),w.cell? ⟨g,i * 2,nO⟩=sO (I Y s.vars[i].k)∧w.cell? ⟨g,i * 2+1,nO⟩=sO (I Y s.vars[i].n))∧(∀j,w.frozen? ⟨g,j,nO⟩=false):=by
 obtain⟨g,cap,rfl,hb,hlt⟩:=h.vars.form hn
 have hv:w.ownsRow B 82 2 (U (sO ⟨g,0,nO⟩) s.vars.length cap) s.vars.length (bU s.vars):=h.vars
 refine⟨g,cap,rfl,hb,hlt,λi hi=>⟨?_,?_⟩,λj=>hv.frozenAt j⟩
 ·rw[hv.cellAt (i * 2) (by omega)];exact kj _ i hi
 ·rw[hv.cellAt (i * 2+1) (by omega)];exact kH _ i hi


theorem cY (w:World)(g j j':Nat)(u u':Value)(k i:Nat)(h:k≠g):((w.setCell ⟨g,j,nO⟩ u).setCell ⟨g,j',nO⟩ u').cell? ⟨k,i,nO⟩=w.cell? ⟨k,i,nO⟩:=
 j8 (a:=⟨k,i,nO⟩) (lw w g j j' u u' k h)
theorem aF {p:Prop}(h:p):Hid p:=h

def MStep (w w':World)(B m:Nat)(bs:List (Option Nat))(s:St):Prop:=(∃vv tv lv fv,OwnRun w' B m s vv tv lv fv)∧Below B w w'∧(∀j,6≤j→w'.cell? ⟨m,j,nO⟩=w.cell? ⟨m,j,nO⟩)∧∀k,k < w.heap.size→sO k∉bs→w'.heap[k]? =w.heap[k]?
theorem cZ {w wl:World}{bs:List (Option Nat)}(HW:Below w.heap.size w wl){g:Nat}(hg:sO g∈bs)(j j':Nat)(u u':Value):∀k,k < w.heap.size→sO k∉bs→((wl.setCell ⟨g,j,nO⟩ u).setCell ⟨g,j',nO⟩ u').heap[k]? =w.heap[k]? :=λk hk hn=>by
 rw[lw _ _ _ _ _ _ k (λe=>hn (by rw[e];exact hg))]
 exact HW.block k hk
theorem cJ {w wl:World}{bs:List (Option Nat)}(HW:Below w.heap.size w wl):∀k,k < w.heap.size→sO k∉bs→wl.heap[k]? =w.heap[k]? :=λk hk _=>HW.block k hk
theorem cE {w w1 w2:World}{bs:List (Option Nat)}(h1:∀k,k < w.heap.size→sO k∉bs→w1.heap[k]? =w.heap[k]?)(hs:w.heap.size≤w1.heap.size)(h2:∀k,k < w1.heap.size→sO k∉bs→w2.heap[k]? =w1.heap[k]?):∀k,k < w.heap.size→sO k∉bs→w2.heap[k]? =w.heap[k]? :=λk hk hn=>by
 rw[h2 k (lL hk hs) hn,h1 k hk hn]
theorem sG {w w3:World}{bs:List (Option Nat)}{row:Option Nat}(hg:w.grownBy w3 row)(hr:∀k,row=sO k→sO k∈bs){m:Nat}(hm:sO m∈bs)(j:Nat)(u:Value):∀k,k < w.heap.size→sO k∉bs→(w3.setCell ⟨m,j,nO⟩ u).heap[k]? =w.heap[k]? :=λk hk hn=>by
 rw[hSe _ _ _ _ (λe=>hn (by rw[e];exact hm))]
 exact hg.block k hk (λe=>hn (hr k e.symm))
theorem iU {w:World}{bs:List (Option Nat)}{m:Nat}(hm:sO m∈bs)(j:Nat)(u:Value):∀k,k < w.heap.size→sO k∉bs→(w.setCell ⟨m,j,nO⟩ u).heap[k]? =w.heap[k]? :=λk hk hn=>
 hSe _ _ _ _ (λe=>hn (by rw[e];exact hm))
theorem vT (n:Int):wrap64 n=w64 n:=by unfold wrap64 w64;omega
def eQ (ins:List Int)(tk lim:Int):Int:=if tk < ins.length then kh lim (ins.getD tk.toNat 0) else 0
theorem CM (m B:Nat)(s:St)(vv tv lv:Value)(fv:List Value)(lim:Int)(is:Option Addr)(ic:Nat)(ins:List Int)(w:World)(h:OwnRun w B m s vv tv lv fv)(hl0:0≤lim)(hl1:lim≤1000000)(h9:w.cell? ⟨m,9,nO⟩=sO (U is ins.length ic))(hi:IntsAt w is ins)(htk:0≤s.taken):
  Calls pG 151 #[Pp (sO ⟨m,0,nO⟩),I Y lim] w λe w'=>e=Rt (I Y (eQ ins s.taken lim))∧∃w1,Below w.heap.size w w1∧w'=w1.setCell ⟨m,3,nO⟩ (I Y (w64 (s.taken+1))):=by
 have q3:=h.taken_
 have fz:=h.thaw 3
 have g0: -9223372036854775808≤ -lim:=by omega
 have g1: -lim≤9223372036854775807:=by omega
 by_cases hlt:s.taken < ins.length
 ·obtain⟨k,hk⟩:=J5 htk
  have hkl:k < ins.length:=by omega
  rcases hi with hi|⟨b,off,rfl,hb,hi⟩
  ·rw[hi] at hkl;simp at hkl
  have c0:=hi k hkl
  have n0:(0:Int)≤(k:Int):=by omega
  have n1:(k:Int) < (ins.length:Int):=by omega
  have HR:Hid (eQ ins s.taken lim=kh lim ins[k]):=by
   show _=_
   unfold eQ
   rw[if_pos hlt,hk]
   simp[j4,j7 hkl]
  have HT:Hid (w64 (s.taken+1)=wrap64 (k+1)):=by show _=_;rw[hk,vT]
  rw[hk] at q3
  rw[HT.out]
  clear hi hlt hk htk h HT
  go_enter Tryz.func151,Tryz.ntmps151
  go_wp2
  go_quiet (fail)
  go_wp2
  go_quiet (fail)
  go_wp2
  all_goals
   go_ret
   refine⟨bu ?_,_,?_,rfl⟩
   ·rw[HR.out]
    unfold kh
    first|omega|(split<;>first|omega|(split<;>omega))
   ·exact below_drewN (bR _ _) _
 ·have HR:Hid (eQ ins s.taken lim=0):=by show _=_;unfold eQ;rw[if_neg hlt]
  rw[HR.out]
  have HT:Hid (w64 (s.taken+1)=wrap64 (s.taken+1)):=by show _=_;rw[vT]
  rw[HT.out]
  have hnl:¬(s.taken < (ins.length:Int)):=hlt
  clear hi htk h HT
  go_enter Tryz.func151,Tryz.ntmps151
  go_wp2
  go_quiet (fail)
  go_wp2
  all_goals
   go_ret
   refine⟨bu ?_,_,?_,rfl⟩
   ·first|rfl|omega
   ·exact below_drewN (bR _ _) _
end
section
open Go.RowKit
def VAt (w:World)(b:Nat)(v:Val):Prop:=(w.cell? ⟨b,0,nO⟩=sO (I Y v.k)∧w.cell? ⟨b,1,nO⟩=sO (I Y v.n))∧b < w.heap.size∧∀j,w.frozen? ⟨b,j,nO⟩=false
section
variable {w w':World} {B b c:Nat} {v u:Val}
theorem VAt.same (h:VAt w b v)(hb:w'.heap[b]? =w.heap[b]?)(hz:w.heap.size≤w'.heap.size):VAt w' b v:=by
 obtain⟨⟨h0,h1⟩,h2,h3⟩:=h
 exact⟨⟨by rw[j8 (a:=⟨b,0,nO⟩) hb];exact h0,by rw[j8 (a:=⟨b,1,nO⟩) hb];exact h1⟩,lL h2 hz,λj=>by rw[z9 (a:=⟨b,j,nO⟩) hb];exact h3 j⟩
theorem VAt.below (h:VAt w b v)(hb:Below B w w')(hB:b < B):VAt w' b v:=h.same (hb.block b hB) hb.size
theorem VAt.call (h:VAt w b v)(hb:Below w.heap.size w w'):VAt w' b v:=h.below hb h.2.1
theorem VAt.new (w:World)(v:Val):VAt (w.alloc (Cc #[I Y v.k,I Y v.n] 82)) w.heap.size v:=by
 refine⟨⟨?_,?_⟩,by simp,λj=> ?_⟩<;>simp[go_sem]
theorem VAt.put (h:VAt w b v)(u:Val):VAt ((w.setCell ⟨b,0,nO⟩ (I Y u.k)).setCell ⟨b,1,nO⟩ (I Y u.n)) b u:=by
 obtain⟨⟨h0,h1⟩,h2,h3⟩:=h
 have e1:(w.setCell ⟨b,0,nO⟩ (I Y u.k)).cell? ⟨b,1,nO⟩=sO (I Y v.n):=by rw[J1 _ _ _ _ (by intro e;cases e)];exact h1
 refine⟨⟨?_,J0 _ _ _ e1⟩,by simpa[Q7] using h2,λj=>by rw[x6,x6];exact h3 j⟩
 rw[J1 _ _ _ _ (by intro e;cases e)]
 exact J0 _ _ _ h0
theorem VAt.set (h:VAt w b v){a:Addr}(ha:a.block≠b)(x:Value):VAt (w.setCell a x) b v:=h.same (hSe _ _ _ _ (Ne.symm ha)) (by simp[Q7])
end
theorem mU {p:Prop}(h:p:=by
 have t0:(b8 false).k=2:=rfl
 have t1:(b8 false).n=0:=rfl
 have t2:(b8 true).k=2:=rfl
 have t3:(b8 true).n=1:=rfl
 go_enter Tryz.func133,Tryz.ntmps133
 go_wp2
 refine wp_region_quiet_below (by kernel_rfl) (by kernel_rfl) ?_
 repeat (quiet_step (first|exact Calls.regrown_of (cP false _)|exact Calls.regrown_of (cP true _)))
 refine wpQuiet_nil ?_
 intro _ hw'
 obtain⟨⟨dq,osq⟩,hw''⟩:=hw'
 subst hw''
 go_wp2
 go_ret
 exact⟨rfl,Below.trans (by go_grown) ((below_regrown _ dq osq).mono (by go_size))⟩):p:=h
theorem wD (T:Int)(w:World):
  Calls pG 133 #[Ag #[I Y 2,I Y 0],I Y T] w λe w'=>e=Rt (Bb true)∧Below w.heap.size w w':=by
 have c0:=cell_regrown (w:=(w.alloc (Cc #[I Y 2,I Y 0] 82))) (a:=⟨w.heap.size,0,nO⟩) (v:=I Y 2) (by simp[go_sem])
 have c1:=cell_regrown (w:=(w.alloc (Cc #[I Y 2,I Y 0] 82))) (a:=⟨w.heap.size,1,nO⟩) (v:=I Y 0) (by simp[go_sem])
 exact mU

theorem wf (T:Int)(w:World):
  Calls pG 133 #[Ag #[I Y 2,I Y 1],I Y T] w λe w'=>e=Rt (Bb true)∧Below w.heap.size w w':=by
 have c0:=cell_regrown (w:=(w.alloc (Cc #[I Y 2,I Y 1] 82))) (a:=⟨w.heap.size,0,nO⟩) (v:=I Y 2) (by simp[go_sem])
 have c1:=cell_regrown (w:=(w.alloc (Cc #[I Y 2,I Y 1] 82))) (a:=⟨w.heap.size,1,nO⟩) (v:=I Y 1) (by simp[go_sem])
 exact mU

theorem ya (T:Int)(n:Int)(w:World)(h0:(n==0)=false)(h1:(n==1)=false):
  Calls pG 133 #[Ag #[I Y 2,I Y n],I Y T] w λe w'=>e=Rt (Bb false)∧Below w.heap.size w w':=by
 have c0:=cell_regrown (w:=(w.alloc (Cc #[I Y 2,I Y n] 82))) (a:=⟨w.heap.size,0,nO⟩) (v:=I Y 2) (by simp[go_sem])
 have c1:=cell_regrown (w:=(w.alloc (Cc #[I Y 2,I Y n] 82))) (a:=⟨w.heap.size,1,nO⟩) (v:=I Y n) (by simp[go_sem])
 exact mU

theorem Aj (k n:Int)(T:Nat)(w:World):
  Calls pG 133 #[Ag #[I Y k,I Y n],I Y T] w λe w'=>e=Rt (Bb (bF T ⟨k,n⟩))∧Below w.heap.size w w':=by
 by_cases h0:k=0
 ·subst h0
  by_cases hn:n=0
  ·subst hn
   have e0:bF T ⟨0,0⟩=true:=by simp[bF]
   rw[e0]
   clear e0
   go_enter Tryz.func133,Tryz.ntmps133
   go_wp2
   go_ret
   exact⟨rfl,by go_grown⟩
  ·have e0:bF T ⟨0,n⟩=false:=by simp[bF,hn]
   have hb:(n==0)=false:=by simpa using hn
   rw[e0]
   clear e0 hn
   go_enter Tryz.func133,Tryz.ntmps133
   go_wp2
   go_ret
   exact⟨rfl,by go_grown⟩
 by_cases h1:k=1
 ·subst h1
  have e0:bF T ⟨1,n⟩=btw n (-2147483648) 2147483647:=by simp[bF]
  rw[e0]
  clear e0
  by_cases g1: -2147483648≤n
  ·by_cases g2:n≤2147483647
   ·rw[iB g1 g2]
    go_enter Tryz.func133,Tryz.ntmps133
    go_wp2
    go_ret
    exact⟨rfl,by go_grown⟩
   ·rw[DG g2]
    go_enter Tryz.func133,Tryz.ntmps133
    go_wp2
    go_ret
    exact⟨rfl,by go_grown⟩
  ·rw[Dk g1]
   go_enter Tryz.func133,Tryz.ntmps133
   go_wp2
   go_ret
   exact⟨rfl,by go_grown⟩
 by_cases h2:k=2
 ·subst h2
  by_cases n0:n=0
  ·subst n0
   have e0:bF T ⟨2,0⟩=true:=by simp[bF,btw]
   rw[e0]
   exact wD T w
  by_cases n1:n=1
  ·subst n1
   have e0:bF T ⟨2,1⟩=true:=by simp[bF,btw]
   rw[e0]
   exact wf T w
  have e0:bF T ⟨2,n⟩=false:=by simp[bF,btw];omega
  rw[e0]
  exact ya T n w (by simpa using n0) (by simpa using n1)
 by_cases h3:k=3
 ·subst h3
  have e0:bF T ⟨3,n⟩=btw n 0 ((T:Int) - 1):=by simp[bF]
  rw[e0]
  clear e0
  by_cases g1:0≤n
  ·by_cases g2:n < (T:Int)
   ·rw[iB g1 (by omega)]
    go_enter Tryz.func133,Tryz.ntmps133
    go_wp2
    go_ret
    exact⟨rfl,by go_grown⟩
   ·rw[DG (by omega)]
    go_enter Tryz.func133,Tryz.ntmps133
    go_wp2
    go_ret
    exact⟨rfl,by go_grown⟩
  ·rw[Dk g1]
   go_enter Tryz.func133,Tryz.ntmps133
   go_wp2
   go_ret
   exact⟨rfl,by go_grown⟩
 have e0:bF T ⟨k,n⟩=false:=by simp[bF,h0,h1,h2,h3]
 rw[e0]
 have q0:(k==0)=false:=by simpa using h0
 have q1:(k==1)=false:=by simpa using h1
 have q2:(k==2)=false:=by simpa using h2
 have q3:(k==3)=false:=by simpa using h3
 clear e0 h0 h1 h2 h3
 go_enter Tryz.func133,Tryz.ntmps133
 go_wp2
 go_ret
 exact⟨rfl,by go_grown⟩
def Cx:St:=⟨0,[],[],0,[],0⟩
theorem D6 (w:World):RunAt w Cx nO nO none:=⟨.inl rfl,.inl rfl,.inl rfl⟩
end
end Go.Proofs.YtmapdpcfanecdabGreatDoor
