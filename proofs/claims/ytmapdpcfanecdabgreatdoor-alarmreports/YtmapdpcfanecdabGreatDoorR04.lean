import Derived.WalkKit
import Derived.WalkSpells
import Derived.WalkLawsBesides
import Derived.Handy
import Derived.Test.YtmapdpcfanecdabGreatDoorR03
import Derived.Lib.ItoaNum
import Derived.Lib.ItoaLen
import Derived.Deep.AppendLies
import Derived.Laws.OwnMore
import Derived.BigQuiet
import Derived.Deep.RegionHeld3
import Derived.Lib.QuietBelow
import Derived.RangeFuncNested
import Derived.RangeFuncLeaves
import Derived.Deep.RegionHeld
import Derived.OwnWalk
import Derived.Deep.QuietTactic
import Derived.OrdersIn
import Derived.TacticsIn
import Derived.Laws.CopyRow
import Derived.Lib.SlBuf
open Array renaming getElem?_eq_some_iff→j0
open Bool renaming and_eq_true→j1
open Go.Ending renaming returned→Rt
open Go.IntKind renaming i64→Y
open Go.Obj renaming cells→Cc
open Go.Proofs.Tryz renaming prog→pG
open Go.RowKit.Below renaming refl→bR
open Go.Value renaming agg→Ag,bool→Bb,int→I,pointer→Pp,slice→U,tuple→Tu
open Go.World renaming alloc_heap_new→q4,size_alloc→zA
open List renaming mem_cons→q0,mem_cons_of_mem→q1,mem_cons_self→q2,replicate→j3,zipWith→j2
open Nat renaming le_refl→lR,lt_of_lt_of_le→lL
open Option renaming none→nO,some→sO
set_option linter.unusedSimpArgs false
set_option linter.unusedVariables false
set_option maxHeartbeats 4000000
set_option maxRecDepth 100000
namespace Go.Proofs.YtmapdpcfanecdabGreatDoor
section
def btw (n l m:Int):Bool:=decide (l<=n/\n<=m)
theorem fw {n l m:Int}(h1:l<=n)(h2:n<=m):btw n l m=true:=by simp[btw,h1,h2]
theorem Kw {n l m:Int}(h:¬l<=n):btw n l m=false:=by simp[btw,h]
theorem Kp {n l m:Int}(h:¬n<=m):btw n l m=false:=by simp[btw,h]

theorem mH {k:Int}(h:btw k 1 19=true):k=1\/k=2\/k=3\/k=4\/k=5\/k=6\/k=7\/k=8\/k=9\/k=10\/k=11\/k=12\/k=13\/k=14\/k=15\/k=16\/k=17\/k=18\/k=19:=by
 simp[btw] at h;omega

theorem KX (k:Int):btw k 1 19=(decide (1<=k)&&decide (k<=19)):=by simp[btw]

def nTo (k:Int):Bool:=btw k 1 12||decide (k=14)
def nA (k:Int):Bool:=btw k 4 10||decide (k=12)||decide (k=13)||decide (k=15)||decide (k=17)||decide (k=18)
def nB (k:Int):Bool:=btw k 5 9||decide (k=13)
def nN (k:Int):Bool:=decide (k=1)||decide (k=2)||btw k 12 14
def nG (k:Int):Bool:=decide (k=15)||decide (k=16)

structure Ins where
 k:Int
 tgt:Int
 a:Int
 b:Int
 n:Int
 g:Int

def aW (V F L:Int)(i:Ins):Int:=
 if btw i.k 1 19=false then 6
 else if (nTo i.k&& !btw i.tgt 0 (V - 1))||(nA i.k&& !btw i.a 0 (V - 1))||(nB i.k&& !btw i.b 0 (V - 1))||((decide (i.k=12)||decide (i.k=13))&& !btw i.n 0 (F - 1))||(nG i.k&& !btw i.g 0 L) then 5
 else if (decide (i.k=1)&& !btw i.n (-2147483648) 2147483647)||(decide (i.k=2)&& !btw i.n 0 1)||(decide (i.k=14)&& !btw i.n 0 1000000) then 3
 else if (!nTo i.k&&decide (i.tgt≠0))||(!nA i.k&&decide (i.a≠0))||(!nB i.k&&decide (i.b≠0))||(!nN i.k&&decide (i.n≠0))||(!nG i.k&&decide (i.g≠0)) then 1
 else 0

def eE (V F L:Int):List Ins->Int
 |[]=>0
 |i::r=>if aW V F L i=0 then eE V F L r else aW V F L i

def ah (V F:Int)(c:List Ins):Int:=
 if btw V 1 8=false||btw F 0 3=false then 3 else if 60 < c.length then 2 else eE V F c.length c

def aD:Int->ByteArray
 |1=>⟨#[110,117,109,98,101,114]⟩
 |2=>⟨#[116,114,117,116,104]⟩
 |3=>⟨#[110,117,108,108]⟩
 |4=>⟨#[99,111,112,121]⟩
 |5=>⟨#[97,100,100]⟩
 |6=>⟨#[115,117,98]⟩
 |7=>⟨#[109,117,108]⟩
 |8=>⟨#[108,101,115,115]⟩
 |9=>⟨#[115,97,109,101]⟩
 |10=>⟨#[110,111,116]⟩
 |11=>⟨#[110,101,119]⟩
 |12=>⟨#[103,101,116]⟩
 |13=>⟨#[112,117,116]⟩
 |14=>⟨#[105,110,112,117,116]⟩
 |15=>⟨#[105,102]⟩
 |16=>⟨#[103,111,116,111]⟩
 |17=>⟨#[101,120,112,101,99,116]⟩
 |18=>⟨#[112,114,105,110,116]⟩
 |19=>⟨#[101,110,100]⟩
 |_=>⟨#[]⟩

theorem pW {k:Int}(h:btw k 1 19=false):aD k=⟨#[]⟩:=by
 have:¬(1<=k/\k<=19):=by simpa[btw] using h
 unfold aD;split<;>first|rfl|omega
abbrev oA:=Option Go.Addr
open Go.RowKit

theorem aP {a b:Bool}(h:a=b):Ending.returned (Bb a)=Rt (Bb b):=by rw[h]
theorem bG {k:IntKind}{a b:Int}(h:a=b):Ending.returned (.int k a)=Rt (.int k b):=by rw[h]
theorem nP {a b:ByteArray}(h:a=b):Ending.returned (.string a)=Rt (.string b):=by rw[h]

theorem vi {W w1:World}(hb:Below W.heap.size W w1):(∀b o,b < W.heap.size->w1.cell? ⟨b,o,nO⟩=W.cell? ⟨b,o,nO⟩)/\(∀b o,b < W.heap.size->w1.frozen? ⟨b,o,nO⟩=W.frozen? ⟨b,o,nO⟩):=
 ⟨λb o h=>hb.cell (p:=⟨b,o,nO⟩) h,λb o h=>hb.frozen (p:=⟨b,o,nO⟩) h⟩

theorem dy (n l m:Int)(w:World):
  Calls pG 57 #[I Y n,I Y l,I Y m] w λe w'=>e=Rt (Bb (btw n l m))/\w'=w:=by
 by_cases h1:l<=n
 ·by_cases h2:n<=m
  ·have hb:=fw h1 h2
   go_enter Tryz.func57,Tryz.ntmps57;go_wp2;go_ret;exact⟨aP hb.symm,rfl⟩
  ·have hb:=Kp (l:=l) h2
   go_enter Tryz.func57,Tryz.ntmps57;go_wp2;go_ret;exact⟨rfl,rfl⟩
 ·have hb:=Kw (m:=m) h1
  go_enter Tryz.func57,Tryz.ntmps57;go_wp2;go_ret;exact⟨rfl,rfl⟩
end
section
open Go.RowKit
theorem iG {p:Prop}(h:p:=by
 go_wp2_with (go_at_call 57;refine(dy _ _ _ _).mono ?_;rintro e w' ⟨rfl,rfl⟩)
 all_goals go_ret
 all_goals exact⟨aP (by simp_all[BEq.beq]),rfl⟩):p:=h
theorem oK (k:Int)(w:World):
  Calls pG 106 #[I Y k] w λe w'=>e=Rt (Bb (nTo k))/\w'=w:=by
 unfold nTo;go_enter Tryz.func106,Tryz.ntmps106;exact iG

theorem gY (k:Int)(w:World):
  Calls pG 107 #[I Y k] w λe w'=>e=Rt (Bb (nA k))/\w'=w:=by
 unfold nA;go_enter Tryz.func107,Tryz.ntmps107;exact iG

theorem fU (k:Int)(w:World):
  Calls pG 108 #[I Y k] w λe w'=>e=Rt (Bb (nB k))/\w'=w:=by
 unfold nB;go_enter Tryz.func108,Tryz.ntmps108;exact iG

theorem sd (k:Int)(w:World):
  Calls pG 110 #[I Y k] w λe w'=>e=Rt (Bb (nN k))/\w'=w:=by
 unfold nN;go_enter Tryz.func110,Tryz.ntmps110;exact iG

theorem iE (k:Int)(w:World):
  Calls pG 109 #[I Y k] w λe w'=>e=Rt (Bb (nG k))/\w'=w:=by
 unfold nG;go_enter Tryz.func109,Tryz.ntmps109;go_wp2
 all_goals go_ret
 all_goals exact⟨aP (by simp_all[BEq.beq]),rfl⟩
def InsAt (w:World)(b o:Nat)(i:Ins):Prop:=
 w.cell? ⟨b,o,nO⟩=sO (I Y i.k)/\w.cell? ⟨b,o+1,nO⟩=sO (I Y i.tgt)/\w.cell? ⟨b,o+2,nO⟩=sO (I Y i.a)/\
 w.cell? ⟨b,o+3,nO⟩=sO (I Y i.b)/\w.cell? ⟨b,o+4,nO⟩=sO (I Y i.n)/\w.cell? ⟨b,o+5,nO⟩=sO (I Y i.g)

def CodeAt (w:World)(s:oA)(c:List Ins):Prop:=
 c=[]\/∃b off,s=sO ⟨b,off,nO⟩/\b < w.heap.size/\∀k (h:k < c.length),InsAt w b (off+k * 6) c[k]

theorem InsAt.below {B:Nat}{w w':World}{b o:Nat}{i:Ins}(h:InsAt w b o i)(hb:Below B w w')(hB:b < B):InsAt w' b o i:=by
 obtain⟨h0,h1,h2,h3,h4,h5⟩:=h;refine⟨?_,?_,?_,?_,?_,?_⟩<;>rw[hb.cell (by simpa using hB)]<;>assumption

theorem CodeAt.below {B:Nat}{w w':World}{s:oA}{c:List Ins}(h:CodeAt w s c)(hb:Below B w w')(hB:w.heap.size<=B):CodeAt w' s c:=by
 rcases h with h|⟨b,off,hs,hlt,hi⟩
 ·exact .inl h
 ·exact .inr ⟨b,off,hs,lL hlt hb.size,λk h=>(hi k h).below hb (by omega)⟩

def IntsAt (w:World)(s:oA)(l:List Int):Prop:=
 l=[]\/∃b off,s=sO ⟨b,off,nO⟩/\b < w.heap.size/\∀k (h:k < l.length),w.cell? ⟨b,off+k,nO⟩=sO (I Y l[k])

theorem IntsAt.below {B:Nat}{w w':World}{s:oA}{l:List Int}(h:IntsAt w s l)(hb:Below B w w')(hB:w.heap.size<=B):IntsAt w' s l:=by
 rcases h with h|⟨b,off,hs,hlt,hi⟩
 ·exact .inl h
 ·exact .inr ⟨b,off,hs,lL hlt hb.size,λk h=>by rw[hb.cell (by simp;omega)];exact hi k h⟩
theorem nl:∃j,Tryz.prog.info? 122=sO j/\j.size=2:=by
 obtain⟨j,hj,hjs⟩:=Option.map_eq_some_iff.1 Tryz.Builder_Extra_169.sizeBuilder;exact⟨j,hj,hjs⟩

theorem tV (b:Nat)(w:World)(h0:w.cell? ⟨b,0,nO⟩=sO (Pp (sO ⟨b,0,nO⟩))):
  Calls pG 119 #[Pp (sO ⟨b,0,nO⟩)] w λe w'=>e=Rt (Tu #[])/\w'=w:=by
 obtain⟨j,hj,_⟩:=nl;go_enter Tryz.func119,Tryz.ntmps119;go_wp2;rw[Lib.run_neq_ptr_same w _ Tryz.underlying119 hj];go_wp2;go_end0;exact⟨rfl,rfl⟩

theorem p6 (b:Nat)(w:World)(h0:w.cell? ⟨b,0,nO⟩=sO (Pp nO))(hsh:w.shape? b=sO (122,2))(hfz:w.frozen? ⟨b,0,nO⟩=false):
  Calls pG 119 #[Pp (sO ⟨b,0,nO⟩)] w λe w'=>e=Rt (Tu #[])/\w'=w.setCell ⟨b,0,nO⟩ (Pp (sO ⟨b,0,nO⟩)):=by
 obtain⟨j,hj,hjs⟩:=nl;go_enter Tryz.func119,Tryz.ntmps119;go_wp2;rw[Lib.run_to_unsafe w ⟨b,0,nO⟩ Tryz.underlying119 Tryz.underlying219 hj (by rw[hjs];decide) hsh (Nat.zero_lt_succ 1)];simp only[Result.andThen];rw[Oper.upon_value];go_wp2;rw[run_callFunc_extern Tryz.func177 (by kernel_rfl) (by kernel_rfl) (by kernel_rfl) (e:=Extern.AbiNoEscape.same) (by kernel_rfl)];rw[Lib.run_noEscape];simp only[Result.andThen];rw[Oper.upon_value];go_wp2;rw[Lib.run_from_unsafe w ⟨b,0,nO⟩ Tryz.underlying219 Tryz.underlying119 hj hsh Tryz.Builder_Extra_169.liesBuilder];simp only[Result.andThen];rw[Oper.upon_value];go_wp2;go_end0;exact⟨rfl,rfl⟩

theorem uL (B b:Nat)(bs:List Value)(w:World)(h:Lib.IsBuilder 122 5 B b bs w):
  Calls pG 119 #[Pp (sO ⟨b,0,nO⟩)] w λe w'=>e=Rt (Tu #[])/\(Lib.BuilderAt 122 5 B b (Pp (sO ⟨b,0,nO⟩)) bs w'/\Below B w w'):=by
 rcases h with h|h
 ·refine(p6 b w h.cell0 h.shape h.frozen0).mono ?_
  rintro e w' ⟨rfl,rfl⟩;exact⟨rfl,h.used _,(bR B w).setCell (p:=⟨b,0,nO⟩) h.1 _⟩
 ·refine(tV b w h.cell0).mono ?_
  rintro e w' ⟨rfl,rfl⟩;exact⟨rfl,h,bR B _⟩

theorem rQ (B b:Nat)(bs:List Value)(s:ByteArray)(w:World)(h:Lib.IsBuilder 122 5 B b bs w)(hlen:bs.length+s.size<=140737488355328)(hBw:B<=w.heap.size):
  Calls pG 62 #[Pp (sO ⟨b,0,nO⟩),.string s] w λe w'=>e=Rt (Tu #[I Y s.size,.nilIface])/\(Lib.BuilderAt 122 5 B b (Pp (sO ⟨b,0,nO⟩)) (bs++Lib.strCells s) w'/\Below B w w'):=by
 obtain⟨ti,hi,hz0,hz1,hz2⟩:=info_parts Tryz.Builder_Extra_169.infoByte;go_enter Tryz.func62,Tryz.ntmps62;go_wp2_with (go_at_call 119;refine(uL B b bs _ h).mono ?_);rintro e w1 ⟨rfl,h1,hb1⟩;obtain⟨hB,v,hbk,hown,hne⟩:=h1;have c0:w1.cell? ⟨b,0,nO⟩=sO (Pp (sO ⟨b,0,nO⟩)):=by rw[Lib.cell_of_heap hbk];rfl
 have c1:w1.cell? ⟨b,1,nO⟩=sO v:=by rw[Lib.cell_of_heap hbk];rfl
 go_wp2_with (at_builtin;refine Lib.wpList_append_own_string _ rfl _ _ 120 9 rfl B 5 ti Tryz.underlying120 Tryz.underlying9 hi hz0 hz1 hz2 _ _ _ rfl hown s rfl ?c3 ?c4 ?c5 ?_)
 case c3=>unfold maxLen;omega
 case c4=>omega
 case c5=>have:=hb1.size;omega
 intro v' w2 hown' hgrow _;have hlt:b < w1.heap.size:=(j0.1 hbk).1;have hb2:w2.heap[b]? =sO (Cc #[Pp (sO ⟨b,0,nO⟩),v] 122 (0,0)):=by
  rw[hgrow.block b hlt (λe=>hne e.symm)];exact hbk
 have d0:w2.cell? ⟨b,0,nO⟩=sO (Pp (sO ⟨b,0,nO⟩)):=by rw[Lib.cell_of_heap hb2];rfl
 have d1:w2.cell? ⟨b,1,nO⟩=sO v:=by rw[Lib.cell_of_heap hb2];rfl
 have f1:w2.frozen? ⟨b,1,nO⟩=false:=Lib.frozen_of_heap hb2 1;obtain⟨ao,n',cap,rfl⟩:∃ao n' cap,v'=U ao n' cap:=by
  rcases hown'.2 with⟨hv,_⟩|⟨g,cap,cur,hv,_⟩
  ·exact⟨_,_,_,hv⟩
  ·exact⟨_,_,_,hv⟩
 go_wp2
 go_ret2
 refine⟨rfl,?_,?_⟩
 ·exact Lib.BuilderAt.put (T:=122) (e:=5) hB hb2 (bs':=bs++Lib.strCells s) (by simpa[Lib.strCells_length] using hown') Tryz.Builder_Extra_169.neB5
 ·exact(hb1.grown hgrow (by have:=hb1.size;omega) (λk hk=>(hown.lt k hk).1)).setCell (p:=⟨b,1,nO⟩) hB _
def dz (z:Int):ByteArray:=⟨(Lib.decDigits z.toNat).toArray⟩
theorem lf (z:Int)(h0:0<=z)(h1:z<=9223372036854775807):(dz z).size<=20:=by
 have:(dz z).size=(Lib.decDigits z.toNat).length:=rfl;rw[this,Lib.decDigits_length];exact Lib.nDigits_le20 _ (by omega)
theorem Au (z:Int)(h:10<=z):dz (z / 10)++dz (z % 10)=dz z:=by
 have e1:(z / 10).toNat=z.toNat / 10:=by omega
 have e2:(z % 10).toNat=z.toNat % 10:=by omega
 have hd:Lib.decDigits z.toNat=Lib.decDigits (z.toNat / 10)++Lib.decDigits (z.toNat % 10):=by
  rw[Lib.decDigits_one (i:=z.toNat % 10) (by omega)];conv=>lhs;rw[Lib.decDigits,dif_neg (by omega)]
 unfold dz;rw[hd,e1,e2];apply ByteArray.ext;simp

theorem Bc (n:Nat)(w:World)(h:n < 10):
  Calls pG 27 #[I Y n] w λe w'=>e=Rt (.string (dz n))/\Below w.heap.size w w':=by
 have:n=0\/n=1\/n=2\/n=3\/n=4\/n=5\/n=6\/n=7\/n=8\/n=9:=by omega
 have hd:dz n=⟨#[UInt8.ofNat (48+n)]⟩:=by unfold dz;rw[show (n:Int).toNat=n by omega,Lib.decDigits_one h]
 rw[hd];have hcv:=λ(c:Int) (wx:World) (hc:wx.cell? ⟨w.heap.size,0,nO⟩=sO (.int .u8 c))=>run_convert_bytes_arg (P:=pG) (w:=wx) 120 5 Tryz.underlying120 Tryz.underlying5 w.heap.size 0 1 1 [c] rfl;rcases this with rfl|rfl|rfl|rfl|rfl|rfl|rfl|rfl|rfl|rfl
 all_goals
  go_enter Tryz.func27,Tryz.ntmps27;go_wp2;go_ret;exact⟨nP rfl,by go_grown⟩

theorem Ac (z:Int)(w:World)(h:10<=z)(h63:z<=9223372036854775807)
  (ih:∀(k:Int) (w:World),0<=k->k < z->Calls pG 27 #[I Y k] w λe w'=>e=Rt (.string (dz k))/\Below w.heap.size w w'):
  Calls pG 27 #[I Y z] w λe w'=>e=Rt (.string (dz z))/\Below w.heap.size w w':=by
 have hd:Hid (dz (z / 10)++dz (z % 10)=dz z):=Au z h;have l1:=lf (z / 10) (by omega) (by omega);have l2:=lf (z % 10) (by omega) (by omega);have s1:¬9223372036854775807 < (dz (z / 10)).size+(dz (z % 10)).size:=by omega
 go_enter Tryz.func27,Tryz.ntmps27;go_wp2_with (go_at_call 27;refine(ih _ _ ?h1 ?h2).mono ?_;(case h1=>omega);(case h2=>omega);rintro e w1 ⟨rfl,hb1⟩;have HB:Below w.heap.size w w1:=(by first|exact hb1|exact HB.trans (hb1.mono HB.size)));go_ret;exact⟨nP hd.out,HB⟩

theorem tc (z:Int)(w:World)(h0:0<=z)(h63:z<=9223372036854775807):
  Calls pG 27 #[I Y z] w λe w'=>e=Rt (.string (dz z))/\Below w.heap.size w w':=by
 obtain⟨n,rfl⟩:=Int.eq_ofNat_of_zero_le h0
 induction n using Nat.strongRecOn generalizing w with
 |ind n ih=>
  by_cases h:n < 10
  ·exact Bc n w h
  ·refine Ac n w (by omega) h63 λk wk hk hlt=> ?_
   obtain⟨j,rfl⟩:=Int.eq_ofNat_of_zero_le hk;exact ih j (by omega) wk (by omega) (by omega)

theorem mM (z:Int)(h0:z < 0):(⟨#[45]⟩:ByteArray)++dz (-z)=⟨(Lib.itoa z).toArray⟩:=by
 unfold dz Lib.itoa;rw[if_pos h0,show (-z).toNat=z.natAbs by omega];apply ByteArray.ext;simp

theorem pO {p:Prop}(h:p:=by
 go_enter Tryz.func27,Tryz.ntmps27;go_wp2_with (go_at_call 27;refine(tc _ _ ?h1 ?h2).mono ?_;(case h1=>omega);(case h2=>omega);rintro e w1 ⟨rfl,hb1⟩;have HB:Below w.heap.size w w1:=(by first|exact hb1|exact HB.trans (hb1.mono HB.size)));go_ret;exact⟨nP hd.out,HB⟩):p:=h
theorem Bm (z:Int)(w:World)(h0:z < 0)(h10: -10 < z):
  Calls pG 27 #[I Y z] w λe w'=>e=Rt (.string ⟨(Lib.itoa z).toArray⟩)/\Below w.heap.size w w':=by
 have hd:Hid ((⟨#[45]⟩:ByteArray)++dz (-z)=⟨(Lib.itoa z).toArray⟩):=mM z h0;have l1:=lf (-z) (by omega) (by omega);have s0:(⟨#[45]⟩:ByteArray).size=1:=rfl;have s1:¬9223372036854775807 < (⟨#[45]⟩:ByteArray).size+(dz (-z)).size:=by omega
 exact pO

theorem AN (z:Int)(w:World)(h0:z<= -10)(h63: -9223372036854775808<=z):
  Calls pG 27 #[I Y z] w λe w'=>e=Rt (.string ⟨(Lib.itoa z).toArray⟩)/\Below w.heap.size w w':=by
 have e1:wrap64 (-z.tdiv 10)= -z / 10:=by
  have: -z.tdiv 10= -z / 10:=by rw[<-Int.neg_tdiv,Int.tdiv_eq_ediv_of_nonneg (by omega)]
  rw[this];unfold wrap64;omega
 have e2:wrap64 (-z.tmod 10)= -z % 10:=by
  have: -z.tmod 10= -z % 10:=by rw[<-Int.neg_tmod,Int.tmod_eq_emod_of_nonneg (by omega)]
  rw[this];unfold wrap64;omega
 have hd:Hid ((⟨#[45]⟩:ByteArray)++dz (-z / 10)++dz (-z % 10)=⟨(Lib.itoa z).toArray⟩):=by
  show _=_;rw[ByteArray.append_assoc,Au (-z) (by omega)];exact mM z (by omega)
 have l1:=lf (-z / 10) (by omega) (by omega);have l2:=lf (-z % 10) (by omega) (by omega);have s1:¬9223372036854775807 < 1+(dz (-z / 10)).size:=by omega
 have s2:¬9223372036854775807 < 1+(dz (-z / 10)).size+(dz (-z % 10)).size:=by omega
 exact pO

theorem Ba (z:Int)(w:World)(h0: -9223372036854775808<=z)(h1:z<=9223372036854775807):
  Calls pG 27 #[I Y z] w λe w'=>e=Rt (.string ⟨(Lib.itoa z).toArray⟩)/\Below w.heap.size w w':=by
 by_cases hz:0<=z
 ·have:(⟨(Lib.itoa z).toArray⟩:ByteArray)=dz z:=by unfold Lib.itoa dz;rw[if_neg (by omega)]
  rw[this];exact tc z w hz h1
 ·by_cases hl: -10 < z
  ·exact Bm z w (by omega) hl
  ·exact AN z w (by omega) h0
theorem bS {w:World}{B:Nat}{e:TypeId}{z:Nat}{v:Value}{n:Nat}{xs:List Value}(h:w.ownsRow B e z v n xs){k:Nat}(hk:v.ownBlock=sO k):k < w.heap.size/\B<=k:=by
 rcases h.2 with⟨rfl,_⟩|⟨g,cap,cur,rfl,hb,hg,_⟩
 ·cases hk
 ·cases hk
  exact⟨(j0.1 hg).1,hb⟩

theorem bj {w w':World}{B:Nat}{e:TypeId}{z:Nat}{v:Value}{n:Nat}{xs:List Value}(h:w.ownsRow B e z v n xs)(hb:∀k,v.ownBlock=sO k->w'.heap[k]? =w.heap[k]?):w'.ownsRow B e z v n xs:=by
 obtain⟨h1,h2⟩:=h;refine⟨h1,?_⟩;rcases h2 with h2|⟨g,cap,cur,hv,hB,hg,r⟩
 ·exact .inl h2
 ·exact .inr ⟨g,cap,cur,hv,hB,by rw[hb g (by rw[hv];rfl)];exact hg,r⟩
theorem Tryz.info_int:(Tryz.prog.info? 3).map (λi=>(i.zero,i.size,i.bytes))=sO (sO (I Y 0),1,8):=by kernel_rfl

theorem dh {w:World}{B:Nat}{e:TypeId}{z:Nat}{v:Value}{n:Nat}{xs:List Value}(h:w.ownsRow B e z v n xs){k:Nat}(hk:v.ownBlock=sO k):B<=k:=by
 rcases h.2 with⟨rfl,_⟩|⟨g,cap,cur,rfl,hb,hg,_⟩
 ·cases hk
 ·cases hk
  exact hb
end
section
structure Sp where
 n:Bool
 lo:Int
 hi:Int
deriving DecidableEq

def aS (x:Int):Prop:= -2147483648<=x/\x<=2147483647
instance (x:Int):Decidable (aS x):=inferInstanceAs (Decidable (_/\_))

def ci (s:Sp):Int:=
 if¬(aS s.lo/\aS s.hi) then 3 else if s.n=true/\¬(s.lo=0/\s.hi=0) then 1 else if s.hi < s.lo then 4 else 0

def bl (s t:Sp):Int:=if ci s=0 then ci t else ci s

def Sp.Ok (s:Sp):Prop:=aS s.lo/\aS s.hi/\(s.n=true->s.lo=0/\s.hi=0)/\s.lo<=s.hi

theorem ckSp_ok {s:Sp}:ci s=0↔s.Ok:=by
 unfold ci Sp.Ok;by_cases h1:aS s.lo/\aS s.hi
 ·rw[if_neg (by simpa using h1)]
  by_cases h2:s.n=true/\¬(s.lo=0/\s.hi=0)
  ·rw[if_pos h2]
   refine⟨λh=>absurd h (by decide),λh=>absurd (h.2.2.1 h2.1) h2.2⟩
  ·rw[if_neg h2]
   have h3:s.n=true->s.lo=0/\s.hi=0:=λhn=>Decidable.not_not.1 λhc=>h2 ⟨hn,hc⟩;by_cases h4:s.hi < s.lo
   ·rw[if_pos h4]
    exact⟨λh=>absurd h (by decide),λh=>absurd h.2.2.2 (by omega)⟩
   ·rw[if_neg h4]
    exact⟨λ_=>⟨h1.1,h1.2,h3,by omega⟩,λ_=>rfl⟩
 ·rw[if_pos h1]
  exact⟨λh=>absurd h (by decide),λh=>absurd ⟨h.1,h.2.1⟩ h1⟩

theorem ckSps_ok {s t:Sp}:bl s t=0↔s.Ok/\t.Ok:=by
 unfold bl;by_cases h:ci s=0
 ·rw[if_pos h,ckSp_ok]
  exact⟨λht=>⟨ckSp_ok.1 h,ht⟩,λht=>ht.2⟩
 ·rw[if_neg h]
  exact⟨λht=>absurd ht h,λht=>absurd (ckSp_ok.2 ht.1) h⟩

def Sp.has (s:Sp)(x:Int):Bool:= !s.n&&(decide (s.lo<=x)&&decide (x<=s.hi))
def aU (s t:Sp):Sp:=if s.n then t else if t.n then s else⟨false,min s.lo t.lo,max s.hi t.hi⟩
def aY (s t:Sp):Sp:=if s.n then t else if t.n then s else⟨false,if t.lo < s.lo then -2147483648 else s.lo,if s.hi < t.hi then 2147483647 else s.hi⟩
def au (s t:Sp):Sp:=if s.n||t.n||decide (min s.hi t.hi < max s.lo t.lo) then⟨true,0,0⟩ else⟨false,max s.lo t.lo,min s.hi t.hi⟩
def d9 (s t:Sp):Bool:=s.n||(t.has s.lo&&t.has s.hi)

def nw (k x y:Int):Int:=if k=5 then x+y else if k=6 then x - y else x * y
def dw (a b c d:Int):Int:=min (min (min a b) c) d
def dx (a b c d:Int):Int:=max (max (max a b) c) d
def fE (a b c d:Int):Sp:=if aS (dw a b c d)/\aS (dx a b c d) then⟨false,dw a b c d,dx a b c d⟩ else⟨false,-2147483648,2147483647⟩
def bY (k:Int)(s t:Sp):Sp:=if s.n||t.n then⟨true,0,0⟩ else fE (nw k s.lo t.lo) (nw k s.lo t.hi) (nw k s.hi t.lo) (nw k s.hi t.hi)

def bp:Sp:=⟨false,0,0⟩
theorem KQ {k:Int}{s t:Sp}(hs:s.Ok)(ht:t.Ok):(bY k s t).Ok:=by
 unfold bY;split
 ·exact⟨by decide,by decide,λ_=>⟨rfl,rfl⟩,Int.le_refl _⟩
 ·unfold fE
  split
  ·rename_i h
   refine⟨h.1,h.2,λhn=>(by cases hn),?_⟩;unfold dw dx;simp only;omega
  ·exact⟨by decide,by decide,λhn=>(by cases hn),by decide⟩

theorem Is {s t:Sp}(hs:s.Ok)(ht:t.Ok):(aU s t).Ok:=by
 unfold aU;split
 ·exact ht
 ·split
  ·exact hs
  ·obtain⟨a,b,_,d⟩:=hs
   obtain⟨a',b',_,d'⟩:=ht;unfold aS at a b a' b';refine⟨?_,?_,λhn=>(by cases hn),?_⟩<;>(try unfold aS)<;>simp only<;>omega

theorem Hp {s t:Sp}(hs:s.Ok)(ht:t.Ok):(aY s t).Ok:=by
 unfold aY;split
 ·exact ht
 ·split
  ·exact hs
  ·obtain⟨a,b,_,d⟩:=hs
   obtain⟨a',b',_,d'⟩:=ht;unfold aS at a b a' b';refine⟨?_,?_,λhn=>(by cases hn),?_⟩<;>(try unfold aS)<;>simp only<;>(repeat' split)<;>omega
structure Gs where
 n:Bool
 sp:Sp
 t:Bool
 f:Bool
 s:List Int

def bV (c:List Ins)(x:Int):Bool:=decide (0<=x)&&(decide (x < c.length)&&decide ((c.getD x.toNat ⟨0,0,0,0,0,0⟩).k=11))

def cT:List Int->Bool
 |[]=>true
 |[_]=>true
 |a::b::r=>decide (a < b)&&cT (b::r)

def aq (c:List Ins)(g:Gs):Int:=if ci g.sp≠0 then ci g.sp else if g.s.all (bV c)=false then 5 else if cT g.s=false then 4 else 0

def bU (c:List Ins):List Gs->Int
 |[]=>0
 |g::r=>if aq c g=0 then bU c r else aq c g

def aQ (V F:Int)(c:List Ins)(l:List Gs):Int:=if ah V F c=0 then bU c l else ah V F c

def fV (a b:List Int):List Int:=((List.range 60).map λn:Nat=>(n:Int)).filter λx=>a.contains x||b.contains x

def ae (wide:Bool)(g h:Gs):Gs:=⟨g.n||h.n,if wide then aY g.sp h.sp else aU g.sp h.sp,g.t||h.t,g.f||h.f,fV g.s h.s⟩
def cY (g h:Gs):Bool:= !(g.n&& !h.n)&&(!(g.t&& !h.t)&&(!(g.f&& !h.f)&&(d9 g.sp h.sp&&g.s.all λx=>h.s.contains x)))
def bT (g:Gs):Bool:=(!g.sp.n&& !decide (g.sp.lo=0/\g.sp.hi=0))||(g.t||decide (0 < g.s.length))
def cA (g:Gs):Bool:=g.sp.has 0||(g.n||g.f)
def aG (g:Gs):Bool:=g.n||(g.t||(g.f||decide (0 < g.s.length)))
def ag (g:Gs):Bool:=g.sp.n&& !aG g
def noneG:Gs:=⟨false,⟨true,0,0⟩,false,false,[]⟩
def bn:Gs:=⟨false,⟨false,0,0⟩,false,false,[]⟩
def b2n (b:Bool):Nat:=if b then 1 else 0
def dW (g:Gs):Bool:=decide (b2n g.n+b2n (!g.sp.n)+b2n g.t+b2n g.f=1)&&(decide (g.sp.lo=g.sp.hi)&&decide (g.s.length=0))
def cL (g h:Gs):Bool:=dW g&&(dW h&&(g.n==h.n&&(decide (g.sp=h.sp)&&(g.t==h.t&&g.f==h.f))))

def cu (k:Int)(g h:Gs):Gs×Bool:=
 if k=4 then(g,false)
 else if k=10 then(⟨false,⟨true,0,0⟩,cA g,bT g,[]⟩,false)
 else if ag g||ag h then(noneG,false)
 else if k=9 then(⟨false,⟨true,0,0⟩,(g.n&&h.n)||(!(au g.sp h.sp).n||((g.t&&h.t)||((g.f&&h.f)||g.s.any λx=>h.s.contains x))),!cL g h,[]⟩,false)
 else if k=8 then(⟨false,⟨true,0,0⟩,!(g.sp.n||h.sp.n)&&decide (g.sp.lo < h.sp.hi),!(g.sp.n||h.sp.n)&&decide (h.sp.lo<=g.sp.hi),[]⟩,aG g||aG h)
 else(⟨false,bY k g.sp h.sp,false,false,[]⟩,aG g||aG h)
end
section
open Go.RowKit
abbrev sv (s:Sp):Value:=Ag #[Bb s.n,I Y s.lo,I Y s.hi]

theorem fW (n:Int)(w:World):
  Calls pG 225 #[I Y n] w λe w'=>e=Rt (Bb (!decide (aS n)))/\w'=w:=by
 have e1:decide (aS n)=(decide (-2147483648<=n)&&decide (n<=2147483647)):=by unfold aS;exact Bool.decide_and _ _
 rw[e1];by_cases h1:n < -2147483648
 ·go_enter Tryz.func225,Tryz.ntmps225
  go_wp2;go_ret;exact⟨aP (by simp<;>omega),rfl⟩
 ·by_cases h2:n > 2147483647
  ·go_enter Tryz.func225,Tryz.ntmps225
   go_wp2;go_ret;exact⟨aP (by simp<;>omega),rfl⟩
  ·go_enter Tryz.func225,Tryz.ntmps225
   go_wp2;go_ret;exact⟨aP (by simp<;>omega),rfl⟩

theorem tS (w:World):
  Calls pG 226 #[] w λe w'=>e=Rt (sv ⟨true,0,0⟩)/\w'=w.alloc (Cc #[Bb true,I Y 0,I Y 0] 89):=by
 go_enter Tryz.func226,Tryz.ntmps226;go_wp2
 go_returns
 exact⟨rfl,by simp[go_sem]⟩

theorem EE (w:World):
  Calls pG 226 #[] w λe w'=>e=Rt (sv ⟨true,0,0⟩)/\Below w.heap.size w w':=by
 refine(tS w).mono ?_;rintro e w' ⟨rfl,rfl⟩;exact⟨rfl,by go_grown⟩

theorem DY (w:World):
  Calls pG 245 #[] w λe w'=>e=Rt (sv ⟨false,-2147483648,2147483647⟩)/\w'=w.alloc (Cc #[Bb false,I Y (-2147483648),I Y 2147483647] 89):=by
 go_enter Tryz.func245,Tryz.ntmps245;go_wp2
 go_returns
 exact⟨rfl,by simp[go_sem]⟩

theorem nJ (n m:Int)(w:World)(h:wrap64 (n+m)=n+m):
  Calls pG 229 #[I Y n,I Y m] w λe w'=>e=Rt (I Y (n+m))/\w'=w:=by
 go_enter Tryz.func229,Tryz.ntmps229;go_wp2;go_ret;exact⟨bG h,rfl⟩

theorem nT (n m:Int)(w:World)(h:wrap64 (n - m)=n - m):
  Calls pG 230 #[I Y n,I Y m] w λe w'=>e=Rt (I Y (n - m))/\w'=w:=by
 go_enter Tryz.func230,Tryz.ntmps230;go_wp2;go_ret;exact⟨bG h,rfl⟩

theorem nL (n m:Int)(w:World)(h:wrap64 (n * m)=n * m):
  Calls pG 231 #[I Y n,I Y m] w λe w'=>e=Rt (I Y (n * m))/\w'=w:=by
 go_enter Tryz.func231,Tryz.ntmps231;go_wp2;go_ret;exact⟨bG h,rfl⟩

theorem rB {p:Prop}(h:p:=by
 go_enter Tryz.func195,Tryz.ntmps195;go_wp2_with (go_at_call 225;refine(fW _ _).mono ?_;rintro e w' ⟨rfl,rfl⟩);go_ret;exact⟨rfl,by go_grown⟩):p:=h
theorem Im (n:Bool)(lo hi:Int)(w:World)(h:¬aS lo):
  Calls pG 195 #[sv ⟨n,lo,hi⟩] w λe w'=>e=Rt (I Y 3)/\Below w.heap.size w w':=by
 have h1:decide (aS lo)=false:=by simpa using h
 exact rB

theorem Ij (n:Bool)(lo hi:Int)(w:World)(h:aS lo)(h':¬aS hi):
  Calls pG 195 #[sv ⟨n,lo,hi⟩] w λe w'=>e=Rt (I Y 3)/\Below w.heap.size w w':=by
 have h1:decide (aS lo)=true:=by simpa using h
 have h2:decide (aS hi)=false:=by simpa using h'
 exact rB

theorem l9 {p:Prop}(h:p:=by
 go_enter Tryz.func195,Tryz.ntmps195;go_wp2_with (go_at_call 225;refine(fW _ _).mono ?_;rintro e w' ⟨rfl,rfl⟩);refine wp_region_quiet_below (by kernel_rfl) (by kernel_rfl) ?_
 repeat (quiet_step (exact Calls.regrown_of (EE _)))
 refine wpQuiet_nil ?_;intro _ hw';obtain⟨⟨dq,osq⟩,hw''⟩:=hw';subst hw'';go_wp2;go_ret;exact⟨rfl,Below.trans (by go_grown) ((below_regrown _ dq osq).mono (by go_size))⟩):p:=h
theorem FN (lo hi:Int)(w:World)(h:aS lo)(h':aS hi)(hz:(lo==0)=false):
  Calls pG 195 #[sv ⟨true,lo,hi⟩] w λe w'=>e=Rt (I Y 1)/\Below w.heap.size w w':=by
 have h1:decide (aS lo)=true:=by simpa using h
 have h2:decide (aS hi)=true:=by simpa using h'
 have c0:=cell_regrown (w:=w.alloc (Cc #[Bb true,I Y lo,I Y hi] 89)) (a:=⟨w.heap.size,0,nO⟩) (v:=Bb true) (by simp[go_sem]);have c1:=cell_regrown (w:=w.alloc (Cc #[Bb true,I Y lo,I Y hi] 89)) (a:=⟨w.heap.size,1,nO⟩) (v:=I Y lo) (by simp[go_sem]);have c2:=cell_regrown (w:=w.alloc (Cc #[Bb true,I Y lo,I Y hi] 89)) (a:=⟨w.heap.size,2,nO⟩) (v:=I Y hi) (by simp[go_sem]);exact l9

theorem Fx (hi:Int)(w:World)(h':aS hi)(hz:(hi==0)=false):
  Calls pG 195 #[sv ⟨true,0,hi⟩] w λe w'=>e=Rt (I Y 1)/\Below w.heap.size w w':=by
 have h1:decide (aS 0)=true:=by decide
 have h2:decide (aS hi)=true:=by simpa using h'
 have c0:=cell_regrown (w:=w.alloc (Cc #[Bb true,I Y 0,I Y hi] 89)) (a:=⟨w.heap.size,0,nO⟩) (v:=Bb true) (by simp[go_sem]);have c1:=cell_regrown (w:=w.alloc (Cc #[Bb true,I Y 0,I Y hi] 89)) (a:=⟨w.heap.size,1,nO⟩) (v:=I Y 0) (by simp[go_sem]);have c2:=cell_regrown (w:=w.alloc (Cc #[Bb true,I Y 0,I Y hi] 89)) (a:=⟨w.heap.size,2,nO⟩) (v:=I Y hi) (by simp[go_sem]);exact l9

theorem Io (w:World):
  Calls pG 195 #[sv ⟨true,0,0⟩] w λe w'=>e=Rt (I Y 0)/\Below w.heap.size w w':=by
 have h1:decide (aS 0)=true:=by decide
 have c0:=cell_regrown (w:=w.alloc (Cc #[Bb true,I Y 0,I Y 0] 89)) (a:=⟨w.heap.size,0,nO⟩) (v:=Bb true) (by simp[go_sem]);have c1:=cell_regrown (w:=w.alloc (Cc #[Bb true,I Y 0,I Y 0] 89)) (a:=⟨w.heap.size,1,nO⟩) (v:=I Y 0) (by simp[go_sem]);have c2:=cell_regrown (w:=w.alloc (Cc #[Bb true,I Y 0,I Y 0] 89)) (a:=⟨w.heap.size,2,nO⟩) (v:=I Y 0) (by simp[go_sem]);exact l9

theorem pN {p:Prop}(h:p:=by
 have h1:decide (aS lo)=true:=by simpa using h
 have h2:decide (aS hi)=true:=by simpa using h'
 go_enter Tryz.func195,Tryz.ntmps195;go_wp2_with (go_at_call 225;refine(fW _ _).mono ?_;rintro e w' ⟨rfl,rfl⟩)
 go_quiet (fail)
 go_wp2;go_ret;exact⟨rfl,below_drewN (by go_grown) _⟩):p:=h
theorem Ib (lo hi:Int)(w:World)(h:aS lo)(h':aS hi)(hz:hi < lo):
  Calls pG 195 #[sv ⟨false,lo,hi⟩] w λe w'=>e=Rt (I Y 4)/\Below w.heap.size w w':=pN

theorem IV (lo hi:Int)(w:World)(h:aS lo)(h':aS hi)(hz:¬hi < lo):
  Calls pG 195 #[sv ⟨false,lo,hi⟩] w λe w'=>e=Rt (I Y 0)/\Below w.heap.size w w':=pN

theorem gL (s:Sp)(w:World):
  Calls pG 195 #[sv s] w λe w'=>e=Rt (I Y (ci s))/\Below w.heap.size w w':=by
 obtain⟨n,lo,hi⟩:=s;unfold ci;by_cases h:aS lo
 ·by_cases h':aS hi
  ·rw[if_neg (by simp[h,h'])]
   cases n with
   |true=>
    by_cases hz:lo=0
    ·subst hz
     by_cases hz':hi=0
     ·subst hz'
      rw[if_neg (by simp),if_neg (by simp)];exact Io w
     ·rw[if_pos (by simp[hz'])]
      exact Fx hi w h' (by simpa using hz')
    ·rw[if_pos (by simp[hz])]
     exact FN lo hi w h h' (by simpa using hz)
   |false=>
    rw[if_neg (by simp)];by_cases hz:hi < lo
    ·rw[if_pos hz]
     exact Ib lo hi w h h' hz
    ·rw[if_neg hz]
     exact IV lo hi w h h' hz
  ·rw[if_pos (by simp[h'])]
   exact Ij n lo hi w h h'
 ·rw[if_pos (by simp[h])]
  exact Im n lo hi w h
theorem oZ {B:Nat}{n:Bool}{lo hi:Int}{w w1:World}(hb:Below B (w.alloc (Cc #[Bb n,I Y lo,I Y hi] 89)) w1)(hB:w.heap.size < B):w1.cell? ⟨w.heap.size,0,nO⟩=sO (Bb n)/\w1.cell? ⟨w.heap.size,1,nO⟩=sO (I Y lo)/\w1.cell? ⟨w.heap.size,2,nO⟩=sO (I Y hi):=by
 rw[hb.cell (by simpa using hB),hb.cell (by simpa using hB),hb.cell (by simpa using hB)];simp[go_sem]

theorem ny {B:Nat}{n n':Bool}{lo hi lo' hi':Int}{w w1:World}(hb:Below B ((w.alloc (Cc #[Bb n,I Y lo,I Y hi] 89)).alloc (Cc #[Bb n',I Y lo',I Y hi'] 89)) w1)(hB:w.heap.size+1 < B):w1.cell? ⟨w.heap.size,0,nO⟩=sO (Bb n)/\w1.cell? ⟨w.heap.size,1,nO⟩=sO (I Y lo)/\w1.cell? ⟨w.heap.size,2,nO⟩=sO (I Y hi)/\w1.cell? ⟨w.heap.size+1,0,nO⟩=sO (Bb n')/\w1.cell? ⟨w.heap.size+1,1,nO⟩=sO (I Y lo')/\w1.cell? ⟨w.heap.size+1,2,nO⟩=sO (I Y hi'):=by
 rw[hb.cell (by simp;omega),hb.cell (by simp;omega),hb.cell (by simp;omega),hb.cell (by simpa using hB),hb.cell (by simpa using hB),hb.cell (by simpa using hB)];simp[go_sem]

theorem nQ {a b:Bool}{v:Value}(h:a=b):Ending.returned (Tu #[Bb a,v])=Rt (Tu #[Bb b,v]):=by rw[h]

theorem Iy (s:Sp)(x:Int)(w:World)(h:ci s≠0):
  Calls pG 143 #[sv s,I Y x] w λe w'=>e=Rt (Tu #[Bb false,I Y (ci s)])/\Below w.heap.size w w':=by
 obtain⟨n,lo,hi⟩:=s;have h0:Below w.heap.size w (w.alloc (Cc #[Bb n,I Y lo,I Y hi] 89)):=by go_grown
 go_enter Tryz.func143,Tryz.ntmps143;go_wp2_with (go_at_call 195;refine(gL ⟨n,lo,hi⟩ _).mono ?_;rintro e w1 ⟨rfl,hb1⟩)
 go_ret2
 exact⟨rfl,h0.trans (hb1.mono (by simp))⟩

theorem Kf (s:Sp)(x:Int)(w:World)(h:ci s=0):
  Calls pG 143 #[sv s,I Y x] w λe w'=>e=Rt (Tu #[Bb (s.has x),I Y 0])/\Below w.heap.size w w':=by
 obtain⟨n,lo,hi⟩:=s;have h0:Below w.heap.size w (w.alloc (Cc #[Bb n,I Y lo,I Y hi] 89)):=by go_grown
 go_enter Tryz.func143,Tryz.ntmps143;go_wp2_with (go_at_call 195;fail);refine(gL ⟨n,lo,hi⟩ _).mono ?_;rintro e w1 ⟨rfl,hb1⟩;rw[h];obtain⟨c0,c1,c2⟩:=oZ hb1 (by simp);have s1:w.heap.size < w1.heap.size:=by have:=hb1.size;simp at this;omega
 cases n with
 |true=>
  go_wp2
  go_ret2
  exact⟨nQ (by simp[Sp.has, *]),h0.trans (hb1.mono (by simp))⟩
 |false=>
  by_cases hl:lo<=x
  ·have d1:decide (lo<=x)=true:=by simpa using hl
   go_wp2
   go_ret2
   exact⟨nQ (by simp[Sp.has, *]),h0.trans (hb1.mono (by simp))⟩
  ·have d1:decide (lo<=x)=false:=by simpa using hl
   go_wp2
   go_ret2
   exact⟨nQ (by simp[Sp.has, *]),h0.trans (hb1.mono (by simp))⟩

theorem Iu (s:Sp)(x:Int)(w:World):
  Calls pG 143 #[sv s,I Y x] w λe w'=>e=Rt (Tu #[Bb (decide (ci s=0)&&s.has x),I Y (ci s)])/\Below w.heap.size w w':=by
 by_cases h:ci s=0
 ·have:=Kf s x w h
  rw[h];simpa using this
 ·have:=Iy s x w h
  simpa[h] using this

theorem dM (s t:Sp)(w:World):
  Calls pG 219 #[sv s,sv t] w λe w'=>e=Rt (I Y (bl s t))/\Below w.heap.size w w':=by
 have e0:bl s t=if ci s=0 then ci t else ci s:=rfl
 obtain⟨n,lo,hi⟩:=s;obtain⟨n',lo',hi'⟩:=t;by_cases h:ci ⟨n,lo,hi⟩=0
 ·rw[if_pos h] at e0
  rw[e0];go_enter Tryz.func219,Tryz.ntmps219;go_wp2_with (go_at_call 195;fail);refine(gL ⟨n,lo,hi⟩ _).mono ?_;rintro e w1 ⟨rfl,hb1⟩;rw[h];obtain⟨c0,c1,c2,d0,d1,d2⟩:=ny hb1 (by simp);have s1:w.heap.size+1 < w1.heap.size:=by have:=hb1.size;simp at this;omega
  go_wp2_with (go_at_call 195;fail);refine(gL ⟨n',lo',hi'⟩ _).mono ?_;rintro e w2 ⟨rfl,hb2⟩;go_wp2;go_ret;refine⟨rfl,?_⟩;exact(Below.trans (by go_grown) (hb1.mono (by simp;omega))).trans (hb2.mono (by omega))
 ·rw[if_neg h] at e0
  rw[e0];go_enter Tryz.func219,Tryz.ntmps219;go_wp2_with (go_at_call 195;fail);refine(gL ⟨n,lo,hi⟩ _).mono ?_;rintro e w1 ⟨rfl,hb1⟩;go_wp2;go_ret;refine⟨rfl,?_⟩;exact Below.trans (by go_grown) (hb1.mono (by simp;omega))

theorem fL {n:Bool}{lo hi:Int}{t:Sp}(h:t=⟨n,lo,hi⟩):Ending.returned (Ag #[Bb n,I Y lo,I Y hi])=Rt (sv t):=by rw[h]

theorem wP (s t:Sp)(w:World):
  Calls pG 182 #[sv s,sv t] w λe w'=>e=Rt (sv (aU s t))/\Below w.heap.size w w':=by
 obtain⟨n,lo,hi⟩:=s;obtain⟨n',lo',hi'⟩:=t;cases n with
 |true=>
  go_enter Tryz.func182,Tryz.ntmps182;go_wp2
  go_returns
  exact⟨rfl,by go_grown⟩
 |false=>
  cases n' with
  |true=>
   go_enter Tryz.func182,Tryz.ntmps182;go_wp2
   go_returns
   exact⟨rfl,by go_grown⟩
  |false=>
   go_enter Tryz.func182,Tryz.ntmps182;go_wp2
   all_goals go_returns
   all_goals exact⟨fL (by simp[aU]<;>omega),by go_grown⟩

theorem Dl {lo hi lo' hi':Int}(h:min hi hi' < max lo lo'):au ⟨false,lo,hi⟩ ⟨false,lo',hi'⟩=⟨true,0,0⟩:=by
 unfold au;rw[if_pos (by simp only[Bool.false_or];exact decide_eq_true h)]
theorem Aq {lo hi lo' hi' a b:Int}(ha:a=max lo lo')(hb:b=min hi hi')(h:a<=b):au ⟨false,lo,hi⟩ ⟨false,lo',hi'⟩=⟨false,a,b⟩:=by
 subst ha hb;unfold au;rw[if_neg (by simp only[Bool.false_or,decide_eq_true_eq];omega)]

theorem EK (s t:Sp)(w:World):
  Calls pG 197 #[sv s,sv t] w λe w'=>e=Rt (sv (au s t))/\Below w.heap.size w w':=by
 obtain⟨n,lo,hi⟩:=s;obtain⟨n',lo',hi'⟩:=t;have h0:Below w.heap.size w (((w.alloc (Cc #[Bb n,I Y lo,I Y hi] 89)).alloc (Cc #[Bb n',I Y lo',I Y hi'] 89)).alloc (Cc #[Bb false,I Y 0,I Y 0] 89)):=by go_grown
 rcases Int.lt_or_le lo lo' with h1|h1<;>rcases Int.lt_or_le hi' hi with h2|h2<;>cases n<;>cases n'
 all_goals
  go_enter Tryz.func197,Tryz.ntmps197;go_wp2
  go_quiet (fail)
  go_wp2_with (go_at_call 226;refine(tS _).mono ?_;rintro e w1 ⟨rfl,rfl⟩)
 all_goals go_returns
 all_goals exact⟨fL (by first|rfl|exact meet_n _ _ _ _ _|exact Aq (by omega) (by omega) (by omega)|exact Dl (by omega)),by go_grown;exact below_drewN (by go_grown) _⟩
end
section
structure Pic where
 none:Bool
 vars:List Gs
 flds:List (List Gs)

def nonePic:Pic:=⟨true,[],[]⟩
def dn:Pic:=⟨false,[],[]⟩
def bF (x:Pic):List Gs:=x.vars++x.flds.flatten
def dm (g h:Gs):Bool:=g.n==h.n&&(decide (g.sp=h.sp)&&(g.t==h.t&&(g.f==h.f&&decide (g.s=h.s))))
theorem sameGs_iff {g h:Gs}:dm g h=true↔g=h:=by
 obtain⟨a,b,c,d,e⟩:=g;obtain⟨a',b',c',d',e'⟩:=h;simp only[dm,j1,beq_iff_eq,decide_eq_true_eq,Gs.mk.injEq]
def cM (g:Gs):Bool:= !dm g noneG
def bC (V F:Int)(c:List Ins)(x:Pic):Bool:=
 if x.none then decide (x.vars.length=0)&&decide (x.flds.length=0)
 else decide ((x.vars.length:Int)=V)&&(decide (x.flds.length=c.length)&& !(x.flds.any λr=> !decide ((r.length:Int)=F)))
def dp (c:List Ins)(p:Gs->Bool):Nat->List (List Gs)->Bool
 |_,[]=>false
 |i,r::l=>(!bV c i&&r.any p)||dp c p (i+1) l
def aF (V F:Int)(c:List Ins)(x:Pic):Int:=
 if bC V F c x=false then 1 else if bU c (bF x)≠0 then bU c (bF x) else if dp c (λg=> !ag g) 0 x.flds then 4 else 0
def cj (V F:Int)(c:List Ins):List Pic->Int
 |[]=>0
 |x::l=>if aF V F c x=0 then cj V F c l else aF V F c x
def aK (V F:Int)(c:List Ins)(l:List Pic):Int:=if ah V F c=0 then cj V F c l else ah V F c

def cE:Gs:=⟨true,⟨true,0,0⟩,false,false,[]⟩
def bt (V F:Int)(c:List Ins):Pic:=⟨false,j3 V.toNat cE,j3 c.length (j3 F.toNat noneG)⟩
def aI (j:Gs->Gs->Gs)(a b:List Gs):List Gs:=j2 j a b
def aB (j:Gs->Gs->Gs)(x y:Pic):Pic:=if x.none then y else if y.none then x else⟨false,aI j x.vars y.vars,j2 (aI j) x.flds y.flds⟩
def eU (a b:List Gs):Bool:=(j2 cY a b).all id
def bA (x y:Pic):Bool:=x.none||(!y.none&&(eU x.vars y.vars&&(j2 eU x.flds y.flds).all id))

theorem mJ {c:List Ins}:∀{l:List Gs},bU c l=0->∀g∈l,aq c g=0
 |[],_,g,hg=>by simp at hg
 |a::r,h,g,hg=>by
  unfold bU at h;split at h
  ·rename_i h1
   rcases q0.1 hg with rfl|hg
   ·exact h1
   ·exact mJ h g hg
  ·contradiction
theorem DB {c:List Ins}{g:Gs}(h:aq c g=0):cM g= !ag g:=by
 have hs:ci g.sp=0:=by
  unfold aq at h;split at h
  ·exact h
  ·rename_i h1;simpa using h1
 have hok:=ckSp_ok.1 hs;obtain⟨n,⟨sn,lo,hi⟩,t,f,s⟩:=g;have h3:=hok.2.2.1;simp only at h3;unfold cM ag aG dm noneG;cases sn with
 |false=>simp
 |true=>
  obtain⟨e1,e2⟩:=h3 rfl;subst e1 e2;cases n<;>cases t<;>cases f<;>cases s<;>simp
theorem my {c:List Ins}{p q:Gs->Bool}:∀{l:List (List Gs)} {i:Nat},(∀r∈l,∀g∈r,p g=q g)->dp c p i l=dp c q i l
 |[],_,_=>rfl
 |r::l,i,h=>by
  unfold dp;rw[my (l:=l) λr' hr'=>h r' (q1 _ hr')];have:r.any p=r.any q:=by
   have h1:=h r q2;clear h
   induction r with
   |nil=>rfl
   |cons a r ih=>
    simp only[List.any_cons];rw[h1 a q2,ih λg hg=>h1 g (q1 _ hg)]
  rw[this]
theorem BU (V F:Int)(c:List Ins)(x:Pic):aF V F c x=if bC V F c x=false then 1 else if bU c (bF x)≠0 then bU c (bF x) else if dp c cM 0 x.flds then 4 else 0:=by
 unfold aF;by_cases h1:bC V F c x=false
 ·rw[if_pos h1,if_pos h1]
 rw[if_neg h1,if_neg h1];by_cases h2:bU c (bF x)≠0
 ·rw[if_pos h2,if_pos h2]
 rw[if_neg h2,if_neg h2];have h3:bU c (bF x)=0:=by simpa using h2
 rw[my (p:=cM) (q:=λg=> !ag g) λr hr g hg=>DB (mJ h3 g ?_)];unfold bF;rw[List.mem_append,List.mem_flatten];exact .inr ⟨r,hr,hg⟩
end
section
open Go.RowKit Go
def dt (fn:FuncId)(tmps:Array Value)(ps:Array Tmp)(assign body:Code)(D:Nat)(st:LoopState)(pe:Option Code):Loop:={state:=st,pending:=pe,fn:=fn,tmps:=tmps,params:=ps,assign:=assign,body:=body,defers:=D}
structure LoopAt (W:World) (l D:Nat) (r:Loop):Prop where
 lp:W.heap[l]? =sO (.loop r)
 dfr:W.heap[D]? =sO (.deferred (sO []))
theorem LoopAt.below {W W':World}{l D:Nat}{r:Loop}(h:LoopAt W l D r)(hb:Below W.heap.size W W'):LoopAt W' l D r:=⟨(hb.block l (j0.1 h.lp).1).trans h.lp,(hb.block D (j0.1 h.dfr).1).trans h.dfr⟩
section
variable {P:Program} {n:Nat} {fn:FuncId} {g:Operand} {ps:Array Tmp} {assign body:Code} {Q:Exit->Act->World->Prop} {a:Act} {w:World}
theorem AV {gf:Nat}{lb:Array Value}(hg:a.eval g=.func (.func gf) #[] lb)(eg:∀args w,(callFunc gf args).run P w=.ok (.enter gf args) w)
  (J:Nat->Nat->Loop->World->Prop)(Jx:Nat->Nat->Loop->Code->World->Prop)
  (hit:∀fn W1,LoopAt W1 (w.heap.size+1) w.heap.size (dt fn a.tmps ps assign body w.heap.size .ready nO)->Below w.heap.size w W1->CallsIn Fence.wide (n - 1) P gf (#[.func (.yield (w.heap.size+1)) #[] #[]]++lb) W1 λe W'=>(∃v,e=Rt v)/\((LoopAt W' (w.heap.size+1) w.heap.size (dt fn a.tmps ps assign body w.heap.size .ready nO)/\J (w.heap.size+1) w.heap.size (dt fn a.tmps ps assign body w.heap.size .ready nO) W')\/∃c,LoopAt W' (w.heap.size+1) w.heap.size (dt fn a.tmps ps assign body w.heap.size .done (sO c))/\Jx (w.heap.size+1) w.heap.size (dt fn a.tmps ps assign body w.heap.size .done (sO c)) c W'))
  (hdone:∀r W,LoopAt W (w.heap.size+1) w.heap.size r->J (w.heap.size+1) w.heap.size r W->∀r',Q .normal {a with defers:={target:=.collected w.heap.size,args:=#[]}::a.defers} (W.putObj (w.heap.size+1) r'))
  (hstop:∀r c W,LoopAt W (w.heap.size+1) w.heap.size r->Jx (w.heap.size+1) w.heap.size r c W->∀r',c.wpIn Fence.wide n P Q {a with defers:={target:=.collected w.heap.size,args:=#[]}::a.defers} (W.putObj (w.heap.size+1) r')):
  (Code.rangeFunc g ps assign body).wpIn Fence.wide n P Q a w:=by
 refine wpIn_rangeFunc λfn _=> ?_;have hs:(w.alloc (.deferred (sO []))).heap.size=w.heap.size+1:=zA _ _;obtain⟨W1,hW1⟩:∃W1,W1=(w.alloc (.deferred (sO []))).alloc (.loop (dt fn a.tmps ps assign body w.heap.size .ready nO)):=⟨_,rfl⟩;have hb:Below w.heap.size w W1:=by rw[hW1];exact((bR _ w).alloc (lR _) _).alloc (by rw[hs];omega) _
 have h1:LoopAt W1 (w.heap.size+1) w.heap.size (dt fn a.tmps ps assign body w.heap.size .ready nO):=by
  rw[hW1];refine⟨?_,(Below.heap_alloc _ _ _ (by rw[hs];omega)).trans (q4 w _)⟩;have:=q4 (w.alloc (.deferred (sO []))) (.loop (dt fn a.tmps ps assign body w.heap.size .ready nO));rwa [hs] at this
 refine⟨w.heap.size+1,[{target:=.collected w.heap.size,args:=#[]}],W1,{target:=.fn (.func gf) lb,args:=#[.func (.yield (w.heap.size+1)) #[] #[]]},W1,gf,#[.func (.yield (w.heap.size+1)) #[] #[]]++lb,W1,?_,?_,λ_ _=>trivial,?_,λh=>(nomatch h),?_⟩
 ·rw[hW1]
  exact run_enterLoop_outer _ _ _ _ _
 ·simp only[resolve,hg]
  simp[go_sem]
 ·simp[invoke,go_sem,eg]
 ·refine(hit fn _ h1 hb).mono ?_
  rintro e W' ⟨⟨v,rfl⟩,⟨hl,hj⟩|⟨c,hl,hj⟩⟩
  ·exact⟨nO,_,run_endLoop hl.lp (by simp[dt]),hdone _ _ hl hj _⟩
  ·exact⟨sO c,_,run_endLoop hl.lp (by simp[dt]),hstop _ c _ hl hj _⟩
theorem FT {l D m:Nat}{args:Array Value}{tmps:Array Value}{W:World}{R:Ending->World->Prop}(hl:LoopAt W l D (dt fn tmps ps assign body D .ready nO))(hz:args.size=ps.size)
  (h:assign.wpIn (Fence.wide.inRound l) m P (Exit.then (λa₁ W₁=>LoopAt W₁ l D (dt fn tmps ps assign body D .ready nO)/\body.wpIn (Fence.wide.inRound l) m P (λe _ W₃=>LoopAt W₃ l D (dt fn tmps ps assign body D .busy nO)/\(match e with
    |.normal=>R (Rt (Bb true)) (W₃.putObj l (.loop (dt fn tmps ps assign body D .ready nO)))
    |.ret=>R (Rt (Bb false)) (W₃.putObj l (.loop (dt fn tmps ps assign body D .done (sO .ret))))
    |.exit i=>R (Rt (Bb false)) (W₃.putObj l (.loop (dt fn tmps ps assign body D .done (sO (.exit i)))))
    |_=>False)) a₁ (W₁.putObj l (.loop (dt fn tmps ps assign body D .busy nO)))) (λ_ _ _=>False)) {tmps:=(ps.zip args).foldl (λt (p,v)=>t.setIfInBounds p v) tmps,defers:=[]} W):
  YieldAt Fence.wide m P l args W R:=by
 refine⟨fn,_,assign,body,run_yield hl.lp hz,roundIn_of_wpIn trivial (wpIn_mono h ?_)⟩;intro e a1 W1 q;cases e with
 |normal=>
  obtain⟨hl1,hb⟩:=q;refine⟨_,run_beginRound hl1.lp rfl,wpIn_mono hb ?_⟩;intro e a3 W3 q3;obtain⟨hl3,q3⟩:=q3;cases e with
  |normal=>exact⟨_,_,run_endRound nO hl3.lp,q3⟩
  |ret=>exact⟨_,_,run_endRound (sO .ret) hl3.lp,q3⟩
  |exit i=>exact⟨_,_,run_endRound (sO (.exit i)) hl3.lp,q3⟩
  |goto t=>exact q3.elim
  |panic ch=>exact q3.elim
  |outgrown=>exact q3.elim
 |ret=>exact q
 |exit i=>exact q
 |goto t=>exact q
 |panic ch=>exact q
 |outgrown=>exact q
end
end
section
open Go
section
variable {P:Program} {ops:Array Oper} {Q:Exit->Act->World->Prop} {md:Region.Mode} {S:World->Prop} {zs:List Nat}

def cl (P:Program)(md:Region.Mode)(ops:Array Oper)(Q:Exit->Act->World->Prop)(S:World->Prop)(zs:List Nat):Nat->Array Bool->Act->World->Prop
 |0,listed,a,w=>Region.ready md ops listed=[]/\Q .normal a w
 |fuel+1,listed,a,w=>
  (Region.ready md ops listed=[]->Q .normal a w)/\
  ∀i∈Region.ready md ops listed,wpOp P ops Q i (λa' w'=>(i∉zs->S w->S w')/\cl P md ops Q S zs fuel (listed.setIfInBounds i true) a' w') a w

theorem me:∀(fuel:Nat) (listed:Array Bool) (a:Act) (w:World),cl P md ops Q S zs fuel listed a w->wpAny P md ops Q fuel listed a w
 |0,_,_,_,h=>h
 |fuel+1,_,_,_,h=>⟨h.1,λi hi=>wpOp_mono (λa' w' h'=>me fuel _ a' w' h'.2) (h.2 i hi)⟩

def tD (md:Region.Mode)(ops:Array Oper)(i:Nat):Nat->List Nat->List Nat
 |0,ws=>ws
 |n+1,ws=>tD md ops i n ((List.range ops.size).filter λx=>((ops[x]?).map λo=>o.after.any λe=>Region.binds md e&&(e.on==i||ws.contains e.on)).getD false)
def Ar (md:Region.Mode)(ops:Array Oper)(listed:Array Bool)(i:Nat)(ws:List Nat):Bool:=
 ws.all λx=> !(listed.getD x true)&&((ops[x]?).map λo=>o.after.any λe=>Region.binds md e&&(e.on==i||ws.contains e.on)).getD false
def zOk (md:Region.Mode)(ops:Array Oper)(listed:Array Bool)(i:Nat)(zs:List Nat):Bool:=
 !zs.contains i&&(let ws:=tD md ops i 8 [];Ar md ops listed i ws&&zs.all λz=>listed.getD z true||ws.contains z)

theorem wT {i:Nat}{oi:Oper}{v:Value}(hi:ops[i]? =sO oi)(hsel:∀(j:Nat) (o:Oper) cs b,ops[j]? =sO o->o.op≠.select cs b)
  (hQ:∀c a w,Q (.panic c) (a.put oi.dst v) w->Q (.panic c) a w)(hiz:i∉zs)(ws:List Nat)
  (hws:∀x∈ws,∀o,ops[x]? =sO o->∃e∈o.after,Region.binds md e=true/\(e.on=i\/e.on∈ws)):
  ∀(fuel:Nat) (listed:Array Bool) (a:Act) (w:World),
   (∀j oj,ops[j]? =sO oj->j≠i->listed.getD j true=false->(∀e∈oj.after,Region.binds md e=true->e.on≠i)->oi.apart ops oj=true)->
   (∀x∈ws,listed.getD x true=false)->(∀z∈zs,listed.getD z true=true\/z∈ws)->
   i∈Region.ready md ops listed->YieldsIf P ops S oi v a->S w->
   cl P md ops Q S zs fuel (listed.setIfInBounds i true) (a.put oi.dst v) w->cl P md ops Q S zs (fuel+1) listed a w:=by
 intro fuel
 induction fuel with
 |zero=>
  intro listed a w _ _ _ hr hy hS H;refine⟨λh=>(by rw[h] at hr;cases hr),λj hj=> ?_⟩;by_cases hji:j=i
  ·subst hji;exact hy.wpOp hi hS ⟨λ_ _=>hS,H⟩
  ·have:=ready_mono hj hji
   rw[H.1] at this;cases this
 |succ fuel ih=>
  intro listed a w hfree hun hzs hr hy hS H;refine⟨λh=>(by rw[h] at hr;cases hr),λj hj=> ?_⟩;by_cases hji:j=i
  ·subst hji;exact hy.wpOp hi hS ⟨λ_ _=>hS,H⟩
  ·have h1:=H.2 j (ready_mono hj hji)
   obtain⟨hjun,oj,hoj,hall⟩:=mem_ready.1 hj;have h0:=(mem_ready.1 hr).1;have hf:∀x,listed.getD x true=false->listed.getD x false=false:=λx hx=>by
    rcases Nat.lt_or_ge x listed.size with h'|h'
    ·simp[h'] at hx |-;exact hx
    ·simp[Array.getElem?_eq_none h'] at hx
   have hjw:j∉ws:=λhj'=>by
    obtain⟨e,he,hb,hon⟩:=hws j hj' oj hoj;have h2:=hall e he hb;rcases hon with hon|hon
    ·rw[hon,hf i h0] at h2;cases h2
    ·rw[hf _ (hun _ hon)] at h2;cases h2
   have hjz:j∉zs:=λhj'=>by
    rcases hzs j hj' with h|h
    ·rw[h] at hjun;cases hjun
    ·exact hjw h
   have hnot:∀e∈oj.after,Region.binds md e=true->e.on≠i:=λe he hb heq=>by
    have h2:=hall e he hb;rw[heq,hf i h0] at h2;cases h2
   have h2:=wpOp_putIf hoj (hfree j oj hoj hji hjun hnot) (λcs b=>hsel i oi cs b hi) (λcs b=>hsel j oj cs b hoj) hQ hy h1;have hset:∀k,(listed.setIfInBounds j true).getD k true=false->listed.getD k true=false:=λk hk=>by
    by_cases hjk:j=k
    ·subst hjk;exact hjun
    ·rw[getD_set_ne true hjk] at hk;exact hk
   have hfree':∀k ok,ops[k]? =sO ok->k≠i->(listed.setIfInBounds j true).getD k true=false->
     (∀e∈ok.after,Region.binds md e=true->e.on≠i)->oi.apart ops ok=true:=λk ok hk hki hun' hno=>hfree k ok hk hki (hset k hun') hno
   refine wpOp_mono (λa' w' h3=>⟨h3.2.1,ih (listed.setIfInBounds j true) a' w' hfree' (λx hx=> ?_) (λz hz=> ?_) (ready_mono hr (Ne.symm hji)) h3.1 (h3.2.1 hjz hS) ?_⟩) h2
   ·rw[getD_set_ne true (λe=>hjw (by rw[e];exact hx))];exact hun x hx
   ·rcases hzs z hz with h|h
    ·left
     by_cases hjk:j=z
     ·exact absurd (hjk ▸ hz) hjz
     ·rw[getD_set_ne true hjk];exact h
    ·exact .inr h
   ·rw[Array.setIfInBounds_comm _ _ hji]
    exact h3.2.2

theorem Af {i:Nat}{oi:Oper}{v:Value}(hi:ops[i]? =sO oi)(hsel:∀(j:Nat) (o:Oper) cs b,ops[j]? =sO o->o.op≠.select cs b)
  (hQ:∀c a w,Q (.panic c) (a.put oi.dst v) w->Q (.panic c) a w):
  ∀(fuel:Nat) (listed:Array Bool) (a:Act) (w:World),
   (∀j oj,ops[j]? =sO oj->j≠i->listed.getD j true=false->(∀e∈oj.after,Region.binds md e=true->e.on≠i)->oi.apart ops oj=true)->
   i∈Region.ready md ops listed->YieldsIf P ops (λ_=>True) oi v a->
   cl P md ops Q S zs fuel (listed.setIfInBounds i true) (a.put oi.dst v) w->cl P md ops Q S zs (fuel+1) listed a w:=by
 intro fuel
 induction fuel with
 |zero=>
  intro listed a w _ hr hy H;refine⟨λh=>(by rw[h] at hr;cases hr),λj hj=> ?_⟩;by_cases hji:j=i
  ·subst hji;exact hy.wpOp hi trivial ⟨λ_ h=>h,H⟩
  ·have:=ready_mono hj hji
   rw[H.1] at this;cases this
 |succ fuel ih=>
  intro listed a w hfree hr hy H;refine⟨λh=>(by rw[h] at hr;cases hr),λj hj=> ?_⟩;by_cases hji:j=i
  ·subst hji;exact hy.wpOp hi trivial ⟨λ_ h=>h,H⟩
  ·have h1:=H.2 j (ready_mono hj hji)
   obtain⟨hjun,oj,hoj,hall⟩:=mem_ready.1 hj;have h0:=(mem_ready.1 hr).1;have hf:∀x,listed.getD x true=false->listed.getD x false=false:=λx hx=>by
    rcases Nat.lt_or_ge x listed.size with h'|h'
    ·simp[h'] at hx |-;exact hx
    ·simp[Array.getElem?_eq_none h'] at hx
   have hnot:∀e∈oj.after,Region.binds md e=true->e.on≠i:=λe he hb heq=>by
    have h2:=hall e he hb;rw[heq,hf i h0] at h2;cases h2
   have h2:=wpOp_putIf hoj (hfree j oj hoj hji hjun hnot) (λcs b=>hsel i oi cs b hi) (λcs b=>hsel j oj cs b hoj) hQ hy h1;have hset:∀k,(listed.setIfInBounds j true).getD k true=false->listed.getD k true=false:=λk hk=>by
    by_cases hjk:j=k
    ·subst hjk;exact hjun
    ·rw[getD_set_ne true hjk] at hk;exact hk
   have hfree':∀k ok,ops[k]? =sO ok->k≠i->(listed.setIfInBounds j true).getD k true=false->
     (∀e∈ok.after,Region.binds md e=true->e.on≠i)->oi.apart ops ok=true:=λk ok hk hki hun' hno=>hfree k ok hk hki (hset k hun') hno
   refine wpOp_mono (λa' w' h3=>⟨h3.2.1,ih (listed.setIfInBounds j true) a' w' hfree' (ready_mono hr (Ne.symm hji)) h3.1 ?_⟩) h2;rw[Array.setIfInBounds_comm _ _ hji];exact h3.2.2
theorem yV {i:Nat}{oi:Oper}{v:Value}{fuel:Nat}{listed:Array Bool}{a:Act}{w:World}(hi:ops[i]? =sO oi)
  (hs:Region.noSelect ops=true)(hf:Region.free md ops listed i=true)(hr:(Region.ready md ops listed).contains i=true)
  (hQ:∀c a w,Q (.panic c) (a.put oi.dst v) w->Q (.panic c) a w)(hy:YieldsIf P ops (λ_=>True) oi v a)
  (h:cl P md ops Q S zs fuel (listed.setIfInBounds i true) (a.put oi.dst v) w):cl P md ops Q S zs (fuel+1) listed a w:=
 Af hi (Region.noSelect_spec hs) hQ fuel listed a w (Region.free_spec hi hf) (by simpa using hr) hy h

theorem om {i:Nat}{oi:Oper}{v:Value}{fuel:Nat}{listed:Array Bool}{a:Act}{w:World}(hi:ops[i]? =sO oi)
  (hs:Region.noSelect ops=true)(hf:(Region.free md ops listed i&&zOk md ops listed i zs)=true)(hr:(Region.ready md ops listed).contains i=true)
  (hQ:∀c a w,Q (.panic c) (a.put oi.dst v) w->Q (.panic c) a w)(hy:YieldsIf P ops S oi v a)(hS:S w)
  (h:cl P md ops Q S zs fuel (listed.setIfInBounds i true) (a.put oi.dst v) w):cl P md ops Q S zs (fuel+1) listed a w:=by
 rw[j1] at hf;obtain⟨hf,hz⟩:=hf;simp only[zOk,j1,Ar,List.all_eq_true,Bool.not_eq_true',Bool.or_eq_true] at hz;obtain⟨hz1,hz2,hz3⟩:=hz;refine wT hi (Region.noSelect_spec hs) hQ (by simpa using hz1) (tD md ops i 8 []) (λx hx o ho=> ?_) fuel listed a w (Region.free_spec hi hf) (λx hx=>(hz2 x hx).1) (λz hz=> ?_) (by simpa using hr) hy hS h
 ·have:=(hz2 x hx).2
  rw[ho] at this;simp only[Option.map_some,Option.getD_some,Array.any_eq_true,j1,Bool.or_eq_true,beq_iff_eq] at this;obtain⟨k,hk,hb,hon⟩:=this;exact⟨_,Array.getElem_mem hk,hb,hon.imp id (by simp)⟩
 ·rcases hz3 z hz with h|h
  ·exact .inl h
  ·exact .inr (by simpa using h)

theorem ap {listed:Array Bool}{a:Act}{w:World}(hr:Region.ready md ops listed=[])(h:Q .normal a w):
  ∀fuel,cl P md ops Q S zs fuel listed a w
 |0=>⟨hr,h⟩
 |_+1=>⟨λ_=>h,by rw[hr];simp⟩

theorem am {i:Nat}{o:Oper}{fuel:Nat}{listed:Array Bool}{a:Act}{w:World}(ho:ops[i]? =sO o)(hr:Region.ready md ops listed=[i])
  (h:∀K':Act->World->Prop,Shut (∀a w,S w->(S w->cl P md ops Q S zs fuel (listed.setIfInBounds i true) a w)->K' a w)->if Region.wanted o (yielded ops a.tmps)=true then Oper.wp P o a w K' Q else K' (a.put o.dst undef) w):
  cl P md ops Q S zs (fuel+1) listed a w:=by
 refine⟨λh0=>(by rw[hr] at h0;cases h0),λj hj=> ?_⟩;rw[hr] at hj;obtain rfl:j=i:=by simpa using hj
 exact wpOp_step ho (λK' hK=>h K' (λa w hS hW=>hK a w ⟨λ_ _=>hS,hW hS⟩))
theorem AH {i j:Nat}{oi oj:Oper}{fuel:Nat}{listed:Array Bool}{a:Act}{w:World}(hoi:ops[i]? =sO oi)(hoj:ops[j]? =sO oj)(hr:Region.ready md ops listed=[i,j])
  (h:∀K':Act->World->Prop,Shut (∀a w,S w->(S w->cl P md ops Q S zs fuel (listed.setIfInBounds i true) a w)->K' a w)->if Region.wanted oi (yielded ops a.tmps)=true then Oper.wp P oi a w K' Q else K' (a.put oi.dst undef) w)
  (h':∀K':Act->World->Prop,Shut (∀a w,S w->(S w->cl P md ops Q S zs fuel (listed.setIfInBounds j true) a w)->K' a w)->if Region.wanted oj (yielded ops a.tmps)=true then Oper.wp P oj a w K' Q else K' (a.put oj.dst undef) w):
  cl P md ops Q S zs (fuel+1) listed a w:=by
 refine⟨λh0=>(by rw[hr] at h0;cases h0),λk hk=> ?_⟩;rw[hr] at hk;rcases q0.1 hk with rfl|hk
 ·exact wpOp_step hoi (λK' hK=>h K' (λa w hS hW=>hK a w ⟨λ_ _=>hS,hW hS⟩))
 ·obtain rfl:k=j:=by simpa using hk
  exact wpOp_step hoj (λK' hK=>h' K' (λa w hS hW=>hK a w ⟨λ_ _=>hS,hW hS⟩))
theorem bo {i:Nat}{o:Oper}{fuel:Nat}{listed:Array Bool}{a:Act}{w:World}(ho:ops[i]? =sO o)(hr:Region.ready md ops listed=[i])(hz:zs.contains i=true)
  (h:∀K':Act->World->Prop,Shut (∀a w,cl P md ops Q S zs fuel (listed.setIfInBounds i true) a w->K' a w)->if Region.wanted o (yielded ops a.tmps)=true then Oper.wp P o a w K' Q else K' (a.put o.dst undef) w):
  cl P md ops Q S zs (fuel+1) listed a w:=by
 refine⟨λh0=>(by rw[hr] at h0;cases h0),λj hj=> ?_⟩;rw[hr] at hj;obtain rfl:j=i:=by simpa using hj
 exact wpOp_step ho (λK' hK=>h K' (λa w hW=>hK a w ⟨λhn=>absurd (by simpa using hz) hn,hW⟩))

theorem aw {id:Nat}{a:Act}{w:World}(zs:List Nat)(hm:P.follows .mixedOrders=true)(hS:S w.drew)
  (h:S w.drew->cl P .any ops Q S zs ops.size (Array.replicate ops.size false) a w.drew):(Code.region id ops true).wp P Q a w:=
 wp_region_any hm (me _ _ _ _ (h hS))
end
theorem sm {p q:Prop}(h:q)(e:q->p:=by(intro h;(try simp only[Act.put,List.getElem_toArray,List.getElem_cons_zero,List.getElem_cons_succ,List.setIfInBounds_toArray,List.set_cons_zero,List.set_cons_succ]);exact h)):p:=e h
section
variable {P:Program} {ops:Array Oper} {Q:Exit->Act->World->Prop} {md:Region.Mode} {S:World->Prop} {zs:List Nat}
theorem tZ (i:Nat){oi:Oper}(v:Value){fuel:Nat}{listed:Array Bool}{a:Act}{w:World}
  (h:cl P md ops Q S zs fuel (listed.setIfInBounds i true) (a.put oi.dst v) w)(hi:ops[i]? =some oi:=by rfl)(hy:∀w,S w->(execOp a.eval oi).run P w=.ok (.value v) w:=by(intro w hSw;(try dsimp only at hSw);first|(go_simp;done)|(go_simp;with_reducible rfl)))
  (hs:Region.noSelect ops=true:=by kernel_rfl)(hf:(Region.free md ops listed i&&zOk md ops listed i zs)=true:=by kernel_rfl)(hr:(Region.ready md ops listed).contains i=true:=by kernel_rfl)
  (hQ:∀c a w,Q (.panic c) (a.put oi.dst v) w->Q (.panic c) a w:=by exact λ_ _ _ h=>h)(hw:Region.wanted oi (yielded ops a.tmps)=true:=by rfl)(hS:S w:=by assumption):cl P md ops Q S zs (fuel+1) listed a w:=
 om hi hs hf hr hQ (.inl ⟨hw,hy⟩) hS h
theorem tH (i:Nat){oi:Oper}(v:Value){fuel:Nat}{listed:Array Bool}{a:Act}{w:World}
  (h:wpAnyH P md ops Q S fuel (listed.setIfInBounds i true) (a.put oi.dst v) w)(hi:ops[i]? =some oi:=by rfl)(hy:∀w,S w->(execOp a.eval oi).run P w=.ok (.value v) w:=by(intro w hSw;(try dsimp only at hSw);first|(go_simp;done)|(go_simp;with_reducible rfl)))
  (hs:Region.noSelect ops=true:=by kernel_rfl)(hf:Region.free md ops listed i=true:=by kernel_rfl)(hr:(Region.ready md ops listed).contains i=true:=by kernel_rfl)
  (hQ:∀c a w,Q (.panic c) (a.put oi.dst v) w->Q (.panic c) a w:=by exact λ_ _ _ h=>h)(hw:Region.wanted oi (yielded ops a.tmps)=true:=by rfl)(hS:S w:=by assumption):wpAnyH P md ops Q S (fuel+1) listed a w:=
 wpAnyH_take hi hs hf hr hQ (.inl ⟨hw,hy⟩) hS h
theorem uH (i:Nat){oi:Oper}{fuel:Nat}{listed:Array Bool}{a:Act}{w:World}
  (h:wpAnyH P md ops Q S fuel (listed.setIfInBounds i true) (a.put oi.dst undef) w)(hi:ops[i]? =some oi:=by rfl)
  (hs:Region.noSelect ops=true:=by kernel_rfl)(hf:Region.free md ops listed i=true:=by kernel_rfl)(hr:(Region.ready md ops listed).contains i=true:=by kernel_rfl)
  (hQ:∀c a w,Q (.panic c) (a.put oi.dst undef) w->Q (.panic c) a w:=by exact λ_ _ _ h=>h)(hw:Region.wanted oi (yielded ops a.tmps)=false:=by rfl)(hS:S w:=by assumption):wpAnyH P md ops Q S (fuel+1) listed a w:=
 wpAnyH_take hi hs hf hr hQ (.inr ⟨hw,rfl⟩) hS h
theorem pZ (i:Nat){oi:Oper}(v:Value){fuel:Nat}{listed:Array Bool}{a:Act}{w:World}
  (h:cl P md ops Q S zs fuel (listed.setIfInBounds i true) (a.put oi.dst v) w)(hi:ops[i]? =some oi:=by rfl)(hy:∀w,True->(execOp a.eval oi).run P w=.ok (.value v) w:=by(intro w _;first|(go_simp;done)|(go_simp;with_reducible rfl)))
  (hs:Region.noSelect ops=true:=by kernel_rfl)(hf:Region.free md ops listed i=true:=by kernel_rfl)(hr:(Region.ready md ops listed).contains i=true:=by kernel_rfl)
  (hQ:∀c a w,Q (.panic c) (a.put oi.dst v) w->Q (.panic c) a w:=by exact λ_ _ _ h=>h)(hw:Region.wanted oi (yielded ops a.tmps)=true:=by rfl):cl P md ops Q S zs (fuel+1) listed a w:=
 yV hi hs hf hr hQ (.inl ⟨hw,hy⟩) h
end
section
variable {P:Program} {ops:Array Oper} {Q:Exit->Act->World->Prop} {md:Region.Mode} {S:World->Prop} {zs:List Nat}
theorem vZ (i:Nat){oi:Oper}(v:Value){fuel:Nat}{listed:Array Bool}{a:Act}{w:World}{q:Prop}
  (h:q)(hi:ops[i]? =some oi:=by rfl)(hy:∀w,S w->(execOp a.eval oi).run P w=.ok (.value v) w:=by(intro w hSw;(try dsimp only at hSw);first|(go_simp;done)|(go_simp;with_reducible rfl)))
  (hs:Region.noSelect ops=true:=by kernel_rfl)(hf:(Region.free md ops listed i&&zOk md ops listed i zs)=true:=by kernel_rfl)(hr:(Region.ready md ops listed).contains i=true:=by kernel_rfl)
  (hQ:∀c a w,Q (.panic c) (a.put oi.dst v) w->Q (.panic c) a w:=by exact λ_ _ _ h=>h)(hw:Region.wanted oi (yielded ops a.tmps)=true:=by rfl)(hS:S w:=by assumption)
  (e:q->cl P md ops Q S zs fuel (listed.setIfInBounds i true) (a.put oi.dst v) w:=by(intro h;(try simp only[Act.put,List.getElem_toArray,List.getElem_cons_zero,List.getElem_cons_succ,List.setIfInBounds_toArray,List.set_cons_zero,List.set_cons_succ]);exact h)):cl P md ops Q S zs (fuel+1) listed a w:=
 om hi hs hf hr hQ (.inl ⟨hw,hy⟩) hS (e h)
theorem vH (i:Nat){oi:Oper}(v:Value){fuel:Nat}{listed:Array Bool}{a:Act}{w:World}{q:Prop}
  (h:q)(hi:ops[i]? =some oi:=by rfl)(hy:∀w,S w->(execOp a.eval oi).run P w=.ok (.value v) w:=by(intro w hSw;(try dsimp only at hSw);first|(go_simp;done)|(go_simp;with_reducible rfl)))
  (hs:Region.noSelect ops=true:=by kernel_rfl)(hf:Region.free md ops listed i=true:=by kernel_rfl)(hr:(Region.ready md ops listed).contains i=true:=by kernel_rfl)
  (hQ:∀c a w,Q (.panic c) (a.put oi.dst v) w->Q (.panic c) a w:=by exact λ_ _ _ h=>h)(hw:Region.wanted oi (yielded ops a.tmps)=true:=by rfl)(hS:S w:=by assumption)
  (e:q->wpAnyH P md ops Q S fuel (listed.setIfInBounds i true) (a.put oi.dst v) w:=by(intro h;(try simp only[Act.put,List.getElem_toArray,List.getElem_cons_zero,List.getElem_cons_succ,List.setIfInBounds_toArray,List.set_cons_zero,List.set_cons_succ]);exact h)):wpAnyH P md ops Q S (fuel+1) listed a w:=
 wpAnyH_take hi hs hf hr hQ (.inl ⟨hw,hy⟩) hS (e h)
end
section
variable {P:Program} (w:World)
theorem tu (t ty:TypeId)(base:Nat)(e:TypeId)(i:TypeInfo)(z:Value)(size bytes:Nat)(ht:P.underlying t=sO (.slice e))(hi:P.info? e=sO i)(hz:i.zero=sO z)
  (hsize:i.size=size)(hby:i.bytes=bytes)(hzs:z.cells.size=size)(hsz:0 < size)
  (v:Value)(n:Nat)(xs:List Value)(hown:w.ownsRow base e size v n xs)
  (ao:Option Addr)(m c:Nat)(news:List Value)(hl:news.length=m * size)(hao:ao=none->m=0)(hnews:∀ad,ao=sO ad->∀j u,news[j]? =sO u->w.cell? (ad.add j)=sO u)(h1:∀u∈news,u.oneCell'=true)
  (h63:n+m<=maxLen)(hbytes:(n+m) * bytes<=140737488355328)(hbase:base<=w.heap.size):
  ∃v' w',(Builtin.append_ #[t,t] ty #[v,U ao m c]).run P w=.ok v' w'/\w'.ownsRow base e size v' (n+m) (xs++news)/\w.grownBy w' v.ownBlock/\(v'.ownBlock=v.ownBlock\/v'.ownBlock=sO w.heap.size):=by
 cases ao with
 |some ad=>
  obtain⟨v',w',hr,h2,h3,_,h5⟩:=run_append_own_at (P:=P) w base t ty e i z size bytes ht hi hz hsize hby hzs hsz v n xs hown ad m c news hl (hnews ad rfl) h1 h63 hbytes hbase;exact⟨v',w',hr,h2,h3,h5⟩
 |none=>
  obtain rfl:=hao rfl;obtain rfl:news=[]:=List.eq_nil_of_length_eq_zero (by simpa using hl);refine⟨v,w,?_,by simpa using hown,⟨rfl,rfl,rfl,lR _,λ_ _ _=>rfl⟩,.inl rfl⟩;rcases hown.2 with⟨rfl,rfl⟩|⟨g,cap,cur,rfl,_,_,hnc,_⟩
  ·simp[Builtin.append_,run_underlying ht,sizeOf,typeInfo,hi,Builtin.lenOf,Builtin.firstCells]
  ·simp[Builtin.append_,run_underlying ht,sizeOf,typeInfo,hi,Builtin.lenOf,Builtin.firstCells,hnc,storeCells]

theorem mv {o:Oper}{a:Act}{K:Act->World->Prop}{Q:Exit->Act->World->Prop}(s x:Operand)(t:TypeId)
  (ho:o.op=.call {callee:=.builtin .append,args:=#[s,x],argTypes:=#[t,t]})
  (base:Nat)(e:TypeId)(i:TypeInfo)(z:Value)(size bytes:Nat)(ht:P.underlying t=sO (.slice e))(hi:P.info? e=sO i)(hz:i.zero=sO z)
  (hsize:i.size=size)(hby:i.bytes=bytes)(hzs:z.cells.size=size)(hsz:0 < size)
  (v:Value)(n:Nat)(xs:List Value)(hs:a.eval s=v)(hown:w.ownsRow base e size v n xs)
  (ao:Option Addr)(m c:Nat)(news:List Value)(hx:a.eval x=U ao m c)(hl:news.length=m * size)(hao:ao=none->m=0)(hnews:∀ad,ao=sO ad->∀j u,news[j]? =sO u->w.cell? (ad.add j)=sO u)(h1:∀u∈news,u.oneCell'=true)
  (h63:n+m<=maxLen)(hbytes:(n+m) * bytes<=140737488355328)(hbase:base<=w.heap.size)
  (h:∀v' w',w'.ownsRow base e size v' (n+m) (xs++news)->w.grownBy w' v.ownBlock->(v'.ownBlock=v.ownBlock\/v'.ownBlock=sO w.heap.size)->K (a.put o.dst v') w'):o.wp P a w K Q:=by
 obtain⟨v',w',hr,h2,h3,h4⟩:=tu (P:=P) w t o.type base e i z size bytes ht hi hz hsize hby hzs hsz v n xs hown ao m c news hl hao hnews h1 h63 hbytes hbase;unfold Oper.wp execOp;simp only[ho,resolve,invoke,builtin,Sem.run_bind,Sem.run_pure,Result.andThen_ok,List.map_toArray,List.map_cons,List.map_nil,hs,hx,hr];exact h v' w' h2 h3 h4

theorem aT {ops:Array Oper}{rest:List Oper}{o:Oper}{a:Act}{Q:Exit->Act->World->Prop}(hgd:o.guard=nO)(s x:Operand)(t:TypeId)
  (ho:o.op=.call {callee:=.builtin .append,args:=#[s,x],argTypes:=#[t,t]})
  (base:Nat)(e:TypeId)(i:TypeInfo)(z:Value)(size bytes:Nat)(ht:P.underlying t=sO (.slice e))(hi:P.info? e=sO i)(hz:i.zero=sO z)
  (hsize:i.size=size)(hby:i.bytes=bytes)(hzs:z.cells.size=size)(hsz:0 < size)
  (v:Value)(n:Nat)(xs:List Value)(hs:a.eval s=v)(hown:w.ownsRow base e size v n xs)
  (ao:Option Addr)(m c:Nat)(news:List Value)(hx:a.eval x=U ao m c)(hl:news.length=m * size)(hao:ao=none->m=0)(hnews:∀ad,ao=sO ad->∀j u,news[j]? =sO u->w.cell? (ad.add j)=sO u)(h1:∀u∈news,u.oneCell'=true)
  (h63:n+m<=maxLen)(hbytes:(n+m) * bytes<=140737488355328)(hbase:base<=w.heap.size)
  (h:∀v' w',w'.ownsRow base e size v' (n+m) (xs++news)->w.grownBy w' v.ownBlock->(v'.ownBlock=v.ownBlock\/v'.ownBlock=sO w.heap.size)->wpList P ops Q rest (a.put o.dst v') w'):wpList P ops Q (o::rest) a w:=
 wpList_plain hgd λ_ hK=>mv w s x t ho base e i z size bytes ht hi hz hsize hby hzs hsz v n xs hs hown ao m c news hx hl hao hnews h1 h63 hbytes hbase λv' w' h2 h3 h4=>hK _ _ (h v' w' h2 h3 h4)

theorem dK {ops:Array Oper}{o:Oper}{a:Act}{K:Act->World->Prop}{Q:Exit->Act->World->Prop}{E:Prop}(hgd:o.guard=nO)(s x:Operand)(t:TypeId)
  (ho:o.op=.call {callee:=.builtin .append,args:=#[s,x],argTypes:=#[t,t]})
  (base:Nat)(e:TypeId)(i:TypeInfo)(z:Value)(size bytes:Nat)(ht:P.underlying t=sO (.slice e))(hi:P.info? e=sO i)(hz:i.zero=sO z)
  (hsize:i.size=size)(hby:i.bytes=bytes)(hzs:z.cells.size=size)(hsz:0 < size)
  (v:Value)(n:Nat)(xs:List Value)(hs:a.eval s=v)(hown:w.ownsRow base e size v n xs)
  (ao:Option Addr)(m c:Nat)(news:List Value)(hx:a.eval x=U ao m c)(hl:news.length=m * size)(hao:ao=none->m=0)(hnews:∀ad,ao=sO ad->∀j u,news[j]? =sO u->w.cell? (ad.add j)=sO u)(h1:∀u∈news,u.oneCell'=true)
  (h63:n+m<=maxLen)(hbytes:(n+m) * bytes<=140737488355328)(hbase:base<=w.heap.size)
  (h:∀v' w',w'.ownsRow base e size v' (n+m) (xs++news)->w.grownBy w' v.ownBlock->(v'.ownBlock=v.ownBlock\/v'.ownBlock=sO w.heap.size)->K (a.put o.dst v') w'):
  if Region.wanted o (yielded ops a.tmps)=true then Oper.wp P o a w K Q else E:=by
 have hw:Region.wanted o (yielded ops a.tmps)=true:=by simp[Region.wanted,hgd]
 rw[if_pos hw];exact mv w s x t ho base e i z size bytes ht hi hz hsize hby hzs hsz v n xs hs hown ao m c news hx hl hao hnews h1 h63 hbytes hbase h
end
end
section
open Go.RowKit
theorem yi (s1 s2:oA)(c1 c2:Nat)(w:World):
  Calls pG 184 #[U s1 0 c1,U s2 0 c2] w λe w'=>e=Rt (Bb true)/\Below w.heap.size w w':=by
 go_enter Tryz.func184,Tryz.ntmps184;go_wp2
 go_rounds 1
 go_ret;exact⟨rfl,bR _ _⟩
end
section
open Go.RowKit Go
section
variable {P:Program} {ops:Array Oper} {Q:Exit->Act->World->Prop} {a:Act} {w:World} {rest:List Oper} {o:Oper}
theorem tL (v:Value)(h:wpList P ops Q rest (a.put o.dst v) w)(hy:(execOp a.eval o).run P w=.ok (.value v) w:=by first|(go_simp;done)|(go_simp;with_reducible rfl))(hw:Region.wanted o (yielded ops a.tmps)=true:=by rfl):wpList P ops Q (o::rest) a w:=by
 unfold wpList;rw[if_pos hw];left;unfold Oper.wp;rw[hy];exact h
theorem tLb (b:Bool)(X:Value)(h:∀v,Hid (v=if b=true then undef else X)->wpList P ops Q rest (a.put o.dst v) w)(h0:b=false->Region.wanted o (yielded ops a.tmps)=true/\(execOp a.eval o).run P w=.ok (.value X) w)(h1:b=true->Region.wanted o (yielded ops a.tmps)=false):wpList P ops Q (o::rest) a w:=by
 cases b with
 |false=>
  obtain⟨hw,hy⟩:=h0 rfl;exact tL X (h X (by show _=_;simp)) hy hw
 |true=>
  unfold wpList;rw[if_neg (by rw[h1 rfl];decide)];exact h _ (by show _=_;simp)
end
end
section
open Go.RowKit
def smallC:List Ins:=[⟨1,0,0,0,5,0⟩,⟨18,0,0,0,0,0⟩]

theorem CU (w:World):
  Calls pG 39 #[] w λe w'=>∃b,e=Rt (Ag #[I Y 1,I Y 0,U (sO ⟨b,0,nO⟩) 2 2])/\CodeAt w' (sO ⟨b,0,nO⟩) smallC/\Below w.heap.size w w':=by
 go_enter Tryz.func39,Tryz.ntmps39;go_wp2;refine bodyPost_ret (v:=Ag #[I Y 1,I Y 0,U (sO ⟨w.heap.size+1,0,nO⟩) 2 2]) (by simp[results,Tryz.results39,go_sem]) rfl ⟨w.heap.size+1,rfl,.inr ⟨_,_,rfl,by simp,?_⟩,by go_grown⟩;intro k hk
 match k,hk with
 |0,_=>refine⟨?_,?_,?_,?_,?_,?_⟩<;>simp[go_sem,smallC]
 |1,_=>refine⟨?_,?_,?_,?_,?_,?_⟩<;>simp[go_sem,smallC]
 |k+2,h=>simp[smallC] at h;omega
end
section
open Go
section
variable {P:Program} {ops:Array Oper} {Q:Exit->Act->World->Prop} {md:Region.Mode} {l m:Nat}
def tB (ops:Array Oper):Prop:=∀o∈ops,∀c,o.op≠.defer c
theorem Eb {row:String}{args:Array Value}{w:World}{R:Value->World->Prop}(h:Rows P row args w R):RowsIn Fence.wide m P row args w R:=λc cs _=>by
 obtain⟨v,w',hr,hs⟩:=h c cs;exact⟨v,w',hr,stepsIn_wide.2 hs⟩
theorem wG {i:Nat}{K:Act->World->Prop}{a:Act}{w:World}(hd:∀o,ops[i]? =sO o->∀c,o.op≠.defer c)(hQ:¬LetsOut Q)(h:wpOp P ops Q i K a w):wpOpIn (Fence.wide.inRound l) m P ops Q i K a w:=by
 unfold wpOp at h;unfold wpOpIn;cases e:ops[i]? with
 |none=>simpa[e] using h
 |some o=>
  simp only[e] at h |-;by_cases hw:Region.wanted o (yielded ops a.tmps)=true
  ·rw[if_pos hw] at h |-
   rcases h with h|⟨_,h⟩
   ·refine⟨λ_ _=>trivial,?_⟩
    rw[show (Fence.wide.inRound l).round=sO l from rfl,Oper.semAt_some l _ o (hd o e)];unfold Oper.wp at h;generalize Sem.run P (execOp a.eval o) w=r at h |-;unfold Oper.upon at h;unfold Oper.uponIn;split at h
    ·exact h
    ·exact h
    ·exact h
    ·exact⟨λh=>(nomatch h),callsIn_wide.2 h⟩
    ·exact⟨λh=>(nomatch h),Eb h⟩
    ·exact h
    ·exact h.elim
   ·exact absurd h hQ
  ·rw[if_neg hw] at h |-
   exact⟨λ_ _=>trivial,h⟩
theorem mo (hd:tB ops)(hQ:¬LetsOut Q):∀(fuel:Nat) (listed:Array Bool) (a:Act) (w:World),wpAny P md ops Q fuel listed a w->wpAnyIn (Fence.wide.inRound l) m P md ops Q fuel listed a w
 |0,_,_,_,h=>h
 |fuel+1,_,_,_,h=>⟨h.1,λi hi=>wG (λo ho=>hd o (Array.mem_of_getElem? ho)) hQ (wpOp_mono (λa' w' h'=>mo hd hQ fuel _ a' w' h') (h.2 i hi))⟩
theorem In {S:World->Prop}{id:Nat}{a:Act}{w:World}(zs:List Nat)(hm:P.follows .mixedOrders=true)(hd:tB ops)(hQ:¬LetsOut Q)(hS:S w.drew)
  (h:S w.drew->cl P .any ops Q S zs ops.size (Array.replicate ops.size false) a w.drew):(Code.region id ops true).wpIn (Fence.wide.inRound l) m P Q a w:=
 wpIn_region_any hm (mo hd hQ _ _ _ _ (me _ _ _ _ (h hS)))
theorem ut {F:Fence}{d:Code}{K:Act->World->Prop}{a:Act}{w:World}(h:d.wpIn F m P (Exit.then K (λ_ _ _=>False)) a w):d.wpIn F m P (Exit.then K Q) a w:=wpIn_mono h λe a w q=>by
 cases e<;>first|exact q|exact q.elim
theorem Kc {K:Act->World->Prop}:¬LetsOut (Exit.then K (λ_ _ _=>False)):=λ⟨_,_,h⟩=>h
end
theorem uy {P:Program}(w:World)(dT sT ty elem:TypeId)(g o dLen dCap:Nat)(a:Addr)(sLen sCap k:Nat)(cur:Array Value)(t:TypeId)(cs:List Value)
  (hu:P.underlying dT=sO (.slice elem))(hs:(P.info? elem).map (·.size)=sO k)
  (hg:w.heap[g]? =sO (Cc cur t (0,0)))(hn:cs.length=Nat.min sLen dLen * k)
  (hsrc:∀j v,cs[j]? =sO v->w.cell? (a.add j)=sO v)(hfit:o+cs.length<=cur.size)(h1:∀v∈cs,v.oneCell'=true):
  (Builtin.copy_ #[dT,sT] ty #[U (sO ⟨g,o,nO⟩) dLen dCap,U (sO a) sLen sCap]).run P w=
   .ok (goInt (Nat.min sLen dLen)) (w.setRow g (cur.toList.take o++cs++cur.toList.drop (o+cs.length)).toArray):=by
 have hl:=run_loadCells_list (P:=P) w a cs hsrc;have hst:=run_storeCells_at P g o t cs 0 cur w hg (by simpa using hfit) h1;cases hq:P.info? elem with
 |none=>simp[hq] at hs
 |some i=>
  have hi:i.size=k:=by simpa[hq] using hs
  simp[Builtin.copy_,run_underlying hu,Builtin.lenOf,Builtin.firstCells,sizeOf,typeInfo,hq,hi,<-hn,hl,hst]
end
section
open Go.RowKit
theorem tm {w:World}{B:Nat}{v:Value}{l:List Int}(h:w.ownsRow B 3 1 v l.length (l.map (.int .i64))):∃s cap,v=U s l.length cap/\IntsAt w s l:=by
 cases l with
 |nil=>
  rcases h.2 with⟨rfl,_⟩|⟨g,cap,cur,rfl,_⟩
  ·exact⟨_,_,rfl,.inl rfl⟩
  ·exact⟨_,_,rfl,.inl rfl⟩
 |cons x r=>
  obtain⟨g,cap,rfl,hb,hlt⟩:=h.form (by simp);refine⟨_,_,rfl,.inr ⟨g,0,rfl,hlt,λk hk=> ?_⟩⟩;rw[h.cellAt _ (by omega),Nat.zero_add,List.getElem?_map,List.getElem?_eq_getElem hk];rfl
end
end Go.Proofs.YtmapdpcfanecdabGreatDoor
