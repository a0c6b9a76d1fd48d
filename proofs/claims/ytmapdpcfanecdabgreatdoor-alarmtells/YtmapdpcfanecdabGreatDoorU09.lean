import Derived.Test.YtmapdpcfanecdabGreatDoorU05
import Derived.Lib.ItoaNum
import Derived.Lib.ItoaLen
import Derived.Lib.SplitLaws
import Derived.Lib.AtoiTie
import Derived.WalkSmall
import Derived.Lib.MinMax
import Derived.Deep.DeepCutAuto
import Derived.Laws.MakeOwn
import Derived.Laws.CopyOwn
import Derived.Deep.DrawnRows
open Array renaming getElem?_eq_some_iff→z8
open Bool renaming and_eq_true→j9,false_eq_true→z4,not_eq_false→Z9,not_eq_true'→x9
open Go.Ending renaming returned→Rt
open Go.IntKind renaming i64→Y
open Go.Obj renaming cells→Cc
open Go.Proofs.Tryz renaming prog→pG
open Go.RowKit.Below renaming heap_setCell→hSe,refl→bR
open Go.Value renaming agg→Ag,bool→Bb,cells→J5,int→I,pointer→Pp,slice→U,slice→j0,tuple→Tu
open Go.World renaming cell?→Z4,cell?_of_block→x5,cell?_setCell_same→Z3,frozen?_of_block→Qe,ownsRow→Q1,putObj→Qi,putObj_heap_other→Z5,setCell→Q0,size_alloc→zA
open List renaming Pairwise→Q3,all_cons→Qo,all_eq_true→X1,any_eq_false→Qs,append_nil→Qw,cons_append→Qa,contains_iff_mem→Qq,drop_eq_getElem_cons→z6,drop_eq_nil_of_le→X5,eq_of_mem_replicate→Q8,ext_getElem→J8,flatMap_cons→Q9,foldl_append→X6,foldl_cons→x6,foldl_nil→X7,getD→j4,getElem?_append_left→Z0,getElem?_append_right→Qd,getElem?_eq_getElem→x4,getElem?_eq_none→J4,getElem?_eq_some_iff→Z1,getElem?_set→Qu,getElem_cons_zero→Z6,getElem_map→J9,getElem_mem→gM,getElem_of_mem→Q4,getElem_replicate→Qy,getElem_set→Qm,getElem_zipWith→z3,isPrefixOf→J0,length_append→x3,length_cons→z5,length_eq_zero_iff→J1,length_map→Qg,length_set→z7,length_zipWith→j8,map_append→Qh,map_cons→Q5,map_set→Z7,mem_append→j7,mem_cons→j6,mem_cons_of_mem→J6,mem_cons_self→Qb,mem_flatMap→Qf,mem_flatten→Qt,mem_iff_getElem→Ql,mem_map→x7,mem_or_eq_of_mem_set→Q2,mem_range→Qp,mem_singleton→j2,nil_append→X9,not_mem_nil→Qc,pairwise_cons→J2,pairwise_lt_range→Qr,pairwise_map→Z8,pairwise_singleton→Qn,range→j3,range_succ→Qv,replicate→j1,set_cons_succ→Qk,set_cons_zero→Qj,set_getElem_self→x8,set_set→Qx,sum_cons→Q6,zipWith→X0
open Nat renaming le_refl→lR,le_trans→lT,lt_irrefl→Z2,lt_of_lt_of_le→lL,min→q0,min_le_left→Qz,min_le_right→X8,mul_le_mul_right→Q7,not_lt→J3,zero_add→j5,zero_le→z9,zero_mul→J7
open Option renaming getD_none→X4,getD_some→X2,none→nO,some→sO
set_option linter.unusedSimpArgs false
set_option linter.unusedVariables false
set_option maxHeartbeats 8000000
set_option maxRecDepth 100000
namespace Go.Proofs.YtmapdpcfanecdabGreatDoor
section
open Go.RowKit
theorem Et (V F:Int)(s:oA)(len cap:Nat)(tto a b n g:Int)(w:World)(_hV:1<=V)(_hV':V<=8)(_hF:0<=F)(_hF':F<=3)(_hL:len<=60):
  Calls pG 58 #[Ag #[I Y V,I Y F,U s len cap],Ag #[I Y 5,I Y tto,I Y a,I Y b,I Y n,I Y g]] w λe w'=>e=Rt (I Y (bk V F len ⟨5,tto,a,b,n,g⟩))/\bl w w':=by
 have t0:(aQ 5).toList.isEmpty=false:=cT;have t1:nTo 5=true:=rfl;have t2:nA 5=true:=rfl;have t3:nB 5=true:=rfl;have t4:nN 5=false:=rfl;have t5:nG 5=false:=rfl;exact bS

theorem DT (V F:Int)(s:oA)(len cap:Nat)(tto a b n g:Int)(w:World)(_hV:1<=V)(_hV':V<=8)(_hF:0<=F)(_hF':F<=3)(_hL:len<=60):
  Calls pG 58 #[Ag #[I Y V,I Y F,U s len cap],Ag #[I Y 6,I Y tto,I Y a,I Y b,I Y n,I Y g]] w λe w'=>e=Rt (I Y (bk V F len ⟨6,tto,a,b,n,g⟩))/\bl w w':=by
 have t0:(aQ 6).toList.isEmpty=false:=cT;have t1:nTo 6=true:=rfl;have t2:nA 6=true:=rfl;have t3:nB 6=true:=rfl;have t4:nN 6=false:=rfl;have t5:nG 6=false:=rfl;exact bS

theorem EE (V F:Int)(s:oA)(len cap:Nat)(tto a b n g:Int)(w:World)(_hV:1<=V)(_hV':V<=8)(_hF:0<=F)(_hF':F<=3)(_hL:len<=60):
  Calls pG 58 #[Ag #[I Y V,I Y F,U s len cap],Ag #[I Y 7,I Y tto,I Y a,I Y b,I Y n,I Y g]] w λe w'=>e=Rt (I Y (bk V F len ⟨7,tto,a,b,n,g⟩))/\bl w w':=by
 have t0:(aQ 7).toList.isEmpty=false:=cT;have t1:nTo 7=true:=rfl;have t2:nA 7=true:=rfl;have t3:nB 7=true:=rfl;have t4:nN 7=false:=rfl;have t5:nG 7=false:=rfl;exact bS

theorem EM (V F:Int)(s:oA)(len cap:Nat)(tto a b n g:Int)(w:World)(_hV:1<=V)(_hV':V<=8)(_hF:0<=F)(_hF':F<=3)(_hL:len<=60):
  Calls pG 58 #[Ag #[I Y V,I Y F,U s len cap],Ag #[I Y 8,I Y tto,I Y a,I Y b,I Y n,I Y g]] w λe w'=>e=Rt (I Y (bk V F len ⟨8,tto,a,b,n,g⟩))/\bl w w':=by
 have t0:(aQ 8).toList.isEmpty=false:=cT;have t1:nTo 8=true:=rfl;have t2:nA 8=true:=rfl;have t3:nB 8=true:=rfl;have t4:nN 8=false:=rfl;have t5:nG 8=false:=rfl;exact bS

theorem Bi (V F:Int)(s:oA)(len cap:Nat)(k tto a b n g:Int)(w:World)(_hV:1<=V)(_hV':V<=8)(_hF:0<=F)(_hF':F<=3)(_hL:len<=60)(hk:btw k 1 19=false):
  Calls pG 58 #[Ag #[I Y V,I Y F,U s len cap],Ag #[I Y k,I Y tto,I Y a,I Y b,I Y n,I Y g]] w λe w'=>e=Rt (I Y (bk V F len ⟨k,tto,a,b,n,g⟩))/\bl w w':=by
 have t0:(aQ k).toList.isEmpty=true:=by rw[sB hk,ByteArray.toList_eq];rfl
 exact bS
def lA (n:Int):Prop:= -9223372036854775808<=n/\n<=9223372036854775807
def gR (n:Int):ByteArray:=⟨(Lib.itoa n).toArray⟩
theorem nu (n:Int)(h:lA n):(gR n).size<=21:=Lib.itoa_length_le n h.1 h.2
end
section
def cO (c:UInt8):List UInt8->List (List UInt8)
 |[]=>[[]]
 |b::l=>if b=c then []::cO c l else match cO c l with
  |[]=>[[b]]
  |x::r=>(b::x)::r
def fK (c:UInt8):List (List UInt8)->List UInt8
 |[]=>[]
 |x::r=>x++r.flatMap λy=>c::y

theorem iP (c:UInt8)(l:List UInt8):∃x r,cO c l=x::r:=by
 cases l with
 |nil=>exact⟨_,_,rfl⟩
 |cons b l=>
  unfold cO;split
  ·exact⟨_,_,rfl⟩
  ·split<;>exact⟨_,_,rfl⟩
theorem rK (c:UInt8):∀l,fK c (cO c l)=l
 |[]=>rfl
 |b::l=>by
  have ih:=rK c l;obtain⟨x,r,h⟩:=iP c l;rw[h] at ih;unfold cO;split
  ·rename_i e
   rw[h];simp only[fK,Q9,X9] at ih |-;rw[e,Qa,ih]
  ·rw[h]
   simp only[fK] at ih |-;rw[Qa,ih]
theorem lD (c:UInt8):∀l,∀x∈cO c l,c∉x
 |[],x,hx=>by simp[cO] at hx;simp[hx]
 |b::l,x,hx=>by
  have ih:=lD c l;obtain⟨y,r,h⟩:=iP c l;unfold cO at hx;rw[h] at hx ih;split at hx
  ·rcases j6.1 hx with rfl|hx
   ·simp
   ·exact ih x hx
  ·rename_i hne
   rcases j6.1 hx with rfl|hx
   ·intro hm
    rcases j6.1 hm with e|hm
    ·exact hne e.symm
    ·exact ih y (Qb ..) hm
   ·exact ih x (J6 _ hx)
theorem uy (c:UInt8):∀s:List UInt8,Lib.splitK [c] 0 (Lib.count s [c]) s=cO c s
 |[]=>by rw[Lib.count_miss (by simp[Lib.index])];rfl
 |b::l=>by
  have ih:=uy c l;by_cases hb:b=c
  ·subst hb
   have hix:Lib.index (b::l) [b]=((0:Nat):Int):=by rw[Lib.index];simp[J0]
   rw[Lib.count_cons_eq,Nat.add_comm,Lib.splitK,if_neg (by rw[hix];decide),hix];unfold cO;rw[if_pos rfl,<-ih];simp
  ·have hp:([c]:List UInt8).isPrefixOf (b::l)=false:=by simp[J0,Ne.symm hb]
   have hix:Lib.index (b::l) [c]=if Lib.index l [c]== -1 then -1 else Lib.index l [c]+1:=by rw[Lib.index,hp];simp
   rw[Lib.count_cons_ne b c l hb];unfold cO;rw[if_neg hb,<-ih];by_cases hm:Lib.index l [c]= -1
   ·rw[Lib.count_miss hm];rfl
   ·have hge:=Lib.index_ge l [c]
    obtain⟨j,hj⟩:∃j:Nat,Lib.index l [c]=j:=⟨(Lib.index l [c]).toNat,aa⟩;have hix':Lib.index (b::l) [c]=((j+1:Nat):Int):=by rw[hix,if_neg (λe=>hm (beq_iff_eq.1 e)),hj];omega
    rw[Lib.count_hit ah hj,Nat.add_comm,Lib.splitK,if_neg (by rw[hix'];intro e;have:=beq_iff_eq.1 e;omega),hix',Lib.splitK,if_neg (by rw[hj];intro e;have:=beq_iff_eq.1 e;omega),hj];simp
theorem Ac (c:UInt8):∀x:List UInt8,c∉x->Lib.index x [c]= -1
 |[],_=>by simp[Lib.index]
 |b::l,h=>by
  have hb:¬b=c:=λe=>h (by simp[e]);have hp:([c]:List UInt8).isPrefixOf (b::l)=false:=by simp[J0,Ne.symm hb]
  rw[Lib.index,hp];have:=Ac c l (λhm=>h (J6 _ hm));simp[this]
theorem wR (c:UInt8)(m:List UInt8):∀x:List UInt8,c∉x->Lib.index (x++c::m) [c]=(x.length:Int)
 |[],_=>by show Lib.index (c::m) [c]=_;rw[Lib.index];simp[J0]
 |b::l,h=>by
  have hb:¬b=c:=λe=>h (by simp[e]);have hp:([c]:List UInt8).isPrefixOf (b::(l++c::m))=false:=by simp[J0,Ne.symm hb]
  show Lib.index (b::(l++c::m)) [c]=_;rw[Lib.index,hp];have:=wR c m l (λhm=>h (J6 _ hm));rw[this];have e1:¬((l.length:Int)== -1)=true:=by intro e;have:=beq_iff_eq.1 e;omega
  simp only[z4,if_false];rw[if_neg e1];simp
theorem Kk (c:UInt8)(x:List UInt8)(h:c∉x):Lib.cut x [c]=(x,[],false):=by
 unfold Lib.cut;rw[Ac c x h,if_neg aj]
theorem De (c:UInt8)(x m:List UInt8)(h:c∉x):Lib.cut (x++c::m) [c]=(x,m,true):=by
 unfold Lib.cut;rw[wR c m x h,if_pos aa];simp

def di (s:List UInt8):Option Int:=if s.length<=11 then(match Lib.atoi s with|some v=>if Lib.itoa v=s then sO v else nO|none=>nO) else nO
def prt (k:Nat):List Nat:=match k with
 |1=>[0,4]|2=>[0,5]|3=>[0]|4=>[0,1]|5=>[0,1,2]|6=>[0,1,2]|7=>[0,1,2]|8=>[0,1,2]|9=>[0,1,2]|10=>[0,1]
 |11=>[0]|12=>[0,1,7]|13=>[1,7,2]|14=>[0,6]|15=>[1,3]|16=>[3]|17=>[1]|18=>[1]|_=>[]
def lC (q:Nat)(v:Int)(i:Ins):Ins:=match q with
 |0=>⟨i.k,v,i.a,i.b,i.n,i.g⟩
 |1=>⟨i.k,i.tgt,v,i.b,i.n,i.g⟩
 |2=>⟨i.k,i.tgt,i.a,v,i.n,i.g⟩
 |3=>⟨i.k,i.tgt,i.a,i.b,i.n,v⟩
 |_=>⟨i.k,i.tgt,i.a,i.b,v,i.g⟩
def AF:List Nat->List Int->Ins->Ins
 |q::r,v::t,i=>AF r t (lC q v i)
 |_,_,i=>i
def oN:List (List UInt8)->Option (List Int)
 |[]=>sO []
 |x::r=>match di x with
  |none=>nO
  |some v=>match oN r with
   |none=>nO
   |some t=>sO (v::t)
def fV (w:List UInt8)(n k:Nat):Bool:=(aQ k).data.toList==w&&(prt k).length==n
def fB (w:List UInt8)(n:Nat):Option Nat:=[1,2,3,4,5,6,7,8,9,10,11,12,13,14,15,16,17,18,19].find? (fV w n)
def gE (l:List UInt8):Option Ins:=match cO 32 l with
 |[]=>nO
 |w::ns=>match fB w ns.length with
  |none=>nO
  |some k=>match oN ns with
   |none=>nO
   |some vs=>sO (AF (prt k) vs ⟨k,0,0,0,0,0⟩)
def uk:List UInt8:=[118,97,114,115]
def pm:List UInt8:=[102,105,101,108,100,115]
def eX (l:List UInt8):Option (Int×Int):=match cO 32 l with
 |[a,b,c,d]=>if a=uk/\c=pm then(match di b with
  |none=>nO
  |some v=>match di d with
   |none=>nO
   |some f=>sO (v,f)) else nO
 |_=>nO
def ip:Nat->List (List UInt8)->Except Nat (lI)
 |k,[]=>.error k
 |k,[x]=>if x=[] then .ok [] else .error k
 |k,x::y::r=>match gE x with
  |none=>.error k
  |some i=>match ip (k+1) (y::r) with
   |.error e=>.error e
   |.ok c=>.ok (i::c)
def kG (s:List UInt8):Except Nat (Int×Int×lI):=match cO 10 s with
 |h::y::r=>match eX h with
  |none=>.error 1
  |some (V,F)=>match ip 2 (y::r) with
   |.error e=>.error e
   |.ok c=>.ok (V,F,c)
 |_=>.error 1

theorem Fz {w:List UInt8}{n k:Nat}(h:fB w n=sO k):(1<=k/\k<=19)/\(aQ k).data.toList=w/\(prt k).length=n:=by
 have h1:=List.find?_some h;have h2:=List.mem_of_find?_eq_some h;unfold fV at h1;rw[j9,beq_iff_eq,beq_iff_eq] at h1;refine⟨?_,h1.1,h1.2⟩;simp at h2;omega
end
section
open Go.RowKit
def SpAt (w:World)(b:Nat)(s:Sp):Prop:=(w.cell? ⟨b,0,nO⟩=sO (Bb s.n)/\w.cell? ⟨b,1,nO⟩=sO (I Y s.lo)/\w.cell? ⟨b,2,nO⟩=sO (I Y s.hi))/\b < w.heap.size

theorem SpAt.below {B b:Nat}{s:Sp}{w w':World}(h:SpAt w b s)(hb:Below B w w')(hB:w.heap.size<=B):SpAt w' b s:=by
 obtain⟨⟨h0,h1,h2⟩,hz⟩:=h;refine⟨?_,lL hz hb.size⟩;rw[hb.cell an,hb.cell an,hb.cell an];exact⟨h0,h1,h2⟩
theorem SpAt.call {b:Nat}{s:Sp}{w w':World}(h:SpAt w b s)(hb:bl w w'):SpAt w' b s:=h.below hb (lR _)
theorem SpAt.alloc {b:Nat}{s:Sp}{w:World}(h:SpAt w b s)(o:Obj):SpAt (w.alloc o) b s:=h.below (Below.alloc (bR _ _) (lR _) o) (lR _)
theorem SpAt.drew {b:Nat}{s:Sp}{w:World}(h:SpAt w b s):SpAt w.drew b s:=h
theorem SpAt.new (w:World)(s:Sp):SpAt (w.alloc (Cc #[Bb s.n,I Y s.lo,I Y s.hi] 89)) w.heap.size s:=⟨aV,ah⟩
theorem ae {p:Prop}(h:p):Hid p:=h

theorem IntsAt.get {w:World}{ss:oA}{l:List Int}(h:IntsAt w ss l)(k:Nat)(hk:k < l.length):
  ∃b off,ss=sO ⟨b,off,nO⟩/\b < w.heap.size/\∀k (h:k < l.length),w.cell? ⟨b,off+k,nO⟩=sO (I Y l[k]):=by
 rcases h with rfl|h
 ·exact absurd hk ah
 ·exact h
theorem IntsAt.call {w w':World}{ss:oA}{l:List Int}(h:IntsAt w ss l)(hb:bl w w'):IntsAt w' ss l:=h.below hb (lR _)
theorem IntsAt.alloc {w:World}{ss:oA}{l:List Int}(h:IntsAt w ss l)(o:Obj):IntsAt (w.alloc o) ss l:=h.call (Below.alloc (bR _ _) (lR _) o)
theorem IntsAt.drew {w:World}{ss:oA}{l:List Int}(h:IntsAt w ss l):IntsAt w.drew ss l:=h
theorem IntsAt.drewN {w:World}{ss:oA}{l:List Int}(h:IntsAt w ss l)(n:Nat):IntsAt (w.drewN n) ss l:=h.call (below_drewN (bR _ _) n)
theorem CodeAt.get {w:World}{s:oA}{c:lI}(h:CodeAt w s c)(k:Nat)(hk:k < c.length):
  ∃b off,s=sO ⟨b,off,nO⟩/\b < w.heap.size/\∀k (h:k < c.length),InsAt w b (off+k * 6) c[k]:=by
 rcases h with rfl|h
 ·exact absurd hk ah
 ·exact h
theorem CodeAt.call {w w':World}{s:oA}{c:lI}(h:CodeAt w s c)(hb:bl w w'):CodeAt w' s c:=h.below hb (lR _)
theorem CodeAt.alloc {w:World}{s:oA}{c:lI}(h:CodeAt w s c)(o:Obj):CodeAt (w.alloc o) s c:=h.call (Below.alloc (bR _ _) (lR _) o)

abbrev gv (g:Gs)(ss:oA)(cap:Nat):Value:=Ag #[Bb g.n,Bb g.sp.n,I Y g.sp.lo,I Y g.sp.hi,Bb g.t,Bb g.f,U ss g.s.length cap]
abbrev pv (V F:Int)(s:oA)(c:lI)(cap:Nat):Value:=Ag #[I Y V,I Y F,U s c.length cap]

def GuAt (w:World)(b o:Nat)(g:Gs)(ss:oA)(cap:Nat):Prop:=
 (w.cell? ⟨b,o,nO⟩=sO (Bb g.n)/\w.cell? ⟨b,o+1,nO⟩=sO (Bb g.sp.n)/\w.cell? ⟨b,o+2,nO⟩=sO (I Y g.sp.lo)/\w.cell? ⟨b,o+3,nO⟩=sO (I Y g.sp.hi)/\w.cell? ⟨b,o+4,nO⟩=sO (Bb g.t)/\w.cell? ⟨b,o+5,nO⟩=sO (Bb g.f)/\w.cell? ⟨b,o+6,nO⟩=sO (U ss g.s.length cap))/\b < w.heap.size
theorem GuAt.below {B:Nat}{w w':World}{b o:Nat}{g:Gs}{ss:oA}{cap:Nat}(h:GuAt w b o g ss cap)(hb:Below B w w')(hB:w.heap.size<=B):GuAt w' b o g ss cap:=by
 obtain⟨⟨h0,h1,h2,h3,h4,h5,h6⟩,hz⟩:=h;refine⟨⟨?_,?_,?_,?_,?_,?_,?_⟩,lL hz hb.size⟩<;>rw[hb.cell an]<;>assumption
theorem GuAt.call {w w':World}{b o:Nat}{g:Gs}{ss:oA}{cap:Nat}(h:GuAt w b o g ss cap)(hb:bl w w'):GuAt w' b o g ss cap:=h.below hb (lR _)
theorem GuAt.alloc {w:World}{b o:Nat}{g:Gs}{ss:oA}{cap:Nat}(h:GuAt w b o g ss cap)(x:Obj):GuAt (w.alloc x) b o g ss cap:=h.call (Below.alloc (bR _ _) (lR _) x)
theorem GuAt.drew {w:World}{b o:Nat}{g:Gs}{ss:oA}{cap:Nat}(h:GuAt w b o g ss cap):GuAt w.drew b o g ss cap:=h
theorem GuAt.new (w:World)(g:Gs)(ss:oA)(cap:Nat):GuAt (w.alloc (Cc #[Bb g.n,Bb g.sp.n,I Y g.sp.lo,I Y g.sp.hi,Bb g.t,Bb g.f,U ss g.s.length cap] 91)) w.heap.size 0 g ss cap:=⟨aV,ah⟩

def PrAt (w:World)(b:Nat)(V F:Int)(s:oA)(c:lI)(cap:Nat):Prop:=
 (w.cell? ⟨b,0,nO⟩=sO (I Y V)/\w.cell? ⟨b,1,nO⟩=sO (I Y F)/\w.cell? ⟨b,2,nO⟩=sO (U s c.length cap))/\b < w.heap.size
theorem PrAt.below {B:Nat}{w w':World}{b:Nat}{V F:Int}{s:oA}{c:lI}{cap:Nat}(h:PrAt w b V F s c cap)(hb:Below B w w')(hB:w.heap.size<=B):PrAt w' b V F s c cap:=by
 obtain⟨⟨h0,h1,h2⟩,hz⟩:=h;refine⟨⟨?_,?_,?_⟩,lL hz hb.size⟩<;>rw[hb.cell an]<;>assumption
theorem PrAt.call {w w':World}{b:Nat}{V F:Int}{s:oA}{c:lI}{cap:Nat}(h:PrAt w b V F s c cap)(hb:bl w w'):PrAt w' b V F s c cap:=h.below hb (lR _)
theorem PrAt.alloc {w:World}{b:Nat}{V F:Int}{s:oA}{c:lI}{cap:Nat}(h:PrAt w b V F s c cap)(x:Obj):PrAt (w.alloc x) b V F s c cap:=h.call (Below.alloc (bR _ _) (lR _) x)
theorem PrAt.new (w:World)(V F:Int)(s:oA)(c:lI)(cap:Nat):PrAt (w.alloc (Cc #[I Y V,I Y F,U s c.length cap] 24)) w.heap.size V F s c cap:=⟨aV,ah⟩

def GsAt (w:World)(ls:oA)(L:List Gs):Prop:=
 ∀i (h:i < L.length),∃b off,ls=sO ⟨b,off,nO⟩/\∃ss cap,GuAt w b (off+i * 7) L[i] ss cap/\IntsAt w ss L[i].s/\L[i].s.length<=cap/\cap<=maxLen
theorem GsAt.below {B:Nat}{w w':World}{ls:oA}{L:List Gs}(h:GsAt w ls L)(hb:Below B w w')(hB:w.heap.size<=B):GsAt w' ls L:=by
 intro i hi;obtain⟨b,off,e,ss,cap,h1,h2,h3,h4⟩:=h i hi;exact⟨b,off,e,ss,cap,h1.below hb hB,h2.below hb hB,h3,h4⟩
theorem GsAt.call {w w':World}{ls:oA}{L:List Gs}(h:GsAt w ls L)(hb:bl w w'):GsAt w' ls L:=h.below hb (lR _)
theorem GsAt.alloc {w:World}{ls:oA}{L:List Gs}(h:GsAt w ls L)(o:Obj):GsAt (w.alloc o) ls L:=h.call (Below.alloc (bR _ _) (lR _) o)

def GhAt (w:World)(ls:oA)(L:List Gs):Prop:=
 ∀i (h:i < L.length),∃b off,ls=sO ⟨b,off,nO⟩/\∃ss cap,GuAt w b (off+i * 7) L[i] ss cap
theorem GhAt.below {B:Nat}{w w':World}{ls:oA}{L:List Gs}(h:GhAt w ls L)(hb:Below B w w')(hB:w.heap.size<=B):GhAt w' ls L:=by
 intro i hi;obtain⟨b,off,e,ss,cap,h1⟩:=h i hi;exact⟨b,off,e,ss,cap,h1.below hb hB⟩
theorem GhAt.call {w w':World}{ls:oA}{L:List Gs}(h:GhAt w ls L)(hb:bl w w'):GhAt w' ls L:=h.below hb (lR _)

theorem GsAt.new1 (w:World)(g:Gs)(ss:oA)(gc:Nat)(hs:IntsAt w ss g.s)(h1:g.s.length<=gc)(h2:gc<=maxLen):
  GsAt (w.alloc (Cc #[Bb g.n,Bb g.sp.n,I Y g.sp.lo,I Y g.sp.hi,Bb g.t,Bb g.f,U ss g.s.length gc] 91)) (sO ⟨w.heap.size,0,nO⟩) [g]:=by
 intro i hi;obtain rfl:i=0:=pR;exact⟨w.heap.size,0,rfl,ss,gc,GuAt.new w g ss gc,hs.alloc _,h1,h2⟩

theorem GhAt.new1 (w:World)(g:Gs)(ss:oA)(gc:Nat):
  GhAt (w.alloc (Cc #[Bb g.n,Bb g.sp.n,I Y g.sp.lo,I Y g.sp.hi,Bb g.t,Bb g.f,U ss g.s.length gc] 91)) (sO ⟨w.heap.size,0,nO⟩) [g]:=by
 intro i hi;obtain rfl:i=0:=pR;exact⟨w.heap.size,0,rfl,ss,gc,GuAt.new w g ss gc⟩

abbrev oU (w:World)(g:Gs)(ss:oA)(gc:Nat)(h:Gs)(st:oA)(hc:Nat):World:=
 w.alloc (Cc #[Bb g.n,Bb g.sp.n,I Y g.sp.lo,I Y g.sp.hi,Bb g.t,Bb g.f,U ss g.s.length gc,Bb h.n,Bb h.sp.n,I Y h.sp.lo,I Y h.sp.hi,Bb h.t,Bb h.f,U st h.s.length hc] 91)
theorem GuAt.two0 (w:World)(g:Gs)(ss:oA)(gc:Nat)(h:Gs)(st:oA)(hc:Nat):GuAt (oU w g ss gc h st hc) w.heap.size 0 g ss gc:=⟨aV,ah⟩
theorem GuAt.two1 (w:World)(g:Gs)(ss:oA)(gc:Nat)(h:Gs)(st:oA)(hc:Nat):GuAt (oU w g ss gc h st hc) w.heap.size 7 h st hc:=⟨aV,ah⟩
theorem GsAt.new2 (w:World)(g:Gs)(ss:oA)(gc:Nat)(h:Gs)(st:oA)(hc:Nat)(hs:IntsAt w ss g.s)(h1:g.s.length<=gc)(h2:gc<=maxLen)(ht:IntsAt w st h.s)(h3:h.s.length<=hc)(h4:hc<=maxLen):
  GsAt (oU w g ss gc h st hc) (sO ⟨w.heap.size,0,nO⟩) [g,h]:=by
 intro i hi;by_cases e:i=0
 ·subst e;exact⟨w.heap.size,0,rfl,ss,gc,GuAt.two0 w g ss gc h st hc,hs.alloc _,h1,h2⟩
 ·obtain rfl:i=1:=by simp at hi;omega
  exact⟨w.heap.size,0,rfl,st,hc,GuAt.two1 w g ss gc h st hc,ht.alloc _,h3,h4⟩
theorem GhAt.new2 (w:World)(g:Gs)(ss:oA)(gc:Nat)(h:Gs)(st:oA)(hc:Nat):GhAt (oU w g ss gc h st hc) (sO ⟨w.heap.size,0,nO⟩) [g,h]:=by
 intro i hi;by_cases e:i=0
 ·subst e;exact⟨w.heap.size,0,rfl,ss,gc,GuAt.two0 w g ss gc h st hc⟩
 ·obtain rfl:i=1:=by simp at hi;omega
  exact⟨w.heap.size,0,rfl,st,hc,GuAt.two1 w g ss gc h st hc⟩
def IntsIn (S:Nat->Prop)(w:World)(ss:oA)(l:List Int):Prop:=
 l=[]\/∃b off,ss=sO ⟨b,off,nO⟩/\S b/\b < w.heap.size/\∀k (h:k < l.length),w.cell? ⟨b,off+k,nO⟩=sO (I Y l[k])
section
variable {S S':Nat->Prop} {w w':World} {ss:oA} {l:List Int}
theorem IntsIn.at (h:IntsIn S w ss l):IntsAt w ss l:=by
 rcases h with h|⟨b,off,e,-,hb,hc⟩
 ·exact .inl h
 ·exact .inr ⟨b,off,e,hb,hc⟩
theorem IntsAt.inAll (h:IntsAt w ss l):IntsIn (λb=>b < w.heap.size) w ss l:=by
 rcases h with h|⟨b,off,e,hb,hc⟩
 ·exact .inl h
 ·exact .inr ⟨b,off,e,hb,hb,hc⟩
theorem IntsIn.same (h:IntsIn S w ss l)(hs:∀b,S b->b < w.heap.size->w'.heap[b]? =w.heap[b]?)(hz:w.heap.size<=w'.heap.size):IntsIn S w' ss l:=by
 rcases h with h|⟨b,off,e,hS,hb,hc⟩
 ·exact .inl h
 ·exact .inr ⟨b,off,e,hS,lL hb hz,λk hk=>by rw[x5 (a:=⟨b,off+k,nO⟩) (hs b hS hb)];exact hc k hk⟩
theorem IntsIn.mono (h:IntsIn S w ss l)(hs:∀b,S b->b < w.heap.size->S' b):IntsIn S' w ss l:=by
 rcases h with h|⟨b,off,e,hS,hb,hc⟩
 ·exact .inl h
 ·exact .inr ⟨b,off,e,hs b hS hb,hb,hc⟩
theorem IntsIn.call (h:IntsIn S w ss l)(hb:bl w w'):IntsIn S w' ss l:=h.same (λb _ hlt=>hb.block b hlt) hb.size
end

theorem aM {w:World}{B:Nat}{e:TypeId}{z:Nat}{v:Value}{n:Nat}{xs:List Value}(h:w.ownsRow B e z v n xs){k:Nat}(hk:v.ownBlock=sO k):k < w.heap.size/\B<=k:=by
 rcases h.2 with⟨rfl,_⟩|⟨g,cap,cur,rfl,hb,hg,_⟩
 ·cases hk
 ·cases hk
  exact⟨(z8.1 hg).1,hb⟩
theorem dd {w w':World}{B:Nat}{e:TypeId}{z:Nat}{v:Value}{n:Nat}{xs:List Value}(h:w.ownsRow B e z v n xs)(hb:∀k,v.ownBlock=sO k->w'.heap[k]? =w.heap[k]?):w'.ownsRow B e z v n xs:=by
 obtain⟨hl,h2⟩:=h;rcases h2 with h2|⟨g,cap,cur,rfl,h1,hg,hr⟩
 ·exact⟨hl,.inl h2⟩
 ·exact⟨hl,.inr ⟨g,cap,cur,rfl,h1,by rw[hb g rfl];exact hg,hr⟩⟩
theorem sU {w w':World}{B:Nat}{e:TypeId}{z:Nat}{v:Value}{n:Nat}{xs:List Value}(h:w.ownsRow B e z v n xs)(hb:bl w w'):w'.ownsRow B e z v n xs:=dd h λk hk=>hb.block k (aM h hk).1

structure Gc where
 g:Gs
 ss:oA
 cap:Nat
def bp (x:Gc):List Value:=[Bb x.g.n,Bb x.g.sp.n,I Y x.g.sp.lo,I Y x.g.sp.hi,Bb x.g.t,Bb x.g.f,U x.ss x.g.s.length x.cap]
def aP (l:List Gc):List Value:=l.flatMap bp
def bQ (S:Nat->Prop)(w:World)(x:Gc):Prop:=IntsIn S w x.ss x.g.s/\x.g.s.length<=x.cap/\x.cap<=maxLen
theorem dO (x:Gc):(bp x).length=7:=rfl
theorem kS (l:List Gc):(aP l).length=l.length * 7:=by
 induction l with
 |nil=>rfl
 |cons x r ih=>
  have:aP (x::r)=bp x++aP r:=rfl;rw[this,x3,ih,dO,z5];omega
theorem ir (a b:List Gc):aP (a++b)=aP a++aP b:=by simp[aP]
theorem dj (x:Gc):∀u∈bp x,u.oneCell'=true:=by
 intro u hu;simp only[bp,j6,Qc,or_false] at hu;rcases hu with rfl|rfl|rfl|rfl|rfl|rfl|rfl<;>rfl
theorem dU:∀(l:List Gc) (i:Nat) (h:i < l.length) (j:Nat) (_:j < 7),(aP l)[i * 7+j]? =(bp l[i])[j]?
 |[],i,h,_,_=>absurd h ah
 |x::r,0,_,j,hj=>by
  have e:aP (x::r)=bp x++aP r:=rfl;rw[e,J7,j5,Z0 (by rw[dO];exact hj)];rfl
 |x::r,i+1,h,j,hj=>by
  have e:aP (x::r)=bp x++aP r:=rfl;rw[e,Qd (by rw[dO];omega),dO];have:(i+1) * 7+j - 7=i * 7+j:=aa;rw[this,dU r i cj j hj];rfl

def GRow (w:World)(B:Nat)(v:Value)(l:List Gc):Prop:=w.ownsRow B 91 7 v l.length (aP l)/\∀x∈l,bQ (λb=>v.ownBlock≠sO b) w x
section
variable {w w':World} {B:Nat} {v v':Value} {l:List Gc}
theorem GRow.at (h:GRow w B v l):∃rs rc,v=U rs l.length rc/\l.length<=rc/\rc<=maxLen/\GsAt w rs (l.map Gc.g)/\∀a,rs=sO a->B<=a.block:=by
 obtain⟨h1,h2⟩:=h;rcases h1.2 with⟨rfl,h0⟩|⟨g,cap,cur,rfl,hb,hg,k1,k2,k3,k4⟩
 ·have:l=[]:=J1.1 h0
  subst this;exact⟨nO,0,rfl,lR _,dg,λi hi=>absurd hi ah,λa ha=>fY⟩
 ·refine⟨sO ⟨g,0,nO⟩,cap,rfl,k1,k2,λi hi=> ?_,λa ha=>by cases ha;exact hb⟩
  have hil:i < l.length:=d8;have e:(l.map Gc.g)[i]=l[i].g:=ah;rw[e];have hx:=h2 l[i] (gM hil);refine⟨g,0,rfl,l[i].ss,l[i].cap,⟨?_,(z8.1 hg).1⟩,hx.1.at,hx.2.1,hx.2.2⟩;have hc:∀j,j < 7->w.cell? ⟨g,i * 7+j,nO⟩=(bp l[i])[j]? :=λj hj=>by
   have:=h1.cellAt (i * 7+j) aa;rw[<-dU l i hil j hj];exact this
  simp only[j5];exact⟨hc 0 aa,hc 1 aa,hc 2 aa,hc 3 aa,hc 4 aa,hc 5 aa,hc 6 aa⟩
end

def RowsAt (w:World)(fs:oA)(L:List (List Gs)):Prop:=
 ∀i (h:i < L.length),∃b off,fs=sO ⟨b,off,nO⟩/\b < w.heap.size/\∃rs rc,w.cell? ⟨b,off+i,nO⟩=sO (U rs L[i].length rc)/\L[i].length<=rc/\rc<=maxLen/\GsAt w rs L[i]
theorem RowsAt.below {B:Nat}{w w':World}{fs:oA}{L:List (List Gs)}(h:RowsAt w fs L)(hb:Below B w w')(hB:w.heap.size<=B):RowsAt w' fs L:=by
 intro i hi;obtain⟨b,off,e,hz,rs,rc,h1,h2,h3,h4⟩:=h i hi;exact⟨b,off,e,lL hz hb.size,rs,rc,by rw[hb.cell (by simp;omega)];exact h1,h2,h3,h4.below hb hB⟩
def PicAt (w:World)(x:Pic)(vs fs:oA):Prop:=GsAt w vs x.vq/\RowsAt w fs x.fq
theorem PicAt.below {B:Nat}{w w':World}{x:Pic}{vs fs:oA}(h:PicAt w x vs fs)(hb:Below B w w')(hB:w.heap.size<=B):PicAt w' x vs fs:=⟨h.1.below hb hB,h.2.below hb hB⟩
theorem PicAt.call {w w':World}{x:Pic}{vs fs:oA}(h:PicAt w x vs fs)(hb:bl w w'):PicAt w' x vs fs:=h.below hb (lR _)
abbrev xv (x:Pic)(vs:oA)(vc:Nat)(fs:oA)(fc:Nat):Value:=Ag #[Bb x.none,U vs x.vq.length vc,U fs x.fq.length fc]
def ME (x:Pic):Prop:=x.vq.length<=maxLen/\x.fq.length<=maxLen
def XAt (w:World)(b:Nat)(x:Pic)(vs:oA)(vc:Nat)(fs:oA)(fc:Nat):Prop:=
 (w.cell? ⟨b,0,nO⟩=sO (Bb x.none)/\w.cell? ⟨b,1,nO⟩=sO (U vs x.vq.length vc)/\w.cell? ⟨b,2,nO⟩=sO (U fs x.fq.length fc))/\b < w.heap.size/\∀j,w.frozen? ⟨b,j,nO⟩=false
section
variable {w w':World} {b:Nat} {x:Pic} {vs fs:oA} {vc fc:Nat}
theorem sP {p:Prop}(h:p:=by
 have hc:∀j,w'.cell? ⟨b,j,none⟩=w.cell? ⟨b,j,none⟩:=λj=>World.cell?_of_block (a:=⟨b,j,none⟩) hb;have hf:∀j,w'.frozen? ⟨b,j,none⟩=w.frozen? ⟨b,j,none⟩:=λj=>World.frozen?_of_block (a:=⟨b,j,none⟩) hb;obtain⟨⟨h0,h1,h2⟩,h6,h7⟩:=h;exact⟨⟨(hc _).trans h0,(hc _).trans h1,(hc _).trans h2⟩,Nat.lt_of_lt_of_le h6 hz,λj=>(hf j).trans (h7 j)⟩):p:=h
theorem XAt.same (h:XAt w b x vs vc fs fc)(hb:w'.heap[b]? =w.heap[b]?)(hz:w.heap.size<=w'.heap.size):XAt w' b x vs vc fs fc:=sP
theorem XAt.call (h:XAt w b x vs vc fs fc)(hb:bl w w'):XAt w' b x vs vc fs fc:=h.same (hb.block b h.2.1) hb.size
theorem XAt.new (w:World)(x:Pic)(vs:oA)(vc:Nat)(fs:oA)(fc:Nat):XAt (w.alloc (Cc #[Bb x.none,U vs x.vq.length vc,U fs x.fq.length fc] 28)) w.heap.size x vs vc fs fc:=by
 refine⟨⟨?_,?_,?_⟩,ah,λj=> ?_⟩<;>simp[go_sem]
end
section
variable {w w':World} {B:Nat} {v v':Value} {l l2:List Gc}
theorem GsAt.gcs {ls:oA}{L:List Gs}(h:GsAt w ls L):∃l:List Gc,l.map Gc.g=L/\(∀ad,ls=sO ad->∀j u,(aP l)[j]? =sO u->w.cell? (ad.add j)=sO u)/\(ls=none->l=[])/\∀y∈l,bQ (λb=>b < w.heap.size) w y:=by
 have h1:∀i,i < L.length->∃x:Gc,∃b off,ls=sO ⟨b,off,nO⟩/\(x.g=L.getD i noneG)/\(∀j,j < 7->w.cell? ⟨b,off+i * 7+j,nO⟩=(bp x)[j]?)/\bQ (λb=>b < w.heap.size) w x:=by
  intro i hi;obtain⟨b,off,e,ss,cap,⟨⟨c0,c1,c2,c3,c4,c5,c6⟩,hz⟩,hI,k1,k2⟩:=h i hi;have eg:L.getD i noneG=L[i]:=by simp[j4,hi]
  refine⟨⟨L[i],ss,cap⟩,b,off,e,eg.symm,λj hj=> ?_,hI.inAll,k1,k2⟩
  match j,hj with
  |0,_=>exact c0
  |1,_=>exact c1
  |2,_=>exact c2
  |3,_=>exact c3
  |4,_=>exact c4
  |5,_=>exact c5
  |6,_=>exact c6
  |j+7,hj=>omega
 have h2:∃f:Nat->Gc,∀i,i < L.length->∃b off,ls=sO ⟨b,off,nO⟩/\((f i).g=L.getD i noneG)/\(∀j,j < 7->w.cell? ⟨b,off+i * 7+j,nO⟩=(bp (f i))[j]?)/\bQ (λb=>b < w.heap.size) w (f i):=by
  refine⟨λi=>if hi:i < L.length then Classical.choose (h1 i hi) else⟨noneG,nO,0⟩,λi hi=> ?_⟩;simp only[dif_pos hi];exact Classical.choose_spec (h1 i hi)
 obtain⟨f,hf⟩:=h2;refine⟨(j3 L.length).map f,?_,?_,?_,?_⟩
 ·refine J8 ah λi hi1 hi2=> ?_
  obtain⟨_,_,_,e,_⟩:=hf i hi2;simp only[J9,List.getElem_range];rw[e];simp[j4,hi2]
 ·intro ad had j u hju
  have hj:j < L.length * 7:=by
   have:=(Z1.1 hju).1;rw[kS] at this;simpa using this
  have e1:j=j / 7 * 7+j % 7:=aa;have hi:j / 7 < L.length:=aa;rw[e1] at hju;rw[dU _ (j / 7) d8 (j % 7) aa] at hju;obtain⟨b,off,e,_,hc,_⟩:=hf (j / 7) hi;rw[had] at e;cases e;have:=hc (j % 7) aa;rw[Addr.add_lit];have e2:off+j=off+j / 7 * 7+j % 7:=aa;rw[e2,this];simpa using hju
 ·intro h0
  cases L with
  |nil=>rfl
  |cons a r=>
   obtain⟨_,_,e,_⟩:=hf 0 ah;rw[h0] at e;cases e
 ·intro y hy
  rw[x7] at hy;obtain⟨i,hi,rfl⟩:=hy;obtain⟨_,_,_,_,_,hx⟩:=hf i d8;exact hx

def CRow (w:World)(B:Nat)(v:Value)(l:List Gc):Prop:=w.ownsRow B 91 7 v l.length (aP l)/\∀x∈l,bQ (λb=>b < B) w x
theorem CRow.grown (h:CRow w B v l)(hx:∀x∈l2,bQ (λb=>b < B) w x)(hr:w'.ownsRow B 91 7 v' (l.length+l2.length) (aP l++aP l2))(hg:w.grownBy w' v.ownBlock):CRow w' B v' (l++l2):=by
 refine⟨by rw[x3,ir];exact hr,λy hy=> ?_⟩;have hy':bQ (λb=>b < B) w y:=by
  rcases j7.1 hy with hy|hy
  ·exact h.2 y hy
  ·exact hx y hy
 exact⟨hy'.1.same (λb hS hb=>hg.block b hb (λe=>by have:=(aM h.1 e.symm).2;omega)) hg.size,hy'.2⟩
theorem CRow.at (h:CRow w B v l):∃rs rc,v=U rs l.length rc/\l.length<=rc/\rc<=maxLen/\GsAt w rs (l.map Gc.g)/\∀a,rs=sO a->B<=a.block:=by
 refine GRow.at (B:=B) ⟨h.1,λx hx=>⟨(h.2 x hx).1.mono λb hb _ e=> ?_,(h.2 x hx).2⟩⟩;have:=(aM h.1 e).2;omega
end
theorem Al (l:List Gc):∀u∈aP l,u.oneCell'=true:=by
 intro u hu;unfold aP at hu;rw[Qf] at hu;obtain⟨x,-,hx⟩:=hu;exact dj x u hx
theorem GsAt.gcsTo {w w':World}{ls:oA}{L:List Gs}(h:GsAt w ls L)(hb:bl w w'):∃l:List Gc,l.map Gc.g=L/\(∀ad,ls=sO ad->∀j u,(aP l)[j]? =sO u->w'.cell? (ad.add j)=sO u)/\(ls=none->L.length=0)/\(∀y∈l,bQ (λb=>b < w.heap.size) w' y)/\(aP l).length=L.length * 7:=by
 obtain⟨l,e,h1,h2,h3⟩:=h.gcs;refine⟨l,e,λad ha j u hj=> ?_,λh0=>by rw[<-e,h2 h0];rfl,λy hy=>⟨(h3 y hy).1.call hb,(h3 y hy).2⟩,by rw[kS,<-e,Qg]⟩;have:=h1 ad ha j u hj;rw[hb.cell (World.block_lt_of_cell? w _ this)];exact this
theorem Au (c:lI)(p:Gs->Bool)(L:List (List Gs))(k:Nat)(h:k < L.length):dA c p k (L.drop k)=((!b9 c k&&L[k].any p)||dA c p (k+1) (L.drop (k+1))):=by
 rw[z6 h];rfl
theorem mc {α:Type}(l:List α)(p:α->Bool)(k:Nat)(h:k < l.length):(l.drop k).any p=(p l[k]||(l.drop (k+1)).any p):=by
 rw[z6 h];rfl
theorem Tryz.info_guess:(Tryz.prog.info? 91).map (λi=>(i.zero,i.size,i.bytes))=sO (sO (Ag #[Bb false,Bb false,I Y 0,I Y 0,Bb false,Bb false,U nO 0 0]),7,64):=ag
theorem nz {α:Type}{n:Nat}:∀{L:List (List α)},(∀r∈L,r.length=n)->L.flatten.length=L.length * n
 |[],_=>ah
 |r::L,h=>by
  rw[List.flatten_cons,x3,h r Qb,nz λr' hr'=>h r' (J6 _ hr'),z5,Nat.add_mul];omega
theorem oB {α:Type}(L:List (List α))(k:Nat)(h:k < L.length):(L.take (k+1)).flatten=(L.take k).flatten++L[k]:=by
 rw[List.take_succ_eq_append_getElem h,List.flatten_append];simp
def GsIn (S:Nat->Prop)(w:World)(ls:oA)(L:List Gs):Prop:=
 ∀i (h:i < L.length),∃b off,ls=sO ⟨b,off,nO⟩/\S b/\∃ss cap,GuAt w b (off+i * 7) L[i] ss cap/\IntsIn S w ss L[i].s/\L[i].s.length<=cap/\cap<=maxLen
section
variable {S S':Nat->Prop} {w w':World} {ls:oA} {L:List Gs} {B z:Nat} {v v':Value} {l:List Gc}
theorem GsIn.at (h:GsIn S w ls L):GsAt w ls L:=by
 intro i hi;obtain⟨b,off,e,_,ss,cap,h1,h2,h3⟩:=h i hi;exact⟨b,off,e,ss,cap,h1,h2.at,h3⟩
theorem GsAt.inAll (h:GsAt w ls L):GsIn (λb=>b < w.heap.size) w ls L:=by
 intro i hi;obtain⟨b,off,e,ss,cap,h1,h2,h3⟩:=h i hi;exact⟨b,off,e,h1.2,ss,cap,h1,h2.inAll,h3⟩
theorem GuAt.same {b o:Nat}{g:Gs}{ss:oA}{cap:Nat}(h:GuAt w b o g ss cap)(hb:w'.heap[b]? =w.heap[b]?)(hz:w.heap.size<=w'.heap.size):GuAt w' b o g ss cap:=by
 obtain⟨⟨h0,h1,h2,h3,h4,h5,h6⟩,h7⟩:=h;have hc:∀j,w'.cell? ⟨b,j,nO⟩=w.cell? ⟨b,j,nO⟩:=λj=>x5 (a:=⟨b,j,nO⟩) hb;exact⟨⟨(hc _).trans h0,(hc _).trans h1,(hc _).trans h2,(hc _).trans h3,(hc _).trans h4,(hc _).trans h5,(hc _).trans h6⟩,lL h7 hz⟩
theorem GsIn.same (h:GsIn S w ls L)(hs:∀b,S b->b < w.heap.size->w'.heap[b]? =w.heap[b]?)(hz:w.heap.size<=w'.heap.size):GsIn S w' ls L:=by
 intro i hi;obtain⟨b,off,e,hS,ss,cap,h1,h2,h3⟩:=h i hi;exact⟨b,off,e,hS,ss,cap,h1.same (hs b hS h1.2) hz,h2.same hs hz,h3⟩
theorem GsIn.mono (h:GsIn S w ls L)(hs:∀b,S b->b < w.heap.size->S' b):GsIn S' w ls L:=by
 intro i hi;obtain⟨b,off,e,hS,ss,cap,h1,h2,h3⟩:=h i hi;exact⟨b,off,e,hs b hS h1.2,ss,cap,h1,h2.mono hs,h3⟩
theorem GsIn.call (h:GsIn S w ls L)(hb:bl w w'):GsIn S w' ls L:=h.same (λb _ hlt=>hb.block b hlt) hb.size

def SRow (w:World)(B:Nat)(v:Value)(l:List Gc):Prop:=w.ownsRow B 91 7 v l.length (aP l)/\∀x∈l,bQ (λb=>B<=b/\v.ownBlock≠sO b) w x
theorem SRow.nil (w:World)(B:Nat):SRow w B (U nO 0 0) []:=⟨⟨rfl,.inl ⟨rfl,rfl⟩⟩,λx hx=>by simp at hx⟩
theorem SRow.call (h:SRow w B v l)(hb:bl w w'):SRow w' B v l:=⟨sU h.1 hb,λx hx=>⟨(h.2 x hx).1.call hb,(h.2 x hx).2⟩⟩
theorem SRow.old (h:SRow w B v l)(hs:∀b,B<=b->w'.heap[b]? =w.heap[b]?)(hz:w.heap.size<=w'.heap.size):SRow w' B v l:=⟨dd h.1 λk hk=>hs k (aM h.1 hk).2,λx hx=>⟨(h.2 x hx).1.same (λb hS _=>hs b hS.1) hz,(h.2 x hx).2⟩⟩
theorem up {p:Prop}(h:p:=by
 refine⟨(hm.same (λb hS hb=>hg.block b hb (λe=>hS.1.2 e.symm)) hg.size).mono λb hb _=>⟨hb.1.1,?_⟩,hy'.2⟩;rcases hv with hv|hv
 ·rw[hv];exact hb.1.2
 ·rw[hv]
  intro e;cases e;exact absurd hb.2 (Nat.lt_irrefl _)):p:=h
theorem SRow.grown (h:SRow w B v l){x:Gc}(hx:bQ (λb=>B<=b/\v.ownBlock≠sO b) w x)(hr:w'.ownsRow B 91 7 v' (l.length+1) (aP l++bp x))(hg:w.grownBy w' v.ownBlock)(hv:v'.ownBlock=v.ownBlock\/v'.ownBlock=sO w.heap.size):SRow w' B v' (l++[x]):=by
 refine⟨by rw[x3,ir];simpa[aP] using hr,λy hy=> ?_⟩;have hy':bQ (λb=>B<=b/\v.ownBlock≠sO b) w y:=by
  rcases j7.1 hy with hy|hy
  ·exact h.2 y hy
  ·rw[j2.1 hy];exact hx
 have hm:IntsIn (λb=>(B<=b/\v.ownBlock≠sO b)/\b < w.heap.size) w y.ss y.g.s:=hy'.1.mono λb h1 h2=>⟨h1,h2⟩;exact up
theorem SRow.in (h:SRow w B v l):∃rs rc,v=U rs l.length rc/\l.length<=rc/\rc<=maxLen/\GsIn (λb=>B<=b) w rs (l.map Gc.g):=by
 obtain⟨h1,h2⟩:=h;rcases h1.2 with⟨rfl,h0⟩|⟨g,cap,cur,rfl,hb,hg,k1,k2,k3,k4⟩
 ·have:l=[]:=J1.1 h0
  subst this;exact⟨nO,0,rfl,lR _,dg,λi hi=>absurd hi ah⟩
 ·refine⟨sO ⟨g,0,nO⟩,cap,rfl,k1,k2,λi hi=> ?_⟩
  have hil:i < l.length:=d8;have e:(l.map Gc.g)[i]=l[i].g:=ah;rw[e];have hx:=h2 l[i] (gM hil);refine⟨g,0,rfl,hb,l[i].ss,l[i].cap,⟨?_,(z8.1 hg).1⟩,hx.1.mono λb h _=>h.1,hx.2.1,hx.2.2⟩;have hc:∀j,j < 7->w.cell? ⟨g,i * 7+j,nO⟩=(bp l[i])[j]? :=λj hj=>by
   have:=h1.cellAt (i * 7+j) aa;rw[<-dU l i hil j hj];exact this
  simp only[j5];exact⟨hc 0 aa,hc 1 aa,hc 2 aa,hc 3 aa,hc 4 aa,hc 5 aa,hc 6 aa⟩
end

structure Rw where
 rs:oA
 rc:Nat
 l:List Gs
def rwV (x:Rw):Value:=U x.rs x.l.length x.rc
def n9 (S:Nat->Prop)(w:World)(x:Rw):Prop:=GsIn S w x.rs x.l/\x.l.length<=x.rc/\x.rc<=maxLen
def FRow (w:World)(B:Nat)(v:Value)(L:List Rw):Prop:=w.ownsRow B 25 1 v L.length (L.map rwV)/\∀x∈L,n9 (λb=>B<=b/\v.ownBlock≠sO b) w x
section
variable {w w':World} {B:Nat} {v v':Value} {L:List Rw}
theorem FRow.nil (w:World)(B:Nat):FRow w B (U nO 0 0) []:=⟨⟨rfl,.inl ⟨rfl,rfl⟩⟩,λx hx=>by simp at hx⟩
theorem FRow.call (h:FRow w B v L)(hb:bl w w'):FRow w' B v L:=⟨sU h.1 hb,λx hx=>⟨(h.2 x hx).1.call hb,(h.2 x hx).2⟩⟩
theorem FRow.old (h:FRow w B v L)(hs:∀b,B<=b->w'.heap[b]? =w.heap[b]?)(hz:w.heap.size<=w'.heap.size):FRow w' B v L:=⟨dd h.1 λk hk=>hs k (aM h.1 hk).2,λx hx=>⟨(h.2 x hx).1.same (λb hS _=>hs b hS.1) hz,(h.2 x hx).2⟩⟩
theorem FRow.grown (h:FRow w B v L){x:Rw}(hx:n9 (λb=>B<=b/\v.ownBlock≠sO b) w x)(hr:w'.ownsRow B 25 1 v' (L.length+1) (L.map rwV++[rwV x]))(hg:w.grownBy w' v.ownBlock)(hv:v'.ownBlock=v.ownBlock\/v'.ownBlock=sO w.heap.size):FRow w' B v' (L++[x]):=by
 refine⟨by rw[x3,Qh];exact hr,λy hy=> ?_⟩;have hy':n9 (λb=>B<=b/\v.ownBlock≠sO b) w y:=by
  rcases j7.1 hy with hy|hy
  ·exact h.2 y hy
  ·rw[j2.1 hy];exact hx
 have hm:GsIn (λb=>(B<=b/\v.ownBlock≠sO b)/\b < w.heap.size) w y.rs y.l:=hy'.1.mono λb h1 h2=>⟨h1,h2⟩;exact up
theorem FRow.rows (h:FRow w B v L):∃fs fc,v=U fs L.length fc/\L.length<=fc/\fc<=maxLen/\RowsAt w fs (L.map Rw.l):=by
 obtain⟨h1,h2⟩:=h;rcases h1.2 with⟨rfl,h0⟩|⟨g,cap,cur,rfl,hb,hg,k1,k2,k3,k4⟩
 ·have:L=[]:=J1.1 h0
  subst this;exact⟨nO,0,rfl,lR _,dg,λi hi=>absurd hi ah⟩
 ·refine⟨sO ⟨g,0,nO⟩,cap,rfl,k1,k2,λi hi=> ?_⟩
  have hil:i < L.length:=d8;have e:(L.map Rw.l)[i]=L[i].l:=ah;rw[e];have hx:=h2 L[i] (gM hil);have:=h1.cellAt i aa;refine⟨g,0,rfl,(z8.1 hg).1,L[i].rs,L[i].rc,?_,hx.2.1,hx.2.2,hx.1.at⟩;rw[j5,this];simp[hil,rwV]
end
def X3 (w:World)(b:Nat)(x0 x1 x2:Value):Prop:=(w.cell? ⟨b,0,nO⟩=sO x0/\w.cell? ⟨b,1,nO⟩=sO x1/\w.cell? ⟨b,2,nO⟩=sO x2)/\b < w.heap.size/\∀j,w.frozen? ⟨b,j,nO⟩=false
section
variable {w w':World} {b:Nat} {x0 x1 x2:Value}
theorem X3.same (h:X3 w b x0 x1 x2)(hb:w'.heap[b]? =w.heap[b]?)(hz:w.heap.size<=w'.heap.size):X3 w' b x0 x1 x2:=sP
theorem X3.call (h:X3 w b x0 x1 x2)(hb:bl w w'):X3 w' b x0 x1 x2:=h.same (hb.block b h.2.1) hb.size
theorem X3.far (h:X3 w b x0 x1 x2){a:Addr}(ha:b≠a.block)(y:Value):X3 (w.setCell a y) b x0 x1 x2:=h.same (hSe _ _ _ _ ha) bx
theorem X3.new (w:World)(t:TypeId)(x0 x1 x2:Value):X3 (w.alloc (Cc #[x0,x1,x2] t)) w.heap.size x0 x1 x2:=by
 refine⟨⟨?_,?_,?_⟩,ah,λj=> ?_⟩<;>simp[go_sem]
theorem X3.put1 (h:X3 w b x0 x1 x2)(y:Value):X3 (w.setCell ⟨b,1,nO⟩ y) b x0 y x2:=by
 obtain⟨⟨h0,h1,h2⟩,h6,h7⟩:=h;exact⟨⟨Da,Z3 _ _ _ h1,Dd⟩,vg,λj=>vK⟩
theorem X3.put2 (h:X3 w b x0 x1 x2)(y:Value):X3 (w.setCell ⟨b,2,nO⟩ y) b x0 x1 y:=by
 obtain⟨⟨h0,h1,h2⟩,h6,h7⟩:=h;exact⟨⟨Da,DK,Z3 _ _ _ h2⟩,vg,λj=>vK⟩
end
theorem PrAt.low {w w':World}{B b:Nat}{V F:Int}{s:oA}{c:lI}{cap:Nat}(h:PrAt w b V F s c cap)(hb:Below B w w')(hB:b < B):PrAt w' b V F s c cap:=by
 obtain⟨⟨h0,h1,h2⟩,hz⟩:=h;exact⟨⟨by rw[hb.cell hB];exact h0,by rw[hb.cell hB];exact h1,by rw[hb.cell hB];exact h2⟩,lL hz hb.size⟩
theorem PrAt.far {w:World}{b:Nat}{V F:Int}{s:oA}{c:lI}{cap:Nat}(h:PrAt w b V F s c cap){a:Addr}(ha:b≠a.block)(y:Value):PrAt (w.setCell a y) b V F s c cap:=by
 have hc:∀j,(w.setCell a y).cell? ⟨b,j,nO⟩=w.cell? ⟨b,j,nO⟩:=λj=>x5 (a:=⟨b,j,nO⟩) (hSe _ _ _ _ ha);obtain⟨⟨h0,h1,h2⟩,hz⟩:=h;exact⟨⟨(hc _).trans h0,(hc _).trans h1,(hc _).trans h2⟩,by simpa[Q0] using hz⟩
theorem lf (w:World)(x:Gc)(cs:Array Value)(t:TypeId)(hcs:cs.toList=bp x):∀ad,sO (⟨w.heap.size,0,nO⟩:Addr)=sO ad->∀j u,(bp x)[j]? =sO u->(w.alloc (Cc cs t)).cell? (ad.add j)=sO u:=by
 intro ad e j u hj;cases e;rw[Addr.add_lit,j5];rw[<-hcs] at hj;simpa[go_sem] using hj
theorem uK (w:World)(x:Value)(t:TypeId):∀ad,sO (⟨w.heap.size,0,nO⟩:Addr)=sO ad->∀j u,([x]:List Value)[j]? =sO u->(w.alloc (Cc #[x] t)).cell? (ad.add j)=sO u:=by
 intro ad e j u hj;cases e;rw[Addr.add_lit,j5];simpa[go_sem] using hj
theorem Tryz.info_row:(Tryz.prog.info? 25).map (λi=>(i.zero,i.size,i.bytes))=sO (sO (U nO 0 0),1,24):=ag
theorem pV {w:World}{a:Addr}{B:Nat}(h:a.block < B)(x:Value):(∀b,B<=b->(w.setCell a x).heap[b]? =w.heap[b]?)/\w.heap.size<=(w.setCell a x).heap.size:=⟨λb hb=>hSe _ _ _ _ aa,bx⟩
theorem GuAt.low {w w':World}{B b o:Nat}{g:Gs}{ss:oA}{cap:Nat}(h:GuAt w b o g ss cap)(hb:Below B w w')(hB:b < B):GuAt w' b o g ss cap:=h.same (hb.block b hB) hb.size
theorem lU {w:World}{b off:Nat}{L:List Gs}(h:GsAt w (sO ⟨b,off,nO⟩) L)(k:Nat)(hk:k < L.length):b < w.heap.size:=by
 obtain⟨b',off',e,ss,cap,h1,_⟩:=h k hk;cases e;exact h1.2
def Nf (w':World)(e:Ending)(x:Pic)(er:Int):Prop:=∃vs vc fs fc,e=Rt (Tu #[Ag #[Bb x.none,U vs x.vq.length vc,U fs x.fq.length fc],I Y er])/\PicAt w' x vs fs/\(x.vq.length<=vc/\vc<=maxLen)/\(x.fq.length<=fc/\fc<=maxLen)
theorem FRow.olden {w w':World}{B:Nat}{v:Value}{L:List Rw}(h:FRow w B v L)(hs:∀b,B<=b->b < w.heap.size->w'.heap[b]? =w.heap[b]?)(hz:w.heap.size<=w'.heap.size):FRow w' B v L:=⟨dd h.1 λk hk=>hs k (aM h.1 hk).2 (aM h.1 hk).1,λx hx=>⟨(h.2 x hx).1.same (λb hS hlt=>hs b hS.1 hlt) hz,(h.2 x hx).2⟩⟩
def PicOn (S:Nat->Prop)(w:World)(x:Pic)(vs fs:oA):Prop:=∀w2:World,(∀b,S b->b < w.heap.size->w2.heap[b]? =w.heap[b]?)->w.heap.size<=w2.heap.size->PicAt w2 x vs fs
section
variable {S S':Nat->Prop} {w w':World} {x:Pic} {vs fs:oA}
theorem PicOn.at (h:PicOn S w x vs fs):PicAt w x vs fs:=h w (λ_ _ _=>rfl) (lR _)
theorem PicOn.same (h:PicOn S w x vs fs)(hs:∀b,S b->b < w.heap.size->w'.heap[b]? =w.heap[b]?)(hz:w.heap.size<=w'.heap.size):PicOn (λb=>S b/\b < w.heap.size) w' x vs fs:=λw2 h2 hz2=>h w2 (λb hb hlt=>by rw[h2 b ⟨hb,hlt⟩ (by omega),hs b hb hlt]) (lT hz hz2)
theorem PicOn.mono (h:PicOn S w x vs fs)(hs:∀b,S b->b < w.heap.size->S' b):PicOn S' w x vs fs:=λw2 h2 hz2=>h w2 (λb hb hlt=>h2 b (hs b hb hlt) hlt) hz2
theorem PicOn.call (h:PicOn S w x vs fs)(hb:bl w w'):PicOn S w' x vs fs:=(h.same (λb _ hlt=>hb.block b hlt) hb.size).mono λb hb _=>hb.1
theorem PicAt.same (h:PicAt w x vs fs)(hs:∀b,b < w.heap.size->w'.heap[b]? =w.heap[b]?)(hz:w.heap.size<=w'.heap.size):PicAt w' x vs fs:=by
 refine⟨(h.1.inAll.same (λb _ hb=>hs b hb) hz).at,λi hi=> ?_⟩;obtain⟨b,off,e,hb,rs,rc,h1,h2,h3,h4⟩:=h.2 i hi;exact⟨b,off,e,lL hb hz,rs,rc,by rw[x5 (a:=⟨b,off+i,nO⟩) (hs b hb)];exact h1,h2,h3,(h4.inAll.same (λb _ hb=>hs b hb) hz).at⟩
end
def KT (B:Nat)(w':World)(e:Ending)(x:Pic):Prop:=∃vs vc fs fc,e=Rt (Ag #[Bb x.none,U vs x.vq.length vc,U fs x.fq.length fc])/\PicOn (λb=>B<=b) w' x vs fs/\(x.vq.length<=vc/\vc<=maxLen)/\(x.fq.length<=fc/\fc<=maxLen)
end
section
open Go.RowKit Go
def CellsKept (W W':World):Prop:=W.heap.size<=W'.heap.size/\∀b o v,W.cell? ⟨b,o,nO⟩=sO v->W'.cell? ⟨b,o,nO⟩=sO v
section
variable {W W':World}
theorem CellsKept.ints (h:CellsKept W W'){s:oA}{l:List Int}(hi:IntsAt W s l):IntsAt W' s l:=by
 rcases hi with hi|⟨b,off,e,hb,hc⟩
 ·exact .inl hi
 ·exact .inr ⟨b,off,e,lL hb h.1,λk hk=>h.2 _ _ _ (hc k hk)⟩
theorem CellsKept.gs (h:CellsKept W W'){s:oA}{l:List Gs}(hi:GsAt W s l):GsAt W' s l:=λi hl=>by
 obtain⟨b,off,e,ss,cap,⟨⟨c0,c1,c2,c3,c4,c5,c6⟩,hz⟩,h2,h4⟩:=hi i hl;exact⟨b,off,e,ss,cap,⟨⟨h.2 _ _ _ c0,h.2 _ _ _ c1,h.2 _ _ _ c2,h.2 _ _ _ c3,h.2 _ _ _ c4,h.2 _ _ _ c5,h.2 _ _ _ c6⟩,lL hz h.1⟩,h.ints h2,h4⟩
theorem CellsKept.pic (h:CellsKept W W'){x:Pic}{vs fs:oA}(hp:PicAt W x vs fs):PicAt W' x vs fs:=⟨h.gs hp.1,λi hi=>by
 obtain⟨b,off,e,hz,rs,rc,h1,h2,h4,h5⟩:=hp.2 i hi;exact⟨b,off,e,lL hz h.1,rs,rc,h.2 _ _ _ h1,h2,h4,h.gs h5⟩⟩
theorem CellsKept.putObj {l:Nat}{o o':Obj}(h:W.heap[l]? =sO o)(hc:o.isCells=false):CellsKept W (W.putObj l o'):=by
 refine⟨by simp[Qi],λb k v hv=> ?_⟩;by_cases e:b=l
 ·subst e
  exfalso;simp only[Z4,h] at hv;cases o<;>simp_all[Obj.isCells]
 ·rw[x5 (a:=⟨b,k,nO⟩) (Z5 e)]
  exact hv
end
structure RoundAt (l:Nat) (W W':World):Prop where
 far:∀q,q≠l->W'.heap[q]? =W.heap[q]?
 size:W'.heap.size=W.heap.size
 kept:CellsKept W W'
 low:∀{B:Nat} {a:World},B<=l->Below B a W->Below B a W'
section
variable {W W' Wa W2 W3:World} {l D:Nat} {r r':Loop}
theorem LoopAt.put (h:LoopAt W l D r)(hD:D≠l)(r':Loop):LoopAt (W.putObj l (.loop r')) l D r':=⟨World.putObj_heap_same (z8.1 h.lp).1,(Z5 hD).trans h.dfr⟩
theorem LoopAt.far (h:LoopAt W l D r)(hl:W'.heap[l]? =W.heap[l]?)(hD:W'.heap[D]? =W.heap[D]?):LoopAt W' l D r:=⟨hl.trans h.lp,hD.trans h.dfr⟩
theorem LoopAt.round (h:LoopAt W l D r)(o:Obj):RoundAt l W (W.putObj l o):=⟨λq hq=>Z5 hq,by simp[Qi],CellsKept.putObj h.lp rfl,λ{B} {a} hB hb=>by
 refine hb.trans ((bR B W).grown (grownBy_putObj' W l o) (by have:=(z8.1 h.lp).1;omega) (λk e=>by cases e;omega))⟩
theorem Cp {P:Program}{fn:FuncId}{tmps:Array Value}{ps:Array Tmp}{assign body:Code}{F:Fence}{m:Nat}{Q:Exit->Act->World->Prop}{a:Act}(hl:LoopAt W l D (dx fn tmps ps assign body D .ready nO))(hD:D≠l)(hb:bl W Wa)
  (h:∀W2,LoopAt W2 l D (dx fn tmps ps assign body D .busy nO)->RoundAt l Wa W2->body.wpIn F m P Q a W2):
  LoopAt Wa l D (dx fn tmps ps assign body D .ready nO)/\body.wpIn F m P Q a (Wa.putObj l (.loop (dx fn tmps ps assign body D .busy nO))):=
 ⟨hl.below hb,h _ ((hl.below hb).put hD _) ((hl.below hb).round _)⟩
end
end
section
open Go.RowKit
structure Ro where
  rs:oA
  rc:Nat
  l:List Gc
def roV (r:Ro):Value:=U r.rs r.l.length r.rc
def roG (r:Ro):List Gs:=r.l.map Gc.g
def roB (r:Ro):Option Nat:=(roV r).ownBlock
def RoOwn (w:World)(B:Nat)(r:Ro):Prop:=w.ownsRow B 91 7 (roV r) r.l.length (aP r.l)
theorem nY:∀{l:List Gc} {k j:Nat} {u:Value} {x':Gc} (hk:k < l.length) (_:j < 7) (_:bp x'=(bp l[k]).set j u),aP (l.set k x')=(aP l).set (k * 7+j) u
  |[],k,_,_,_,hk,_,_=>absurd hk ah
  |x::r,0,j,u,x',_,hj,h=>by
    have e:∀y,aP (y::r)=bp y++aP r:=λ_=>rfl;simp only[Z6] at h;rw[Qj,e,e,J7,j5,List.set_append_left _ _ (by rw[dO];exact hj),h]
  |x::r,k+1,j,u,x',hk,hj,h=>by
    have e:∀(y:Gc) (q:List Gc),aP (y::q)=bp y++aP q:=λ_ _=>rfl;simp only[List.getElem_cons_succ] at h;rw[Qk,e,e,nY fH hj h,List.set_append_right _ _ (by rw[dO];omega),dO];congr 2;omega
section
variable {w w':World} {B:Nat} {r:Ro}
theorem RoOwn.form (h:RoOwn w B r)(h0:0 < r.l.length):∃b,r.rs=sO ⟨b,0,nO⟩/\roB r=sO b/\B<=b/\b < w.heap.size:=by
  obtain⟨rs,rc,l⟩:=r;rcases h.2 with⟨e,h1⟩|⟨g,cap,cur,e,hb,hg,_⟩
  · simp only at h0 h1;omega
  · simp only[roV,j0.injEq] at e
    exact⟨g,e.1,by unfold roB roV;rw[e.1];rfl,hb,(z8.1 hg).1⟩
theorem RoOwn.caps (h:RoOwn w B r):r.l.length<=r.rc/\r.rc<=maxLen:=by
  rcases h.2 with⟨e,h1⟩|⟨g,cap,cur,e,hb,hg,k1,k2,_⟩
  · simp only[roV,j0.injEq] at e
    exact⟨aa,by rw[e.2.2];exact z9 _⟩
  · simp only[roV,j0.injEq] at e
    rw[e.2.2];exact⟨k1,k2⟩
theorem RoOwn.same (h:RoOwn w B r)(hs:∀b,roB r=sO b->w'.heap[b]? =w.heap[b]?):RoOwn w' B r:=dd h hs
theorem RoOwn.lt (h:RoOwn w B r){b:Nat}(hb:roB r=sO b):b < w.heap.size/\B<=b:=aM h hb
theorem RoOwn.put (h:RoOwn w B r){b:Nat}(hb:r.rs=sO ⟨b,0,nO⟩){k j:Nat}{u:Value}{x':Gc}(hk:k < r.l.length)(hj:j < 7)(hx:bp x'=(bp r.l[k]).set j u):RoOwn (w.setCell ⟨b,k * 7+j,nO⟩ u) B ⟨r.rs,r.rc,r.l.set k x'⟩:=by
  obtain⟨rs,rc,l⟩:=r;simp only at hb hk hx;subst hb;have h1:=(Q1.stored h (k * 7+j) u).1;unfold RoOwn roV;simp only[z7];rw[nY hk hj hx];exact h1
theorem RoOwn.gets (h:RoOwn w B r){S:Nat->Prop}(hg:∀x∈r.l,bQ S w x):GsIn (λb=>roB r=sO b\/S b) w r.rs (roG r):=by
  intro i hi;have hil:i < r.l.length:=by simpa[roG] using hi
  obtain⟨b,e,eb,hb,hz⟩:=h.form aa;have hx:=hg _ (gM hil);have ei:(roG r)[i]=r.l[i].g:=by simp[roG]
  rw[ei];have h1:w.ownsRow B 91 7 (U (sO ⟨b,0,nO⟩) r.l.length r.rc) r.l.length (aP r.l):=by rw[<-e];exact h
  refine⟨b,0,e,.inl eb,r.l[i].ss,r.l[i].cap,⟨?_,hz⟩,hx.1.mono λq hq _=>.inr hq,hx.2.1,hx.2.2⟩;have hc:∀j,j < 7->w.cell? ⟨b,i * 7+j,nO⟩=(bp r.l[i])[j]? :=λj hj=>by
    rw[<-dU r.l i hil j hj];exact Q1.cellAt h1 _ aa
  simp only[j5];exact⟨hc 0 aa,hc 1 aa,hc 2 aa,hc 3 aa,hc 4 aa,hc 5 aa,hc 6 aa⟩
theorem RoOwn.thaw (h:RoOwn w B r){b:Nat}(hb:r.rs=sO ⟨b,0,nO⟩)(j:Nat):w.frozen? ⟨b,j,nO⟩=false:=by
  have h1:w.ownsRow B 91 7 (U (sO ⟨b,0,nO⟩) r.l.length r.rc) r.l.length (aP r.l):=by rw[<-hb];exact h
  exact Q1.frozenAt h1 j
end
def Off (v:Ro)(fb:Option Nat)(L:List Ro)(b:Nat):Prop:=roB v≠sO b/\fb≠sO b/\∀r∈L,roB r≠sO b
structure PicG (T:Nat->Prop) (B:Nat) (w:World) (v:Ro) (fs:oA) (fc:Nat) (L:List Ro):Prop where
  vq:RoOwn w B v
  fq:w.ownsRow B 25 1 (U fs L.length fc) L.length (L.map roV)
  rows:∀r∈L,RoOwn w B r
  sv:∀g∈v.l,bQ (λb=>T b/\Off v (j0 fs L.length fc).ownBlock L b) w g
  sf:∀r∈L,∀g∈r.l,bQ (λb=>T b/\Off v (j0 fs L.length fc).ownBlock L b) w g
  dv:∀b,roB v=sO b->(j0 fs L.length fc).ownBlock≠sO b/\∀r∈L,roB r≠sO b
  df:∀b,(j0 fs L.length fc).ownBlock=sO b->∀r∈L,roB r≠sO b
  dr:L.Pairwise λr q=>∀b,roB r=sO b->roB q≠sO b
def aS (n:Bool)(v:Ro)(L:List Ro):Pic:=⟨n,roG v,L.map roG⟩
section
variable {T T':Nat->Prop} {B:Nat} {w w':World} {v:Ro} {fs:oA} {fc:Nat} {L:List Ro}
theorem PicG.mono (h:PicG T B w v fs fc L)(hT:∀b,T b->b < w.heap.size->T' b):PicG T' B w v fs fc L:=
  ⟨h.vq,h.fq,h.rows,λg hg=>⟨(h.sv g hg).1.mono λb hb hz=>⟨hT b hb.1 hz,hb.2⟩,(h.sv g hg).2⟩,λr hr g hg=>⟨(h.sf r hr g hg).1.mono λb hb hz=>⟨hT b hb.1 hz,hb.2⟩,(h.sf r hr g hg).2⟩,h.dv,h.df,h.dr⟩
theorem PicG.same (h:PicG T B w v fs fc L)(hs:∀b,T b\/B<=b->b < w.heap.size->w'.heap[b]? =w.heap[b]?)(hz:w.heap.size<=w'.heap.size):PicG T B w' v fs fc L:=
  ⟨h.vq.same λb hb=>hs b (.inr (h.vq.lt hb).2) (h.vq.lt hb).1,dd h.fq λb hb=>hs b (.inr (aM h.fq hb).2) (aM h.fq hb).1,λr hr=>(h.rows r hr).same λb hb=>hs b (.inr ((h.rows r hr).lt hb).2) ((h.rows r hr).lt hb).1,
   λg hg=>⟨(h.sv g hg).1.same (λb hb hlt=>hs b (.inl hb.1) hlt) hz,(h.sv g hg).2⟩,λr hr g hg=>⟨(h.sf r hr g hg).1.same (λb hb hlt=>hs b (.inl hb.1) hlt) hz,(h.sf r hr g hg).2⟩,h.dv,h.df,h.dr⟩
theorem PicG.call (h:PicG T B w v fs fc L)(hb:bl w w'):PicG T B w' v fs fc L:=h.same (λb _ hlt=>hb.block b hlt) hb.size
theorem PicG.fcap (h:PicG T B w v fs fc L):L.length<=fc/\fc<=maxLen:=by
  rcases h.fq.2 with⟨e,h1⟩|⟨g,cap,cur,e,hb,hg,k1,k2,_⟩
  · simp only[j0.injEq] at e
    exact⟨aa,by rw[e.2.2];exact z9 _⟩
  · simp only[j0.injEq] at e
    rw[e.2.2];exact⟨k1,k2⟩
theorem PicG.fform (h:PicG T B w v fs fc L)(h0:0 < L.length):∃b,fs=sO ⟨b,0,nO⟩/\B<=b/\b < w.heap.size/\∀k (hk:k < L.length),w.cell? ⟨b,k,nO⟩=sO (roV L[k]):=by
  rcases h.fq.2 with⟨e,h1⟩|⟨g,cap,cur,e,hb,hg,k1,k2,_⟩
  · omega
  · simp only[j0.injEq] at e
    obtain⟨e1,-,e3⟩:=e;subst e1 e3;refine⟨g,rfl,hb,(z8.1 hg).1,λk hk=> ?_⟩;have:=Q1.cellAt h.fq k aa;rw[this];simp[hk]
theorem PicG.at (h:PicG T B w v fs fc L)(n:Bool):PicAt w (aS n v L) v.rs fs:=by
  refine⟨(h.vq.gets h.sv).at,λi hi=> ?_⟩;have hil:i < L.length:=by simpa[aS] using hi
  obtain⟨b,e,hb,hz,hc⟩:=h.fform aa;have ei:(aS n v L).fq[i]=roG L[i]:=by simp[aS]
  rw[ei];have hm:=gM hil;have hcp:=(h.rows _ hm).caps;refine⟨b,0,e,hz,L[i].rs,L[i].rc,?_,by simpa[roG] using hcp.1,hcp.2,((h.rows _ hm).gets (h.sf _ hm)).at⟩;rw[j5,hc i hil];simp[roV,roG]
theorem PicG.on (h:PicG T B w v fs fc L)(n:Bool):PicOn (λb=>T b\/B<=b) w (aS n v L) v.rs fs:=λw2 hs hz=>(h.same hs hz).at n
theorem PicG.vcap (h:PicG T B w v fs fc L)(n:Bool):(aS n v L).vq.length<=v.rc/\v.rc<=maxLen:=by simpa[aS,roG] using h.vq.caps
theorem PicG.fcap' (h:PicG T B w v fs fc L)(n:Bool):(aS n v L).fq.length<=fc/\fc<=maxLen:=by simpa[aS] using h.fcap
theorem rP {S:Nat->Prop}{x:Gc}{a:Addr}{u:Value}(h:bQ S w x)(hs:∀b,S b->b≠a.block):bQ S (w.setCell a u) x:=⟨h.1.same (λb hb _=>hSe _ _ _ _ (hs b hb)) bx,h.2⟩
theorem PicG.putV (h:PicG T B w v fs fc L){b:Nat}(hb:v.rs=sO ⟨b,0,nO⟩){k j:Nat}{u:Value}{x':Gc}(hk:k < v.l.length)(hj:j < 7)(hx:bp x'=(bp v.l[k]).set j u)(hg:bQ (λb=>T b/\Off v (j0 fs L.length fc).ownBlock L b) w x'):
    PicG T B (w.setCell ⟨b,k * 7+j,nO⟩ u) ⟨v.rs,v.rc,v.l.set k x'⟩ fs fc L:=by
  have eb:roB v=sO b:=kF;have eb':roB ⟨v.rs,v.rc,v.l.set k x'⟩=roB v:=kF;have eO:∀q,Off ⟨v.rs,v.rc,v.l.set k x'⟩ (j0 fs L.length fc).ownBlock L q=Off v (j0 fs L.length fc).ownBlock L q:=λq=>by unfold Off;rw[eb']
  have hd:=h.dv b eb;have hp:∀g,bQ (λb=>T b/\Off v (j0 fs L.length fc).ownBlock L b) w g->bQ (λb=>T b/\Off ⟨v.rs,v.rc,v.l.set k x'⟩ (j0 fs L.length fc).ownBlock L b) (w.setCell ⟨b,k * 7+j,nO⟩ u) g:=λg hg=>by
    simp only[eO];exact rP hg λq hq e=>hq.2.1 pX
  refine⟨h.vq.put hb hk hj hx,dd h.fq λq hq=>hSe _ _ _ _ λe=>hd.1 (by rw[hq];exact congrArg sO e),λr hr=>(h.rows r hr).same λq hq=>hSe _ _ _ _ λe=>hd.2 r hr (by rw[hq];exact congrArg sO e),λg hgm=>hp g ?_,λr hr g hgm=>hp g (h.sf r hr g hgm),by rw[eb'];exact h.dv,h.df,h.dr⟩;rcases Q2 hgm with hgm|rfl
  · exact h.sv g hgm
  · exact hg
theorem PicG.putF (h:PicG T B w v fs fc L){s:Nat}(hs:s < L.length){b:Nat}(hb:L[s].rs=sO ⟨b,0,nO⟩){k j:Nat}{u:Value}{x':Gc}(hk:k < L[s].l.length)(hj:j < 7)(hx:bp x'=(bp L[s].l[k]).set j u)(hg:bQ (λb=>T b/\Off v (j0 fs L.length fc).ownBlock L b) w x'):
    PicG T B (w.setCell ⟨b,k * 7+j,nO⟩ u) v fs fc (L.set s ⟨L[s].rs,L[s].rc,L[s].l.set k x'⟩):=by
  have hm:=gM hs;have eb:roB L[s]=sO b:=kF;have ebn:roB ⟨L[s].rs,L[s].rc,L[s].l.set k x'⟩=roB L[s]:=kF;have evn:roV ⟨L[s].rs,L[s].rc,L[s].l.set k x'⟩=roV L[s]:=by unfold roV;simp
  have eL:(L.set s ⟨L[s].rs,L[s].rc,L[s].l.set k x'⟩).map roB=L.map roB:=by
    rw[Z7,ebn,<-J9 (f:=roB) (h:=by simpa using hs),x8]
  have eV:(L.set s ⟨L[s].rs,L[s].rc,L[s].l.set k x'⟩).map roV=L.map roV:=by
    rw[Z7,evn,<-J9 (f:=roV) (h:=by simpa using hs),x8]
  have allB:∀{M:List Ro} {q:Nat},(∀r∈M,roB r≠sO q)↔∀o∈M.map roB,o≠sO q:=by
    intro M q;simp only[x7,forall_exists_index,and_imp,forall_apply_eq_imp_iff₂]
  have eO:∀q,Off v (j0 fs L.length fc).ownBlock (L.set s ⟨L[s].rs,L[s].rc,L[s].l.set k x'⟩) q↔Off v (j0 fs L.length fc).ownBlock L q:=λq=>by
    unfold Off;rw[allB,allB,eL]
  have hp:∀g,bQ (λb=>T b/\Off v (j0 fs L.length fc).ownBlock L b) w g->bQ (λb=>T b/\Off v (j0 fs (L.set s ⟨L[s].rs,L[s].rc,L[s].l.set k x'⟩).length fc).ownBlock (L.set s ⟨L[s].rs,L[s].rc,L[s].l.set k x'⟩) b) (w.setCell ⟨b,k * 7+j,nO⟩ u) g:=λg hg=>by
    rw[z7];simp only[eO];exact rP hg λq hq e=>hq.2.2.2 _ hm pX
  have pwB:∀{M:List Ro},M.Pairwise (λr q=>∀b,roB r=sO b->roB q≠sO b)↔(M.map roB).Pairwise λo p=>∀b,o=sO b->p≠sO b:=by
    intro M;rw[Z8]
  refine⟨h.vq.same λq hq=>hSe _ _ _ _ λe=>(h.dv q hq).2 _ hm pX,?_,λr hr=> ?_,λg hgm=>hp g (h.sv g hgm),λr hr g hgm=>hp g ?_,λq hq=> ?_,λq hq=> ?_,?_⟩
  · rw[z7,eV]
    exact dd h.fq λq hq=>hSe _ _ _ _ λe=>h.df q hq _ hm pX
  · rw[Ql] at hr
    obtain⟨i,hi,rfl⟩:=hr;rw[z7] at hi;rw[Qm];split
    · exact(h.rows _ hm).put hb hk hj hx
    · rename_i hne
      refine(h.rows _ (gM hi)).same λq hq=>hSe _ _ _ _ λe=> ?_;simp only at e;subst e;have pw:=List.pairwise_iff_getElem.1 h.dr;rcases Nat.lt_or_gt_of_ne hne with hlt|hlt
      · exact pw s i hs hi hlt q eb hq
      · exact pw i s hi hs hlt q hq eb
  · rw[Ql] at hr
    obtain⟨i,hi,rfl⟩:=hr;rw[z7] at hi;rw[Qm] at hgm;split at hgm
    · rcases Q2 hgm with hgm|rfl
      · exact h.sf _ hm g hgm
      · exact hg
    · exact h.sf _ (gM hi) g hgm
  · rw[z7,allB,eL,<-allB]
    exact h.dv q hq
  · rw[z7] at hq
    rw[allB,eL,<-allB];exact h.df q hq
  · rw[pwB,eL,<-pwB]
    exact h.dr
end
def VRow (S:Nat->Prop)(w:World)(B:Nat)(v:Value)(l:List Gc):Prop:=w.ownsRow B 91 7 v l.length (aP l)/\(∀b,v.ownBlock=sO b->S b)/\∀x∈l,bQ (λb=>S b/\v.ownBlock≠sO b) w x
section
variable {S S':Nat->Prop} {w w':World} {B:Nat} {v:Value} {l:List Gc}
theorem VRow.same (h:VRow S w B v l)(hs:∀b,S b->b < w.heap.size->w'.heap[b]? =w.heap[b]?)(hz:w.heap.size<=w'.heap.size):VRow S w' B v l:=⟨dd h.1 λb hb=>hs b (h.2.1 b hb) (aM h.1 hb).1,h.2.1,λx hx=>⟨(h.2.2 x hx).1.same (λb hb hlt=>hs b hb.1 hlt) hz,(h.2.2 x hx).2⟩⟩
theorem VRow.mono (h:VRow S w B v l)(hs:∀b,S b->b < w.heap.size->S' b):VRow S' w B v l:=⟨h.1,λb hb=>hs b (h.2.1 b hb) (aM h.1 hb).1,λx hx=>⟨(h.2.2 x hx).1.mono λb hb hlt=>⟨hs b hb.1 hlt,hb.2⟩,(h.2.2 x hx).2⟩⟩
theorem VRow.call (h:VRow S w B v l)(hb:bl w w'):VRow S w' B v l:=h.same (λb _ hlt=>hb.block b hlt) hb.size
theorem dC {e:TypeId}{z n:Nat}{xs:List Value}{C:Nat}(h:w.ownsRow C e z v n xs)(hB:B<=C):w.ownsRow B e z v n xs:=by
 refine⟨h.1,?_⟩;rcases h.2 with h2|⟨g,cap,cur,e1,hb,h3⟩
 ·exact .inl h2
 ·exact .inr ⟨g,cap,cur,e1,lT hB hb,h3⟩
theorem SRow.vrow (h:SRow w B v l):VRow (λb=>B<=b) w B v l:=⟨h.1,λb hb=>(aM h.1 hb).2,λx hx=>h.2 x hx⟩
theorem VRow.lower (h:VRow S w B v l){C:Nat}(hB:C<=B):VRow S w C v l:=⟨dC h.1 hB,h.2⟩
end
structure FRowS (w:World) (B:Nat) (v:Value) (L:List Ro):Prop where
 own:w.ownsRow B 25 1 v L.length (L.map roV)
 rows:∀r∈L,RoOwn w B r
 sites:∀r∈L,∀g∈r.l,bQ (λb=>B<=b/\v.ownBlock≠sO b/\∀q∈L,roB q≠sO b) w g
 df:∀b,v.ownBlock=sO b->∀r∈L,roB r≠sO b
 dr:L.Pairwise λr q=>∀b,roB r=sO b->roB q≠sO b
section
variable {w w0 w':World} {B:Nat} {v v':Value} {L:List Ro}
theorem FRowS.nil (w:World)(B:Nat):FRowS w B (U nO 0 0) []:=⟨⟨rfl,.inl ⟨rfl,rfl⟩⟩,λr hr=>kE,λr hr=>kE,λb hb r hr=>kE,Q3.nil⟩
theorem FRowS.olden (h:FRowS w B v L)(hs:∀b,B<=b->b < w.heap.size->w'.heap[b]? =w.heap[b]?)(hz:w.heap.size<=w'.heap.size):FRowS w' B v L:=
 ⟨dd h.own λb hb=>hs b (aM h.own hb).2 (aM h.own hb).1,λr hr=>(h.rows r hr).same λb hb=>hs b ((h.rows r hr).lt hb).2 ((h.rows r hr).lt hb).1,λr hr g hg=>⟨(h.sites r hr g hg).1.same (λb hb hlt=>hs b hb.1 hlt) hz,(h.sites r hr g hg).2⟩,h.df,h.dr⟩
theorem FRowS.call (h:FRowS w B v L)(hb:bl w w'):FRowS w' B v L:=h.olden (λb _ hlt=>hb.block b hlt) hb.size
theorem FRowS.grown (h0:FRowS w0 B v L)(hb:bl w0 w)(hB:B<=w0.heap.size){x:Ro}(hx:VRow (λb=>w0.heap.size<=b) w w0.heap.size (roV x) x.l)(hr:w'.ownsRow B 25 1 v' (L.length+1) (L.map roV++[roV x]))(hg:w.grownBy w' v.ownBlock)(hv:v'.ownBlock=v.ownBlock\/v'.ownBlock=sO w.heap.size):FRowS w' B v' (L++[x]):=by
 have h:=h0.call hb;have hsz:=hb.size;have hxo:RoOwn w w0.heap.size x:=hx.1;have vlt:∀b,v.ownBlock=sO b->b < w0.heap.size:=λb hb=>(aM h0.own hb).1;have rlt:∀r∈L,∀b,roB r=sO b->b < w0.heap.size:=λr hr b hb=>((h0.rows r hr).lt hb).1;have xge:∀b,roB x=sO b->w0.heap.size<=b/\b < w.heap.size:=λb hb=>⟨(hxo.lt hb).2,(hxo.lt hb).1⟩;have keep:∀b,b < w.heap.size->v.ownBlock≠sO b->w'.heap[b]? =w.heap[b]? :=λb hb hne=>hg.block b hb λe=>hne e.symm;refine⟨by rw[x3,Qh];exact hr,λr hr=> ?_,λr hr g hgm=> ?_,λb hb r hr=> ?_,?_⟩
 ·rcases j7.1 hr with hr|hr
  ·exact(h.rows r hr).same λb hb=>keep b ((h.rows r hr).lt hb).1 λe=>h.df b e r hr hb
  ·rw[j2.1 hr]
   exact RoOwn.same (dC hxo hB) λb hb=>keep b (xge b hb).2 λe=>by have:=vlt b e;have:=(xge b hb).1;omega
 ·rcases j7.1 hr with hr|hr
  ·have h1:bQ (λb=>(B<=b/\v.ownBlock≠sO b/\∀q∈L,roB q≠sO b)/\b < w0.heap.size) w g:=⟨((h0.sites r hr g hgm).1.mono λb hb hlt=>(⟨hb,hlt⟩:_/\b < w0.heap.size)).call hb,(h0.sites r hr g hgm).2⟩
   refine⟨(h1.1.same (λb hb hlt=>keep b hlt hb.1.2.1) hg.size).mono λb hb _=>⟨hb.1.1,?_,λq hq=> ?_⟩,h1.2⟩
   ·rcases hv with e|e
    ·rw[e];exact hb.1.2.1
    ·rw[e];intro e';cases e';have:=hb.2;omega
   ·rcases j7.1 hq with hq|hq
    ·exact hb.1.2.2 q hq
    ·rw[j2.1 hq]
     intro e;have:=(xge b e).1;have:=hb.2;omega
  ·rw[j2.1 hr] at hgm
   have h1:bQ (λb=>(w0.heap.size<=b/\roB x≠sO b)/\b < w.heap.size) w g:=⟨(hx.2.2 g hgm).1.mono λb hb hlt=>⟨hb,hlt⟩,(hx.2.2 g hgm).2⟩;refine⟨(h1.1.same (λb hb hlt=>keep b hlt λe=>by have:=vlt b e;have:=hb.1.1;omega) hg.size).mono λb hb _=>⟨lT hB hb.1.1,?_,λq hq=> ?_⟩,h1.2⟩
   ·rcases hv with e|e
    ·rw[e];intro e';have:=vlt b e';have:=hb.1.1;omega
    ·rw[e];intro e';cases e';have:=hb.2;omega
   ·rcases j7.1 hq with hq|hq
    ·intro e
     have:=rlt q hq b e;have:=hb.1.1;omega
    ·rw[j2.1 hq]
     exact hb.1.2
 ·rcases hv with e|e
  ·rw[e] at hb
   rcases j7.1 hr with hr|hr
   ·exact h0.df b hb r hr
   ·rw[j2.1 hr]
    intro e';have:=vlt b hb;have:=(xge b e').1;omega
  ·rw[e] at hb
   cases hb;rcases j7.1 hr with hr|hr
   ·intro e'
    have:=rlt r hr _ e';omega
   ·rw[j2.1 hr]
    intro e';have:=(xge _ e').2;omega
 ·rw[List.pairwise_append]
  refine⟨h0.dr,Qn _ _,λr hr q hq b hb e=> ?_⟩;rw[j2.1 hq] at e;have:=rlt r hr b hb;have:=(xge b e).1;omega
theorem FRowS.form (h:FRowS w B v L):∃fs fc,v=U fs L.length fc:=by
 rcases h.own.2 with⟨e,h0⟩|⟨g,cap,cur,e,_⟩
 ·exact⟨nO,0,by rw[e,h0]⟩
 ·exact⟨sO ⟨g,0,nO⟩,cap,e⟩
theorem FRowS.pic {S:Nat->Prop}{C:Nat}{vs fs:oA}{vc fc:Nat}{l:List Gc}(h:FRowS w B (U fs L.length fc) L)(hv:VRow S w C (U vs l.length vc) l)(hS:∀b,S b->C<=b/\b < B)(hC:C<=B):PicG (λb=>C<=b) C w ⟨vs,vc,l⟩ fs fc L:=by
 have vlt:∀b,roB ⟨vs,vc,l⟩=sO b->b < B:=λb hb=>(hS b (hv.2.1 b hb)).2;have fge:∀b,(j0 fs L.length fc).ownBlock=sO b->B<=b:=λb hb=>(aM h.own hb).2;have rge:∀r∈L,∀b,roB r=sO b->B<=b:=λr hr b hb=>((h.rows r hr).lt hb).2;refine⟨hv.1,dC h.own hC,λr hr=>dC (h.rows r hr) hC,λg hg=>⟨(hv.2.2 g hg).1.mono λb hb _=>⟨(hS b hb.1).1,hb.2,λe=> ?_,λr hr e=> ?_⟩,(hv.2.2 g hg).2⟩,λr hr g hg=>⟨(h.sites r hr g hg).1.mono λb hb _=>⟨lT hC hb.1,λe=> ?_,hb.2.1,hb.2.2⟩,(h.sites r hr g hg).2⟩,λb hb=>⟨λe=> ?_,λr hr e=> ?_⟩,h.df,h.dr⟩
 ·have:=fge b e;have:=(hS b hb.1).2;omega
 ·have:=rge r hr b e;have:=(hS b hb.1).2;omega
 ·have:=vlt b e;have:=hb.1;omega
 ·have:=fge b e;have:=vlt b hb;omega
 ·have:=rge r hr b e;have:=vlt b hb;omega
end
theorem PicG.down {T:Nat->Prop}{B C:Nat}{w:World}{v:Ro}{fs:oA}{fc:Nat}{L:List Ro}(h:PicG T B w v fs fc L)(hC:C<=B):PicG T C w v fs fc L:=⟨dC h.vq hC,dC h.fq hC,λr hr=>dC (h.rows r hr) hC,h.sv,h.sf,h.dv,h.df,h.dr⟩
def PicS (B:Nat)(w':World)(e:Ending)(x:Pic)(er:Int):Prop:=∃v fs fc L,x=aS x.none v L/\e=Rt (Tu #[Ag #[Bb x.none,U v.rs v.l.length v.rc,U fs L.length fc],I Y er])/\PicG (λb=>B<=b) B w' v fs fc L
def DQ (w w':World)(e:Ending)(l:List Gs):Prop:=∃rs rc gl,e=Rt (U rs gl.length rc)/\Hid (gl.map Gc.g=l)/\SRow w' w.heap.size (U rs gl.length rc) gl
theorem wE (B:Nat)(w:World):PicG (λb=>B<=b) B w ⟨nO,0,[]⟩ nO 0 []:=⟨⟨rfl,.inl ⟨rfl,rfl⟩⟩,⟨rfl,.inl ⟨rfl,rfl⟩⟩,λr hr=>kE,λg hg=>by simp at hg,λr hr=>kE,λb hb=>by simp[roB,roV,Value.ownBlock] at hb,λb hb r hr=>kE,Q3.nil⟩
end
section
def Dk:Ins:=⟨0,0,0,0,0,0⟩
def bK (c:lI)(p:Int):Ins:=c.getD p.toNat Dk
section
variable {V F L:Int} {i:Ins}
theorem cd (h:bk V F L i=0):btw i.k 1 19=true/\(nTo i.k=true->0<=i.tgt/\i.tgt < V)/\(nA i.k=true->0<=i.a/\i.a < V)/\(nB i.k=true->0<=i.b/\i.b < V)/\(i.k=12\/i.k=13->0<=i.n/\i.n < F)/\(nG i.k=true->0<=i.g/\i.g<=L)/\(i.k=1-> -2147483648<=i.n/\i.n<=2147483647)/\(i.k=2->i.n=0\/i.n=1)/\(i.k=14->0<=i.n/\i.n<=1000000):=by
 unfold bk at h;split at h
 ·cases h
 rename_i h1;split at h
 ·cases h
 rename_i h2;split at h
 ·cases h
 rename_i h3;simp only[Bool.or_eq_true,j9,x9,not_or,not_and,Z9,decide_eq_true_eq,btw] at h2 h3;obtain⟨⟨⟨⟨a1,a2⟩,a3⟩,a4⟩,a5⟩:=h2;obtain⟨⟨b1,b2⟩,b3⟩:=h3;refine⟨by simpa using h1,λh=> ?_,λh=> ?_,λh=> ?_,λh=> ?_,λh=> ?_,λh=> ?_,λh=> ?_,λh=> ?_⟩
 ·have:=a1 h;omega
 ·have:=a2 h;omega
 ·have:=a3 h;omega
 ·have:=a4 h;omega
 ·have:=a5 h;omega
 ·have:=b1 h;omega
 ·have:=b2 h;omega
 ·have:=b3 h;omega
end

theorem G8 {V F L:Int}{c:lI}(h:eI V F L c=0):∀i∈c,bk V F L i=0:=by
 induction c with
 |nil=>intro i hi;cases hi
 |cons x r ih=>
  unfold eI at h;split at h
  ·rename_i hx
   intro i hi;rcases j6.1 hi with rfl|hi
   ·exact hx
   ·exact ih h i hi
  ·rename_i hx;exact absurd h hx
structure ProgOk (V F:Int) (c:lI):Prop where
 v1:1<=V
 v8:V<=8
 f0:0<=F
 f3:F<=3
 len:c.length<=60
 each:∀i∈c,bk V F c.length i=0
theorem de {V F:Int}{c:lI}(h:aw V F c=0):ProgOk V F c:=by
 unfold aw at h;split at h
 ·cases h
 rename_i h1;split at h
 ·cases h
 rename_i h2;simp[btw] at h1;exact⟨aa,aa,aa,aa,aa,G8 h⟩

theorem KN {c:lI}{p:Nat}(h:p < c.length):bK c (p:Int)=c[p]:=by
 unfold bK;simp[j4,x4 h]
theorem oQ {c:lI}{p:Int}(h0:0<=p)(h:p < c.length):bK c p∈c:=by
 obtain⟨k,rfl⟩:=Int.eq_ofNat_of_zero_le h0;rw[KN aa];exact gM _

theorem uq {α:Type}{l:List α}{i:Nat}{v x:α}(h:x∈l.set i v):x=v\/x∈l:=(Q2 h).symm
theorem rr {α β:Type}{f:α->β->Bool}{a:List α}{b:List β}:(X0 f a b).all id=true↔∀i (h1:i < a.length) (h2:i < b.length),f a[i] b[i]=true:=by
 induction a generalizing b with
 |nil=>simp
 |cons x a ih=>
  cases b with
  |nil=>simp
  |cons y b=>
   rw[List.zipWith_cons_cons,Qo,j9,ih];constructor
   ·rintro ⟨h,h'⟩ i h1 h2
    cases i with
    |zero=>exact h
    |succ i=>exact h' i fJ iJ
   ·intro h
    exact⟨h 0 ah ah,λi h1 h2=>h (i+1) fJ iJ⟩

theorem mem_siteSet {a b:List Int}{x:Int}:x∈gd a b↔(0<=x/\x < 60)/\(x∈a\/x∈b):=by
 unfold gd;simp only[List.mem_filter,x7,Qp,Bool.or_eq_true,Qq];constructor
 ·rintro ⟨⟨n,hn,rfl⟩,h⟩
  exact⟨by omega,h⟩
 ·rintro ⟨⟨h0,h1⟩,h⟩
  exact⟨⟨x.toNat,aa,aa⟩,h⟩
theorem oR (a b:List Int):(gd a b).Pairwise (· < ·):=by
 unfold gd;refine Q3.filter _ ?_;rw[Z8];exact Qr.imp (by intro a b h;omega)
theorem lX:∀{l:List Int},l.Pairwise (· < ·)->cW l=true
 |[],_=>rfl
 |[_],_=>rfl
 |a::b::r,h=>by
  unfold cW;rw[J2] at h;simp[h.1 b ah,lX h.2]
theorem ckGs_iff {c:lI}{g:Gs}:aE c g=0↔g.sp.Ok/\(∀x∈g.s,b9 c x=true)/\cW g.s=true:=by
 unfold aE;by_cases h1:cu g.sp=0
 ·rw[if_neg fJ]
  by_cases h2:g.s.all (b9 c)=false
  ·rw[if_pos h2]
   refine⟨(λh=>aX),λh=> ?_⟩;rw[X1.2 h.2.1] at h2;cases h2
  ·rw[if_neg h2]
   have h2':∀x∈g.s,b9 c x=true:=iJ;by_cases h3:cW g.s=false
   ·rw[if_pos h3]
    exact⟨λh=>aX,λh=>(by rw[h.2.2] at h3;cases h3)⟩
   ·rw[if_neg h3]
    exact⟨λ_=>⟨ckSp_ok.1 h1,h2',by simpa using h3⟩,λ_=>rfl⟩
 ·rw[if_pos h1]
  exact⟨λh=>absurd h h1,λh=>absurd (ckSp_ok.2 h.1) h1⟩
theorem dl {c:lI}{x:Int}(h:b9 c x=true):0<=x/\x < c.length:=by
 unfold b9 at h;simp only[j9,decide_eq_true_eq] at h;omega

theorem CB {s:Sp}{a:Int}:s.has a=true↔s.n=false/\s.lo<=a/\a<=s.hi:=by
 unfold Sp.has;simp only[j9,x9,decide_eq_true_eq]
theorem dK {s t:Sp}(h:s.lo<=s.hi):dX s t=true↔s.n=true\/(t.n=false/\t.lo<=s.lo/\s.hi<=t.hi):=by
 unfold dX;rw[Bool.or_eq_true,j9,CB,CB];constructor
 ·rintro (h|⟨⟨h1,h2,h3⟩,_,h4,h5⟩)
  ·exact .inl h
  ·exact .inr ⟨h1,h2,h5⟩
 ·rintro (h|⟨h1,h2,h3⟩)
  ·exact .inl h
  ·exact .inr ⟨⟨h1,aa,aa⟩,h1,aa,aa⟩
theorem Mg {s t:Sp}(hs:s.Ok)(ht:t.Ok):dX s (bi s t)=true/\dX t (bi s t)=true:=by
 obtain⟨_,_,_,h1⟩:=hs;obtain⟨_,_,_,h2⟩:=ht;rw[dK h1,dK h2];unfold bi;cases hn:s.n with
 |true=>
  simp only[if_true];cases ht':t.n with
  |true=>simp
  |false=>simp
 |false=>
  simp only[z4,if_false];cases ht':t.n with
  |true=>simp[hn]
  |false=>simp;omega
theorem LS {s t:Sp}(hs:s.Ok)(ht:t.Ok):dX s (bq s t)=true/\dX t (bq s t)=true:=by
 obtain⟨⟨s1,s2⟩,⟨s3,s4⟩,_,h1⟩:=hs;obtain⟨⟨t1,t2⟩,⟨t3,t4⟩,_,h2⟩:=ht;rw[dK h1,dK h2];unfold bq;cases hn:s.n with
 |true=>
  simp only[if_true];cases ht':t.n with
  |true=>simp
  |false=>simp
 |false=>
  simp only[z4,if_false];cases ht':t.n with
  |true=>simp[hn]
  |false=>
   simp only[z4,if_false,false_or,true_and]
   (repeat' split)<;>omega
section
variable {c:lI} {g h:Gs} {w:Bool}
theorem ol (w:Bool)(g h:Gs):(am w g h).sp=if w then bq g.sp h.sp else bi g.sp h.sp:=rfl
theorem ld (hg:aE c g=0)(hh:aE c h=0):aE c (am w g h)=0:=by
 rw[ckGs_iff] at hg hh |-;refine⟨?_,λx hx=> ?_,lX (oR _ _)⟩
 ·rw[ol]
  cases w
  ·exact LH hg.1 hh.1
  ·exact L8 hg.1 hh.1
 ·rcases (mem_siteSet.1 hx).2 with h|h
  ·exact hg.2.1 x h
  ·exact hh.2.1 x h
theorem inGs_iff {g h:Gs}:c7 g h=true↔(g.n=true->h.n=true)/\(g.t=true->h.t=true)/\(g.f=true->h.f=true)/\dX g.sp h.sp=true/\∀x∈g.s,x∈h.s:=by
 unfold c7;simp only[j9,x9,Bool.and_eq_false_imp,Bool.not_eq_false',X1,Qq]
theorem pq (h60:c.length<=60)(hg:aE c g=0)(hh:aE c h=0):c7 g (am w g h)=true/\c7 h (am w g h)=true:=by
 rw[ckGs_iff] at hg hh;have hs:dX g.sp (am w g h).sp=true/\dX h.sp (am w g h).sp=true:=by
  rw[ol];cases w
  ·exact Mg hg.1 hh.1
  ·exact LS hg.1 hh.1
 have hm:∀x,x∈g.s\/x∈h.s->x∈(am w g h).s:=λx hx=>mem_siteSet.2 ⟨by
  rcases hx with hx|hx
  ·have:=dl (hg.2.1 x hx);omega
  ·have:=dl (hh.2.1 x hx);omega,hx⟩
 rw[inGs_iff,inGs_iff];refine⟨⟨λe=> ?_,λe=> ?_,λe=> ?_,hs.1,λx hx=>hm x (.inl hx)⟩,⟨λe=> ?_,λe=> ?_,λe=> ?_,hs.2,λx hx=>hm x (.inr hx)⟩⟩<;>simp[am,e]
end

theorem lw {c:lI}{p:Gs->Bool}:∀{l:List (List Gs)} {i:Nat},dA c p i l=false↔∀k (h:k < l.length),b9 c ((i+k:Nat):Int)=true\/∀g∈l[k],p g=false
 |[],i=>by simp[dA]
 |r::l,i=>by
  unfold dA;rw[Bool.or_eq_false_iff,lw (l:=l)];constructor
  ·rintro ⟨h,h'⟩ k hk
   cases k with
   |zero=>
    rw[Bool.and_eq_false_iff] at h;rcases h with h|h
    ·exact .inl cj
    ·exact .inr cj
   |succ k=>
    have:=h' k fH;rwa [show i+1+k=i+(k+1) by omega] at this
  ·intro h
   refine⟨?_,λk hk=> ?_⟩
   ·rw[Bool.and_eq_false_iff]
    rcases h 0 ah with h|h
    ·exact .inl cj
    ·exact .inr cj
   ·have:=h (k+1) fH
    rwa [show i+(k+1)=i+1+k by omega] at this
theorem oe {c:lI}:∀{l:List Gs},bZ c l=0↔∀g∈l,aE c g=0
 |[]=>by simp[bZ]
 |g::l=>by
  unfold bZ;by_cases h:aE c g=0
  ·rw[if_pos h,oe]
   simp[h]
  ·rw[if_neg h]
   exact⟨λe=>absurd e h,λe=>e g ah⟩
structure PicOk (V F:Int) (c:lI) (x:Pic):Prop where
 none:x.none=false
 vq:(x.vq.length:Int)=V
 fq:x.fq.length=c.length
 row:∀k (h:k < x.fq.length),(x.fq[k].length:Int)=F
 gv:∀g∈x.vq,aE c g=0
 gf:∀k (h:k < x.fq.length),∀g∈x.fq[k],aE c g=0
 stray:∀k (h:k < x.fq.length),b9 c (k:Int)=true\/∀g∈x.fq[k],ap g=true
theorem kl {V F:Int}{c:lI}{x:Pic}(hn:x.none=true):aK V F c x=0↔x=nonePic:=by
 obtain⟨n,vq,fq⟩:=x;simp only at hn;subst hn;unfold aK bH nonePic;simp only[if_true,Pic.mk.injEq,true_and];constructor
 ·intro h
  split at h
  ·cases h
  ·rename_i h1
   simpa using h1
 ·rintro ⟨rfl,rfl⟩
  rfl
theorem wl {V F:Int}{c:lI}{x:Pic}(hn:x.none=false):aK V F c x=0↔PicOk V F c x:=by
 obtain⟨n,vq,fq⟩:=x;simp only at hn;subst hn;unfold aK bH bO;simp only[z4,if_false];constructor
 ·intro h
  split at h
  ·cases h
  rename_i h1;split at h
  ·rename_i h2;exact absurd h h2
  rename_i h2;split at h
  ·cases h
  rename_i h3;simp only[Z9,j9,decide_eq_true_eq,x9,Qs,decide_eq_false_iff_not,Decidable.not_not] at h1;simp only[ne_eq,Decidable.not_not] at h2;rw[oe] at h2;rw[Bool.not_eq_true,lw] at h3;refine⟨rfl,h1.1,h1.2.1,λk h=> ?_,λg hg=>h2 g (by simp[hg]),λk h g hg=>h2 g ?_,λk h=> ?_⟩
  ·have:=h1.2.2 _ (gM h)
   simpa using this
  ·rw[j7,Qt]
   exact .inr ⟨_,gM h,hg⟩
  ·rcases h3 k h with h3|h3
   ·exact .inl (by simpa using h3)
   ·exact .inr λg hg=>by simpa using h3 g hg
 ·rintro ⟨-,h1,h2,h3,h4,h5,h6⟩
  simp only at h1 h2 h3 h4 h5 h6;rw[if_neg,if_neg,if_neg]
  ·rw[Bool.not_eq_true,lw]
   intro k h;rcases h6 k h with h6|h6
   ·exact .inl (by simpa using h6)
   ·exact .inr λg hg=>by simpa using h6 g hg
  ·rw[ne_eq,Decidable.not_not,oe]
   intro g hg;rw[j7,Qt] at hg;rcases hg with hg|⟨r,hr,hg⟩
   ·exact h4 g hg
   ·obtain⟨k,hk,rfl⟩:=Q4 hr
    exact h5 k hk g hg
  ·simp only[Z9,j9,decide_eq_true_eq,x9,Qs]
   refine⟨h1,h2,λr hr=> ?_⟩;obtain⟨k,hk,rfl⟩:=Q4 hr;simpa using h3 k hk
section
variable {V F:Int} {c:lI} {x y:Pic} {w:Bool}
theorem cr (h:aK V F c x=0)(hn:x.none=false):PicOk V F c x:=(wl hn).1 h
theorem PicOk.ck (h:PicOk V F c x):aK V F c x=0:=(wl h.none).2 h
theorem BI {g:Gs}:ap g=true↔g.sp.n=true/\g.n=false/\g.t=false/\g.f=false/\g.s=[]:=by
 unfold ap aL;simp only[j9,x9,Bool.or_eq_false_iff,decide_eq_false_iff_not,J3,Nat.le_zero,J1]
theorem AX {g h:Gs}(hg:ap g=true)(hh:ap h=true):ap (am w g h)=true:=by
 rw[BI] at hg hh |-;obtain⟨a1,a2,a3,a4,a5⟩:=hg;obtain⟨b1,b2,b3,b4,b5⟩:=hh;refine⟨?_,by simp[am,a2,b2],by simp[am,a3,b3],by simp[am,a4,b4],by simp[am,gd,a5,b5]⟩;rw[ol];cases w<;>simp[bi,bq,a1,b1]
theorem lu {j:Gs->Gs->Gs}{a b:List Gs}:(aN j a b).length=min a.length b.length:=j8
theorem lB {j:Gs->Gs->Gs}{a b:List Gs}{g:Gs}(h:g∈aN j a b):∃i,∃(h1:i < a.length) (h2:i < b.length),g=j a[i] b[i]:=by
 obtain⟨i,hi,rfl⟩:=Q4 h;have hi':=hi;rw[lu] at hi';exact⟨i,aa,aa,by simp[aN]⟩
theorem PicOk.join (hx:PicOk V F c x)(hy:PicOk V F c y):PicOk V F c (aG (am w) x y):=by
 have e:aG (am w) x y=⟨false,aN (am w) x.vq y.vq,X0 (aN (am w)) x.fq y.fq⟩:=by
  unfold aG;rw[if_neg (by rw[hx.none];decide),if_neg (by rw[hy.none];decide)]
 rw[e];have l1:=hx.vq;have l2:=hy.vq;have l3:=hx.fq;have l4:=hy.fq;refine⟨rfl,?_,?_,λk h=> ?_,λg hg=> ?_,λk h g hg=> ?_,λk h=> ?_⟩
 ·simp only[lu];omega
 ·simp only[j8];omega
 ·simp only[j8] at h
  have:=hx.row k aa;have:=hy.row k aa;simp only[z3,lu];omega
 ·obtain⟨i,h1,h2,rfl⟩:=lB hg
  exact ld (hx.gv _ (gM _)) (hy.gv _ (gM _))
 ·simp only[j8] at h
  simp only[z3] at hg;obtain⟨i,h1,h2,rfl⟩:=lB hg;exact ld (hx.gf k aa _ (gM _)) (hy.gf k aa _ (gM _))
 ·simp only[j8] at h
  rcases hx.stray k aa with a|a
  ·exact .inl a
  rcases hy.stray k aa with b|b
  ·exact .inl b
  right;intro g hg;simp only[z3] at hg;obtain⟨i,h1,h2,rfl⟩:=lB hg;exact AX (a _ (gM _)) (b _ (gM _))
theorem tr (hx:aK V F c x=0)(hy:aK V F c y=0):aK V F c (aG (am w) x y)=0:=by
 cases hn:x.none with
 |true=>unfold aG;rw[if_pos hn];exact hy
 |false=>
  cases hm:y.none with
  |true=>unfold aG;rw[if_neg pJ,if_pos hm];exact hx
  |false=>exact((cr hx hn).join (cr hy hm)).ck
theorem we {a b:List Gs}:eU a b=true↔∀i (h1:i < a.length) (h2:i < b.length),c7 a[i] b[i]=true:=rr
theorem eF (hn:x.none=false)(hm:y.none=false):bG x y=true↔(∀i (h1:i < x.vq.length) (h2:i < y.vq.length),c7 x.vq[i] y.vq[i]=true)/\∀k (h1:k < x.fq.length) (h2:k < y.fq.length) i (h3:i < x.fq[k].length) (h4:i < y.fq[k].length),c7 x.fq[k][i] y.fq[k][i]=true:=by
 unfold bG;rw[hn,hm];simp only[Bool.false_or,Bool.not_false,Bool.true_and,j9];rw[we,rr];simp only[we]
theorem me {g:Gs}(h:aE c g=0):g.sp.lo<=g.sp.hi:=(ckGs_iff.1 h).1.2.2.2
theorem Im {L:List (List Gs)}{k:Nat}(h:k < L.length):L.getD k []=L[k]:=by simp[j4,x4 h]
theorem H9 {L:List (List Gs)}{k:Nat}(h:¬k < L.length):L.getD k []=[]:=by simp[j4,J4 (J3.1 h)]
theorem nd (h60:c.length<=60)(hx:aK V F c x=0)(hy:aK V F c y=0):bG x (aG (am w) x y)=true/\bG y (aG (am w) x y)=true:=by
 have self:∀{z:Pic},aK V F c z=0->bG z z=true:=by
  intro z hz;cases hn:z.none with
  |true=>simp[bG,hn]
  |false=>
   have kz:=cr hz hn;rw[eF hn hn];have sg:∀{g:Gs},aE c g=0->c7 g g=true:=λhg=>inGs_iff.2 ⟨id,id,id,by
    rw[dK (me hg)];rename_i g;cases e:g.sp.n with
    |true=>exact .inl rfl
    |false=>exact .inr ⟨rfl,aa,aa⟩,λ_ h=>h⟩
   exact⟨λi h1 _=>sg (kz.gv _ (gM _)),λk h1 _ i h3 _=>sg (kz.gf k h1 _ (gM _))⟩
 cases hn:x.none with
 |true=>
  have e:aG (am w) x y=y:=by unfold aG;rw[if_pos hn]
  rw[e];exact⟨by simp[bG,hn],self hy⟩
 |false=>
  cases hm:y.none with
  |true=>
   have e:aG (am w) x y=x:=by unfold aG;rw[if_neg (by rw[hn];decide),if_pos hm]
   rw[e];exact⟨self hx,by simp[bG,hm]⟩
  |false=>
   have kx:=cr hx hn;have ky:=cr hy hm;have e:aG (am w) x y=⟨false,aN (am w) x.vq y.vq,X0 (aN (am w)) x.fq y.fq⟩:=by
    unfold aG;rw[if_neg pJ,if_neg (by rw[hm];decide)]
   rw[e,eF hn rfl,eF hm rfl];refine⟨⟨λi h1 h2=> ?_,λk h1 h2 i h3 h4=> ?_⟩,⟨λi h1 h2=> ?_,λk h1 h2 i h3 h4=> ?_⟩⟩
   ·simp only[aN,j8] at h2
    simp only[aN,z3];exact(pq h60 (kx.gv _ (gM _)) (ky.gv _ (gM _))).1
   ·simp only[j8] at h2
    simp only[aN,z3,j8] at h4;simp only[aN,z3];exact(pq h60 (kx.gf k h1 _ (gM _)) (ky.gf k aa _ (gM _))).1
   ·simp only[aN,j8] at h2
    simp only[aN,z3];exact(pq h60 (kx.gv _ (gM _)) (ky.gv _ (gM _))).2
   ·simp only[j8] at h2
    simp only[aN,z3,j8] at h4;simp only[aN,z3];exact(pq h60 (kx.gf k aa _ (gM _)) (ky.gf k h1 _ (gM _))).2
end
structure Edg where
 tgt:Int
 pic:Pic
def gAt (x:Pic)(i:Int):Gs:=x.vq.getD i.toNat noneG
def aU (x:Pic)(i:Int)(g:Gs):Pic:={x with vq:=x.vq.set i.toNat g}
def fAt (x:Pic)(s n:Int):Gs:=(x.fq.getD s.toNat []).getD n.toNat noneG
def ow (x:Pic)(s n:Int)(g:Gs):Pic:={x with fq:=x.fq.modify s.toNat λr=>r.set n.toNat g}
def bV (s:Sp):Sp:=if s.n then⟨true,0,0⟩ else if (if s.hi=0 then -1 else s.hi) < (if s.lo=0 then 1 else s.lo) then⟨true,0,0⟩ else⟨false,if s.lo=0 then 1 else s.lo,if s.hi=0 then -1 else s.hi⟩
def bt (g:Gs):Gs:=⟨false,bV g.sp,g.t,false,g.s⟩
def bX (g:Gs):Gs:=⟨g.n,if g.sp.has 0 then⟨false,0,0⟩ else⟨true,0,0⟩,false,g.f,[]⟩
def bJ (g:Gs):Bool:=g.n||(!g.sp.n||(g.t||g.f))
def dN (x:Pic)(n:Int)(l:List Int):Gs:=l.foldl (λg s=>am false g (fAt x s n)) noneG
def c8 (x:Pic)(n:Int)(b:Gs)(l:List Int):Pic:=l.foldl (λy s=>ow y s n (am false (fAt y s n) b)) x
def aW (i:Ins)(at_:Int)(x:Pic):Gs×Bool:=
 if i.k=1 then(⟨false,⟨false,i.n,i.n⟩,false,false,[]⟩,false)
 else if i.k=2 then(⟨false,⟨true,0,0⟩,decide (i.n=1),decide (i.n=0),[]⟩,false)
 else if i.k=3 then(cV,false)
 else if i.k=11 then(⟨false,⟨true,0,0⟩,false,false,[at_]⟩,false)
 else if i.k=12 then(dN x i.n (gAt x i.a).s,bJ (gAt x i.a))
 else if i.k=14 then(⟨false,⟨false,-i.n,i.n⟩,false,false,[]⟩,false)
 else cD i.k (gAt x i.a) (gAt x i.b)
def fC (at_:Int)(x:Pic):Pic:={x with fq:=x.fq.modify at_.toNat λr=>r.map λg=>{g with n:=true}}
def aA (i:Ins)(at_:Int)(x:Pic):List Edg×Bool×Bool:=
 if x.none then([],false,false)
 else if i.k=19 then([],false,false)
 else if i.k=18 then([⟨at_+1,x⟩],false,false)
 else if i.k=16 then([⟨i.g,x⟩],false,false)
 else if i.k=15 then((if b8 (gAt x i.a) then [⟨i.g,aU x i.a (bt (gAt x i.a))⟩] else [])++(if cF (gAt x i.a) then [⟨at_+1,aU x i.a (bX (gAt x i.a))⟩] else []),false,false)
 else if i.k=17 then((if b8 (gAt x i.a) then [⟨at_+1,aU x i.a (bt (gAt x i.a))⟩] else []),false,cF (gAt x i.a))
 else if i.k=13 then(if (gAt x i.a).s.length=0 then([],bJ (gAt x i.a),false) else([⟨at_+1,c8 x i.n (gAt x i.b) (gAt x i.a).s⟩],bJ (gAt x i.a),false))
 else if ap (aW i at_ x).1 then([],(aW i at_ x).2,false)
 else([⟨at_+1,aU (if i.k=11 then fC at_ x else x) i.tgt (aW i at_ x).1⟩],(aW i at_ x).2,false)

section
variable {V F:Int} {c:lI} {x:Pic} {g b:Gs}
theorem gL (hx:PicOk V F c x)(i:Int):aE c (gAt x i)=0:=by
 unfold gAt;by_cases h:i.toNat < x.vq.length
 ·simp only[j4,x4 h,X2]
  exact hx.gv _ (gM h)
 ·simp only[j4,J4 (J3.1 h),X4]
  rfl
theorem sL (hx:PicOk V F c x)(s n:Int):aE c (fAt x s n)=0:=by
 unfold fAt;by_cases h:s.toNat < x.fq.length
 ·rw[Im h]
  by_cases h2:n.toNat < x.fq[s.toNat].length
  ·simp only[j4,x4 h2,X2]
   exact hx.gf _ h _ (gM h2)
  ·simp only[j4,J4 (J3.1 h2),X4]
   rfl
 ·rw[H9 h]
  rfl
theorem PicOk.setVar (hx:PicOk V F c x)(i:Int)(hg:aE c g=0):PicOk V F c (aU x i g):=by
 refine⟨hx.none,by simpa[Go.Proofs.YtmapdpcfanecdabGreatDoor.aU] using hx.vq,hx.fq,hx.row,λh hh=> ?_,hx.gf,hx.stray⟩;rcases uq hh with rfl|hh
 ·exact hg
 ·exact hx.gv h hh
theorem gF {L:List (List Gs)}{s k:Nat}{f:List Gs->List Gs}(h:k < (L.modify s f).length):(L.modify s f)[k]=if s=k then f (L[k]'(by simpa using h)) else L[k]'(by simpa using h):=by
 rw[List.getElem_modify]
theorem PicOk.setFld (hx:PicOk V F c x)(s n:Int)(h0:0<=s)(hs:b9 c s=true)(hg:aE c g=0):PicOk V F c (ow x s n g):=by
 refine⟨hx.none,hx.vq,by simpa[Go.Proofs.YtmapdpcfanecdabGreatDoor.ow] using hx.fq,λk h=> ?_,hx.gv,λk h q hq=> ?_,λk h=> ?_⟩
 ·have h':k < x.fq.length:=by simpa[Go.Proofs.YtmapdpcfanecdabGreatDoor.ow] using h
  show (((x.fq.modify s.toNat λr=>r.set n.toNat g)[k]'(by simpa using h')).length:Int)=F;rw[gF];split
  ·rw[z7];exact hx.row k h'
  ·exact hx.row k h'
 ·have h':k < x.fq.length:=by simpa[Go.Proofs.YtmapdpcfanecdabGreatDoor.ow] using h
  have hq':q∈(x.fq.modify s.toNat λr=>r.set n.toNat g)[k]'(by simpa using h'):=hq;rw[gF] at hq';split at hq'
  ·rcases uq hq' with rfl|hq'
   ·exact hg
   ·exact hx.gf k h' q hq'
  ·exact hx.gf k h' q hq'
 ·have h':k < x.fq.length:=by simpa[Go.Proofs.YtmapdpcfanecdabGreatDoor.ow] using h
  by_cases e:s.toNat=k
  ·left
   rw[<-e,Int.toNat_of_nonneg h0];exact hs
  ·rcases hx.stray k h' with a|a
   ·exact .inl a
   ·right
    intro q hq;have hq':q∈(x.fq.modify s.toNat λr=>r.set n.toNat g)[k]'(by simpa using h'):=hq;rw[gF,if_neg e] at hq';exact a q hq'
theorem rV (hx:PicOk V F c x)(n:Int)(l:List Int):aE c (dN x n l)=0:=by
 unfold dN;have:∀(l:List Int) (g:Gs),aE c g=0->aE c (l.foldl (λg s=>am false g (fAt x s n)) g)=0:=by
  intro l;induction l with
  |nil=>exact λg h=>h
  |cons s l ih=>exact λg h=>ih _ (ld h (sL hx s n))
 exact this l _ rfl
theorem nW (hx:PicOk V F c x)(n:Int)(hb:aE c b=0):∀(l:List Int),(∀s∈l,b9 c s=true)->PicOk V F c (c8 x n b l):=by
 intro l;unfold c8;induction l generalizing x with
 |nil=>exact λ_=>hx
 |cons s l ih=>
  intro h;have hs:=h s ah;exact ih (hx.setFld s n (dl hs).1 hs (ld (sL hx s n) hb)) λt ht=>h t (by simp[ht])
theorem fG:(⟨true,0,0⟩:Sp).Ok:=⟨by unfold bd;simp only;omega,by unfold bd;simp only;omega,λ_=>⟨rfl,rfl⟩,Int.le_refl _⟩
theorem iz {lo hi:Int}(h1: -2147483648<=lo)(h2:hi<=2147483647)(h:lo<=hi):(⟨false,lo,hi⟩:Sp).Ok:=⟨⟨h1,au⟩,⟨au,h2⟩,(λh=>aX),h⟩
theorem He {s:Sp}(h:s.Ok):(bV s).Ok:=by
 obtain⟨⟨a1,a2⟩,⟨a3,a4⟩,a5,a6⟩:=h;unfold bV;split
 ·exact fG
 generalize e1:(if s.hi=0 then(-1:Int) else s.hi)=hi;generalize e2:(if s.lo=0 then(1:Int) else s.lo)=lo;split
 ·exact fG
 ·have:hi<=2147483647:=by rw[<-e1];split<;>omega
  have: -2147483648<=lo:=by rw[<-e2];split<;>omega
  exact iz aa aa aa
theorem wF (h:aE c g=0):aE c (bt g)=0:=by
 rw[ckGs_iff] at h |-;exact⟨He h.1,h.2⟩
theorem Fu (h:aE c g=0):aE c (bX g)=0:=by
 rw[ckGs_iff] at h |-;refine⟨?_,λx hx=>by simp[bX] at hx,rfl⟩;show (if g.sp.has 0=true then _ else _:Sp).Ok;split
 ·exact iz aa aa aa
 ·exact fG
theorem eQ {n t f:Bool}{sp:Sp}(h:sp.Ok):aE c ⟨n,sp,t,f,[]⟩=0:=by
 rw[ckGs_iff];exact⟨h,λx hx=>by simp at hx,rfl⟩
theorem Mb {k:Int}{h:Gs}(hg:aE c g=0)(hh:aE c h=0):aE c (cD k g h).1=0:=by
 unfold cD;split
 ·exact hg
 split
 ·exact eQ fG
 split
 ·rfl
 split
 ·exact eQ fG
 split
 ·exact eQ fG
 ·exact eQ (Na (ckGs_iff.1 hg).1 (ckGs_iff.1 hh).1)
theorem PicOk.newPic (hx:PicOk V F c x){at_:Int}(h0:0<=at_)(hs:b9 c at_=true):PicOk V F c (fC at_ x):=by
 refine⟨hx.none,hx.vq,by simpa[Go.Proofs.YtmapdpcfanecdabGreatDoor.fC] using hx.fq,λk h=> ?_,hx.gv,λk h q hq=> ?_,λk h=> ?_⟩
 ·have h':k < x.fq.length:=by simpa[Go.Proofs.YtmapdpcfanecdabGreatDoor.fC] using h
  show (((x.fq.modify at_.toNat λr=>r.map λg=>{g with n:=true})[k]'(by simpa using h')).length:Int)=F;rw[gF];split
  ·rw[Qg];exact hx.row k h'
  ·exact hx.row k h'
 ·have h':k < x.fq.length:=by simpa[Go.Proofs.YtmapdpcfanecdabGreatDoor.fC] using h
  have hq':q∈(x.fq.modify at_.toNat λr=>r.map λg=>{g with n:=true})[k]'(by simpa using h'):=hq;rw[gF] at hq';split at hq'
  ·obtain⟨p,hp,rfl⟩:=x7.1 hq'
   have:=hx.gf k h' p hp;rw[ckGs_iff] at this |-;exact this
  ·exact hx.gf k h' q hq'
 ·have h':k < x.fq.length:=by simpa[Go.Proofs.YtmapdpcfanecdabGreatDoor.fC] using h
  by_cases e:at_.toNat=k
  ·left
   rw[<-e,Int.toNat_of_nonneg h0];exact hs
  ·rcases hx.stray k h' with a|a
   ·exact .inl a
   ·right
    intro q hq;have hq':q∈(x.fq.modify at_.toNat λr=>r.map λg=>{g with n:=true})[k]'(by simpa using h'):=hq;rw[gF,if_neg e] at hq';exact a q hq'
theorem tj {p:Int}(h0:0<=p)(h1:p < c.length)(hk:(bK c p).k=11):b9 c p=true:=by
 unfold b9;unfold bK Dk at hk;rw[hk];simp[h0,h1]
theorem sy (hp:ProgOk V F c)(hx:PicOk V F c x){p:Int}(h0:0<=p)(h1:p < c.length):aE c (aW (bK c p) p x).1=0:=by
 obtain⟨q1,q2,q3,q4,q5,q6,q7,q8,q9⟩:=cd (hp.each _ (oQ h0 h1));unfold aW;split
 ·rename_i h
  have:=q7 h;exact eQ (iz aa aa aa)
 split
 ·exact eQ fG
 split
 ·exact eQ fG
 split
 ·rename_i h
  rw[ckGs_iff];refine⟨fG,λy hy=> ?_,rfl⟩;rw[j2.1 hy];exact tj h0 h1 h
 split
 ·exact rV hx _ _
 split
 ·rename_i h
  have:=q9 h;exact eQ (iz aa aa aa)
 ·exact Mb (gL hx _) (gL hx _)
theorem ET (hp:ProgOk V F c)(hx:aK V F c x=0){p:Int}(h0:0<=p)(h1:p < c.length):∀e∈(aA (bK c p) p x).1,aK V F c e.pic=0/\e.pic.none=false/\0<=e.tgt/\e.tgt<=c.length:=by
 obtain⟨q1,q2,q3,q4,q5,q6,q7,q8,q9⟩:=cd (hp.each _ (oQ h0 h1));intro e he;unfold aA at he;split at he
 ·simp at he
 rename_i hn;have hn':x.none=false:=lO;have kx:=cr hx hn';split at he
 ·simp at he
 split at he
 ·obtain rfl:=j2.1 he
  exact⟨hx,hn',au,au⟩
 split at he
 ·rename_i h16
  have:=q6 (by simp[nG,h16]);obtain rfl:=j2.1 he;exact⟨hx,hn',au,au⟩
 split at he
 ·rename_i h15
  have:=q6 (by simp[nG,h15]);simp only[j7] at he;rcases he with he|he
  ·split at he
   ·obtain rfl:=j2.1 he
    exact⟨(kx.setVar _ (wF (gL kx _))).ck,hn',au,au⟩
   ·simp at he
  ·split at he
   ·obtain rfl:=j2.1 he
    exact⟨(kx.setVar _ (Fu (gL kx _))).ck,hn',au,au⟩
   ·simp at he
 split at he
 ·simp only at he
  split at he
  ·obtain rfl:=j2.1 he
   exact⟨(kx.setVar _ (wF (gL kx _))).ck,hn',au,au⟩
  ·simp at he
 split at he
 ·split at he
  ·simp at he
  ·obtain rfl:=j2.1 he
   have:=nW kx (bK c p).n (gL kx (bK c p).b) (gAt x (bK c p).a).s ((ckGs_iff.1 (gL kx _)).2.1);exact⟨this.ck,this.none,au,au⟩
 split at he
 ·simp at he
 ·obtain rfl:=j2.1 he
  have:PicOk V F c (if (bK c p).k=11 then fC p x else x):=by
   split
   ·rename_i h11;exact kx.newPic h0 (tj h0 h1 h11)
   ·exact kx
  have:=this.setVar (bK c p).tgt (sy hp kx h0 h1);exact⟨this.ck,this.none,au,au⟩
end
end
section
open Go.RowKit
def Cells (w:World)(b:Nat)(cs:List Value):Prop:=(∀(j:Nat) (v:Value),cs[j]? =sO v->w.cell? ⟨b,j,nO⟩=sO v)/\b < w.heap.size/\∀j,w.frozen? ⟨b,j,nO⟩=false
section
variable {w w':World} {b:Nat} {cs:List Value}
theorem Cells.same (h:Cells w b cs)(hb:w'.heap[b]? =w.heap[b]?)(hz:w.heap.size<=w'.heap.size):Cells w' b cs:=⟨λj v hj=>by rw[x5 (a:=⟨b,j,nO⟩) hb];exact h.1 j v hj,lL h.2.1 hz,λj=>by rw[Qe (a:=⟨b,j,nO⟩) hb];exact h.2.2 j⟩
theorem Cells.call (h:Cells w b cs)(hb:bl w w'):Cells w' b cs:=h.same (hb.block b h.2.1) hb.size
theorem Cells.far (h:Cells w b cs){a:Addr}(ha:b≠a.block)(u:Value):Cells (w.setCell a u) b cs:=h.same (hSe _ _ _ _ ha) bx
theorem Cells.put (h:Cells w b cs)(j:Nat)(hj:j < cs.length)(u:Value):Cells (w.setCell ⟨b,j,nO⟩ u) b (cs.set j u):=by
 refine⟨λk v hk=> ?_,by simpa[Q0] using h.2.1,λk=>by rw[World.frozen?_setCell];exact h.2.2 k⟩;by_cases e:k=j
 ·subst e
  rw[List.getElem?_set_self hj] at hk;cases hk;exact Z3 _ _ _ (h.1 k cs[k] (x4 hj))
 ·rw[List.getElem?_set_ne (Ne.symm e)] at hk
  rw[World.cell?_setCell_other _ _ _ _ (by intro e';cases e';exact e rfl)];exact h.1 k v hk
theorem Cells.new (w:World)(t:TypeId)(cs:List Value):Cells (w.alloc (Cc cs.toArray t)) w.heap.size cs:=by
 refine⟨λj v hj=> ?_,ah,λj=> ?_⟩
 ·have:(w.alloc (Cc cs.toArray t)).cell? ⟨w.heap.size,j,nO⟩=cs.toArray[j]? :=World.cell?_alloc_mark w cs.toArray t (0,0) j
  rw[this];simpa using hj
 ·have:=World.frozen?_alloc_mark w cs.toArray t 0 0 j
  rw[this];simp
end
def aT (i:Ins)(V F:Int)(s:oA)(c:lI)(cap:Nat)(at_:Int)(x:Pic)(vs:oA)(vc:Nat)(fs:oA)(fc:Nat)(ev:Value)(wr fl:Bool):List Value:=
 [I Y i.k,I Y i.tgt,I Y i.a,I Y i.b,I Y i.n,I Y i.g,I Y V,I Y F,U s c.length cap,I Y at_,Bb x.none,U vs x.vq.length vc,U fs x.fq.length fc,ev,Bb wr,Bb fl]
structure Ed where
 tgt:Int
 pic:Pic
 vs:oA
 vc:Nat
 fs:oA
 fc:Nat
def cQ (e:Ed):List Value:=[I Y e.tgt,Bb e.pic.none,U e.vs e.pic.vq.length e.vc,U e.fs e.pic.fq.length e.fc]
def edG (e:Ed):Edg:=⟨e.tgt,e.pic⟩
def sk (S:Nat->Prop)(w:World)(e:Ed):Prop:=PicOn S w e.pic e.vs e.fs/\(e.pic.vq.length<=e.vc/\e.vc<=maxLen)/\(e.pic.fq.length<=e.fc/\e.fc<=maxLen)
theorem lm (e:Ed):∀u∈cQ e,u.oneCell'=true:=by
 intro u hu;simp only[cQ,j6,Qc,or_false] at hu;rcases hu with rfl|rfl|rfl|rfl<;>rfl
theorem rh:∀(l:List Ed) (i:Nat) (h:i < l.length) (j:Nat) (_:j < 4),(l.flatMap cQ)[i * 4+j]? =(cQ l[i])[j]?
 |[],i,h,_,_=>absurd h ah
 |x::r,0,_,j,hj=>by
  rw[Q9,J7,j5,Z0 (by simpa[cQ] using hj)];rfl
 |x::r,i+1,h,j,hj=>by
  have e4:(cQ x).length=4:=rfl;rw[Q9,Qd (by rw[e4];omega),e4];have:(i+1) * 4+j - 4=i * 4+j:=aa;rw[this,rh r i cj j hj];rfl
structure ERow (n sb:Nat) (w:World) (v:Value) (L:List Ed):Prop where
 own:w.ownsRow n 45 4 v L.length (L.flatMap cQ)
 off:v.ownBlock≠sO sb
 pics:∀e∈L,sk (λb=>n<=b/\b≠sb/\v.ownBlock≠sO b) w e
section
variable {n sb:Nat} {w w':World} {v v':Value} {L:List Ed}
theorem ERow.nil (n sb:Nat)(w:World):ERow n sb w (U nO 0 0) []:=⟨⟨rfl,.inl ⟨rfl,rfl⟩⟩,(λh=>aX),λe he=>by simp at he⟩
theorem ERow.same (h:ERow n sb w v L)(hs:∀b,n<=b->b≠sb->b < w.heap.size->w'.heap[b]? =w.heap[b]?)(hz:w.heap.size<=w'.heap.size):ERow n sb w' v L:=
 ⟨dd h.own λb hb=>hs b (aM h.own hb).2 (λe=>h.off (by rw[hb,e])) (aM h.own hb).1,h.off,λe he=>⟨((h.pics e he).1.same (λb hb hlt=>hs b hb.1 hb.2.1 hlt) hz).mono λb hb _=>hb.1,(h.pics e he).2⟩⟩
theorem ERow.call (h:ERow n sb w v L)(hb:bl w w'):ERow n sb w' v L:=h.same (λb _ _ hlt=>hb.block b hlt) hb.size
theorem ERow.grown (h:ERow n sb w v L){e:Ed}(he:sk (λb=>n<=b/\b≠sb/\v.ownBlock≠sO b) w e)(hr:w'.ownsRow n 45 4 v' (L.length+1) (L.flatMap cQ++cQ e))(hg:w.grownBy w' v.ownBlock)(hv:v'.ownBlock=v.ownBlock\/v'.ownBlock=sO w.heap.size)(hsb:sb < w.heap.size):ERow n sb w' v' (L++[e]):=by
 refine⟨by rw[x3,List.flatMap_append];simpa using hr,λe'=> ?_,λq hq=> ?_⟩
 ·rcases hv with hv|hv
  ·rw[hv] at e';exact h.off e'
  ·rw[hv] at e';cases e';exact absurd hsb (Z2 _)
 ·have hq':sk (λb=>n<=b/\b≠sb/\v.ownBlock≠sO b) w q:=by
   rcases j7.1 hq with hq|hq
   ·exact h.pics q hq
   ·rw[j2.1 hq];exact he
  refine⟨(hq'.1.same (λb hb hlt=>hg.block b hlt λe=>hb.2.2 e.symm) hg.size).mono λb hb _=>⟨hb.1.1,hb.1.2.1,?_⟩,hq'.2⟩;rcases hv with hv|hv
  ·rw[hv];exact hb.1.2.2
  ·rw[hv];intro e;cases e;exact absurd hb.2 (Z2 _)
theorem ERow.form (h:ERow n sb w v L):∃es ec,v=U es L.length ec/\L.length<=ec/\ec<=maxLen:=by
 rcases h.own.2 with⟨e,h0⟩|⟨g,cap,cur,e,_,_,k1,k2,_⟩
 ·exact⟨nO,0,by rw[e,h0],aa,z9 _⟩
 ·exact⟨sO ⟨g,0,nO⟩,cap,e,k1,k2⟩
end
def ClT (n sb:Nat)(eb:Option Nat)(xb b:Nat):Prop:=n<=b/\b≠sb/\b≠xb/\eb≠sO b
def ll (n sb:Nat)(eb:Option Nat)(H:Nat)(w:World)(xb:Nat)(v:Ro)(gs:oA)(gc:Nat)(L:List Ro)(x:Pic):Prop:=
 H<=xb/\Cells w xb [Bb false,U v.rs v.l.length v.rc,U gs L.length gc]/\PicG (ClT n sb eb xb) H w v gs gc L/\Off v (j0 gs L.length gc).ownBlock L xb/\aS false v L=x
section
variable {w w':World} {B m:Nat} {vv tv lv:Value} {fv:List Value}

theorem AB {e:TypeId}{z:Nat}{v:Value}{n:Nat}{xs:List Value}{B':Nat}(h:w.ownsRow B e z v n xs)(hB:B'<=B):w.ownsRow B' e z v n xs:=by
 obtain⟨h1,h2⟩:=h;refine⟨h1,?_⟩;rcases h2 with h2|⟨g,cap,cur,hv,hb,r⟩
 ·exact .inl h2
 ·exact .inr ⟨g,cap,cur,hv,lT hB hb,r⟩
end
def bw (w:World)(b:Nat):Nat->List Value->World
 |_,[]=>w
 |i,y::ys=>bw (w.setCell ⟨b,i,nO⟩ y) b (i+1) ys
theorem yZ (b k:Nat)(hk:k≠b):∀(ys:List Value) (i:Nat) (w:World),(bw w b i ys).heap[k]? =w.heap[k]?
 |[],_,_=>rfl
 |y::ys,i,w=>by
  show (bw (w.setCell ⟨b,i,nO⟩ y) b (i+1) ys).heap[k]? =_;rw[yZ b k hk ys (i+1) _,hSe _ _ _ _ hk]
theorem wu (b:Nat):∀(ys:List Value) (i:Nat) (w:World),(bw w b i ys).heap.size=w.heap.size
 |[],_,_=>rfl
 |y::ys,i,w=>by
  show (bw (w.setCell ⟨b,i,nO⟩ y) b (i+1) ys).heap.size=_;rw[wu b ys (i+1) _];simp[Q0]
theorem tF {B:Nat}{a:World}(b:Nat)(hB:B<=b):∀(ys:List Value) (i:Nat) (w:World),Below B a w->Below B a (bw w b i ys)
 |[],_,_,h=>h
 |y::ys,i,w,h=>tF b hB ys (i+1) _ (h.setCell (p:=⟨b,i,nO⟩) hB y)
def iO:List Value->Nat->List Value->List Value
 |cs,_,[]=>cs
 |cs,o,y::ys=>iO (cs.set o y) (o+1) ys
structure Put (b:Nat) (w w':World) (cs:List Value):Prop where
 cells:Cells w' b cs
 far:∀q,q≠b->w'.heap[q]? =w.heap[q]?
 size:w.heap.size<=w'.heap.size
 low:∀{B:Nat} {a:World},B<=b->Below B a w->Below B a w'
section
variable {b:Nat} {w w':World} {cs:List Value}
theorem sN:∀(ys:List Value) (o:Nat) (w:World) (cs:List Value),Cells w b cs->o+ys.length<=cs.length->Cells (bw w b o ys) b (iO cs o ys)
 |[],_,_,_,h,_=>h
 |y::ys,o,w,cs,h,hl=>sN ys (o+1) _ _ (h.put o (by simp at hl;omega) y) (by simp at hl |-;omega)
theorem bM (h:Cells w b cs)(o:Nat)(ys:List Value)(e:w'=bw w b o ys)(hl:o+ys.length<=cs.length:=by simp):Put b w w' (iO cs o ys):=by
 subst e;exact⟨sN ys o w cs h hl,λq hq=>yZ b q hq ys o w,by rw[wu];exact Nat.le_refl _,λhB hb=>tF b hB ys o w hb⟩
theorem Put.refl (h:Cells w b cs):Put b w w cs:=⟨h,λ_ _=>rfl,lR _,λ_ hb=>hb⟩
theorem Put.trans {w2:World}{ds:List Value}(p:Put b w w' cs)(q:Put b w' w2 ds):Put b w w2 ds:=⟨q.cells,λk hk=>(q.far k hk).trans (p.far k hk),lT p.size q.size,λhB hb=>q.low hB (p.low hB hb)⟩
theorem Put.keep (p:Put b w w' cs){q:Nat}{ds:List Value}(h:Cells w q ds)(hq:q≠b:=by omega):Cells w' q ds:=h.same (p.far q hq) p.size
theorem Put.ints (p:Put b w w' cs){S:Nat->Prop}{ss:oA}{l:List Int}(h:IntsIn S w ss l)(hS:∀q,S q->q≠b):IntsIn S w' ss l:=h.same (λq hq _=>p.far q (hS q hq)) p.size
end
theorem iD (l:List Int)(p:Int->Bool)(k:Nat)(h:k < l.length):(l.drop k).any p=(p l[k]||(l.drop (k+1)).any p):=by
 rw[z6 h];rfl

theorem wB (l:List Int)(x:Int)(k:Nat)(h:k < l.length):x∈l.drop k↔(x=l[k]\/x∈l.drop (k+1)):=by
 rw[z6 h,j6]

theorem FJ (x:Int)(ss:oA)(cap:Nat)(l:List Int)(w:World)(hl:l.length<=9223372036854775807)(hs:IntsAt w ss l):
  Calls pG 196 #[U ss l.length cap,I Y x] w λe w'=>∃n:Int,e=Rt (I Y n)/\(0<=n↔x∈l)/\w'=w:=by
 go_enter Tryz.func196,Tryz.ntmps196;go_wp2
 go_loop [8] (λi=>∃k:Nat,k<=l.length/\i=I Y k/\Hid (x∈l↔x∈l.drop k)) (λi=>l.length - (intOf i).toNat)
 case atStart=>exact⟨0,z9 _,rfl,Iff.rfl⟩
 case round=>
  obtain⟨k,hk,rfl,HA⟩:=hrel;by_cases hlt:k < l.length
  ·obtain⟨b,off,rfl,hb,hc⟩:=hs.get k hlt
   have n0:(0:Int)<=(k:Int):=aa;have n1:(k:Int) < (l.length:Int):=aa;have c0:=hc k hlt;have HN:Hid (x∈l.drop k↔(x=l[k]\/x∈l.drop (k+1))):=wB l x k hlt;clear hc hs;by_cases hp:l[k]=x
   ·have HT:Hid (x∈l):=HA.out.2 (HN.out.2 (.inl hp.symm))
    clear HN HA;have hp':(x==l[k])=true:=by simp[hp]
    go_wp2;go_ret;exact⟨_,rfl,⟨λ_=>HT.out,λ_=>aa⟩,rfl⟩
   ·have HT:Hid (x∈l↔x∈l.drop (k+1)):=HA.out.trans (HN.out.trans ⟨λh=>h.resolve_left λe=>hp e.symm,.inr⟩)
    have hp':(x==l[k])=false:=by simp;exact λh=>hp h.symm
    clear HN HA;go_wp2
    go_round
    case rel=>exact⟨k+1,aa,aJ,HT⟩
    case measure=>simp[intOf];omega
  ·go_wp2
   go_ret;exact⟨_,rfl,⟨λh=>absurd h aa,λh=>by have:=HA.out.1 h;rw[X5 (by omega)] at this;cases this⟩,rfl⟩

theorem ye (x:Int)(ss:oA)(cap:Nat)(l:List Int)(w:World)(hl:l.length<=9223372036854775807)(hs:IntsAt w ss l):
  Calls pG 144 #[U ss l.length cap,I Y x] w λe w'=>e=Rt (Bb (l.contains x))/\w'=w:=by
 go_enter Tryz.func144,Tryz.ntmps144;go_wp2_with fail;refine(FJ x ss cap l _ hl hs).mono ?_;rintro e w1 ⟨n,rfl,hn,rfl⟩;go_wp2;go_ret;exact⟨bj ah,rfl⟩
theorem vu (q:Nat)(p:Int->Bool)(ss:oA)(cap:Nat)(l:List Int)(w:World)(hl:l.length<=9223372036854775807)(hs:IntsAt w ss l)
  (hF:∀x wx,bl w wx->Calls pG 224 #[I Y x,Pp (sO ⟨q,0,nO⟩)] wx λe w'=>e=Rt (Bb (p x))/\bl wx w'):
  Calls pG 227 #[U ss l.length cap,.func (.func 224) #[] #[Pp (sO ⟨q,0,nO⟩)]] w λe w'=>∃n:Int,e=Rt (I Y n)/\decide (0<=n)=l.any p/\bl w w':=by
 have HF:=ae hF;clear hF;go_enter Tryz.func227,Tryz.ntmps227;go_wp2;go_loopw [8] (λi wr=>∃k:Nat,k<=l.length/\i=I Y k/\bl w wr/\Hid (l.any p=(l.drop k).any p)) (λi _=>l.length - (intOf i).toNat)
 case atStart=>exact⟨0,z9 _,rfl,bR _ _,rfl⟩
 case round=>
  obtain⟨k,hk,rfl,hbr,HA⟩:=hrel;by_cases hlt:k < l.length
  ·obtain⟨b,off,rfl,hb,hc⟩:=hs.get k hlt
   have n0:(0:Int)<=(k:Int):=aa;have n1:(k:Int) < (l.length:Int):=aa;have s0:=hbr.size;have c0:wr.cell? ⟨b,off+k,nO⟩=sO (I Y l[k]):=uO;have HN:Hid ((l.drop k).any p=(p l[k]||(l.drop (k+1)).any p)):=iD l p k hlt;clear hc hs;go_wp2_with fail;refine(HF.out _ _ hbr).mono ?_;rintro e w1 ⟨rfl,hb1⟩;cases hp:p l[k] with
   |true=>
    have HT:Hid (l.any p=true):=fI;clear HN HA;go_wp2;go_ret;exact⟨_,rfl,iH,hbr.trans (hb1.mono s0)⟩
   |false=>
    have HT:Hid (l.any p=(l.drop (k+1)).any p):=fI;clear HN HA;go_wp2;go_roundw
    case rel=>exact⟨k+1,aa,aJ,hbr.trans (hb1.mono s0),HT⟩
    case measure=>simp[intOf];omega
  ·go_wp2
   go_ret;exact⟨_,rfl,ia,hbr⟩

theorem p6 (q:Nat)(p:Int->Bool)(ss:oA)(cap:Nat)(l:List Int)(w:World)(hl:l.length<=9223372036854775807)(hs:IntsAt w ss l)
  (hF:∀x wx,bl w wx->Calls pG 224 #[I Y x,Pp (sO ⟨q,0,nO⟩)] wx λe w'=>e=Rt (Bb (p x))/\bl wx w'):
  Calls pG 200 #[U ss l.length cap,.func (.func 224) #[] #[Pp (sO ⟨q,0,nO⟩)]] w λe w'=>e=Rt (Bb (l.any p))/\bl w w':=by
 have HF:=ae hF;clear hF;go_enter Tryz.func200,Tryz.ntmps200;go_wp2_with fail;refine(vu q p ss cap l _ hl hs HF.out).mono ?_;rintro e w1 ⟨n,rfl,hn,hb1⟩;go_wp2;go_ret;exact⟨rfl,hb1⟩
theorem sq {p:Prop}(h:p:=by
 have n0:(0:Int)<=(k:Int):=aa;go_enter Tryz.func224,Tryz.ntmps224;go_wp2;go_ret;exact⟨bj (by rw[HR.out];simp[h11,hk]),Below.refl _ _⟩):p:=h
theorem AG (x:Int)(q:Nat)(V F:Int)(s:oA)(c:lI)(cap:Nat)(w:World)(hp:PrAt w q V F s c cap)(hc:CodeAt w s c)(hl:c.length<=60):
  Calls pG 224 #[I Y x,Pp (sO ⟨q,0,nO⟩)] w λe w'=>e=Rt (Bb (!b9 c x))/\bl w w':=by
 obtain⟨⟨p0,p1,p2⟩,p3⟩:=hp;have hl':(c.length:Int)<=60:=aa;by_cases h0:x < 0
 ·have HR:Hid (b9 c x=false):=by show _=_;unfold b9;rw[decide_eq_false aa];rfl
  go_enter Tryz.func224,Tryz.ntmps224;go_wp2;go_ret;exact⟨bj fi,bR _ _⟩
 by_cases h1:x < (c.length:Int)
 ·obtain⟨k,rfl⟩:=Int.eq_ofNat_of_zero_le (show 0<=x by omega)
  have hk:k < c.length:=aa;obtain⟨b,off,rfl,hb,hi⟩:=hc.get k hk;obtain⟨i0,-,-,-,-,-⟩:=hi k hk;have HR:Hid (b9 c k=decide (c[k].k=11)):=by
   show _=_;unfold b9;rw[decide_eq_true (show (0:Int)<=(k:Int) by omega),decide_eq_true h1,Int.toNat_natCast,show c.getD k ⟨0,0,0,0,0,0⟩=c[k] by simp[j4,x4 hk]];simp
  clear hi hc;by_cases h11:c[k].k=11
  ·have e11:(c[k].k !=11)=false:=by simp[h11]
   exact sq
  ·have e11:(c[k].k !=11)=true:=by simpa using h11
   exact sq
 ·have HR:Hid (b9 c x=false):=by show _=_;unfold b9;rw[decide_eq_false h1];simp
  go_enter Tryz.func224,Tryz.ntmps224;go_wp2;go_ret;exact⟨bj fi,bR _ _⟩

theorem rI (l:List Int)(p:Int->Bool):(l.any λx=> !p x)= !l.all p:=by
 induction l with
 |nil=>rfl
 |cons a r ih=>simp only[List.any_cons,Qo,ih,Bool.not_and]

theorem sJ (l:List Int):cW l=true↔∀k (h:k+1 < l.length),l[k] < l[k+1]:=by
 induction l with
 |nil=>simp[cW]
 |cons a r ih=>
  cases r with
  |nil=>simp[cW]
  |cons b t=>
   simp only[cW,j9,decide_eq_true_eq,ih];constructor
   ·rintro ⟨h1,h2⟩ k hk
    cases k with
    |zero=>exact h1
    |succ k=>exact h2 k fH
   ·intro h
    exact⟨h 0 ah,λk hk=>h (k+1) fH⟩

abbrev pgW (w:World)(V F:Int)(s:oA)(c:lI)(cap:Nat)(g:Gs)(ss:oA)(gc:Nat):World:=
 (w.alloc (Cc #[I Y V,I Y F,U s c.length cap] 24)).alloc (Cc #[Bb g.n,Bb g.sp.n,I Y g.sp.lo,I Y g.sp.hi,Bb g.t,Bb g.f,U ss g.s.length gc] 91)

theorem vA (V F:Int)(s:oA)(c:lI)(cap:Nat)(g:Gs)(ss:oA)(gc:Nat)(w:World)(hc:CodeAt w s c)(hl:c.length<=60)(hs:IntsAt w ss g.s)(hgl:g.s.length<=9223372036854775807):
  Calls pG 194 #[pv V F s c cap,gv g ss gc] w λe w'=>e=Rt (I Y (aE c g))/\bl w w':=by
 have P0:PrAt (pgW w V F s c cap g ss gc) w.heap.size V F s c cap:=(PrAt.new w V F s c cap).alloc _;have G0:GuAt (pgW w V F s c cap g ss gc) (w.heap.size+1) 0 g ss gc:=by
  have:=GuAt.new (w.alloc (Cc #[I Y V,I Y F,U s c.length cap] 24)) g ss gc;simpa using this
 have C0:CodeAt (pgW w V F s c cap g ss gc) s c:=(hc.alloc _).alloc _;have I0:IntsAt (pgW w V F s c cap g ss gc) ss g.s:=(hs.alloc _).alloc _;have B0:Below w.heap.size w (pgW w V F s c cap g ss gc):=ai;have HR:Hid (aE c g=if cu g.sp≠0 then cu g.sp else if g.s.all (b9 c)=false then 5 else if cW g.s=false then 4 else 0):=rfl;go_enter Tryz.func194,Tryz.ntmps194;go_wp2_with fail;refine(ie g.sp _).mono ?_;rintro e w1 ⟨rfl,hb1⟩;have P1:=P0.call hb1;have G1:=G0.call hb1;have C1:=C0.call hb1;have I1:=I0.call hb1;have B1:bl w w1:=B0.trans (hb1.mono an);clear hb1 P0 G0 C0 I0 B0 hc hs;by_cases hsp:cu g.sp=0
 ·obtain⟨⟨g0,g1,g2,g3,g4,g5,g6⟩,gz⟩:=id G1
  rw[hsp];go_wp2_with fail;refine(p6 w.heap.size (λx=> !b9 c x) ss gc g.s _ hgl I1 λx wx hbx=>AG x w.heap.size V F s c cap wx (P1.call hbx) (C1.call hbx) hl).mono ?_;rintro e w2 ⟨rfl,hb2⟩;rw[rI];have G2:=G1.call hb2;have I2:=I1.call hb2;have B2:bl w w2:=B1.trans (hb2.mono B1.size);clear hb2 P1 G1 C1 I1 B1 g0 g1 g2 g3 g4 g5 g6 gz;obtain⟨⟨g0,g1,g2,g3,g4,g5,g6⟩,gz⟩:=id G2;cases hA:g.s.all (b9 c) with
  |false=>
   have HF:Hid (aE c g=5):=by show _=_;rw[HR.out,if_neg (by simpa using hsp),if_pos hA]
   clear HR;go_wp2;go_ret;exact⟨bP HF.out.symm,B2⟩
  |true=>
   have HF:Hid (aE c g=if cW g.s=false then 4 else 0):=by show _=_;rw[HR.out,if_neg (by simpa using hsp),if_neg (by simp[hA])]
   have HQ:=ae (sJ g.s);clear HR;go_wp2;go_loopw [7] (λi wr=>∃k:Nat,1<=k/\i=I Y k/\k<=g.s.length+1/\wr.cell? ⟨w.heap.size+1,6,nO⟩=sO (U ss g.s.length gc)/\IntsAt wr ss g.s/\bl w wr/\Hid (∀j (h:j+1 < g.s.length),j+1 < k->g.s[j] < g.s[j+1])) (λi _=>g.s.length+1 - (intOf i).toNat)
   case atStart=>exact⟨1,lR _,rfl,aa,g6,I2,B2,λj h h'=>aa⟩
   case round=>
    obtain⟨k,hk1,rfl,hk2,r6,IR,BR,HK⟩:=hrel;by_cases hlt:k < g.s.length
    ·obtain⟨b,off,rfl,hb,hcell⟩:=IR.get k hlt
     have c0:=hcell (k - 1) aa;have c1:=hcell k hlt;have t1:((k:Int) - 1).toNat=k - 1:=aa;have n0:(0:Int)<=(k:Int) - 1:=aa;have n1:(k:Int) - 1 < (g.s.length:Int):=aa;have n2:(0:Int)<=(k:Int):=aa;have n3:(k:Int) < (g.s.length:Int):=aa;clear hcell;by_cases hr:g.s[k - 1] < g.s[k]
     ·go_wp2
      go_quiet (fail)
      go_wp2;go_roundw
      case rel=>
       refine⟨k+1,aa,aJ,aa,?_,IR.drewN _,below_drewN BR _,λj h h'=> ?_⟩
       ·rw[<-r6];exact(below_drewN (bR (wr.heap.size+(w.heap.size+2)) wr) _).cell an
       ·by_cases e:j+1=k
        ·subst e;exact hr
        ·exact HK.out j h aa
      case measure=>simp[intOf];omega
     ·have HG:Hid (cW g.s=false):=by
       show _=_;rw[Bool.eq_false_iff];intro hx;have:=HQ.out.1 hx (k - 1) aa;have e:k - 1+1=k:=aa;simp only[e] at this;exact hr this
      clear HQ;go_wp2
      go_quiet (fail)
      go_wp2;go_ret;exact⟨bP (by rw[HF.out,if_pos HG.out]),below_drewN BR _⟩
    ·go_wp2
     go_ret;refine⟨bP ?_,BR⟩;rw[HF.out,if_neg];have:cW g.s=true:=HQ.out.2 λj h=>HK.out j h aa;simp[this]
 ·have HF:Hid (aE c g=cu g.sp):=by show _=_;rw[HR.out,if_pos hsp]
  have hne:(cu g.sp !=0)=true:=by simpa using hsp
  clear HR;go_wp2;go_ret;exact⟨bP HF.out.symm,B1⟩
theorem fj {p:Prop}(h:p:=by
 go_enter Tryz.func209,Tryz.ntmps209;go_wp2_with (go_at_call 57;refine(dB _ _ _ _).mono ?_;rintro e w' ⟨rfl,rfl⟩);go_ret;exact⟨rfl,ai⟩):p:=h
theorem nK (s:Sp)(w:World):
  Calls pG 209 #[sv s] w λe w'=>e=Rt (I Y (cu s))/\bl w w':=by
 obtain⟨n,lo,hi⟩:=s;have e0:cu ⟨n,lo,hi⟩=if¬(bd lo/\bd hi) then 3 else if n=true/\¬(lo=0/\hi=0) then 1 else if hi < lo then 4 else 0:=rfl
 rw[e0];clear e0;by_cases h:bd lo
 ·have b1:btw lo (-2147483648) 2147483647=true:=decide_eq_true h
  by_cases h':bd hi
  ·have b2:btw hi (-2147483648) 2147483647=true:=decide_eq_true h'
   rw[if_neg (by simp[h,h'])];clear h h';cases n with
   |true=>
    by_cases hz:lo=0
    ·subst hz
     by_cases hz':hi=0
     ·subst hz'
      rw[if_neg ah,if_neg ah];exact fj
     ·have q:(hi==0)=false:=by simpa using hz'
      rw[if_pos (by simp[hz'])];exact fj
    ·have q:(lo==0)=false:=by simpa using hz
     rw[if_pos (by simp[hz])];exact fj
   |false=>
    rw[if_neg ah];by_cases hz:hi < lo
    ·rw[if_pos hz]
     exact fj
    ·rw[if_neg hz]
     exact fj
  ·have b2:btw hi (-2147483648) 2147483647=false:=decide_eq_false h'
   rw[if_pos (by simp[h'])];clear h h';exact fj
 ·have b1:btw lo (-2147483648) 2147483647=false:=decide_eq_false h
  rw[if_pos (by simp[h])];clear h;exact fj

theorem ul (s:Sp)(x:Int)(w:World):
  Calls pG 113 #[sv s,I Y x] w λe w'=>e=Rt (Bb (s.has x))/\bl w w':=by
 obtain⟨n,lo,hi⟩:=s;have e0:btw x lo hi=(decide (lo<=x)&&decide (x<=hi)):=by unfold btw;exact Bool.decide_and _ _
 have e1:Sp.has ⟨n,lo,hi⟩ x=(!n&&btw x lo hi):=by rw[e0];rfl
 rw[e1];cases n with
 |true=>
  go_enter Tryz.func113,Tryz.ntmps113;go_wp2;go_ret;exact⟨rfl,ai⟩
 |false=>
  clear e0 e1;generalize hB:btw x lo hi=B;go_enter Tryz.func113,Tryz.ntmps113;go_wp2_with (go_at_call 57;refine(dB _ _ _ _).mono ?_;rintro e w' ⟨rfl,rfl⟩);go_ret;exact⟨bj (by simp[hB]),ai⟩

theorem Ap (g c:Nat)(x y:Int)(w:World)(h0:w.cell? ⟨g,0,nO⟩=sO (I Y x))(h1:w.cell? ⟨g,1,nO⟩=sO (I Y y)):
  Calls pG 207 #[U (sO ⟨g,0,nO⟩) 2 c] w λe w'=>e=Rt (I Y (min x y))/\w'=w:=by
 go_enter Tryz.func207,Tryz.ntmps207;go_wp2
 go_rounds 2
 all_goals go_ret
 all_goals exact⟨bP aa,rfl⟩

theorem Gp (g c:Nat)(x y z u:Int)(w:World)(h0:w.cell? ⟨g,0,nO⟩=sO (I Y x))(h1:w.cell? ⟨g,1,nO⟩=sO (I Y y))(h2:w.cell? ⟨g,2,nO⟩=sO (I Y z))(h3:w.cell? ⟨g,3,nO⟩=sO (I Y u)):
  Calls pG 207 #[U (sO ⟨g,0,nO⟩) 4 c] w λe w'=>e=Rt (I Y (dw x y z u))/\w'=w:=by
 go_enter Tryz.func207,Tryz.ntmps207;go_wp2
 go_rounds 4
 all_goals go_ret
 all_goals exact⟨bP (by unfold dw;omega),rfl⟩

theorem DO (g c:Nat)(x y:Int)(w:World)(h0:w.cell? ⟨g,0,nO⟩=sO (I Y x))(h1:w.cell? ⟨g,1,nO⟩=sO (I Y y)):
  Calls pG 208 #[U (sO ⟨g,0,nO⟩) 2 c] w λe w'=>e=Rt (I Y (max x y))/\w'=w:=by
 go_enter Tryz.func208,Tryz.ntmps208;go_wp2
 go_rounds 2
 all_goals go_ret
 all_goals exact⟨bP aa,rfl⟩

theorem KW (g c:Nat)(x y z u:Int)(w:World)(h0:w.cell? ⟨g,0,nO⟩=sO (I Y x))(h1:w.cell? ⟨g,1,nO⟩=sO (I Y y))(h2:w.cell? ⟨g,2,nO⟩=sO (I Y z))(h3:w.cell? ⟨g,3,nO⟩=sO (I Y u)):
  Calls pG 208 #[U (sO ⟨g,0,nO⟩) 4 c] w λe w'=>e=Rt (I Y (dy x y z u))/\w'=w:=by
 go_enter Tryz.func208,Tryz.ntmps208;go_wp2
 go_rounds 4
 all_goals go_ret
 all_goals exact⟨bP (by unfold dy;omega),rfl⟩
abbrev w3 (s t r:Sp)(w:World):World:=((w.alloc (Cc #[Bb s.n,I Y s.lo,I Y s.hi] 89)).alloc (Cc #[Bb t.n,I Y t.lo,I Y t.hi] 89)).alloc (Cc #[Bb r.n,I Y r.lo,I Y r.hi] 89)

theorem dR {B:Nat}{s t r:Sp}{w w1:World}(hb:Below B (w3 s t r w) w1)(hB:w.heap.size+2 < B):(w1.cell? ⟨w.heap.size,0,nO⟩=sO (Bb s.n)/\w1.cell? ⟨w.heap.size,1,nO⟩=sO (I Y s.lo)/\w1.cell? ⟨w.heap.size,2,nO⟩=sO (I Y s.hi))/\(w1.cell? ⟨w.heap.size+1,0,nO⟩=sO (Bb t.n)/\w1.cell? ⟨w.heap.size+1,1,nO⟩=sO (I Y t.lo)/\w1.cell? ⟨w.heap.size+1,2,nO⟩=sO (I Y t.hi))/\(w1.cell? ⟨w.heap.size+1+1,0,nO⟩=sO (Bb r.n)/\w1.cell? ⟨w.heap.size+1+1,1,nO⟩=sO (I Y r.lo)/\w1.cell? ⟨w.heap.size+1+1,2,nO⟩=sO (I Y r.hi))/\(w1.frozen? ⟨w.heap.size+1+1,0,nO⟩=false/\w1.frozen? ⟨w.heap.size+1+1,1,nO⟩=false/\w1.frozen? ⟨w.heap.size+1+1,2,nO⟩=false)/\(w.heap.size < w1.heap.size/\w.heap.size+1 < w1.heap.size/\w.heap.size+1+1 < w1.heap.size):=by
 have hs:=hb.size;rw[hb.cell an,hb.cell an,hb.cell an,hb.cell an,hb.cell an,hb.cell an,hb.cell an,hb.cell an,hb.cell an,hb.frozen an,hb.frozen an,hb.frozen an];simp[go_sem] at hs |-;omega

theorem dV (s t r:Sp)(w:World):Below w.heap.size w (w3 s t r w):=ai

theorem pN {lo hi lo' hi' a b:Int}(ha:a=min lo lo')(hb:b=max hi hi'):bi ⟨false,lo,hi⟩ ⟨false,lo',hi'⟩=⟨false,a,b⟩:=by
 subst ha hb;rfl

theorem Gd (s t:Sp)(w:World):
  Calls pG 183 #[sv s,sv t] w λe w'=>e=Rt (sv (bq s t))/\bl w w':=by
 obtain⟨n,lo,hi⟩:=s;obtain⟨n',lo',hi'⟩:=t;go_enter Tryz.func183,Tryz.ntmps183;go_wp2_with fail;refine(Aa ⟨n,lo,hi⟩ ⟨n',lo',hi'⟩ _).mono ?_;rintro e w1 ⟨rfl,hb1⟩;obtain⟨⟨c0,c1,c2⟩,⟨d0,d1,d2⟩,⟨r0,r1,r2⟩,⟨f0,f1,f2⟩,z0,z1,z2⟩:=dR (s:=⟨n,lo,hi⟩) (t:=⟨n',lo',hi'⟩) (r:=bD) hb1 ah;have H1:bl w w1:=(dV ⟨n,lo,hi⟩ ⟨n',lo',hi'⟩ bD w).trans (hb1.mono an);clear hb1;simp only[bD] at r0 r1 r2;cases n with
 |true=>
  have e0:bi ⟨true,lo,hi⟩ ⟨n',lo',hi'⟩=⟨n',lo',hi'⟩:=rfl;rw[e0];go_wp2;refine bodyPost_ret (v:=sv ⟨n',lo',hi'⟩) kI rfl ⟨rfl,?_⟩;exact(((H1.setCell an _).setCell an _).setCell an _).alloc an _
 |false=>
  cases n' with
  |true=>
   have e0:bi ⟨false,lo,hi⟩ ⟨true,lo',hi'⟩=⟨false,lo,hi⟩:=rfl;rw[e0];go_wp2;refine bodyPost_ret (v:=sv ⟨false,lo,hi⟩) kI rfl ⟨rfl,?_⟩;exact(((H1.setCell an _).setCell an _).setCell an _).alloc an _
  |false=>
  rcases Int.lt_or_le lo' lo with h1|h1<;>rcases Int.lt_or_le hi hi' with h2|h2
  ·have e0:bi ⟨false,lo,hi⟩ ⟨false,lo',hi'⟩=⟨false,lo',hi'⟩:=pN aa aa
   rw[e0];go_wp2;refine bodyPost_ret (v:=sv ⟨false,-2147483648,2147483647⟩) kI rfl ⟨?_,?_⟩
   ·exact fU pK
   ·exact(((H1.setCell an _).setCell an _).setCell an _).alloc an _
  ·have e0:bi ⟨false,lo,hi⟩ ⟨false,lo',hi'⟩=⟨false,lo',hi⟩:=pN aa aa
   rw[e0];go_wp2;refine bodyPost_ret (v:=sv ⟨false,-2147483648,hi⟩) kI rfl ⟨?_,?_⟩
   ·exact fU pK
   ·exact(((H1.setCell an _).setCell an _).setCell an _).alloc an _
  ·have e0:bi ⟨false,lo,hi⟩ ⟨false,lo',hi'⟩=⟨false,lo,hi'⟩:=pN aa aa
   rw[e0];go_wp2;refine bodyPost_ret (v:=sv ⟨false,lo,2147483647⟩) kI rfl ⟨?_,?_⟩
   ·exact fU pK
   ·exact(((H1.setCell an _).setCell an _).setCell an _).alloc an _
  ·have e0:bi ⟨false,lo,hi⟩ ⟨false,lo',hi'⟩=⟨false,lo,hi⟩:=pN aa aa
   rw[e0];go_wp2;refine bodyPost_ret (v:=sv ⟨false,lo,hi⟩) kI rfl ⟨?_,?_⟩
   ·exact fU pK
   ·exact(((H1.setCell an _).setCell an _).setCell an _).alloc an _

theorem kX (F:Nat)(s t:Sp)(w:World)(h:bu s t≠0):
  Calls pG 181 #[sv s,sv t,.func (.func F) #[] #[]] w λe w'=>e=Rt (Tu #[sv bD,I Y (bu s t)])/\bl w w':=by
 obtain⟨n,lo,hi⟩:=s;obtain⟨n',lo',hi'⟩:=t;go_enter Tryz.func181,Tryz.ntmps181;go_wp2_with fail;refine(dL ⟨n,lo,hi⟩ ⟨n',lo',hi'⟩ _).mono ?_;rintro e w1 ⟨rfl,hb1⟩;obtain⟨⟨c0,c1,c2⟩,⟨d0,d1,d2⟩,⟨r0,r1,r2⟩,⟨f0,f1,f2⟩,z0,z1,z2⟩:=dR (s:=⟨n,lo,hi⟩) (t:=⟨n',lo',hi'⟩) (r:=bD) hb1 ah;have H1:bl w w1:=(dV ⟨n,lo,hi⟩ ⟨n',lo',hi'⟩ bD w).trans (hb1.mono an);clear hb1;simp only[bD] at r0 r1 r2;go_wp2;refine bodyPost_ret (v:=Tu #[sv bD,I Y (bu ⟨n,lo,hi⟩ ⟨n',lo',hi'⟩)]) (by simp[results,Tryz.results181,go_sem,r0,r1,r2,bD]) rfl ⟨rfl,?_⟩;exact((H1.setCell an _).setCell an _).setCell an _

theorem nk {p:Prop}(h:p:=by
 obtain⟨rn,rlo,rhi⟩:=r;go_wp2;refine bodyPost_ret (v:=.tuple #[sv ⟨rn,rlo,rhi⟩,.int .i64 0]) (by simp[results,Tryz.results181,go_sem,g0,g1,g2]) rfl ⟨by rw[hr],?_⟩;exact((H2.setCell an _).setCell an _).setCell an _):p:=h
theorem yA (s t:Sp)(w:World)(h:bu s t=0):
  Calls pG 181 #[sv s,sv t,.func (.func 182) #[] #[]] w λe w'=>e=Rt (Tu #[sv (bi s t),I Y 0])/\bl w w':=by
 obtain⟨n,lo,hi⟩:=s;obtain⟨n',lo',hi'⟩:=t;go_enter Tryz.func181,Tryz.ntmps181;go_wp2_with fail;refine(dL ⟨n,lo,hi⟩ ⟨n',lo',hi'⟩ _).mono ?_;rintro e w1 ⟨rfl,hb1⟩;obtain⟨⟨c0,c1,c2⟩,⟨d0,d1,d2⟩,⟨r0,r1,r2⟩,⟨f0,f1,f2⟩,z0,z1,z2⟩:=dR (s:=⟨n,lo,hi⟩) (t:=⟨n',lo',hi'⟩) (r:=bD) hb1 ah;have H1:bl w w1:=(dV ⟨n,lo,hi⟩ ⟨n',lo',hi'⟩ bD w).trans (hb1.mono an);rw[h];simp only[bD] at r0 r1 r2;clear hb1;go_wp2_with fail;refine(Aa ⟨n,lo,hi⟩ ⟨n',lo',hi'⟩ _).mono ?_;rintro e w2 ⟨rfl,hb2⟩;have g0:=r0;have g1:=r1;have g2:=r2;have k0:=f0;have k1:=f1;have k2:=f2
 rw[<-hb2.cell z2] at g0 g1 g2;rw[<-hb2.frozen z2] at k0 k1 k2;have H2:bl w w2:=H1.trans (hb2.mono aa);clear r0 r1 r2 f0 f1 f2 hb2 c0 c1 c2 d0 d1 d2;generalize hr:bi ⟨n,lo,hi⟩ ⟨n',lo',hi'⟩=r;exact nk

theorem yx (s t:Sp)(w:World)(h:bu s t=0):
  Calls pG 181 #[sv s,sv t,.func (.func 197) #[] #[]] w λe w'=>e=Rt (Tu #[sv (aF s t),I Y 0])/\bl w w':=by
 obtain⟨n,lo,hi⟩:=s;obtain⟨n',lo',hi'⟩:=t;go_enter Tryz.func181,Tryz.ntmps181;go_wp2_with fail;refine(dL ⟨n,lo,hi⟩ ⟨n',lo',hi'⟩ _).mono ?_;rintro e w1 ⟨rfl,hb1⟩;obtain⟨⟨c0,c1,c2⟩,⟨d0,d1,d2⟩,⟨r0,r1,r2⟩,⟨f0,f1,f2⟩,z0,z1,z2⟩:=dR (s:=⟨n,lo,hi⟩) (t:=⟨n',lo',hi'⟩) (r:=bD) hb1 ah;have H1:bl w w1:=(dV ⟨n,lo,hi⟩ ⟨n',lo',hi'⟩ bD w).trans (hb1.mono an);rw[h];simp only[bD] at r0 r1 r2;clear hb1;go_wp2_with fail;refine(Kt ⟨n,lo,hi⟩ ⟨n',lo',hi'⟩ _).mono ?_;rintro e w2 ⟨rfl,hb2⟩;have g0:=r0;have g1:=r1;have g2:=r2;have k0:=f0;have k1:=f1;have k2:=f2
 rw[<-hb2.cell z2] at g0 g1 g2;rw[<-hb2.frozen z2] at k0 k1 k2;have H2:bl w w2:=H1.trans (hb2.mono aa);clear r0 r1 r2 f0 f1 f2 hb2 c0 c1 c2 d0 d1 d2;generalize hr:aF ⟨n,lo,hi⟩ ⟨n',lo',hi'⟩=r;exact nk

theorem uS (s t:Sp)(w:World)(h:bu s t=0):
  Calls pG 181 #[sv s,sv t,.func (.func 183) #[] #[]] w λe w'=>e=Rt (Tu #[sv (bq s t),I Y 0])/\bl w w':=by
 obtain⟨n,lo,hi⟩:=s;obtain⟨n',lo',hi'⟩:=t;go_enter Tryz.func181,Tryz.ntmps181;go_wp2_with fail;refine(dL ⟨n,lo,hi⟩ ⟨n',lo',hi'⟩ _).mono ?_;rintro e w1 ⟨rfl,hb1⟩;obtain⟨⟨c0,c1,c2⟩,⟨d0,d1,d2⟩,⟨r0,r1,r2⟩,⟨f0,f1,f2⟩,z0,z1,z2⟩:=dR (s:=⟨n,lo,hi⟩) (t:=⟨n',lo',hi'⟩) (r:=bD) hb1 ah;have H1:bl w w1:=(dV ⟨n,lo,hi⟩ ⟨n',lo',hi'⟩ bD w).trans (hb1.mono an);rw[h];simp only[bD] at r0 r1 r2;clear hb1;go_wp2_with fail;refine(Gd ⟨n,lo,hi⟩ ⟨n',lo',hi'⟩ _).mono ?_;rintro e w2 ⟨rfl,hb2⟩;have g0:=r0;have g1:=r1;have g2:=r2;have k0:=f0;have k1:=f1;have k2:=f2
 rw[<-hb2.cell z2] at g0 g1 g2;rw[<-hb2.frozen z2] at k0 k1 k2;have H2:bl w w2:=H1.trans (hb2.mono aa);clear r0 r1 r2 f0 f1 f2 hb2 c0 c1 c2 d0 d1 d2;generalize hr:bq ⟨n,lo,hi⟩ ⟨n',lo',hi'⟩=r;exact nk
theorem tY (s t:Sp)(b:Bool)(w:World)(h:(s.n||t.n)=true):
  Calls pG 167 #[sv s,sv t,Bb b] w λe w'=>e=Rt (sv (bi s t))/\bl w w':=by
 obtain⟨n,lo,hi⟩:=s;obtain⟨n',lo',hi'⟩:=t;cases n with
 |true=>
  go_enter Tryz.func167,Tryz.ntmps167;go_wp2
  go_returns
  exact⟨rfl,ai⟩
 |false=>
  cases n' with
  |true=>
   go_enter Tryz.func167,Tryz.ntmps167;go_wp2
   go_returns
   exact⟨rfl,ai⟩
  |false=>exact absurd h ah

theorem Lp {lo hi lo' hi' a b:Int}(ha:a=if lo' < lo then -2147483648 else lo)(hb:b=if hi < hi' then 2147483647 else hi):bq ⟨false,lo,hi⟩ ⟨false,lo',hi'⟩=⟨false,a,b⟩:=by
 subst ha hb;rfl
abbrev dW (e:Int)(r:Sp):Sp:=if e=0 then r else bD

theorem Kf (s t:Sp)(w:World):
  Calls pG 181 #[sv s,sv t,.func (.func 182) #[] #[]] w λe w'=>e=Rt (Tu #[sv (dW (bu s t) (bi s t)),I Y (bu s t)])/\bl w w':=by
 by_cases h:bu s t=0
 ·rw[h];exact yA s t w h
 ·unfold dW;rw[if_neg h];exact kX _ s t w h

theorem mB {p:Prop}(h:p:=by
 exact((H1.setCell an _).setCell an _).setCell an _):p:=h
theorem H8 (s t:Sp)(w:World):
  Calls pG 124 #[sv s,sv t] w λe w'=>e=Rt (Tu #[sv (dW (bu s t) (bi s t)),I Y (bu s t)])/\bl w w':=by
 have hT:=Kf s t;generalize dW (bu s t) (bi s t)=r at hT |-;generalize bu s t=c at hT |-;obtain⟨n,lo,hi⟩:=s;obtain⟨n',lo',hi'⟩:=t;obtain⟨rn,rlo,rhi⟩:=r;go_enter Tryz.func124,Tryz.ntmps124;go_wp2_with fail;refine(hT _).mono ?_;rintro e w1 ⟨rfl,hb1⟩;obtain⟨-,-,⟨r0,r1,r2⟩,⟨f0,f1,f2⟩,z0,z1,z2⟩:=dR (s:=⟨n,lo,hi⟩) (t:=⟨n',lo',hi'⟩) (r:=bD) hb1 ah;have H1:bl w w1:=(dV ⟨n,lo,hi⟩ ⟨n',lo',hi'⟩ bD w).trans (hb1.mono an);simp only[bD] at r0 r1 r2;clear hb1 hT;go_wp2;refine bodyPost_ret (v:=Tu #[sv ⟨rn,rlo,rhi⟩,I Y c]) (by simp[results,Tryz.results124,go_sem,r0,r1,r2]) rfl ⟨rfl,?_⟩;exact mB

theorem Kh (s t:Sp)(w:World):
  Calls pG 181 #[sv s,sv t,.func (.func 197) #[] #[]] w λe w'=>e=Rt (Tu #[sv (dW (bu s t) (aF s t)),I Y (bu s t)])/\bl w w':=by
 by_cases h:bu s t=0
 ·rw[h];exact yx s t w h
 ·unfold dW;rw[if_neg h];exact kX _ s t w h

theorem iT (s t:Sp)(w:World):
  Calls pG 159 #[sv s,sv t] w λe w'=>e=Rt (Tu #[sv (dW (bu s t) (aF s t)),I Y (bu s t)])/\bl w w':=by
 have hT:=Kh s t;generalize dW (bu s t) (aF s t)=r at hT |-;generalize bu s t=c at hT |-;obtain⟨n,lo,hi⟩:=s;obtain⟨n',lo',hi'⟩:=t;obtain⟨rn,rlo,rhi⟩:=r;go_enter Tryz.func159,Tryz.ntmps159;go_wp2_with fail;refine(hT _).mono ?_;rintro e w1 ⟨rfl,hb1⟩;obtain⟨-,-,⟨r0,r1,r2⟩,⟨f0,f1,f2⟩,z0,z1,z2⟩:=dR (s:=⟨n,lo,hi⟩) (t:=⟨n',lo',hi'⟩) (r:=bD) hb1 ah;have H1:bl w w1:=(dV ⟨n,lo,hi⟩ ⟨n',lo',hi'⟩ bD w).trans (hb1.mono an);simp only[bD] at r0 r1 r2;clear hb1 hT;go_wp2;refine bodyPost_ret (v:=Tu #[sv ⟨rn,rlo,rhi⟩,I Y c]) (by simp[results,Tryz.results159,go_sem,r0,r1,r2]) rfl ⟨rfl,?_⟩;exact mB

theorem Ga (s t:Sp)(w:World):
  Calls pG 181 #[sv s,sv t,.func (.func 183) #[] #[]] w λe w'=>e=Rt (Tu #[sv (dW (bu s t) (bq s t)),I Y (bu s t)])/\bl w w':=by
 by_cases h:bu s t=0
 ·rw[h];exact uS s t w h
 ·unfold dW;rw[if_neg h];exact kX _ s t w h

theorem Eg (s t:Sp)(w:World):
  Calls pG 125 #[sv s,sv t] w λe w'=>e=Rt (Tu #[sv (dW (bu s t) (bq s t)),I Y (bu s t)])/\bl w w':=by
 have hT:=Ga s t;generalize dW (bu s t) (bq s t)=r at hT |-;generalize bu s t=c at hT |-;obtain⟨n,lo,hi⟩:=s;obtain⟨n',lo',hi'⟩:=t;obtain⟨rn,rlo,rhi⟩:=r;go_enter Tryz.func125,Tryz.ntmps125;go_wp2_with fail;refine(hT _).mono ?_;rintro e w1 ⟨rfl,hb1⟩;obtain⟨-,-,⟨r0,r1,r2⟩,⟨f0,f1,f2⟩,z0,z1,z2⟩:=dR (s:=⟨n,lo,hi⟩) (t:=⟨n',lo',hi'⟩) (r:=bD) hb1 ah;have H1:bl w w1:=(dV ⟨n,lo,hi⟩ ⟨n',lo',hi'⟩ bD w).trans (hb1.mono an);simp only[bD] at r0 r1 r2;clear hb1 hT;go_wp2;refine bodyPost_ret (v:=Tu #[sv ⟨rn,rlo,rhi⟩,I Y c]) (by simp[results,Tryz.results125,go_sem,r0,r1,r2]) rfl ⟨rfl,?_⟩;exact mB

theorem E6 (s t:Sp)(w:World)(h:bu s t≠0):
  Calls pG 201 #[sv s,sv t] w λe w'=>e=Rt (Tu #[Bb false,I Y (bu s t)])/\bl w w':=by
 have hT:=iT s t;have h':(bu s t==0)=false:=cj;generalize dW (bu s t) (aF s t)=r at hT;generalize bu s t=c at hT h h' |-;obtain⟨n,lo,hi⟩:=s;obtain⟨n',lo',hi'⟩:=t;obtain⟨rn,rlo,rhi⟩:=r;have h0:Below w.heap.size w ((w.alloc (Cc #[Bb n,I Y lo,I Y hi] 89)).alloc (Cc #[Bb n',I Y lo',I Y hi'] 89)):=ai;go_enter Tryz.func201,Tryz.ntmps201;go_wp2_with fail;refine(hT _).mono ?_;rintro e w1 ⟨rfl,hb1⟩;obtain⟨c0,c1,c2,d0,d1,d2⟩:=oF hb1 ah;have H1:bl w w1:=h0.trans (hb1.mono an);have z0:w.heap.size < w1.heap.size:=kM;clear hb1 hT;go_wp2
 go_ret2
 exact⟨rfl,H1.alloc aa _⟩

theorem KX (r:Sp)(s:Sp):@decide _ (r.dq s)=(r.n==s.n&&(r.lo==s.lo&&r.hi==s.hi)):=by
 obtain⟨n,lo,hi⟩:=r;obtain⟨n',lo',hi'⟩:=s;rw[Bool.eq_iff_iff];simp

theorem Hf (s t:Sp)(w:World)(h:bu s t=0):
  Calls pG 201 #[sv s,sv t] w λe w'=>e=Rt (Tu #[Bb (@decide _ ((aF s t).dq s)),I Y 0])/\bl w w':=by
 have hT:=iT s t;rw[h] at hT;have e0:dW 0 (aF s t)=aF s t:=rfl;rw[e0] at hT;rw[KX];clear e0 h;generalize aF s t=r at hT |-;obtain⟨n,lo,hi⟩:=s;obtain⟨n',lo',hi'⟩:=t;obtain⟨rn,rlo,rhi⟩:=r;have h0:Below w.heap.size w ((w.alloc (Cc #[Bb n,I Y lo,I Y hi] 89)).alloc (Cc #[Bb n',I Y lo',I Y hi'] 89)):=ai;go_enter Tryz.func201,Tryz.ntmps201;go_wp2_with fail;refine(hT _).mono ?_;rintro e w1 ⟨rfl,hb1⟩;obtain⟨c0,c1,c2,d0,d1,d2⟩:=oF hb1 ah;have H1:bl w w1:=h0.trans (hb1.mono an);have z0:w.heap.size < w1.heap.size:=kM;clear hb1 hT;go_wp2;all_goals go_ret2
 all_goals exact⟨Dz (by simp_all),H1.alloc aa _⟩

theorem Ek (s t:Sp)(w:World):
  Calls pG 201 #[sv s,sv t] w λe w'=>e=Rt (Tu #[Bb (decide (bu s t=0)&&@decide _ ((aF s t).dq s)),I Y (bu s t)])/\bl w w':=by
 by_cases h:bu s t=0
 ·have:=Hf s t w h
  rw[h];simpa using this
 ·have:=E6 s t w h
  simpa[h] using this
@[go_sem] theorem run_min4 {P:Program} (w:World) (ts:Array TypeId) (t:TypeId) (a b c d:Int):
  (Builtin.min_ ts t #[I Y a,I Y b,I Y c,I Y d]).run P w=.ok (I Y (dw a b c d)) w:=by
 have e:∀x y:Int,(if y < x then y else x)=min x y:=λx y=>pW;simp[Builtin.min_,Builtin.min2,e,dw]

@[go_sem] theorem run_max4 {P:Program} (w:World) (ts:Array TypeId) (t:TypeId) (a b c d:Int):
  (Builtin.max_ ts t #[I Y a,I Y b,I Y c,I Y d]).run P w=.ok (I Y (dy a b c d)) w:=by
 have e:∀x y:Int,(if x < y then y else x)=max x y:=λx y=>pW;simp[Builtin.max_,Builtin.max2,e,dy]

theorem sY {p:Prop}(h:p:=by
 go_enter Tryz.func228,Tryz.ntmps228;go_wp2_with (go_at_call 226;refine(vh _).mono ?_;rintro e w1 ⟨rfl,rfl⟩)
 go_returns
 exact⟨rfl,ai⟩):p:=h
theorem lE (F:Nat)(s t:Sp)(w:World)(h:(s.n||t.n)=true):
  Calls pG 228 #[sv s,sv t,.func (.func F) #[] #[]] w λe w'=>e=Rt (sv ⟨true,0,0⟩)/\bl w w':=by
 obtain⟨n,lo,hi⟩:=s;obtain⟨n',lo',hi'⟩:=t;cases n with
 |true=>
  exact sY
 |false=>
  cases n' with
  |true=>
   exact sY
  |false=>simp at h

theorem DI {a b c d:Int}(h1:bd (dw a b c d))(h2:bd (dy a b c d)):fL a b c d=⟨false,dw a b c d,dy a b c d⟩:=if_pos ⟨h1,h2⟩
theorem LZ {a b c d:Int}(h1:¬bd (dw a b c d)):fL a b c d=⟨false,-2147483648,2147483647⟩:=if_neg (λh=>h1 h.1)
theorem La {a b c d:Int}(h1:¬bd (dy a b c d)):fL a b c d=⟨false,-2147483648,2147483647⟩:=if_neg (λh=>h1 h.2)
theorem mO {p:Prop}(h:p:=by
 clear h1 h2 h3 h4;go_enter Tryz.func228,Tryz.ntmps228;go_wp2
 go_quiet (first|exact Calls.quiet_of (k1 _)|exact Calls.quiet_of (k2 _)|exact Calls.quiet_of (k3 _)|exact Calls.quiet_of (k4 _))
 clear k1 k2 k3 k4;by_cases h1:bd (dw a b c d)
 ·have e1:decide (bd (dw a b c d))=true:=decide_eq_true h1
  by_cases h2:bd (dy a b c d)
  ·have e2:decide (bd (dy a b c d))=true:=decide_eq_true h2
   go_wp2_with (go_at_call 225;refine(gG _ _).mono ?_;rintro e w' ⟨rfl,rfl⟩)
   go_returns
   exact⟨fU (DI h1 h2),pt⟩
  ·have e2:decide (bd (dy a b c d))=false:=decide_eq_false h2
   go_wp2_with (first|(go_at_call 225;refine(gG _ _).mono ?_;rintro e w' ⟨rfl,rfl⟩)|(go_at_call 245;refine(GG _).mono ?_;rintro e w' ⟨rfl,rfl⟩))
   go_returns
   exact⟨fU (La h2),pt⟩
 ·have e1:decide (bd (dw a b c d))=false:=decide_eq_false h1
  go_wp2_with (first|(go_at_call 225;refine(gG _ _).mono ?_;rintro e w' ⟨rfl,rfl⟩)|(go_at_call 245;refine(GG _).mono ?_;rintro e w' ⟨rfl,rfl⟩))
  go_returns
  exact⟨fU (LZ h1),pt⟩):p:=h
theorem kY {a b c d:Bool}(h:a=c)(h':b=d):Ending.returned (Tu #[Bb a,Bb b])=Rt (Tu #[Bb c,Bb d]):=by rw[h,h']

theorem uL {p:Prop}(h:p:=by
 go_wp2;refine wp_region_quiet_lit ag ag ?_;repeat (any_goals (first|go_big_quiet_step (fail)|quiet_step (fail)|(refine wpQuiet_step (λK hK=> ?_);go_simp;split<;>(refine hK _ ?_;clear hK K))))
 all_goals (refine wpQuiet_nil ?_;intro _ hw';obtain⟨nq,hw''⟩:=hw';subst hw'')
 all_goals go_wp2
 all_goals go_ret2
 all_goals exact⟨kY mb (by rw[HN.out];simp_all),below_drewN B1 _⟩):p:=h
theorem tu {p:Prop}(h:p:=by
 clear hz HZ;go_wp2;refine wp_region_quiet_lit ag ag ?_;repeat (any_goals (first|go_big_quiet_step (fail)|quiet_step (fail)|(refine wpQuiet_step (λK hK=> ?_);go_simp;split<;>(refine hK _ ?_;clear hK K))))
 all_goals (refine wpQuiet_nil ?_;intro _ hw';obtain⟨nq,hw''⟩:=hw';subst hw'')
 all_goals go_wp2
 all_goals go_ret2
 all_goals exact⟨kY rfl (by rw[HN.out];simp_all),below_drewN B1 _⟩):p:=h
theorem uf (g:Gs)(ss:oA)(gc:Nat)(w:World)(hsp:cu g.sp=0):
  Calls pG 198 #[gv g ss gc] w λe w'=>e=Rt (Tu #[Bb (b8 g),Bb (cF g)])/\bl w w':=by
 have hH:=λw=>Li g.sp 0 w;rw[hsp,show (decide ((0:Int)=0)&&g.sp.has 0)=g.sp.has 0 from rfl] at hH;have HY:Hid (b8 g=((!g.sp.n&& !decide (g.sp.lo=0/\g.sp.hi=0))||(g.t||decide (0 < g.s.length)))):=rfl;have HN:Hid (cF g=(g.sp.has 0||(g.n||g.f))):=rfl;generalize b8 g=yy at *;generalize cF g=nn at *;generalize g.sp.has 0=z at *;obtain⟨n,⟨sn,lo,hi⟩,t,f,s⟩:=g;have G0:=GuAt.new w ⟨n,⟨sn,lo,hi⟩,t,f,s⟩ ss gc;go_enter Tryz.func198,Tryz.ntmps198;go_wp2_with fail;refine(hH _).mono ?_;rintro e w1 ⟨rfl,hb1⟩;have G1:=G0.call hb1;have B1:Below w.heap.size w w1:=Below.trans ai (hb1.mono ah);obtain⟨⟨g0,g1,g2,g3,g4,g5,g6⟩,gz⟩:=id G1;simp only[j5] at g0 g1 g2 g3 g4 g5 g6;clear G0 G1 hb1 hH hsp;cases sn with
 |true=>
  exact uL
 |false=>
  by_cases hz:lo=0/\hi=0
  ·obtain⟨rfl,rfl⟩:=hz
   exact uL
  ·have HZ:Hid (decide (lo=0/\hi=0)=false):=by show _=_;simpa using hz
   have hm:yy=true:=by rw[HY.out,HZ.out];rfl
   subst hm;clear HY;by_cases h1:lo=0
   ·subst h1
    have h2:(hi==0)=false:=by simp only[beq_eq_false_iff_ne];intro h;exact hz ⟨rfl,h⟩
    exact tu
   ·have h2:(lo==0)=false:=by simpa using h1
    exact tu

theorem uJ {p:Prop}(h:p:=by
 go_wp2_with fail;refine(ye x ss gc h.s _ hl hs).mono ?_;rintro e w1 ⟨rfl,rfl⟩;go_wp2;go_ret;exact⟨bj ah,Below.refl _ _⟩):p:=h
theorem fO (x:Int)(q:Nat)(h:Gs)(ss:oA)(gc:Nat)(w:World)(hg:GuAt w q 0 h ss gc)(hs:IntsAt w ss h.s)(hl:h.s.length<=9223372036854775807):
  Calls pG 199 #[I Y x,Pp (sO ⟨q,0,nO⟩)] w λe w'=>e=Rt (Bb (!h.s.contains x))/\bl w w':=by
 obtain⟨⟨g0,g1,g2,g3,g4,g5,g6⟩,gz⟩:=id hg;simp only[j5] at g6;go_enter Tryz.func199,Tryz.ntmps199;exact uJ

theorem eD (x:Int)(q:Nat)(h:Gs)(ss:oA)(gc:Nat)(w:World)(hg:GuAt w q 0 h ss gc)(hs:IntsAt w ss h.s)(hl:h.s.length<=9223372036854775807):
  Calls pG 234 #[I Y x,Pp (sO ⟨q,0,nO⟩)] w λe w'=>e=Rt (Bb (h.s.contains x))/\bl w w':=by
 obtain⟨⟨g0,g1,g2,g3,g4,g5,g6⟩,gz⟩:=id hg;simp only[j5] at g6;go_enter Tryz.func234,Tryz.ntmps234;exact uJ
end
section
theorem mk:∀{l:List Int},cW l=true->l.Pairwise (· < ·)
 |[],_=>Q3.nil
 |[a],_=>Qn _ _
 |a::b::r,h=>by
  unfold cW at h;rw[j9,decide_eq_true_eq] at h;have ih:=mk h.2;rw[J2];refine⟨λx hx=> ?_,ih⟩;rcases j6.1 hx with rfl|hx
  ·exact h.1
  ·have:=(J2.1 ih).1 x hx
   omega
theorem gB:∀{a b:List Int},a.Pairwise (· < ·)->b.Pairwise (· < ·)->(∀x∈a,x∈b)->a.length<=b.length/\(a.length=b.length->a=b)
 |[],b,_,_,_=>⟨z9 _,λh=>(J1.1 h.symm).symm⟩
 |x::r,[],_,_,h=>absurd (h x ah) ah
 |x::r,y::q,ha,hb,h=>by
  obtain⟨a1,a2⟩:=J2.1 ha;obtain⟨b1,b2⟩:=J2.1 hb;by_cases e:x=y
  ·subst e
   have hs:∀z∈r,z∈q:=λz hz=>by
    rcases j6.1 (h z (by simp[hz])) with rfl|hq
    ·exact absurd (a1 z hz) aa
    ·exact hq
   obtain⟨h1,h2⟩:=gB a2 b2 hs;refine⟨by simp only[z5];omega,λhl=> ?_⟩;rw[h2 (by simpa using hl)]
  ·have hyx:y < x:=by
    rcases j6.1 (h x ah) with rfl|hq
    ·exact absurd rfl e
    ·exact b1 x hq
   have hs:∀z∈x::r,z∈q:=λz hz=>by
    rcases j6.1 (h z hz) with rfl|hq
    ·rcases j6.1 hz with rfl|hz
     ·exact absurd rfl e
     ·exact absurd (a1 z hz) aa
    ·exact hq
   obtain⟨h1,h2⟩:=gB ha b2 hs;simp only[z5] at h1 |-;exact⟨aa,λhl=>aa⟩
theorem Bm {a b:List Int}(ha:a.Pairwise (· < ·))(hb:b.Pairwise (· < ·))(h:∀x,x∈a↔x∈b):a=b:=by
 obtain⟨h1,h2⟩:=gB ha hb λx hx=>(h x).1 hx;obtain⟨h3,_⟩:=gB hb ha λx hx=>(h x).2 hx;exact h2 aa
theorem Hm {s t:Sp}(hs:s.Ok)(ht:t.Ok)(h:dX t s=true):bi s t=s:=by
 obtain⟨_,_,s5,s6⟩:=hs;obtain⟨_,_,t5,t6⟩:=ht;rw[dK t6] at h;unfold bi;obtain⟨sn,slo,shi⟩:=s;obtain⟨tn,tlo,thi⟩:=t;simp only at h s5 t5 s6 t6 |-;rcases h with h|⟨h1,h2,h3⟩
 ·subst h
  obtain⟨rfl,rfl⟩:=t5 rfl;cases sn with
  |true=>obtain⟨rfl,rfl⟩:=s5 rfl;rfl
  |false=>rfl
 ·subst h1
  cases tn with
  |true=>rfl
  |false=>
   simp only[z4,if_false,Sp.mk.injEq,true_and];omega
theorem Hg {s t:Sp}(hs:s.Ok)(ht:t.Ok)(h:dX t s=true):bq s t=s:=by
 obtain⟨_,_,s5,s6⟩:=hs;obtain⟨_,_,t5,t6⟩:=ht;rw[dK t6] at h;unfold bq;obtain⟨sn,slo,shi⟩:=s;obtain⟨tn,tlo,thi⟩:=t;simp only at h s5 t5 s6 t6 |-;rcases h with h|⟨h1,h2,h3⟩
 ·subst h
  obtain⟨rfl,rfl⟩:=t5 rfl;cases sn with
  |true=>obtain⟨rfl,rfl⟩:=s5 rfl;rfl
  |false=>rfl
 ·subst h1
  cases tn with
  |true=>rfl
  |false=>
   simp only[z4,if_false,Sp.mk.injEq,true_and];rw[if_neg aa,if_neg aa];exact⟨rfl,rfl⟩
section
variable {c:lI} {g h k:Gs} {w:Bool}
theorem k9 (hg:aE c g=0):g.s.Pairwise (· < ·):=mk (ckGs_iff.1 hg).2.2
theorem t8 (hg:aE c g=0):c7 g g=true:=by
 rw[inGs_iff,dK (me hg)];refine⟨id,id,id,?_,λ_ h=>h⟩;cases g.sp.n
 ·exact .inr ⟨rfl,aa,aa⟩
 ·exact .inl rfl
theorem sR (hg:aE c g=0)(hh:aE c h=0)(h1:c7 g h=true)(h2:c7 h k=true):c7 g k=true:=by
 rw[inGs_iff,dK (me hg)] at h1;rw[inGs_iff,dK (me hh)] at h2;rw[inGs_iff,dK (me hg)];obtain⟨a1,a2,a3,a4,a5⟩:=h1;obtain⟨b1,b2,b3,b4,b5⟩:=h2;refine⟨λe=>b1 (a1 e),λe=>b2 (a2 e),λe=>b3 (a3 e),?_,λx hx=>b5 x (a5 x hx)⟩;rcases a4 with a4|⟨a4,a6,a7⟩
 ·exact .inl a4
 ·rcases b4 with b4|⟨b4,b6,b7⟩
  ·rw[a4] at b4;cases b4
  ·exact .inr ⟨b4,aa,aa⟩
theorem rF (h60:c.length<=60)(hg:aE c g=0)(hh:aE c h=0)(hi:c7 h g=true):am w g h=g:=by
 obtain⟨a1,a2,a3,a4,a5⟩:=inGs_iff.1 hi;have og:=(ckGs_iff.1 hg).1;have oh:=(ckGs_iff.1 hh).1;have e1:(if w then bq g.sp h.sp else bi g.sp h.sp)=g.sp:=by
  cases w
  ·exact Hm og oh a4
  ·exact Hg og oh a4
 have e2:gd g.s h.s=g.s:=by
  refine Bm (oR _ _) (k9 hg) λx=> ?_;rw[mem_siteSet];constructor
  ·rintro ⟨_,hx|hx⟩
   ·exact hx
   ·exact a5 x hx
  ·intro hx
   have:=dl ((ckGs_iff.1 hg).2.1 x hx);exact⟨⟨this.1,aa⟩,.inl hx⟩
 unfold am;rw[e1,e2];obtain⟨gn,gsp,gt,gf,gs⟩:=g;obtain⟨hn,hsp,ht,hf,hs⟩:=h;simp only at a1 a2 a3 |-;cases gn<;>cases hn<;>cases gt<;>cases ht<;>cases gf<;>cases hf<;>simp_all
end
def oI (s:Sp):Nat:=if s.n then 8589934592 else(s.lo+2147483648).toNat+(2147483647 - s.hi).toNat
def iZ (g:Gs):Nat:=b2n (!g.n)+b2n (!g.t)+b2n (!g.f)+(60 - g.s.length)+oI g.sp
def oL (l:List Gs):Nat:=(l.map iZ).sum
def KF (l:List (List Gs)):Nat:=(l.map oL).sum
def gH (x:Pic):Nat:=if x.none then 2000000000000 else oL x.vq+KF x.fq
def gY (l:List Pic):Nat:=(l.map gH).sum
theorem LO {s t:Sp}(hs:s.Ok)(ht:t.Ok)(h:dX s t=true):oI t<=oI s/\(oI t=oI s->s=t):=by
 obtain⟨⟨s1,s2⟩,⟨s3,s4⟩,s5,s6⟩:=hs;obtain⟨⟨t1,t2⟩,⟨t3,t4⟩,t5,t6⟩:=ht;rw[dK s6] at h;unfold oI;obtain⟨sn,slo,shi⟩:=s;obtain⟨tn,tlo,thi⟩:=t;simp only at h s1 s2 s3 s4 s5 s6 t1 t2 t3 t4 t5 t6 |-;rcases h with h|⟨h1,h2,h3⟩
 ·subst h
  obtain⟨rfl,rfl⟩:=s5 rfl;cases tn with
  |true=>obtain⟨rfl,rfl⟩:=t5 rfl;simp
  |false=>
   simp only[z4,if_false,if_true];exact⟨aa,λe=>aa⟩
 ·subst h1
  cases sn with
  |true=>
   simp only[z4,if_false,if_true];exact⟨aa,λe=>aa⟩
  |false=>
   simp only[z4,if_false,Sp.mk.injEq,true_and];exact⟨aa,λe=>aa⟩
theorem uZ {a b:Bool}(h:a=true->b=true):b2n (!b)<=b2n (!a)/\(b2n (!b)=b2n (!a)->a=b):=by
 cases a<;>cases b<;>simp_all[b2n]
theorem Cy {c:lI}{g h:Gs}(h60:c.length<=60)(hg:aE c g=0)(hh:aE c h=0)(hi:c7 g h=true):iZ h<=iZ g/\(iZ h=iZ g->g=h):=by
 obtain⟨a1,a2,a3,a4,a5⟩:=inGs_iff.1 hi;obtain⟨b1,b1'⟩:=uZ a1;obtain⟨b2,b2'⟩:=uZ a2;obtain⟨b3,b3'⟩:=uZ a3;obtain⟨b4,b4'⟩:=LO (ckGs_iff.1 hg).1 (ckGs_iff.1 hh).1 a4;obtain⟨b5,b5'⟩:=gB (k9 hg) (k9 hh) a5;have h6:h.s.length<=60:=by
  have hp:=k9 hh;have hr:∀x∈h.s,x∈((j3 60).map λn:Nat=>(n:Int)):=λx hx=>by
   have:=dl ((ckGs_iff.1 hh).2.1 x hx);rw[x7];exact⟨x.toNat,by rw[Qp];omega,aa⟩
  have h7:=(gB hp (b:=(j3 60).map λn:Nat=>(n:Int)) (by rw[Z8];exact Qr.imp λh=>by omega) hr).1;simpa using h7
 unfold iZ;refine⟨by omega,λe=> ?_⟩;have e1:=b1' aa;have e2:=b2' aa;have e3:=b3' aa;have e4:=b4' aa;have e5:=b5' aa;obtain⟨gn,gsp,gt,gf,gs⟩:=g;obtain⟨hn,hsp,ht,hf,hs⟩:=h;simp only at e1 e2 e3 e4 e5;rw[e1,e2,e3,e4,e5]
theorem ue {α:Type}(f:α->Nat):∀{a b:List α},a.length=b.length->(∀i (h1:i < a.length) (h2:i < b.length),f b[i]<=f a[i]/\(f b[i]=f a[i]->a[i]=b[i]))->(b.map f).sum<=(a.map f).sum/\((b.map f).sum=(a.map f).sum->a=b)
 |[],[],_,_=>⟨lR _,λ_=>rfl⟩
 |[],_::_,h,_=>by simp at h
 |_::_,[],h,_=>by simp at h
 |x::a,y::b,hl,h=>by
  obtain⟨h1,h2⟩:=ue f (a:=a) (b:=b) (by simpa using hl) λi k1 k2=>by
   have:=h (i+1) an an;simpa using this
  have h0:=h 0 ah ah;simp only[Z6] at h0;simp only[Q5,Q6];refine⟨by omega,λe=> ?_⟩;rw[h0.2 aa,h2 aa]
theorem n8 {α:Type}(f:α->Nat)(m:Nat):∀{a:List α},(∀x∈a,f x<=m)->(a.map f).sum<=a.length * m
 |[],_=>ah
 |x::a,h=>by
  have:=n8 f m (a:=a) λy hy=>h y (by simp[hy]);have:=h x ah;simp only[Q5,Q6,z5,Nat.add_mul];omega
theorem CE {α:Type}(f:α->Nat):∀{a:List α} {k:Nat} {y:α} (hk:k < a.length),f y < f a[k]->((a.set k y).map f).sum < (a.map f).sum
 |[],_,_,hk,_=>absurd hk ah
 |x::a,0,y,_,h=>by simp only[Z6] at h;simp only[Qj,Q5,Q6];omega
 |x::a,k+1,y,hk,h=>by
  have:=CE f (a:=a) (k:=k) (y:=y) fH cj;simp only[Qk,Q5,Q6];omega
theorem Mj {s:Sp}(h:s.Ok):oI s<=8589934592:=by
 obtain⟨⟨s1,s2⟩,⟨s3,s4⟩,s5,s6⟩:=h;unfold oI;split<;>omega
theorem Ba (b:Bool):b2n b<=1:=by cases b<;>decide
theorem Dr {c:lI}{g:Gs}(h:aE c g=0):iZ g<=8600000000:=by
 have:=Mj (ckGs_iff.1 h).1;have:=Ba (!g.n);have:=Ba (!g.t);have:=Ba (!g.f);unfold iZ;omega
section
variable {V F:Int} {c:lI} {x y z:Pic} {w:Bool}
theorem wH (h0:aw V F c=0)(hx:PicOk V F c x):gH x < 2000000000000:=by
 have hp:=de h0;have h1:=hp.v8;have h2:=hp.f3;have h3:=hp.len;have a1:=hx.vq;have a2:=hx.fq;obtain⟨G,hG⟩:∃G:Nat,G=8600000000:=⟨_,rfl⟩;have b1:oL x.vq<=x.vq.length * G:=n8 iZ G λg hg=>by rw[hG];exact Dr (hx.gv g hg)
 have b2:∀r∈x.fq,oL r<=3 * G:=λr hr=>by
  obtain⟨k,hk,rfl⟩:=Q4 hr;have q:oL x.fq[k]<=x.fq[k].length * G:=n8 iZ G λg hg=>by rw[hG];exact Dr (hx.gf k hk g hg)
  have:=hx.row k hk;have h8:x.fq[k].length<=3:=aa;exact lT q (Q7 _ h8)
 have b3:KF x.fq<=x.fq.length * (3 * G):=n8 oL _ b2;have h4:x.vq.length<=8:=aa;have h5:x.fq.length<=60:=aa;have h6:x.vq.length * G<=8 * G:=Q7 _ h4;have h7:x.fq.length * (3 * G)<=60 * (3 * G):=Q7 _ h5;unfold gH;rw[if_neg (by rw[hx.none];decide)];omega
theorem CU (h0:aw V F c=0)(hx:aK V F c x=0):gH x<=2000000000000:=by
 cases hn:x.none with
 |true=>unfold gH;rw[if_pos hn];exact lR _
 |false=>exact Nat.le_of_lt (wH h0 (cr hx hn))
theorem sG (hx:aK V F c x=0):bG x x=true:=by
 cases hn:x.none with
 |true=>simp[bG,hn]
 |false=>
  have kx:=cr hx hn;rw[eF hn hn];exact⟨λi h1 _=>t8 (kx.gv _ (gM _)),λk h1 _ i h3 _=>t8 (kx.gf k h1 _ (gM _))⟩
theorem kj {x y:Pic}(h:bG x y=true)(hn:x.none=false):y.none=false:=by
 cases e:y.none with
 |false=>rfl
 |true=>simp[bG,e,hn] at h
theorem iM (hx:aK V F c x=0)(hy:aK V F c y=0)(hz:aK V F c z=0)(h1:bG x y=true)(h2:bG y z=true):bG x z=true:=by
 cases hn:x.none with
 |true=>simp[bG,hn]
 |false=>
  have hm:=kj h1 hn;have ho:=kj h2 hm;have kx:=cr hx hn;have ky:=cr hy hm;have kz:=cr hz ho;have:=kx.vq;have:=ky.vq;have:=kz.vq;have:=kx.fq;have:=ky.fq;have:=kz.fq;obtain⟨a1,a2⟩:=(eF hn hm).1 h1;obtain⟨b1,b2⟩:=(eF hm ho).1 h2;rw[eF hn ho];refine⟨λi p q=> ?_,λk p q i r s=> ?_⟩
  ·have hy':i < y.vq.length:=by omega
   exact sR (kx.gv _ (gM p)) (ky.gv _ (gM hy')) (a1 i p hy') (b1 i hy' q)
  ·have hy':k < y.fq.length:=by omega
   have:=kx.row k p;have:=ky.row k hy';have hi':i < y.fq[k].length:=aa;exact sR (kx.gf k p _ (gM r)) (ky.gf k hy' _ (gM hi')) (a2 k p hy' i r hi') (b2 k hy' q i hi' s)
theorem yS (h0:aw V F c=0)(hx:aK V F c x=0)(hy:aK V F c y=0)(hi:bG y x=true):aG (am w) x y=x:=by
 have h60:c.length<=60:=(de h0).len;unfold aG;cases hm:y.none with
 |true=>
  have ey:=(kl hm).1 hy;subst ey;cases hn:x.none with
  |true=>rw[(kl hn).1 hx];rfl
  |false=>rfl
 |false=>
  have hn:=kj hi hm;rw[hn];simp only[z4,if_false];have kx:=cr hx hn;have ky:=cr hy hm;have:=kx.vq;have:=ky.vq;have:=kx.fq;have:=ky.fq;obtain⟨a1,a2⟩:=(eF hm hn).1 hi;have v1:=kx.vq;have v2:=kx.fq;obtain⟨xn,xv,xf⟩:=x;simp only at hn v1 v2;subst hn;simp only[Pic.mk.injEq,true_and];constructor
  ·refine J8 (by simp only[aN,j8];omega) λi p q=> ?_
   simp only[aN,z3];exact rF h60 (kx.gv _ (gM _)) (ky.gv _ (gM _)) (a1 i _ _)
  ·refine J8 (by simp only[j8];omega) λk p q=> ?_
   have hk:k < y.fq.length:=aa;have r1:=kx.row k q;have r2:=ky.row k hk;simp only[z3];refine J8 (by simp only[aN,j8];simp only at r1;omega) λi r s=> ?_;simp only[aN,z3];exact rF h60 (kx.gf k q _ (gM _)) (ky.gf k hk _ (gM _)) (a2 k hk q i _ _)
theorem lz (h0:aw V F c=0)(hx:aK V F c x=0)(hy:aK V F c y=0):aG (am w) x y=x↔bG y x=true:=by
 constructor
 ·intro h
  have:=(nd (w:=w) (de h0).len hx hy).2;rw[h] at this;exact this
 ·exact yS h0 hx hy
theorem Ls (h0:aw V F c=0)(hx:aK V F c x=0)(hy:aK V F c y=0)(hi:bG x y=true):gH y<=gH x/\(gH y=gH x->x=y):=by
 have h60:c.length<=60:=(de h0).len;cases hn:x.none with
 |true=>
  have ex:=(kl hn).1 hx;refine⟨by have:=CU h0 hy;unfold gH at this |-;rw[if_pos hn];exact this,λe=> ?_⟩;cases hm:y.none with
  |true=>rw[ex,(kl hm).1 hy]
  |false=>
   have:=wH h0 (cr hy hm);rw[e] at this;unfold gH at this;rw[if_pos hn] at this;omega
 |false=>
  have hm:=kj hi hn;have kx:=cr hx hn;have ky:=cr hy hm;have:=kx.vq;have:=ky.vq;have:=kx.fq;have:=ky.fq;obtain⟨a1,a2⟩:=(eF hn hm).1 hi;have b1:=ue iZ (a:=x.vq) (b:=y.vq) aa λi p q=>Cy h60 (kx.gv _ (gM _)) (ky.gv _ (gM _)) (a1 i p q);have b2:=ue oL (a:=x.fq) (b:=y.fq) aa λk p q=>by
   have:=kx.row k p;have:=ky.row k q;exact ue iZ aa λi r s=>Cy h60 (kx.gf k p _ (gM _)) (ky.gf k q _ (gM _)) (a2 k p q i r s)
  unfold gH oL KF;rw[if_neg (by rw[hm];decide),if_neg pJ];refine⟨by omega,λe=> ?_⟩;have e1:=b1.2 aa;have e2:=b2.2 aa;obtain⟨xn,xv,xf⟩:=x;obtain⟨yn,yv,yf⟩:=y;simp only at hn hm e1 e2;rw[hn,hm,e1,e2]
theorem Gz (h0:aw V F c=0)(hx:aK V F c x=0)(hy:aK V F c y=0)(hi:bG y x=false):gH (aG (am w) x y) < gH x:=by
 have hj:=tr (w:=w) hx hy;have h1:=Ls h0 hx hj (nd (w:=w) (de h0).len hx hy).1;have h2:aG (am w) x y≠x:=λe=>by rw[(lz h0 hx hy).1 e] at hi;cases hi
 rcases Nat.lt_or_eq_of_le h1.1 with h|h
 ·exact h
 ·exact absurd (h1.2 h).symm h2
end
def bm (l:List Pic)(p:Int):Pic:=l.getD p.toNat nonePic
def cY (n i tto:Int):Bool:=decide (4<=n)&&decide (tto<=i)
def bT (n i:Int)(s:List Pic×Bool)(e:Edg):List Pic×Bool:=
 if bG e.pic (bm s.1 e.tgt) then s else(s.1.set e.tgt.toNat (aG (am (cY n i e.tgt)) (bm s.1 e.tgt) e.pic),true)
def cN (c:lI)(i:Nat)(x:Pic):List Edg:=(aA (bK c i) i x).1
def dk (c:lI)(n:Int)(s:List Pic×Bool)(i:Nat):List Pic×Bool:=(cN c i (bm s.1 i)).foldl (bT n i) s
def dh (c:lI)(n:Int)(l:List Pic):List Pic×Bool:=(j3 c.length).foldl (dk c n) (l,false)
def cG (n i:Int)(s:List Pic×List Int×Bool)(e:Edg):List Pic×List Int×Bool:=
 if bG e.pic (bm s.1 e.tgt) then s else(s.1.set e.tgt.toNat (aG (am (cY n i e.tgt)) (bm s.1 e.tgt) e.pic),s.2.1.set e.tgt.toNat (if i < e.tgt then n else n+1),true)
def gx (c:lI)(n:Int)(s:List Pic×List Int×Bool)(i:Nat):List Pic×List Int×Bool:=if s.2.1.getD i 0=n then(cN c i (bm s.1 i)).foldl (cG n i) s else s
def eJ (c:lI)(n:Int)(s:List Pic×List Int):List Pic×List Int×Bool:=(j3 c.length).foldl (gx c n) (s.1,s.2,false)

structure XsOk (V F:Int) (c:lI) (l:List Pic):Prop where
 len:l.length=c.length+1
 ck:∀x∈l,aK V F c x=0
def fe (c:lI)(l:List Pic)(i:Nat):Prop:=∀e∈cN c i (bm l i),bG e.pic (bm l e.tgt)=true
def LeX (l l':List Pic):Prop:=l'.length=l.length/\∀p:Int,bG (bm l p) (bm l' p)=true
section
variable {V F:Int} {c:lI} {l l' l2:List Pic} {n:Int}
theorem fQ {k:Nat}(h:k < l.length):bm l (k:Int)=l[k]:=by unfold bm;simp[j4,h]
theorem XsOk.at (h:XsOk V F c l)(p:Int):aK V F c (bm l p)=0:=by
 unfold bm;by_cases hp:p.toNat < l.length
 ·simp only[j4,x4 hp,X2]
  exact h.ck _ (gM hp)
 ·simp only[j4,J4 (J3.1 hp),X4]
  rfl
theorem LeX.refl (h:XsOk V F c l):LeX l l:=⟨rfl,λp=>sG (h.at p)⟩
theorem LeX.trans (h:XsOk V F c l)(h':XsOk V F c l')(h2:XsOk V F c l2)(a:LeX l l')(b:LeX l' l2):LeX l l2:=⟨by rw[b.1,a.1],λp=>iM (h.at p) (h'.at p) (h2.at p) (a.2 p) (b.2 p)⟩
theorem kZ {p:Int}{q:Nat}{y:Pic}:bm (l.set q y) p=if q=p.toNat/\q < l.length then y else bm l p:=by
 unfold bm;simp only[j4,Qu];by_cases h:q=p.toNat
 ·by_cases hq:q < l.length
  ·rw[if_pos h,if_pos hq,if_pos ⟨h,hq⟩];rfl
  ·have hq':¬p.toNat < l.length:=by omega
   rw[if_pos h,if_neg hq,if_neg aa,J4 aa]
 ·rw[if_neg h,if_neg aa]
def gP (V F:Int)(c:lI)(e:Edg):Prop:=aK V F c e.pic=0/\0<=e.tgt/\e.tgt<=c.length
theorem iq (h0:aw V F c=0){x:Pic}(hx:aK V F c x=0){i:Nat}(hi:i < c.length):∀e∈cN c i x,gP V F c e:=λe he=>by
 have:=ET (de h0) hx (p:=(i:Int)) aa aa e he;exact⟨this.1,this.2.2.1,this.2.2.2⟩
theorem XsOk.put (h:XsOk V F c l){y:Pic}(hy:aK V F c y=0)(q:Nat):XsOk V F c (l.set q y):=⟨by rw[z7];exact h.len,λx hx=>by
 rcases Q2 hx with hx|rfl
 ·exact h.ck x hx
 ·exact hy⟩
theorem mz (h0:aw V F c=0){s:List Pic×Bool}{i:Int}{e:Edg}(h:XsOk V F c s.1)(he:gP V F c e):
  XsOk V F c (bT n i s e).1/\LeX s.1 (bT n i s e).1/\bG e.pic (bm (bT n i s e).1 e.tgt)=true/\((bT n i s e).2=false->s.2=false/\(bT n i s e).1=s.1)/\((bT n i s e).1=s.1/\(bT n i s e).2=s.2\/(bT n i s e).2=true/\gY (bT n i s e).1 < gY s.1):=by
 unfold bT;by_cases hi:bG e.pic (bm s.1 e.tgt)=true
 ·rw[if_pos hi]
  exact⟨h,LeX.refl h,hi,λhf=>⟨hf,rfl⟩,.inl ⟨rfl,rfl⟩⟩
 ·rw[if_neg hi]
  have hi':bG e.pic (bm s.1 e.tgt)=false:=d8;have hc:=h.at e.tgt;have hj:=tr (w:=cY n i e.tgt) hc he.1;have hin:=nd (w:=cY n i e.tgt) (de h0).len hc he.1;have hl:=h.len;have hq:e.tgt.toNat < s.1.length:=by have:=he.2;omega
  refine⟨h.put hj _,⟨ah,λp=> ?_⟩,?_,(λhf=>by cases hf),.inr ⟨rfl,?_⟩⟩
  ·rw[kZ]
   split
   ·rename_i hp
    have:bm s.1 p=bm s.1 e.tgt:=by unfold bm;rw[hp.1]
    rw[this];exact hin.1
   ·exact sG (h.at p)
  ·rw[kZ,if_pos ⟨rfl,hq⟩]
   exact hin.2
  ·have hp:=Gz (w:=cY n i e.tgt) h0 hc he.1 hi'
   have e1:bm s.1 e.tgt=s.1[e.tgt.toNat]:=by unfold bm;simp[j4,hq]
   refine CE gH hq ?_;rw[e1] at hp |-;exact hp
theorem yQ (h0:aw V F c=0)(h:XsOk V F c l)(h':XsOk V F c l')(hl:LeX l l'){i:Nat}(hi:i < c.length)(hs:fe c l i)(e:bm l' i=bm l i):fe c l' i:=by
 intro q hq;rw[e] at hq;exact iM (iq h0 (h.at _) hi q hq).1 (h.at _) (h'.at _) (hs q hq) (hl.2 _)
theorem oS (h0:aw V F c=0){i:Int}:∀{E:List Edg} {s:List Pic×Bool},XsOk V F c s.1->(∀e∈E,gP V F c e)->
  XsOk V F c (E.foldl (bT n i) s).1/\LeX s.1 (E.foldl (bT n i) s).1/\(∀e∈E,bG e.pic (bm (E.foldl (bT n i) s).1 e.tgt)=true)/\((E.foldl (bT n i) s).2=false->s.2=false/\(E.foldl (bT n i) s).1=s.1)/\((E.foldl (bT n i) s).1=s.1/\(E.foldl (bT n i) s).2=s.2\/(E.foldl (bT n i) s).2=true/\gY (E.foldl (bT n i) s).1 < gY s.1)
 |[],s,h,_=>⟨h,LeX.refl h,λe he=>by simp at he,λhf=>⟨hf,rfl⟩,.inl ⟨rfl,rfl⟩⟩
 |e::E,s,h,hE=>by
  have he:=hE e ah;obtain⟨a1,a2,a3,a4,a5⟩:=mz (n:=n) (i:=i) h0 h he;obtain⟨b1,b2,b3,b4,b5⟩:=oS h0 (i:=i) (E:=E) a1 λq hq=>hE q (by simp[hq]);rw[x6];refine⟨b1,LeX.trans h a1 b1 a2 b2,λq hq=> ?_,λhf=> ?_,?_⟩
  ·rcases j6.1 hq with rfl|hq
   ·exact iM he.1 (a1.at _) (b1.at _) a3 (b2.2 _)
   ·exact b3 q hq
  ·obtain⟨c1,c2⟩:=b4 hf
   obtain⟨d1,d2⟩:=a4 c1;exact⟨d1,by rw[c2,d2]⟩
  ·rcases b5 with⟨c1,c2⟩|⟨c1,c2⟩
   ·rcases a5 with⟨d1,d2⟩|⟨d1,d2⟩
    ·exact .inl ⟨by rw[c1,d1],by rw[c2,d2]⟩
    ·exact .inr ⟨by rw[c2,d1],by rw[c1];exact d2⟩
   ·rcases a5 with⟨d1,d2⟩|⟨d1,d2⟩
    ·exact .inr ⟨c1,by rw[<-d1];exact c2⟩
    ·exact .inr ⟨c1,Nat.lt_trans c2 d2⟩
theorem EI (h0:aw V F c=0){s:List Pic×Bool}(h:XsOk V F c s.1){i:Nat}(hi:i < c.length):
  XsOk V F c (dk c n s i).1/\LeX s.1 (dk c n s i).1/\((dk c n s i).2=false->s.2=false/\(dk c n s i).1=s.1/\fe c s.1 i)/\((dk c n s i).1=s.1/\(dk c n s i).2=s.2\/(dk c n s i).2=true/\gY (dk c n s i).1 < gY s.1):=by
 obtain⟨a1,a2,a3,a4,a5⟩:=oS (n:=n) (i:=(i:Int)) h0 h (iq h0 (h.at _) hi);refine⟨a1,a2,λhf=> ?_,a5⟩;obtain⟨b1,b2⟩:=a4 hf;exact⟨b1,b2,λe he=>by have:=a3 e he;rw[b2] at this;exact this⟩
theorem ox (h0:aw V F c=0):∀{k:Nat},k<=c.length->∀{s:List Pic×Bool},XsOk V F c s.1->
  XsOk V F c ((j3 k).foldl (dk c n) s).1/\LeX s.1 ((j3 k).foldl (dk c n) s).1/\(((j3 k).foldl (dk c n) s).2=false->s.2=false/\((j3 k).foldl (dk c n) s).1=s.1/\∀i,i < k->fe c s.1 i)/\(((j3 k).foldl (dk c n) s).1=s.1/\((j3 k).foldl (dk c n) s).2=s.2\/((j3 k).foldl (dk c n) s).2=true/\gY ((j3 k).foldl (dk c n) s).1 < gY s.1)
 |0,_,s,h=>⟨h,LeX.refl h,λhf=>⟨hf,rfl,λi hi=>absurd hi aa⟩,.inl ⟨rfl,rfl⟩⟩
 |k+1,hk,s,h=>by
  rw[Qv,X6,x6,X7];obtain⟨a1,a2,a3,a4⟩:=ox h0 (k:=k) aa h;obtain⟨b1,b2,b3,b4⟩:=EI (n:=n) h0 a1 (i:=k) aa;refine⟨b1,LeX.trans h a1 b1 a2 b2,λhf=> ?_,?_⟩
  ·obtain⟨c1,c2,c3⟩:=b3 hf
   obtain⟨d1,d2,d3⟩:=a3 c1;refine⟨d1,by rw[c2,d2],λi hi=> ?_⟩;by_cases e:i=k
   ·rw[e];rw[d2] at c3;exact c3
   ·exact d3 i aa
  ·rcases b4 with⟨c1,c2⟩|⟨c1,c2⟩
   ·rcases a4 with⟨d1,d2⟩|⟨d1,d2⟩
    ·exact .inl ⟨by rw[c1,d1],by rw[c2,d2]⟩
    ·exact .inr ⟨by rw[c2,d1],by rw[c1];exact d2⟩
   ·rcases a4 with⟨d1,d2⟩|⟨d1,d2⟩
    ·exact .inr ⟨c1,by rw[<-d1];exact c2⟩
    ·exact .inr ⟨c1,Nat.lt_trans c2 d2⟩
theorem iL (h0:aw V F c=0)(h:XsOk V F c l):
  XsOk V F c (dh c n l).1/\LeX l (dh c n l).1/\((dh c n l).2=false->(dh c n l).1=l/\∀i,i < c.length->fe c l i)/\((dh c n l).2=true->gY (dh c n l).1 < gY l):=by
 obtain⟨a1,a2,a3,a4⟩:=ox (n:=n) h0 (lR c.length) (s:=(l,false)) h;refine⟨a1,a2,λhf=>(a3 hf).2,λht=> ?_⟩;rcases a4 with⟨_,b⟩|⟨_,b⟩
 ·unfold dh at ht
  rw[b] at ht;cases ht
 ·exact b

structure Due (V F:Int) (c:lI) (n:Int) (i:Nat) (l:List Pic) (d:List Int):Prop where
 ok:XsOk V F c l
 len:d.length=c.length+1
 set:∀k,k < c.length->(if k < i then d.getD k 0≠n+1 else d.getD k 0≠n)->fe c l k
theorem wK {d:List Int}{q k:Nat}{y:Int}(hq:q < d.length):(d.set q y).getD k 0=if q=k then y else d.getD k 0:=by
 simp only[j4,Qu];by_cases h:q=k
 ·rw[if_pos h,if_pos hq,if_pos h];rfl
 ·rw[if_neg h,if_neg h]
structure DueIn (V F:Int) (c:lI) (n:Int) (i:Nat) (x:Pic) (P:List Edg) (s:List Pic×List Int×Bool):Prop where
 ok:XsOk V F c s.1
 len:s.2.1.length=c.length+1
 set:∀k,k < c.length->k≠i->(if k < i then s.2.1.getD k 0≠n+1 else s.2.1.getD k 0≠n)->fe c s.1 k
 own:s.2.1.getD i 0=n+1\/bm s.1 i=x
 past:∀e∈P,bG e.pic (bm s.1 e.tgt)=true
theorem mQ {i:Int}{s:List Pic×List Int×Bool}{e:Edg}:((cG n i s e).1,(cG n i s e).2.2)=bT n i (s.1,s.2.2) e:=by
 unfold cG bT;split<;>rfl
theorem rq {i:Int}:∀{E:List Edg} {s:List Pic×List Int×Bool},((E.foldl (cG n i) s).1,(E.foldl (cG n i) s).2.2)=E.foldl (bT n i) (s.1,s.2.2)
 |[],_=>rfl
 |e::E,s=>by rw[x6,x6,rq,mQ]
theorem DueIn.step (h0:aw V F c=0){i:Nat}(hi:i < c.length){x:Pic}{P:List Edg}{s:List Pic×List Int×Bool}(h:DueIn V F c n i x P s)(hP:∀e∈P,gP V F c e){e:Edg}(he:gP V F c e):DueIn V F c n i x (P++[e]) (cG n i s e):=by
 obtain⟨b1,b2,b3,-,-⟩:=mz (n:=n) (i:=(i:Int)) (s:=(s.1,s.2.2)) h0 h.ok he;have e1:(bT n i (s.1,s.2.2) e).1=(cG n i s e).1:=by rw[<-mQ]
 rw[e1] at b1 b2 b3;have hpast:∀q∈P++[e],bG q.pic (bm (cG n i s e).1 q.tgt)=true:=λq hq=>by
  rcases j7.1 hq with hq|hq
  ·exact iM (hP q hq).1 (h.ok.at _) (b1.at _) (h.past q hq) (b2.2 _)
  ·rw[j2.1 hq];exact b3
 by_cases hin:bG e.pic (bm s.1 e.tgt)=true
 ·have es:cG n i s e=s:=by unfold cG;rw[if_pos hin]
  rw[es] at hpast |-;exact⟨h.ok,h.len,h.set,h.own,hpast⟩
 ·have es:cG n i s e=(s.1.set e.tgt.toNat (aG (am (cY n i e.tgt)) (bm s.1 e.tgt) e.pic),s.2.1.set e.tgt.toNat (if (i:Int) < e.tgt then n else n+1),true):=by unfold cG;rw[if_neg hin]
  have hl:=h.len;have hq:e.tgt.toNat < s.2.1.length:=by have:=he.2;omega
  have hto:=he.2;rw[es] at b1 b2 hpast |-;refine⟨b1,by simpa using h.len,λk hk hne hd=> ?_,?_,hpast⟩
  ·simp only at hd |-
   rw[wK hq] at hd;by_cases ek:e.tgt.toNat=k
   ·rw[if_pos ek] at hd
    exfalso;by_cases hki:k < i
    ·rw[if_pos hki,if_neg aa] at hd
     exact hd rfl
    ·rw[if_neg hki,if_pos aa] at hd
     exact hd rfl
   ·rw[if_neg ek] at hd
    refine yQ h0 h.ok b1 b2 hk (h.set k hk hne hd) ?_;rw[kZ,if_neg aa]
  ·simp only
   rw[wK hq];by_cases ek:e.tgt.toNat=i
   ·left
    rw[if_pos ek,if_neg aa]
   ·rw[if_neg ek,kZ,if_neg aa]
    exact h.own
theorem DueIn.steps (h0:aw V F c=0){i:Nat}(hi:i < c.length){x:Pic}:∀{E P:List Edg} {s:List Pic×List Int×Bool},DueIn V F c n i x P s->(∀e∈P,gP V F c e)->(∀e∈E,gP V F c e)->DueIn V F c n i x (P++E) (E.foldl (cG n i) s)
 |[],P,s,h,_,_=>by rw[Qw];exact h
 |e::E,P,s,h,hP,hE=>by
  have h1:=h.step h0 hi hP (hE e ah);have h2:=DueIn.steps h0 hi (E:=E) h1 (λq hq=>by
   rcases j7.1 hq with hq|hq
   ·exact hP q hq
   ·rw[j2.1 hq];exact hE e ah) λq hq=>hE q (by simp[hq])
  rw[List.append_assoc] at h2;exact h2
theorem AD {s:List Pic×Bool}{i:Nat}(h:fe c s.1 i):dk c n s i=s:=by
 unfold dk;have:∀(E:List Edg),(∀e∈E,bG e.pic (bm s.1 e.tgt)=true)->E.foldl (bT n i) s=s:=by
  intro E;induction E with
  |nil=>exact λ_=>rfl
  |cons e E ih=>
   intro hE;rw[x6];have:bT n i s e=s:=by unfold bT;rw[if_pos (hE e (by simp))]
   rw[this];exact ih λq hq=>hE q (by simp[hq])
 exact this _ h
theorem Ff (h0:aw V F c=0){i:Nat}(hi:i < c.length){s:List Pic×List Int×Bool}(h:Due V F c n i s.1 s.2.1):Due V F c n (i+1) (gx c n s i).1 (gx c n s i).2.1/\((gx c n s i).1,(gx c n s i).2.2)=dk c n (s.1,s.2.2) i:=by
 unfold gx;by_cases hd:s.2.1.getD i 0=n
 ·rw[if_pos hd]
  refine⟨?_,rq⟩;have hE:=iq h0 (h.ok.at (i:Int)) hi;have h1:DueIn V F c n i (bm s.1 i) [] s:=⟨h.ok,h.len,λk hk _ hh=>h.set k hk hh,.inr rfl,λe he=>by simp at he⟩;have h2:=h1.steps h0 hi (λe he=>by simp at he) hE;rw[X9] at h2;refine⟨h2.ok,h2.len,λk hk hh=> ?_⟩;by_cases ek:k=i
  ·subst ek
   rw[if_pos aa] at hh;rcases h2.own with ho|ho
   ·exact absurd ho hh
   ·intro e he
    rw[ho] at he;exact h2.past e he
  ·refine h2.set k hk ek ?_
   by_cases hki:k < i
   ·rw[if_pos hki];rw[if_pos aa] at hh;exact hh
   ·rw[if_neg hki];rw[if_neg aa] at hh;exact hh
 ·rw[if_neg hd]
  have hs:fe c s.1 i:=h.set i hi (by rw[if_neg (by omega)];exact hd);refine⟨⟨h.ok,h.len,λk hk hh=> ?_⟩,(AD hs).symm⟩;by_cases ek:k=i
  ·rw[ek];exact hs
  ·refine h.set k hk ?_
   by_cases hki:k < i
   ·rw[if_pos hki];rw[if_pos aa] at hh;exact hh
   ·rw[if_neg hki];rw[if_neg aa] at hh;exact hh
theorem ri (h0:aw V F c=0):∀{k:Nat},k<=c.length->∀{s:List Pic×List Int×Bool},Due V F c n 0 s.1 s.2.1->Due V F c n k ((j3 k).foldl (gx c n) s).1 ((j3 k).foldl (gx c n) s).2.1/\(((j3 k).foldl (gx c n) s).1,((j3 k).foldl (gx c n) s).2.2)=(j3 k).foldl (dk c n) (s.1,s.2.2)
 |0,_,s,h=>⟨h,rfl⟩
 |k+1,hk,s,h=>by
  rw[Qv,X6,x6,X7,X6,x6,X7];obtain⟨a1,a2⟩:=ri h0 (k:=k) aa h;obtain⟨b1,b2⟩:=Ff h0 (i:=k) aa a1;exact⟨b1,by rw[b2,a2]⟩
theorem p9 (h0:aw V F c=0){d:List Int}(h:Due V F c n 0 l d):Due V F c (n+1) 0 (eJ c n (l,d)).1 (eJ c n (l,d)).2.1/\(eJ c n (l,d)).1=(dh c n l).1/\(eJ c n (l,d)).2.2=(dh c n l).2:=by
 obtain⟨a1,a2⟩:=ri h0 (lR c.length) (s:=(l,d,false)) h;refine⟨⟨a1.ok,a1.len,λk hk hh=> ?_⟩,congrArg Prod.fst a2,congrArg Prod.snd a2⟩;rw[if_neg aa] at hh;exact a1.set k hk (by rw[if_pos hk];exact hh)

def iV (V F:Int)(c:lI):List Pic:=bE V F c::j1 c.length nonePic
def aI (V F:Int)(c:lI):Nat->List Pic
 |0=>iV V F c
 |m+1=>(dh c ((m+1:Nat):Int) (aI V F c m)).1
def SolvedAt (V F:Int)(c:lI)(m:Nat):Prop:=(∀k,k < m->(dh c ((k+1:Nat):Int) (aI V F c k)).2=true)/\(dh c ((m+1:Nat):Int) (aI V F c m)).2=false
theorem SolvedAt.one {m m':Nat}(h:SolvedAt V F c m)(h':SolvedAt V F c m'):m=m':=by
 rcases Nat.lt_trichotomy m m' with e|e|e
 ·have:=h'.1 m e;rw[h.2] at this;cases this
 ·exact e
 ·have:=h.1 m' e;rw[h'.2] at this;cases this
theorem Bx (h0:aw V F c=0):PicOk V F c (bE V F c):=by
 have hp:=de h0;have h1:=hp.v1;have h2:=hp.f0;refine⟨rfl,by simp[bE];omega,by simp[bE],λk h=> ?_,λg hg=> ?_,λk h g hg=> ?_,λk h=>.inr λg hg=> ?_⟩
 ·simp[bE];omega
 ·rw[Q8 hg];rfl
 ·have hg':g∈j1 F.toNat noneG:=by simpa[bE] using hg
  rw[Q8 hg'];rfl
 ·have hg':g∈j1 F.toNat noneG:=by simpa[bE] using hg
  rw[Q8 hg'];rfl
theorem iR (h0:aw V F c=0):XsOk V F c (iV V F c):=⟨by simp[iV],λx hx=>by
 rcases j6.1 hx with rfl|hx
 ·exact(Bx h0).ck
 ·rw[Q8 hx];rfl⟩
theorem dD (h0:aw V F c=0):∀m,XsOk V F c (aI V F c m)
 |0=>iR h0
 |m+1=>(iL h0 (dD h0 m)).1
theorem oK (h0:aw V F c=0):∀m,LeX (iV V F c) (aI V F c m)
 |0=>LeX.refl (iR h0)
 |m+1=>LeX.trans (iR h0) (dD h0 m) (dD h0 (m+1)) (oK h0 m) (iL h0 (dD h0 m)).2.1
theorem Lb (h0:aw V F c=0)(h:XsOk V F c l):gY l<=200000000000000:=by
 obtain⟨G,hG⟩:∃G:Nat,G=2000000000000:=⟨_,rfl⟩;have h1:gY l<=l.length * G:=n8 gH G λx hx=>by rw[hG];exact CU h0 (h.ck x hx)
 have h2:=h.len;have h3:=(de h0).len;have h4:l.length<=61:=aa;have h5:l.length * G<=61 * G:=Q7 _ h4;omega
theorem kn (h0:aw V F c=0):∀{m:Nat},(∀k,k < m->(dh c ((k+1:Nat):Int) (aI V F c k)).2=true)->m+gY (aI V F c m)<=200000000000000
 |0,_=>by have:=Lb h0 (iR h0);simp only[aI];omega
 |m+1,h=>by
  have h1:=kn h0 (m:=m) λk hk=>h k aa;have h2:=(iL (n:=((m+1:Nat):Int)) h0 (dD h0 m)).2.2.2 (h m aa);have h3:gY (aI V F c (m+1)) < gY (aI V F c m):=h2;omega
def Hd (c:lI):List Int:=1::j1 c.length 0
theorem Ee (h0:aw V F c=0):Due V F c 1 0 (iV V F c) (Hd c):=by
 refine⟨iR h0,by simp[Hd],λk hk hd=> ?_⟩;rw[if_neg aa] at hd;cases k with
 |zero=>exact absurd rfl hd
 |succ k=>
  intro e he;have:bm (iV V F c) ((k+1:Nat):Int)=nonePic:=by
   rw[fQ (by simp[iV];omega)];simp[iV]
  rw[this] at he;simp[cN,aA,nonePic] at he
def Em (V F:Int)(c:lI)(l:List Pic):Bool:=bG (bE V F c) (bm l 0)&&(j3 c.length).all λi=>(cN c i (bm l i)).all λe=>bG e.pic (bm l e.tgt)
theorem fitsX_iff:Em V F c l=true↔bG (bE V F c) (bm l 0)=true/\∀i,i < c.length->fe c l i:=by
 unfold Em fe;simp[X1]
theorem ru (h0:aw V F c=0){m:Nat}(h:SolvedAt V F c m):aI V F c (m+1)=aI V F c m/\Em V F c (aI V F c m)=true:=by
 have h1:=(iL (n:=((m+1:Nat):Int)) h0 (dD h0 m)).2.2.1 h.2;refine⟨h1.1,fitsX_iff.2 ⟨?_,h1.2⟩⟩;have:=(oK h0 m).2 0;exact this
end
theorem rj (i:Ins)(at_:Int)(x:Pic):(aA i at_ x).1.length<=2:=by
 unfold aA;repeat' split
 all_goals simp
 all_goals (repeat' split)
 all_goals simp
end
section
open Go.RowKit
theorem vj (q:Nat)(p:Int->Bool)(ss:oA)(cap:Nat)(l:List Int)(w:World)(hl:l.length<=9223372036854775807)(hs:IntsAt w ss l)
  (hF:∀x wx,bl w wx->Calls pG 199 #[I Y x,Pp (sO ⟨q,0,nO⟩)] wx λe w'=>e=Rt (Bb (p x))/\bl wx w'):
  Calls pG 227 #[U ss l.length cap,.func (.func 199) #[] #[Pp (sO ⟨q,0,nO⟩)]] w λe w'=>∃n:Int,e=Rt (I Y n)/\decide (0<=n)=l.any p/\bl w w':=by
 have HF:=ae hF;clear hF;go_enter Tryz.func227,Tryz.ntmps227;go_wp2;go_loopw [8] (λi wr=>∃k:Nat,k<=l.length/\i=I Y k/\bl w wr/\Hid (l.any p=(l.drop k).any p)) (λi _=>l.length - (intOf i).toNat)
 case atStart=>exact⟨0,z9 _,rfl,bR _ _,rfl⟩
 case round=>
  obtain⟨k,hk,rfl,hbr,HA⟩:=hrel;by_cases hlt:k < l.length
  ·obtain⟨b,off,rfl,hb,hc⟩:=hs.get k hlt
   have n0:(0:Int)<=(k:Int):=aa;have n1:(k:Int) < (l.length:Int):=aa;have s0:=hbr.size;have c0:wr.cell? ⟨b,off+k,nO⟩=sO (I Y l[k]):=uO;have HN:Hid ((l.drop k).any p=(p l[k]||(l.drop (k+1)).any p)):=iD l p k hlt;clear hc hs;go_wp2_with fail;refine(HF.out _ _ hbr).mono ?_;rintro e w1 ⟨rfl,hb1⟩;cases hp:p l[k] with
   |true=>
    have HT:Hid (l.any p=true):=fI;clear HN HA;go_wp2;go_ret;exact⟨_,rfl,iH,hbr.trans (hb1.mono s0)⟩
   |false=>
    have HT:Hid (l.any p=(l.drop (k+1)).any p):=fI;clear HN HA;go_wp2;go_roundw
    case rel=>exact⟨k+1,aa,aJ,hbr.trans (hb1.mono s0),HT⟩
    case measure=>simp[intOf];omega
  ·go_wp2
   go_ret;exact⟨_,rfl,ia,hbr⟩

theorem cH (q:Nat)(p:Int->Bool)(ss:oA)(cap:Nat)(l:List Int)(w:World)(hl:l.length<=9223372036854775807)(hs:IntsAt w ss l)
  (hF:∀x wx,bl w wx->Calls pG 199 #[I Y x,Pp (sO ⟨q,0,nO⟩)] wx λe w'=>e=Rt (Bb (p x))/\bl wx w'):
  Calls pG 200 #[U ss l.length cap,.func (.func 199) #[] #[Pp (sO ⟨q,0,nO⟩)]] w λe w'=>e=Rt (Bb (l.any p))/\bl w w':=by
 have HF:=ae hF;clear hF;go_enter Tryz.func200,Tryz.ntmps200;go_wp2_with fail;refine(vj q p ss cap l _ hl hs HF.out).mono ?_;rintro e w1 ⟨n,rfl,hn,hb1⟩;go_wp2;go_ret;exact⟨rfl,hb1⟩
theorem rJ (q:Nat)(p:Int->Bool)(ss:oA)(cap:Nat)(l:List Int)(w:World)(hl:l.length<=9223372036854775807)(hs:IntsAt w ss l)
  (hF:∀x wx,bl w wx->Calls pG 234 #[I Y x,Pp (sO ⟨q,0,nO⟩)] wx λe w'=>e=Rt (Bb (p x))/\bl wx w'):
  Calls pG 227 #[U ss l.length cap,.func (.func 234) #[] #[Pp (sO ⟨q,0,nO⟩)]] w λe w'=>∃n:Int,e=Rt (I Y n)/\decide (0<=n)=l.any p/\bl w w':=by
 have HF:=ae hF;clear hF;go_enter Tryz.func227,Tryz.ntmps227;go_wp2;go_loopw [8] (λi wr=>∃k:Nat,k<=l.length/\i=I Y k/\bl w wr/\Hid (l.any p=(l.drop k).any p)) (λi _=>l.length - (intOf i).toNat)
 case atStart=>exact⟨0,z9 _,rfl,bR _ _,rfl⟩
 case round=>
  obtain⟨k,hk,rfl,hbr,HA⟩:=hrel;by_cases hlt:k < l.length
  ·obtain⟨b,off,rfl,hb,hc⟩:=hs.get k hlt
   have n0:(0:Int)<=(k:Int):=aa;have n1:(k:Int) < (l.length:Int):=aa;have s0:=hbr.size;have c0:wr.cell? ⟨b,off+k,nO⟩=sO (I Y l[k]):=uO;have HN:Hid ((l.drop k).any p=(p l[k]||(l.drop (k+1)).any p)):=iD l p k hlt;clear hc hs;go_wp2_with fail;refine(HF.out _ _ hbr).mono ?_;rintro e w1 ⟨rfl,hb1⟩;cases hp:p l[k] with
   |true=>
    have HT:Hid (l.any p=true):=fI;clear HN HA;go_wp2;go_ret;exact⟨_,rfl,iH,hbr.trans (hb1.mono s0)⟩
   |false=>
    have HT:Hid (l.any p=(l.drop (k+1)).any p):=fI;clear HN HA;go_wp2;go_roundw
    case rel=>exact⟨k+1,aa,aJ,hbr.trans (hb1.mono s0),HT⟩
    case measure=>simp[intOf];omega
  ·go_wp2
   go_ret;exact⟨_,rfl,ia,hbr⟩

theorem cq (q:Nat)(p:Int->Bool)(ss:oA)(cap:Nat)(l:List Int)(w:World)(hl:l.length<=9223372036854775807)(hs:IntsAt w ss l)
  (hF:∀x wx,bl w wx->Calls pG 234 #[I Y x,Pp (sO ⟨q,0,nO⟩)] wx λe w'=>e=Rt (Bb (p x))/\bl wx w'):
  Calls pG 200 #[U ss l.length cap,.func (.func 234) #[] #[Pp (sO ⟨q,0,nO⟩)]] w λe w'=>e=Rt (Bb (l.any p))/\bl w w':=by
 have HF:=ae hF;clear hF;go_enter Tryz.func200,Tryz.ntmps200;go_wp2_with fail;refine(rJ q p ss cap l _ hl hs HF.out).mono ?_;rintro e w1 ⟨n,rfl,hn,hb1⟩;go_wp2;go_ret;exact⟨rfl,hb1⟩
def bW (w:World)(b k:Nat)(x':Gc):World:=(((((((w.setCell ⟨b,k * 7,nO⟩ (Bb x'.g.n)).setCell ⟨b,k * 7+1,nO⟩ (Bb x'.g.sp.n)).setCell ⟨b,k * 7+2,nO⟩ (I Y x'.g.sp.lo)).setCell ⟨b,k * 7+3,nO⟩ (I Y x'.g.sp.hi)).setCell ⟨b,k * 7+4,nO⟩ (Bb x'.g.t)).setCell ⟨b,k * 7+5,nO⟩ (Bb x'.g.f)).setCell ⟨b,k * 7+6,nO⟩ (U x'.ss x'.g.s.length x'.cap))
section
variable {T:Nat->Prop} {B:Nat} {w w':World} {v:Ro} {fs:oA} {fc:Nat} {L:List Ro}
theorem Off.same {v v':Ro}{fb:Option Nat}{L:List Ro}{b:Nat}(hv:roB v'=roB v):Off v' fb L b↔Off v fb L b:=by unfold Off;rw[hv]
theorem go {v:Ro}{l:List Gc}(h:l.length=v.l.length):roB ⟨v.rs,v.rc,l⟩=roB v:=by unfold roB roV;rw[h]
theorem PicG.cellV (h:PicG T B w v fs fc L){b:Nat}(hb:v.rs=sO ⟨b,0,nO⟩){k:Nat}(hk:k < v.l.length){y z:Gc}(hy:PicG T B w' ⟨v.rs,v.rc,v.l.set k y⟩ fs fc L){j:Nat}{u:Value}(hj:j < 7)(hx:bp z=(bp y).set j u)(hg:bQ (λb=>T b/\Off v (j0 fs L.length fc).ownBlock L b) w' z):
  PicG T B (w'.setCell ⟨b,k * 7+j,nO⟩ u) ⟨v.rs,v.rc,v.l.set k z⟩ fs fc L:=by
 have h1:=PicG.putV hy hb (k:=k) (j:=j) (u:=u) (x':=z) fH hj (by simpa using hx) ⟨hg.1.mono λq hq _=>⟨hq.1,(Off.same (go ah)).2 hq.2⟩,hg.2⟩;simpa[Qx] using h1
theorem aH {S:Nat->Prop}{x:Gc}{b:Nat}{o:Nat}{u:Value}(h:bQ S w x)(hs:¬S b):bQ S (w.setCell ⟨b,o,nO⟩ u) x:=rP h λq hq e=>hs (by have e':q=b:=e;rw[<-e'];exact hq)
theorem PicG.setV (h:PicG T B w v fs fc L){b:Nat}(hb:v.rs=sO ⟨b,0,nO⟩){k:Nat}(hk:k < v.l.length){x':Gc}(hg:bQ (λb=>T b/\Off v (j0 fs L.length fc).ownBlock L b) w x'):PicG T B (bW w b k x') ⟨v.rs,v.rc,v.l.set k x'⟩ fs fc L:=by
 have eb:roB v=sO b:=kF;have nb:¬(λq=>T q/\Off v (j0 fs L.length fc).ownBlock L q) b:=λq=>q.2.1 eb;obtain⟨y,ey⟩:∃y,y=v.l[k]:=⟨_,rfl⟩;have gy:bQ (λb=>T b/\Off v (j0 fs L.length fc).ownBlock L b) w y:=by rw[ey];exact h.sv _ (gM hk)
 have h0:PicG T B w ⟨v.rs,v.rc,v.l.set k y⟩ fs fc L:=by rw[ey,x8];exact h
 unfold bW;have h1:=h.cellV hb hk h0 (j:=0) (u:=Bb x'.g.n) (z:=⟨⟨x'.g.n,y.g.sp,y.g.t,y.g.f,y.g.s⟩,y.ss,y.cap⟩) aa br gy;have h2:=h.cellV hb hk h1 (j:=1) (u:=Bb x'.g.sp.n) (z:=⟨⟨x'.g.n,⟨x'.g.sp.n,y.g.sp.lo,y.g.sp.hi⟩,y.g.t,y.g.f,y.g.s⟩,y.ss,y.cap⟩) aa br (aH gy nb);have h3:=h.cellV hb hk h2 (j:=2) (u:=I Y x'.g.sp.lo) (z:=⟨⟨x'.g.n,⟨x'.g.sp.n,x'.g.sp.lo,y.g.sp.hi⟩,y.g.t,y.g.f,y.g.s⟩,y.ss,y.cap⟩) aa br (aH (aH gy nb) nb);have h4:=h.cellV hb hk h3 (j:=3) (u:=I Y x'.g.sp.hi) (z:=⟨⟨x'.g.n,⟨x'.g.sp.n,x'.g.sp.lo,x'.g.sp.hi⟩,y.g.t,y.g.f,y.g.s⟩,y.ss,y.cap⟩) aa br (aH (aH (aH gy nb) nb) nb);have h5:=h.cellV hb hk h4 (j:=4) (u:=Bb x'.g.t) (z:=⟨⟨x'.g.n,⟨x'.g.sp.n,x'.g.sp.lo,x'.g.sp.hi⟩,x'.g.t,y.g.f,y.g.s⟩,y.ss,y.cap⟩) aa br (aH (aH (aH (aH gy nb) nb) nb) nb);have h6:=h.cellV hb hk h5 (j:=5) (u:=Bb x'.g.f) (z:=⟨⟨x'.g.n,⟨x'.g.sp.n,x'.g.sp.lo,x'.g.sp.hi⟩,x'.g.t,x'.g.f,y.g.s⟩,y.ss,y.cap⟩) aa br (aH (aH (aH (aH (aH gy nb) nb) nb) nb) nb);have h7:=h.cellV hb hk h6 (j:=6) (u:=U x'.ss x'.g.s.length x'.cap) (z:=x') aa br (aH (aH (aH (aH (aH (aH hg nb) nb) nb) nb) nb) nb);exact h7
theorem PicG.cellF (h:PicG T B w v fs fc L){s:Nat}(hs:s < L.length){b:Nat}(hb:L[s].rs=sO ⟨b,0,nO⟩){k:Nat}(hk:k < L[s].l.length){y z:Gc}(hy:PicG T B w' v fs fc (L.set s ⟨L[s].rs,L[s].rc,L[s].l.set k y⟩)){j:Nat}{u:Value}(hj:j < 7)(hx:bp z=(bp y).set j u)(hg:bQ (λb=>T b/\Off v (j0 fs L.length fc).ownBlock L b) w' z):
  PicG T B (w'.setCell ⟨b,k * 7+j,nO⟩ u) v fs fc (L.set s ⟨L[s].rs,L[s].rc,L[s].l.set k z⟩):=by
 have eL:∀q,(∀r∈L.set s ⟨L[s].rs,L[s].rc,L[s].l.set k y⟩,roB r≠sO q)↔∀r∈L,roB r≠sO q:=λq=>by
  have e1:(L.set s ⟨L[s].rs,L[s].rc,L[s].l.set k y⟩).map roB=L.map roB:=by
   rw[Z7,go (v:=L[s]) ah,<-J9 (f:=roB) (h:=by simpa using hs),x8]
  have e2:∀M:List Ro,(∀r∈M,roB r≠sO q)↔∀o∈M.map roB,o≠sO q:=λM=>by simp only[x7,forall_exists_index,and_imp,forall_apply_eq_imp_iff₂]
  rw[e2,e1,<-e2]
 have h1:=PicG.putF hy (s:=s) (by simpa using hs) (b:=b) (by simpa using hb) (k:=k) (j:=j) (u:=u) (x':=z) fH hj (by simpa using hx) ⟨hg.1.mono λq hq _=>⟨hq.1,hq.2.1,by rw[z7];exact hq.2.2.1,(eL q).2 hq.2.2.2⟩,hg.2⟩;simpa[Qx] using h1
theorem PicG.setF (h:PicG T B w v fs fc L){s:Nat}(hs:s < L.length){b:Nat}(hb:L[s].rs=sO ⟨b,0,nO⟩){k:Nat}(hk:k < L[s].l.length){x':Gc}(hg:bQ (λb=>T b/\Off v (j0 fs L.length fc).ownBlock L b) w x'):PicG T B (bW w b k x') v fs fc (L.set s ⟨L[s].rs,L[s].rc,L[s].l.set k x'⟩):=by
 have hm:=gM hs;have eb:roB L[s]=sO b:=kF;have nb:¬(λq=>T q/\Off v (j0 fs L.length fc).ownBlock L q) b:=λq=>q.2.2.2 _ hm eb;obtain⟨y,ey⟩:∃y,y=L[s].l[k]:=⟨_,rfl⟩;have gy:bQ (λb=>T b/\Off v (j0 fs L.length fc).ownBlock L b) w y:=by rw[ey];exact h.sf _ hm _ (gM hk)
 have h0:PicG T B w v fs fc (L.set s ⟨L[s].rs,L[s].rc,L[s].l.set k y⟩):=by
  rw[ey,x8];have:(⟨L[s].rs,L[s].rc,L[s].l⟩:Ro)=L[s]:=rfl;rw[this,x8];exact h
 unfold bW;have h1:=h.cellF hs hb hk h0 (j:=0) (u:=Bb x'.g.n) (z:=⟨⟨x'.g.n,y.g.sp,y.g.t,y.g.f,y.g.s⟩,y.ss,y.cap⟩) aa br gy;have h2:=h.cellF hs hb hk h1 (j:=1) (u:=Bb x'.g.sp.n) (z:=⟨⟨x'.g.n,⟨x'.g.sp.n,y.g.sp.lo,y.g.sp.hi⟩,y.g.t,y.g.f,y.g.s⟩,y.ss,y.cap⟩) aa br (aH gy nb);have h3:=h.cellF hs hb hk h2 (j:=2) (u:=I Y x'.g.sp.lo) (z:=⟨⟨x'.g.n,⟨x'.g.sp.n,x'.g.sp.lo,y.g.sp.hi⟩,y.g.t,y.g.f,y.g.s⟩,y.ss,y.cap⟩) aa br (aH (aH gy nb) nb);have h4:=h.cellF hs hb hk h3 (j:=3) (u:=I Y x'.g.sp.hi) (z:=⟨⟨x'.g.n,⟨x'.g.sp.n,x'.g.sp.lo,x'.g.sp.hi⟩,y.g.t,y.g.f,y.g.s⟩,y.ss,y.cap⟩) aa br (aH (aH (aH gy nb) nb) nb);have h5:=h.cellF hs hb hk h4 (j:=4) (u:=Bb x'.g.t) (z:=⟨⟨x'.g.n,⟨x'.g.sp.n,x'.g.sp.lo,x'.g.sp.hi⟩,x'.g.t,y.g.f,y.g.s⟩,y.ss,y.cap⟩) aa br (aH (aH (aH (aH gy nb) nb) nb) nb);have h6:=h.cellF hs hb hk h5 (j:=5) (u:=Bb x'.g.f) (z:=⟨⟨x'.g.n,⟨x'.g.sp.n,x'.g.sp.lo,x'.g.sp.hi⟩,x'.g.t,x'.g.f,y.g.s⟩,y.ss,y.cap⟩) aa br (aH (aH (aH (aH (aH gy nb) nb) nb) nb) nb);have h7:=h.cellF hs hb hk h6 (j:=6) (u:=U x'.ss x'.g.s.length x'.cap) (z:=x') aa br (aH (aH (aH (aH (aH (aH hg nb) nb) nb) nb) nb) nb);exact h7
theorem cX {b k q:Nat}{x':Gc}(h:q≠b):(bW w b k x').heap[q]? =w.heap[q]? :=by
 unfold bW;rw[hSe _ _ _ _ h,hSe _ _ _ _ h,hSe _ _ _ _ h,hSe _ _ _ _ h,hSe _ _ _ _ h,hSe _ _ _ _ h,hSe _ _ _ _ h]
theorem g7 {b k:Nat}{x':Gc}:(bW w b k x').heap.size=w.heap.size:=by simp[bW,Q0]
theorem da {A:Nat}{w0:World}{b k:Nat}{x':Gc}(h:Below A w0 w)(hb:A<=b):Below A w0 (bW w b k x'):=by
 unfold bW;exact((((((h.setCell hb _).setCell hb _).setCell hb _).setCell hb _).setCell hb _).setCell hb _).setCell hb _
end
end
section
open Go.RowKit
attribute [local go_sem ↓] Go.wp_at_zero Go.wp_at_succ
theorem Dv (n:Nat)(x:Gc):(aP (j1 n x)).length=n * 7:=by rw[kS,List.length_replicate]
theorem rE (a b:Nat)(x:Gc):aP (j1 a x)++aP (j1 b x)=aP (j1 (a+b) x):=by rw[<-ir,List.replicate_append_replicate]
theorem rk (m n:Nat)(x:Gc)(h:m<=n)(j:Nat)(u:Value)(hj:(aP (j1 m x))[j]? =sO u):(aP (j1 n x))[j]? =sO u:=by
 obtain⟨d,rfl⟩:∃d,n=m+d:=⟨n - m,aa⟩;rw[<-rE,Z0 (Z1.1 hj).1];exact hj
theorem yC (l:List Gc):∀u∈aP l,u.oneCell'=true:=by
 intro u hu;obtain⟨x,hx,hu⟩:=Qf.1 hu;exact dj x u hu
def Filled (w:World)(b n k:Nat)(x:Gc):Prop:=k<=n/\∃cs:List Value,w.heap[b]? =sO (Cc cs.toArray 91 (0,0))/\cs.length=n * 7/\cs.take (k * 7)=aP (j1 k x)
theorem Filled.lt {w:World}{b n k:Nat}{x:Gc}(h:Filled w b n k x):b < w.heap.size:=by
 obtain⟨_,cs,h1,_⟩:=h;exact(z8.1 h1).1
theorem Filled.copy {P:Program}{w:World}{b n k:Nat}{x:Gc}(h:Filled w b n k x)(dT ty:TypeId)(a:Addr)(sLen sCap dCap m:Nat)(hu:P.underlying dT=sO (.slice 91))(hs:(P.info? 91).map (·.size)=sO 7)(hm:m=q0 sLen (n - k))
  (hsrc:∀j v,(aP (j1 m x))[j]? =sO v->w.cell? (a.add j)=sO v):
  ∃w',(Builtin.copy_ #[dT,dT] ty #[U (sO ⟨b,k * 7,nO⟩) (n - k) dCap,U (sO a) sLen sCap]).run P w=.ok (goInt m) w'/\Filled w' b n (k+m) x/\∀B w0,B<=b->Below B w0 w->Below B w0 w':=by
 obtain⟨hk,cs,h1,h2,h3⟩:=h;have hmn:m<=n - k:=by rw[hm];exact X8 _ _
 have hl:(aP (j1 m x)).length=m * 7:=Dv m x;have hfit:k * 7+m * 7<=n * 7:=aa;refine⟨w.setRow b (cs.take (k * 7)++aP (j1 m x)++cs.drop (k * 7+(aP (j1 m x)).length)).toArray,?_,?_,λB w0 hB hb=>below_setRow hb hB _⟩
 ·have e:=yB w dT dT ty 91 b (k * 7) (n - k) dCap a sLen sCap 7 cs.toArray 91 (aP (j1 m x)) hu hs h1 (by rw[hl,hm]) hsrc (by rw[hl];simpa[h2] using hfit) (yC _)
  rw[<-hm] at e;exact e
 ·refine⟨by omega,cs.take (k * 7)++aP (j1 m x)++cs.drop (k * 7+(aP (j1 m x)).length),?_,?_,?_⟩
  ·exact setRow_heap w b cs.toArray _ _ _ h1
  ·simp only[x3,List.length_take,List.length_drop,hl,h2]
   omega
  ·rw[h3,rE]
   exact List.take_left' (by rw[Dv])
theorem Filled.gets {w:World}{b n:Nat}{g:Gs}(hs:g.s=[])(h:Filled w b n n ⟨g,nO,0⟩):GsIn (λk=>k=b) w (sO ⟨b,0,nO⟩) (j1 n g):=by
 have hz:=h.lt;obtain⟨_,cs,h1,h2,h3⟩:=h;rw[List.take_of_length_le aa] at h3;subst h3;intro i hi;have hin:i < n:=d8;have hc:∀j,j < 7->w.cell? ⟨b,i * 7+j,nO⟩=(bp ⟨g,nO,0⟩)[j]? :=λj hj=>by
  have e:=dU (j1 n (⟨g,nO,0⟩:Gc)) i (by simpa using hin) j hj;rw[Qy] at e;rw[<-e];simp[Z4,h1]
 refine⟨b,0,rfl,rfl,nO,0,⟨?_,hz⟩,.inl (by simp[hs]),by simp[hs],dg⟩;simp only[Qy,j5];exact⟨hc 0 aa,hc 1 aa,hc 2 aa,hc 3 aa,hc 4 aa,hc 5 aa,hc 6 aa⟩
theorem Cb (g:Gs)(hs0:g.s=[])(n:Nat)(h8:n<=8)(b:Nat)(w:World)(hg:GuAt w b 0 g nO 0):
  Calls pG 129 #[U (sO ⟨b,0,nO⟩) 1 1,I Y (n:Int)] w λe w'=>(∃rs,e=Rt (U rs n n)/\GsIn (λb=>w.heap.size<=b) w' rs (j1 n g))/\bl w w':=by
 obtain⟨ti,hi,hz0,hz1,hz2⟩:=info_parts Tryz.info_guess;have HMU:Hid (Calls pG 187 #[.int .u64 1,.int .u64 (n:Int)] w λe w'=>e=Rt (Tu #[.int .u64 0,.int .u64 (n:Int)])/\w'=w):=by
  refine(Tryz.bits_Mul 1 n aa aa w).mono ?_;rintro e w1 ⟨rfl,rfl⟩;refine⟨?_,rfl⟩;have e1:1 * n / 18446744073709551616=0:=aa;have e2:1 * n % 18446744073709551616=n:=aa;rw[e1,e2];rfl
 have HMK:=run_makeSlice (P:=pG) w 25 91 ti (Ag #[Bb false,Bb false,I Y 0,I Y 0,Bb false,Bb false,U nO 0 0]) Tryz.underlying25 hi hz0 .i64 .i64 (n:Int) (n:Int) aa (Int.le_refl _) (by rw[hz1];omega) (by rw[hz2];omega) aa;rw[Int.toNat_natCast,hz1] at HMK;have F0:Filled (w.alloc (Cc (madeCells (J5 (Ag #[Bb false,Bb false,I Y 0,I Y 0,Bb false,Bb false,U nO 0 0])) (n * 7)) 91)) w.heap.size n 0 ⟨g,nO,0⟩:=by
  refine⟨z9 _,(madeCells (J5 (Ag #[Bb false,Bb false,I Y 0,I Y 0,Bb false,Bb false,U nO 0 0])) (n * 7)).toList,heap_alloc_new _ _,by simp[size_madeCells],by simp[aP]⟩
 have hb0:Below w.heap.size w (w.alloc (Cc (madeCells (J5 (Ag #[Bb false,Bb false,I Y 0,I Y 0,Bb false,Bb false,U nO 0 0])) (n * 7)) 91)):=ai;have G0:=hg.alloc (Cc (madeCells (J5 (Ag #[Bb false,Bb false,I Y 0,I Y 0,Bb false,Bb false,U nO 0 0])) (n * 7)) 91);have hns:¬(n:Int) < 0:=aa;have N1:(n:Int)<=9223372036854775807:=aa;obtain⟨w2,HR,F2,HB2⟩:=F0.copy (P:=pG) 25 3 ⟨b,0,nO⟩ 1 1 n (q0 1 n) Tryz.underlying25 (by rw[hi];exact congrArg sO hz1) ah (λj v hj=>by
  have hj':=rk (q0 1 n) 1 ⟨g,nO,0⟩ (Qz _ _) j v hj;have e1:aP (j1 1 (⟨g,nO,0⟩:Gc))=bp ⟨g,nO,0⟩:=by simp[aP]
  rw[e1] at hj';obtain⟨⟨g0,g1,g2,g3,g4,g5,g6⟩,-⟩:=G0;rw[Addr.add_lit];have hj7:j < 7:=by have:=(Z1.1 hj').1;rwa [dO] at this
  rw[<-hj'];rcases (show j=0\/j=1\/j=2\/j=3\/j=4\/j=5\/j=6 by omega) with rfl|rfl|rfl|rfl|rfl|rfl|rfl
  ·exact g0
  ·exact g1
  ·exact g2
  ·exact g3
  ·exact g4
  ·exact g5
  ·exact g6)
 have hb2:=HB2 w.heap.size w (lR _) hb0;simp only[J7,Nat.sub_zero,j5] at HR F2;clear HB2 F0 hb0 G0;generalize w.alloc (Cc (madeCells (J5 (Ag #[Bb false,Bb false,I Y 0,I Y 0,Bb false,Bb false,U nO 0 0])) (n * 7)) 91)=wA at *;have HNM:n<=1->q0 1 n=n:=λh=>Nat.min_eq_right h;have HM1:q0 1 n<=n:=X8 _ _;have HM2:1<=n->q0 1 n=1:=λh=>Nat.min_eq_left h;have m0:n=0\/1<=q0 1 n:=by by_cases h:n=0;exact .inl h;exact .inr (by rw[HM2 (by omega)];exact lR _)
 clear HNM HM2;generalize q0 1 n=m at *;go_enter Tryz.func129,Tryz.ntmps129;go_wp2_with fail;refine HMU.out.mono ?_;rintro e w1 ⟨rfl,rfl⟩;clear HMU;go_wp2;clear HR HMK;go_loopw [8] (λi wr=>∃k:Nat,k<=n/\(n=0\/1<=k)/\i=I Y (k:Int)/\Filled wr w1.heap.size n k ⟨g,nO,0⟩/\bl w1 wr) (λi _=>n - (intOf i).toNat)
 case atStart=>exact⟨m,HM1,m0,rfl,F2,hb2⟩
 case round=>
  clear F2 hb2 HM1 m0;obtain⟨k,hk,hk0,rfl,FK,BK⟩:=hrel;have FD:Filled wr.drew w1.heap.size n k ⟨g,nO,0⟩:=FK;have BD:=BK.drew;by_cases hlt:k < n
  ·have hk1:1<=k:=by omega
   have n0:(0:Int)<=(k:Int):=aa;have n1:(k:Int) < (n:Int):=aa;have n2:(k:Int)<=(n:Int):=aa;obtain⟨w3,HR,F3,HB3⟩:=FD.copy (P:=pG) 25 3 ⟨w1.heap.size,0,nO⟩ k n (n - k) (q0 k (n - k)) Tryz.underlying25 (by rw[hi];exact congrArg sO hz1) rfl (λj v hj=>by
    obtain⟨_,cs,c1,c2,c3⟩:=FD;have hj':=rk (q0 k (n - k)) k ⟨g,nO,0⟩ (Qz _ _) j v hj;rw[<-c3,List.getElem?_take] at hj';split at hj'
    ·rw[Addr.add_lit,j5]
     simp[Z4,c1,hj']
    ·cases hj')
   have B3:=HB3 w1.heap.size w1 (lR _) BD;have hm1:1<=q0 k (n - k):=Nat.le_min.2 ⟨hk1,aa⟩;have hm2:q0 k (n - k)<=n - k:=X8 _ _;have HR':=ae HR;clear HR HB3 FK BK FD BD;generalize q0 k (n - k)=q at *;have HS1:∀wx,(Instr.sliceAt 25 (U (sO ⟨w1.heap.size,0,nO⟩) n n) (sO (I Y (k:Int))) nO nO).run pG wx=.ok (U (sO ⟨w1.heap.size,k * 7,nO⟩) (n - k) (n - k)) wx:=by
    intro wx;simp[go_sem];rw[if_pos aa,if_neg aa]
   have HS2:∀wx,(Instr.sliceAt 25 (U (sO ⟨w1.heap.size,0,nO⟩) n n) nO (sO (I Y (k:Int))) nO).run pG wx=.ok (U (sO ⟨w1.heap.size,0,nO⟩) k n) wx:=by
    intro wx;simp[go_sem];intro h;omega
   go_upto_region 9 with fail
   refine aD (S:=λ_=>True) [] ag trivial (λhHeld=> ?_);refine vZ 0 ?_ ?_;refine vZ 1 ?_ ?_;refine vZ 2 ?_ ?_;refine vZ 3 ?_ ?_;refine vZ 4 ?_ ?_;refine vZ 5 ?_ ?_;refine vZ 6 ?_ ?_;refine aB (i:=7) rfl ag (λK hK=> ?_);refine Lib.wp_copy_run _ _ _ 25 25 rfl _ _ rfl rfl HR'.out ?_;refine hK.out _ _ trivial (λhHeld=> ?_);clear hK K;refine sm ?_;refine vZ 8 ?_ ?_;refine vZ 9 ?_ ?_;refine aC ag ?_ _;clear HS1 HS2 HR';have EW:IntKind.i64.wrap ((k:Int)+(q:Int))=((k+q:Nat):Int):=pA;rw[EW];clear EW;go_wp2;go_roundw
   case rel=>exact⟨k+q,aa,.inr aa,aJ,F3,B3⟩
   case measure=>simp[intOf];omega
  ·have n1:¬(k:Int) < (n:Int):=by omega
   have ek:k=n:=aa;subst ek;go_wp2;go_ret;exact⟨⟨_,rfl,(FK.gets hs0).mono λb h _=>aa⟩,BK⟩
theorem AS (g:Gs)(hs0:g.s=[])(n:Nat)(h8:n<=8)(w:World):
  Calls pG 78 #[Ag #[Bb g.n,Bb g.sp.n,I Y g.sp.lo,I Y g.sp.hi,Bb g.t,Bb g.f,U nO 0 0],I Y (n:Int)] w λe w'=>(∃rs,e=Rt (U rs n n)/\GsIn (λb=>w.heap.size<=b) w' rs (j1 n g))/\bl w w':=by
 have hl0:g.s.length=0:=by rw[hs0];rfl
 have G1:=GuAt.new (w.alloc (Cc #[Bb g.n,Bb g.sp.n,I Y g.sp.lo,I Y g.sp.hi,Bb g.t,Bb g.f,U nO g.s.length 0] 91)) g nO 0;rw[hl0,zA] at G1;have HR:=ae (Cb g hs0 n h8 _ _ G1);clear G1;have hb1:Below w.heap.size w ((w.alloc (Cc #[Bb g.n,Bb g.sp.n,I Y g.sp.lo,I Y g.sp.hi,Bb g.t,Bb g.f,U nO 0 0] 91)).alloc (Cc #[Bb g.n,Bb g.sp.n,I Y g.sp.lo,I Y g.sp.hi,Bb g.t,Bb g.f,U nO 0 0] 91)):=ai;go_enter Tryz.func78,Tryz.ntmps78;go_wp2_with fail;refine HR.out.mono ?_;rintro e w2 ⟨⟨rs,rfl,GV⟩,hb2⟩;go_wp2;go_ret;exact⟨⟨rs,rfl,GV.mono λb h _=>lT hb1.size h⟩,hb1.trans (hb2.mono hb1.size)⟩
end
section
theorem mC (c:UInt8):∀l,(cO c l).length<=l.length+1
 |[]=>by simp[cO]
 |b::l=>by
  have ih:=mC c l;obtain⟨x,r,h⟩:=iP c l;unfold cO;rw[h] at ih |-;simp only[z5] at ih |-;split<;>simp only[z5]<;>omega
theorem gX (c:UInt8)(x y:List UInt8)(r:List (List UInt8)):fK c (x::y::r)=x++c::fK c (y::r):=by simp[fK]
theorem ni (c:UInt8):∀(ls:List (List UInt8)) (x:List UInt8),x∈ls->x.length<=(fK c ls).length
 |[],x,h=>aX
 |[y],x,h=>by simp at h;subst h;simp[fK]
 |y::z::r,x,h=>by
  rw[gX];rcases j6.1 h with rfl|h
  ·simp
  ·have:=ni c (z::r) x h
   simp;omega
theorem oO (c:UInt8):∀(ls:List (List UInt8)) (k:Nat),(fK c (ls.drop k)).length<=(fK c ls).length
 |ls,0=>ah
 |[],k+1=>ah
 |[y],k+1=>by simp[fK]
 |y::z::r,k+1=>by
  have:=oO c (z::r) k;rw[List.drop_succ_cons,gX];simp at this |-;omega
def txB (ls:List (List UInt8))(k:Nat):ByteArray:=⟨(fK 10 (ls.drop k)).toArray⟩
def lnB (ls:List (List UInt8))(k:Nat):ByteArray:=⟨(ls.getD k []).toArray⟩
theorem eR (ls:List (List UInt8))(k:Nat):(txB ls k).data.toList=fK 10 (ls.drop k):=by simp[txB]
theorem dJ (ls:List (List UInt8))(k:Nat):(lnB ls k).data.toList=ls.getD k []:=by simp[lnB]
theorem mY {ls:List (List UInt8)}{k:Nat}(h:k < ls.length):ls.getD k []=ls[k]:=by simp[j4,x4 h]
theorem sM {ls:List (List UInt8)}{k:Nat}(h:k+1 < ls.length)(hf:∀x∈ls,(10:UInt8)∉x):Lib.cut (txB ls k).data.toList [10]=((lnB ls k).data.toList,(txB ls (k+1)).data.toList,true):=by
 rw[eR,eR,dJ,mY (by omega:k < ls.length),z6 (by omega:k < ls.length),z6 h,gX];exact De 10 _ _ (hf _ (gM _))
theorem CM {ls:List (List UInt8)}{k:Nat}(h:k+1=ls.length)(hf:∀x∈ls,(10:UInt8)∉x):Lib.cut (txB ls k).data.toList [10]=((lnB ls k).data.toList,(⟨#[]⟩:ByteArray).data.toList,false):=by
 rw[eR,dJ,mY (by omega:k < ls.length),z6 (by omega:k < ls.length),X5 aa];simp only[fK,List.flatMap_nil,Qw];exact Kk 10 _ (hf _ (gM _))
theorem DS {ls:List (List UInt8)}{k:Nat}(h:k+1 < ls.length):txB ls k≠⟨#[]⟩:=by
 intro e;have h2:(txB ls k).data.toList=[]:=by rw[e]
 rw[eR,z6 (by omega:k < ls.length),z6 h,gX] at h2;simp at h2
theorem Gn {ls:List (List UInt8)}{k:Nat}(h:k+1=ls.length):(txB ls k).data.toList=ls.getD k []:=by
 rw[eR,mY (by omega:k < ls.length),z6 (by omega:k < ls.length),X5 aa];simp[fK]
theorem CX:∀{ls:List (List UInt8)} {m:Nat} {c:lI},ip m ls=.ok c->ls.length=c.length+1/\ls.getD c.length []=[]/\∀k (h:k < c.length),gE (ls.getD k [])=sO c[k]
 |[],_,_,h=>aX
 |[x],m,c,h=>by
  unfold ip at h;split at h
  ·rename_i e
   cases h;exact⟨rfl,by rw[e];rfl,λk h=>aX⟩
  ·cases h
 |x::y::r,m,c,h=>by
  unfold ip at h;split at h
  ·cases h
  ·rename_i i hi
   split at h
   ·cases h
   ·rename_i c' hc
    cases h;obtain⟨h1,h2,h3⟩:=CX hc;refine⟨by simp only[z5] at h1 |-;omega,?_,?_⟩
    ·simpa using h2
    ·intro k hk
     cases k with
     |zero=>simpa using hi
     |succ k=>simpa using h3 k fH
theorem Av:∀{ls:List (List UInt8)} {m e:Nat},ls≠[]->ip m ls=.error e->∃n,e=m+n/\n < ls.length/\(∀k,k < n->∃i,gE (ls.getD k [])=sO i)/\((n+1=ls.length/\ls.getD n []≠[])\/(n+1 < ls.length/\gE (ls.getD n [])=nO))
 |[],_,_,hn,_=>absurd rfl hn
 |[x],m,e,_,h=>by
  unfold ip at h;split at h
  ·cases h
  ·rename_i hx
   cases h;exact⟨0,rfl,ah,λk hk=>aa,.inl ⟨rfl,by simpa using hx⟩⟩
 |x::y::r,m,e,_,h=>by
  unfold ip at h;split at h
  ·rename_i hi
   cases h;exact⟨0,rfl,ah,λk hk=>aa,.inr ⟨ah,d8⟩⟩
  ·rename_i i hi
   split at h
   ·rename_i e' hc
    cases h;obtain⟨n,h1,h2,h3,h4⟩:=Av ah hc;refine⟨n+1,aa,by simp only[z5] at h2 |-;omega,?_,?_⟩
    ·intro k hk
     cases k with
     |zero=>exact⟨i,d8⟩
     |succ k=>simpa using h3 k aa
    ·rcases h4 with⟨h5,h6⟩|⟨h5,h6⟩
     ·exact .inl ⟨by simp only[z5] at h5 |-;omega,by simpa using h6⟩
     ·exact .inr ⟨by simp only[z5] at h5 |-;omega,by simpa using h6⟩
   ·cases h
end
end Go.Proofs.YtmapdpcfanecdabGreatDoor
