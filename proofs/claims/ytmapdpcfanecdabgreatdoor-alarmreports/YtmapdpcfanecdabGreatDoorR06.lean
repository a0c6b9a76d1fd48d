import Derived.Test.YtmapdpcfanecdabGreatDoorR04
import Derived.Lib.SplitLaws
import Derived.Lib.AtoiTie
import Derived.Lib.MinMax
open Array renaming getElem?_eq_some_iff→x6
open Bool renaming and_eq_true→j8,false_eq_true→j2,not_eq_false→Q4,not_eq_true'→x0,or_eq_true→J0
open Go.Ending renaming returned→Rt
open Go.IntKind renaming i64→Y
open Go.Obj renaming cells→Cc
open Go.Proofs.Tryz renaming prog→pG
open Go.RowKit.Below renaming heap_setCell→hSe,refl→bR
open Go.Value renaming agg→Ag,bool→Bb,int→I,pointer→Pp,slice→U,slice→j0,tuple→Tu
open Go.World renaming cell?_of_block→Z6,ownsRow→x7,putObj→Z5,putObj_heap_other→J9,setCell→Q9,size_alloc→zA
open List renaming Pairwise→x9,all_cons→X4,all_eq_true→Q6,any_eq_false→X8,append_nil→Qe,cons_append→Z4,contains_iff_mem→X6,drop_eq_getElem_cons→z6,drop_eq_nil_of_le→Qg,eq_of_mem_replicate→J6,ext_getElem→Z0,flatMap_cons→J7,foldl_append→Z1,foldl_cons→z7,foldl_nil→Z2,getD→j3,getElem?_eq_getElem→z4,getElem?_eq_none→x5,getElem?_set→Qc,getElem_cons_zero→Q0,getElem_map→Q2,getElem_mem→gM,getElem_of_mem→J1,getElem_set→X0,getElem_zipWith→j9,isPrefixOf→J8,length_append→X1,length_cons→z3,length_eq_zero_iff→Qa,length_set→q0,length_zipWith→j4,map_cons→J2,map_set→Q1,mem_append→j7,mem_cons→j5,mem_cons_of_mem→x1,mem_flatten→X9,mem_iff_getElem→Z9,mem_map→x2,mem_or_eq_of_mem_set→x8,mem_range→X5,mem_singleton→j6,nil_append→Z3,pairwise_cons→x3,pairwise_lt_range→X7,pairwise_map→Q3,pairwise_singleton→X2,range→j1,range_succ→Qd,replicate→J5,set_cons_succ→Z8,set_cons_zero→Z7,set_getElem_self→z9,set_set→Qf,sum_cons→J3,zipWith→Q5
open Nat renaming le_refl→lR,le_trans→lT,lt_irrefl→Qb,lt_of_lt_of_le→lL,mul_le_mul_right→J4,not_lt→x4,zero_add→z5,zero_le→z8
open Option renaming getD_none→Q8,getD_some→Q7,none→nO,some→sO
open Go.Proofs.Tryz
set_option linter.unusedSimpArgs false
set_option linter.unusedVariables false
set_option maxHeartbeats 4000000
set_option maxRecDepth 100000
namespace Go.Proofs.YtmapdpcfanecdabGreatDoor
section
open Go.RowKit
theorem Pe (V F:Int)(s:oA)(len cap:Nat)(tto a b n g:Int)(w:World)(_hV:1<=V)(_hV':V<=8)(_hF:0<=F)(_hF':F<=3)(_hL:len<=60):
  Calls pG 58 #[Ag #[I Y V,I Y F,U s len cap],Ag #[I Y 1,I Y tto,I Y a,I Y b,I Y n,I Y g]] w λe w'=>e=Rt (I Y (bn V F len ⟨1,tto,a,b,n,g⟩))/\bl w w':=by
 have t0:(aL 1).toList.isEmpty=false:=dg;have t1:nTo 1=true:=rfl;have t2:nA 1=false:=rfl;have t3:nB 1=false:=rfl;have t4:nN 1=true:=rfl;have t5:nG 1=false:=rfl;exact bU

theorem OV (V F:Int)(s:oA)(len cap:Nat)(tto a b n g:Int)(w:World)(_hV:1<=V)(_hV':V<=8)(_hF:0<=F)(_hF':F<=3)(_hL:len<=60):
  Calls pG 58 #[Ag #[I Y V,I Y F,U s len cap],Ag #[I Y 2,I Y tto,I Y a,I Y b,I Y n,I Y g]] w λe w'=>e=Rt (I Y (bn V F len ⟨2,tto,a,b,n,g⟩))/\bl w w':=by
 have t0:(aL 2).toList.isEmpty=false:=dg;have t1:nTo 2=true:=rfl;have t2:nA 2=false:=rfl;have t3:nB 2=false:=rfl;have t4:nN 2=true:=rfl;have t5:nG 2=false:=rfl;exact bU

theorem NW (V F:Int)(s:oA)(len cap:Nat)(tto a b n g:Int)(w:World)(_hV:1<=V)(_hV':V<=8)(_hF:0<=F)(_hF':F<=3)(_hL:len<=60):
  Calls pG 58 #[Ag #[I Y V,I Y F,U s len cap],Ag #[I Y 3,I Y tto,I Y a,I Y b,I Y n,I Y g]] w λe w'=>e=Rt (I Y (bn V F len ⟨3,tto,a,b,n,g⟩))/\bl w w':=by
 have t0:(aL 3).toList.isEmpty=false:=dg;have t1:nTo 3=true:=rfl;have t2:nA 3=false:=rfl;have t3:nB 3=false:=rfl;have t4:nN 3=false:=rfl;have t5:nG 3=false:=rfl;exact bU

theorem Nz (V F:Int)(s:oA)(len cap:Nat)(tto a b n g:Int)(w:World)(_hV:1<=V)(_hV':V<=8)(_hF:0<=F)(_hF':F<=3)(_hL:len<=60):
  Calls pG 58 #[Ag #[I Y V,I Y F,U s len cap],Ag #[I Y 4,I Y tto,I Y a,I Y b,I Y n,I Y g]] w λe w'=>e=Rt (I Y (bn V F len ⟨4,tto,a,b,n,g⟩))/\bl w w':=by
 have t0:(aL 4).toList.isEmpty=false:=dg;have t1:nTo 4=true:=rfl;have t2:nA 4=true:=rfl;have t3:nB 4=false:=rfl;have t4:nN 4=false:=rfl;have t5:nG 4=false:=rfl;exact bU

theorem LG (V F:Int)(s:oA)(len cap:Nat)(tto a b n g:Int)(w:World)(_hV:1<=V)(_hV':V<=8)(_hF:0<=F)(_hF':F<=3)(_hL:len<=60):
  Calls pG 58 #[Ag #[I Y V,I Y F,U s len cap],Ag #[I Y 19,I Y tto,I Y a,I Y b,I Y n,I Y g]] w λe w'=>e=Rt (I Y (bn V F len ⟨19,tto,a,b,n,g⟩))/\bl w w':=by
 have t0:(aL 19).toList.isEmpty=false:=dg;have t1:nTo 19=false:=rfl;have t2:nA 19=false:=rfl;have t3:nB 19=false:=rfl;have t4:nN 19=false:=rfl;have t5:nG 19=false:=rfl;exact bU
theorem Po (V F:Int)(s:oA)(len cap:Nat)(tto a b n g:Int)(w:World)(_hV:1<=V)(_hV':V<=8)(_hF:0<=F)(_hF':F<=3)(_hL:len<=60):
  Calls pG 58 #[Ag #[I Y V,I Y F,U s len cap],Ag #[I Y 5,I Y tto,I Y a,I Y b,I Y n,I Y g]] w λe w'=>e=Rt (I Y (bn V F len ⟨5,tto,a,b,n,g⟩))/\bl w w':=by
 have t0:(aL 5).toList.isEmpty=false:=dg;have t1:nTo 5=true:=rfl;have t2:nA 5=true:=rfl;have t3:nB 5=true:=rfl;have t4:nN 5=false:=rfl;have t5:nG 5=false:=rfl;exact bU

theorem Pl (V F:Int)(s:oA)(len cap:Nat)(tto a b n g:Int)(w:World)(_hV:1<=V)(_hV':V<=8)(_hF:0<=F)(_hF':F<=3)(_hL:len<=60):
  Calls pG 58 #[Ag #[I Y V,I Y F,U s len cap],Ag #[I Y 6,I Y tto,I Y a,I Y b,I Y n,I Y g]] w λe w'=>e=Rt (I Y (bn V F len ⟨6,tto,a,b,n,g⟩))/\bl w w':=by
 have t0:(aL 6).toList.isEmpty=false:=dg;have t1:nTo 6=true:=rfl;have t2:nA 6=true:=rfl;have t3:nB 6=true:=rfl;have t4:nN 6=false:=rfl;have t5:nG 6=false:=rfl;exact bU

theorem NP (V F:Int)(s:oA)(len cap:Nat)(tto a b n g:Int)(w:World)(_hV:1<=V)(_hV':V<=8)(_hF:0<=F)(_hF':F<=3)(_hL:len<=60):
  Calls pG 58 #[Ag #[I Y V,I Y F,U s len cap],Ag #[I Y 7,I Y tto,I Y a,I Y b,I Y n,I Y g]] w λe w'=>e=Rt (I Y (bn V F len ⟨7,tto,a,b,n,g⟩))/\bl w w':=by
 have t0:(aL 7).toList.isEmpty=false:=dg;have t1:nTo 7=true:=rfl;have t2:nA 7=true:=rfl;have t3:nB 7=true:=rfl;have t4:nN 7=false:=rfl;have t5:nG 7=false:=rfl;exact bU

theorem Ps (V F:Int)(s:oA)(len cap:Nat)(tto a b n g:Int)(w:World)(_hV:1<=V)(_hV':V<=8)(_hF:0<=F)(_hF':F<=3)(_hL:len<=60):
  Calls pG 58 #[Ag #[I Y V,I Y F,U s len cap],Ag #[I Y 8,I Y tto,I Y a,I Y b,I Y n,I Y g]] w λe w'=>e=Rt (I Y (bn V F len ⟨8,tto,a,b,n,g⟩))/\bl w w':=by
 have t0:(aL 8).toList.isEmpty=false:=dg;have t1:nTo 8=true:=rfl;have t2:nA 8=true:=rfl;have t3:nB 8=true:=rfl;have t4:nN 8=false:=rfl;have t5:nG 8=false:=rfl;exact bU

theorem Li (V F:Int)(s:oA)(len cap:Nat)(k tto a b n g:Int)(w:World)(_hV:1<=V)(_hV':V<=8)(_hF:0<=F)(_hF':F<=3)(_hL:len<=60)(hk:btw k 1 19=false):
  Calls pG 58 #[Ag #[I Y V,I Y F,U s len cap],Ag #[I Y k,I Y tto,I Y a,I Y b,I Y n,I Y g]] w λe w'=>e=Rt (I Y (bn V F len ⟨k,tto,a,b,n,g⟩))/\bl w w':=by
 have t0:(aL k).toList.isEmpty=true:=by rw[Cd hk,ByteArray.toList_eq];rfl
 exact bU
theorem NC (V F:Int)(s:oA)(len cap:Nat)(tto a b n g:Int)(w:World)(_hV:1<=V)(_hV':V<=8)(_hF:0<=F)(_hF':F<=3)(_hL:len<=60):
  Calls pG 58 #[Ag #[I Y V,I Y F,U s len cap],Ag #[I Y 9,I Y tto,I Y a,I Y b,I Y n,I Y g]] w λe w'=>e=Rt (I Y (bn V F len ⟨9,tto,a,b,n,g⟩))/\bl w w':=by
 have t0:(aL 9).toList.isEmpty=false:=dg;have t1:nTo 9=true:=rfl;have t2:nA 9=true:=rfl;have t3:nB 9=true:=rfl;have t4:nN 9=false:=rfl;have t5:nG 9=false:=rfl;exact bU

theorem Lk (V F:Int)(s:oA)(len cap:Nat)(tto a b n g:Int)(w:World)(_hV:1<=V)(_hV':V<=8)(_hF:0<=F)(_hF':F<=3)(_hL:len<=60):
  Calls pG 58 #[Ag #[I Y V,I Y F,U s len cap],Ag #[I Y 10,I Y tto,I Y a,I Y b,I Y n,I Y g]] w λe w'=>e=Rt (I Y (bn V F len ⟨10,tto,a,b,n,g⟩))/\bl w w':=by
 have t0:(aL 10).toList.isEmpty=false:=dg;have t1:nTo 10=true:=rfl;have t2:nA 10=true:=rfl;have t3:nB 10=false:=rfl;have t4:nN 10=false:=rfl;have t5:nG 10=false:=rfl;exact bU

theorem Lw (V F:Int)(s:oA)(len cap:Nat)(tto a b n g:Int)(w:World)(_hV:1<=V)(_hV':V<=8)(_hF:0<=F)(_hF':F<=3)(_hL:len<=60):
  Calls pG 58 #[Ag #[I Y V,I Y F,U s len cap],Ag #[I Y 11,I Y tto,I Y a,I Y b,I Y n,I Y g]] w λe w'=>e=Rt (I Y (bn V F len ⟨11,tto,a,b,n,g⟩))/\bl w w':=by
 have t0:(aL 11).toList.isEmpty=false:=dg;have t1:nTo 11=true:=rfl;have t2:nA 11=false:=rfl;have t3:nB 11=false:=rfl;have t4:nN 11=false:=rfl;have t5:nG 11=false:=rfl;exact bU

theorem LP (V F:Int)(s:oA)(len cap:Nat)(tto a b n g:Int)(w:World)(_hV:1<=V)(_hV':V<=8)(_hF:0<=F)(_hF':F<=3)(_hL:len<=60):
  Calls pG 58 #[Ag #[I Y V,I Y F,U s len cap],Ag #[I Y 12,I Y tto,I Y a,I Y b,I Y n,I Y g]] w λe w'=>e=Rt (I Y (bn V F len ⟨12,tto,a,b,n,g⟩))/\bl w w':=by
 have t0:(aL 12).toList.isEmpty=false:=dg;have t1:nTo 12=true:=rfl;have t2:nA 12=true:=rfl;have t3:nB 12=false:=rfl;have t4:nN 12=true:=rfl;have t5:nG 12=false:=rfl;exact bU

theorem LN (V F:Int)(s:oA)(len cap:Nat)(tto a b n g:Int)(w:World)(_hV:1<=V)(_hV':V<=8)(_hF:0<=F)(_hF':F<=3)(_hL:len<=60):
  Calls pG 58 #[Ag #[I Y V,I Y F,U s len cap],Ag #[I Y 13,I Y tto,I Y a,I Y b,I Y n,I Y g]] w λe w'=>e=Rt (I Y (bn V F len ⟨13,tto,a,b,n,g⟩))/\bl w w':=by
 have t0:(aL 13).toList.isEmpty=false:=dg;have t1:nTo 13=false:=rfl;have t2:nA 13=true:=rfl;have t3:nB 13=true:=rfl;have t4:nN 13=true:=rfl;have t5:nG 13=false:=rfl;exact bU
def kF (n:Int):Prop:= -9223372036854775808<=n/\n<=9223372036854775807
def eJ (n:Int):ByteArray:=⟨(Lib.itoa n).toArray⟩
theorem kK (n:Int)(h:kF n):(eJ n).size<=21:=Lib.itoa_length_le n h.1 h.2

theorem nY (z:Int)(w:World)(h:kF z):
  Calls pG 27 #[I Y z] w λe w'=>e=Rt (.string (eJ z))/\bl w w':=Pa z w h.1 h.2
end
section
def bt (c:UInt8):List UInt8->List (List UInt8)
 |[]=>[[]]
 |b::l=>if b=c then []::bt c l else match bt c l with
  |[]=>[[b]]
  |x::r=>(b::x)::r
def gV (c:UInt8):List (List UInt8)->List UInt8
 |[]=>[]
 |x::r=>x++r.flatMap λy=>c::y

theorem ge (c:UInt8)(l:List UInt8):∃x r,bt c l=x::r:=by
 cases l with
 |nil=>exact⟨_,_,rfl⟩
 |cons b l=>
  unfold bt;split
  ·exact⟨_,_,rfl⟩
  ·split<;>exact⟨_,_,rfl⟩
theorem kS (c:UInt8):∀l,gV c (bt c l)=l
 |[]=>rfl
 |b::l=>by
  have ih:=kS c l;obtain⟨x,r,h⟩:=ge c l;rw[h] at ih;unfold bt;split
  ·rename_i e
   rw[h];simp only[gV,J7,Z3] at ih |-;rw[e,Z4,ih]
  ·rw[h]
   simp only[gV] at ih |-;rw[Z4,ih]
theorem n7 (c:UInt8):∀l,∀x∈bt c l,c∉x
 |[],x,hx=>by simp[bt] at hx;simp[hx]
 |b::l,x,hx=>by
  have ih:=n7 c l;obtain⟨y,r,h⟩:=ge c l;unfold bt at hx;rw[h] at hx ih;split at hx
  ·rcases j5.1 hx with rfl|hx
   ·simp
   ·exact ih x hx
  ·rename_i hne
   rcases j5.1 hx with rfl|hx
   ·intro hm
    rcases j5.1 hm with e|hm
    ·exact hne e.symm
    ·exact ih y (List.mem_cons_self ..) hm
   ·exact ih x (x1 _ hx)
theorem CT (c:UInt8):∀x:List UInt8,c∉x->bt c x=[x]
 |[],_=>rfl
 |b::l,h=>by
  have hb:=sx;unfold bt;rw[if_neg hb,CT c l (λhm=>h (x1 _ hm))]
theorem BM (c:UInt8)(m:List UInt8):∀x:List UInt8,c∉x->bt c (x++c::m)=x::bt c m
 |[],_=>by show bt c (c::m)=_;unfold bt;rw[if_pos rfl];cases m<;>rfl
 |b::l,h=>by
  have hb:=sx;show bt c (b::(l++c::m))=_;unfold bt;rw[if_neg hb,BM c m l (λhm=>h (x1 _ hm))];cases m<;>rfl
theorem CN (c:UInt8):∀s:List UInt8,Lib.splitK [c] 0 (Lib.count s [c]) s=bt c s
 |[]=>by rw[Lib.count_miss (by simp[Lib.index])];rfl
 |b::l=>by
  have ih:=CN c l;by_cases hb:b=c
  ·subst hb
   have hix:Lib.index (b::l) [b]=((0:Nat):Int):=by rw[Lib.index];simp[J8]
   rw[Lib.count_cons_eq,Nat.add_comm,Lib.splitK,if_neg (by rw[hix];decide),hix];unfold bt;rw[if_pos rfl,<-ih];simp
  ·have hp:=KW
   have hix:Lib.index (b::l) [c]=if Lib.index l [c]== -1 then -1 else Lib.index l [c]+1:=by rw[Lib.index,hp];simp
   rw[Lib.count_cons_ne b c l hb];unfold bt;rw[if_neg hb,<-ih];by_cases hm:Lib.index l [c]= -1
   ·rw[Lib.count_miss hm];rfl
   ·have hge:=Lib.index_ge l [c]
    obtain⟨j,hj⟩:∃j:Nat,Lib.index l [c]=j:=⟨(Lib.index l [c]).toNat,aa⟩;have hix':Lib.index (b::l) [c]=((j+1:Nat):Int):=by rw[hix,if_neg (λe=>hm (beq_iff_eq.1 e)),hj];omega
    rw[Lib.count_hit ah hj,Nat.add_comm,Lib.splitK,if_neg (by rw[hix'];intro e;have:=beq_iff_eq.1 e;omega),hix',Lib.splitK,if_neg (by rw[hj];intro e;have:=beq_iff_eq.1 e;omega),hj];simp
theorem IJ (c:UInt8):∀x:List UInt8,c∉x->Lib.index x [c]= -1
 |[],_=>by simp[Lib.index]
 |b::l,h=>by
  have hb:=sx;have hp:=KW;rw[Lib.index,hp];have:=IJ c l (λhm=>h (x1 _ hm));simp[this]
theorem EI (c:UInt8)(m:List UInt8):∀x:List UInt8,c∉x->Lib.index (x++c::m) [c]=(x.length:Int)
 |[],_=>by show Lib.index (c::m) [c]=_;rw[Lib.index];simp[J8]
 |b::l,h=>by
  have hb:=sx;have hp:([c]:List UInt8).isPrefixOf (b::(l++c::m))=false:=by simp[J8,Ne.symm hb]
  show Lib.index (b::(l++c::m)) [c]=_;rw[Lib.index,hp];have:=EI c m l (λhm=>h (x1 _ hm));rw[this];have e1:¬((l.length:Int)== -1)=true:=by intro e;have:=beq_iff_eq.1 e;omega
  simp only[j2,if_false];rw[if_neg e1];simp
theorem SM (c:UInt8)(x:List UInt8)(h:c∉x):Lib.cut x [c]=(x,[],false):=by
 unfold Lib.cut;rw[IJ c x h,if_neg ai]
theorem Mv (c:UInt8)(x m:List UInt8)(h:c∉x):Lib.cut (x++c::m) [c]=(x,m,true):=by
 unfold Lib.cut;rw[EI c m x h,if_pos aa];simp

def bW (s:List UInt8):Option Int:=if s.length<=11 then(match Lib.atoi s with|some v=>if Lib.itoa v=s then sO v else nO|none=>nO) else nO
theorem NG {s:List UInt8}{v:Int}(h:bW s=sO v):Lib.itoa v=s:=by
 unfold bW at h;split at h
 ·split at h
  ·split at h
   ·cases h;assumption
   ·cases h
  ·cases h
 ·cases h
theorem vQ (m:List UInt8):∀(l:List UInt8) (acc:Nat),Lib.decFrom acc (l++m)=(Lib.decFrom acc l).bind λn=>Lib.decFrom n m
 |[],acc=>rfl
 |b::l,acc=>by
  show Lib.decFrom acc (b::(l++m))=_;simp only[Lib.decFrom];cases Lib.digitVal b with
  |none=>rfl
  |some d=>exact vQ m l _
theorem K7:∀d:Fin 10,(UInt8.ofNat (48+d.val)).toNat=48+d.val:=fK
theorem nR (u:Nat):∀b∈Lib.decDigits u,48<=b.toNat/\b.toNat<=57:=by
 induction u using Nat.strongRecOn with
 |_ u ih=>
  intro b hb;by_cases h:u < 10
  ·rw[Lib.decDigits,dif_pos h] at hb
   have:=K7 ⟨u,h⟩;simp only at this;simp only[j6] at hb;rw[hb,this];omega
  ·rw[Lib.decDigits,dif_neg h] at hb
   rcases j7.1 hb with hb|hb
   ·exact ih (u / 10) aa b hb
   ·have:=K7 ⟨u % 10,aa⟩
    simp only at this;simp only[j6] at hb;rw[hb,this];omega
def prt (k:Nat):List Nat:=match k with
 |1=>[0,4]|2=>[0,5]|3=>[0]|4=>[0,1]|5=>[0,1,2]|6=>[0,1,2]|7=>[0,1,2]|8=>[0,1,2]|9=>[0,1,2]|10=>[0,1]
 |11=>[0]|12=>[0,1,7]|13=>[1,7,2]|14=>[0,6]|15=>[1,3]|16=>[3]|17=>[1]|18=>[1]|_=>[]
def nu (q:Nat)(v:Int)(i:Ins):Ins:=match q with
 |0=>⟨i.k,v,i.a,i.b,i.n,i.g⟩
 |1=>⟨i.k,i.tgt,v,i.b,i.n,i.g⟩
 |2=>⟨i.k,i.tgt,i.a,v,i.n,i.g⟩
 |3=>⟨i.k,i.tgt,i.a,i.b,i.n,v⟩
 |_=>⟨i.k,i.tgt,i.a,i.b,v,i.g⟩
def tK:List Nat->List Int->Ins->Ins
 |q::r,v::t,i=>tK r t (nu q v i)
 |_,_,i=>i
def e8:List (List UInt8)->Option (List Int)
 |[]=>sO []
 |x::r=>match bW x with
  |none=>nO
  |some v=>match e8 r with
   |none=>nO
   |some t=>sO (v::t)
def eZ (w:List UInt8)(n k:Nat):Bool:=(aL k).data.toList==w&&(prt k).length==n
def eH (w:List UInt8)(n:Nat):Option Nat:=[1,2,3,4,5,6,7,8,9,10,11,12,13,14,15,16,17,18,19].find? (eZ w n)
def eI (l:List UInt8):Option Ins:=match bt 32 l with
 |[]=>nO
 |w::ns=>match eH w ns.length with
  |none=>nO
  |some k=>match e8 ns with
   |none=>nO
   |some vs=>sO (tK (prt k) vs ⟨k,0,0,0,0,0⟩)
def nQ:List UInt8:=[118,97,114,115]
def mJ:List UInt8:=[102,105,101,108,100,115]
def eE (l:List UInt8):Option (Int×Int):=match bt 32 l with
 |[a,b,c,d]=>if a=nQ/\c=mJ then(match bW b with
  |none=>nO
  |some v=>match bW d with
   |none=>nO
   |some f=>sO (v,f)) else nO
 |_=>nO
def eF:Nat->List (List UInt8)->Except Nat (lI)
 |k,[]=>.error k
 |k,[x]=>if x=[] then .ok [] else .error k
 |k,x::y::r=>match eI x with
  |none=>.error k
  |some i=>match eF (k+1) (y::r) with
   |.error e=>.error e
   |.ok c=>.ok (i::c)
def d8 (s:List UInt8):Except Nat (Int×Int×lI):=match bt 10 s with
 |h::y::r=>match eE h with
  |none=>.error 1
  |some (V,F)=>match eF 2 (y::r) with
   |.error e=>.error e
   |.ok c=>.ok (V,F,c)
 |_=>.error 1

theorem Pn {w:List UInt8}{n k:Nat}(h:eH w n=sO k):(1<=k/\k<=19)/\(aL k).data.toList=w/\(prt k).length=n:=by
 have h1:=List.find?_some h;have h2:=List.mem_of_find?_eq_some h;unfold eZ at h1;rw[j8,beq_iff_eq,beq_iff_eq] at h1;refine⟨?_,h1.1,h1.2⟩;simp at h2;omega
end
section
open Go.RowKit Go
def CellsKept (W W':World):Prop:=W.heap.size<=W'.heap.size/\∀b o v,W.cell? ⟨b,o,nO⟩=sO v->W'.cell? ⟨b,o,nO⟩=sO v
section
variable {W W':World}
theorem CellsKept.ints (h:CellsKept W W'){s:oA}{l:List Int}(hi:IntsAt W s l):IntsAt W' s l:=by
 rcases hi with hi|⟨b,off,e,hb,hc⟩
 ·exact .inl hi
 ·exact .inr ⟨b,off,e,lL hb h.1,λk hk=>h.2 _ _ _ (hc k hk)⟩
theorem CellsKept.gs (h:CellsKept W W'){s:oA}{l:List Gs}(hi:GsAt W s l):GsAt W' s l:=λi hl=>by
 obtain⟨b,off,e,ss,cap,⟨⟨c0,c1,c2,c3,c4,c5,c6⟩,hz⟩,h2,h4⟩:=hi i hl;exact⟨b,off,e,ss,cap,⟨⟨h.2 _ _ _ c0,h.2 _ _ _ c1,h.2 _ _ _ c2,h.2 _ _ _ c3,h.2 _ _ _ c4,h.2 _ _ _ c5,h.2 _ _ _ c6⟩,lL hz h.1⟩,h.ints h2,h4⟩
theorem CellsKept.pic (h:CellsKept W W'){x:Pic}{vs fs:oA}(hp:PicAt W x vs fs):PicAt W' x vs fs:=⟨h.gs hp.1,λi hi=>by
 obtain⟨b,off,e,hz,rs,rc,h1,h2,h4,h5⟩:=hp.2 i hi;exact⟨b,off,e,lL hz h.1,rs,rc,h.2 _ _ _ h1,h2,h4,h.gs h5⟩⟩
theorem CellsKept.putObj {l:Nat}{o o':Obj}(h:W.heap[l]? =sO o)(hc:o.isCells=false):CellsKept W (W.putObj l o'):=by
 refine⟨by simp[Z5],λb k v hv=> ?_⟩;by_cases e:b=l
 ·subst e
  exfalso;simp only[World.cell?,h] at hv;cases o<;>simp_all[Obj.isCells]
 ·rw[Z6 (a:=⟨b,k,nO⟩) (J9 e)]
  exact hv
end
structure RoundAt (l:Nat) (W W':World):Prop where
 far:∀q,q≠l->W'.heap[q]? =W.heap[q]?
 size:W'.heap.size=W.heap.size
 kept:CellsKept W W'
 low:∀{B:Nat} {a:World},B<=l->Below B a W->Below B a W'
section
variable {W W' Wa W2 W3:World} {l D:Nat} {r r':Loop}
theorem LoopAt.put (h:LoopAt W l D r)(hD:D≠l)(r':Loop):LoopAt (W.putObj l (.loop r')) l D r':=⟨World.putObj_heap_same (x6.1 h.lp).1,(J9 hD).trans h.dfr⟩
theorem LoopAt.far (h:LoopAt W l D r)(hl:W'.heap[l]? =W.heap[l]?)(hD:W'.heap[D]? =W.heap[D]?):LoopAt W' l D r:=⟨hl.trans h.lp,hD.trans h.dfr⟩
theorem LoopAt.round (h:LoopAt W l D r)(o:Obj):RoundAt l W (W.putObj l o):=⟨λq hq=>J9 hq,by simp[Z5],CellsKept.putObj h.lp rfl,λ{B} {a} hB hb=>by
 refine hb.trans ((bR B W).grown (grownBy_putObj' W l o) (by have:=(x6.1 h.lp).1;omega) (λk e=>by cases e;omega))⟩
theorem LE {P:Program}{fn:FuncId}{tmps:Array Value}{ps:Array Tmp}{assign body:Code}{F:Fence}{m:Nat}{Q:Exit->Act->World->Prop}{a:Act}(hl:LoopAt W l D (dY fn tmps ps assign body D .ready nO))(hD:D≠l)(hb:bl W Wa)
  (h:∀W2,LoopAt W2 l D (dY fn tmps ps assign body D .busy nO)->RoundAt l Wa W2->body.wpIn F m P Q a W2):
  LoopAt Wa l D (dY fn tmps ps assign body D .ready nO)/\body.wpIn F m P Q a (Wa.putObj l (.loop (dY fn tmps ps assign body D .busy nO))):=
 ⟨hl.below hb,h _ ((hl.below hb).put hD _) ((hl.below hb).round _)⟩
end
end
section
open Go.RowKit
structure Ro where
  rs:oA
  rc:Nat
  l:List Gc
def roV (r:Ro):Value:=U r.rs r.l.length r.rc
def roG (r:Ro):List Gs:=r.l.map Gc.g
def roB (r:Ro):Option Nat:=(roV r).ownBlock
def RoOwn (w:World)(B:Nat)(r:Ro):Prop:=w.ownsRow B 91 7 (roV r) r.l.length (aS r.l)
theorem tU:∀{l:List Gc} {k j:Nat} {u:Value} {x':Gc} (hk:k < l.length) (_:j < 7) (_:br x'=(br l[k]).set j u),aS (l.set k x')=(aS l).set (k * 7+j) u
  |[],k,_,_,_,hk,_,_=>absurd hk ah
  |x::r,0,j,u,x',_,hj,h=>by
    have e:∀y,aS (y::r)=br y++aS r:=λ_=>rfl;simp only[Q0] at h;rw[Z7,e,e,Nat.zero_mul,z5,List.set_append_left _ _ (by rw[fk];exact hj),h]
  |x::r,k+1,j,u,x',hk,hj,h=>by
    have e:∀(y:Gc) (q:List Gc),aS (y::q)=br y++aS q:=λ_ _=>rfl;simp only[List.getElem_cons_succ] at h;rw[Z8,e,e,tU iG hj h,List.set_append_right _ _ (by rw[fk];omega),fk];congr 2;omega
section
variable {w w':World} {B:Nat} {r:Ro}
theorem RoOwn.form (h:RoOwn w B r)(h0:0 < r.l.length):∃b,r.rs=sO ⟨b,0,nO⟩/\roB r=sO b/\B<=b/\b < w.heap.size:=by
  obtain⟨rs,rc,l⟩:=r;rcases h.2 with⟨e,h1⟩|⟨g,cap,cur,e,hb,hg,_⟩
  · simp only at h0 h1;omega
  · simp only[roV,j0.injEq] at e
    exact⟨g,e.1,by unfold roB roV;rw[e.1];rfl,hb,(x6.1 hg).1⟩
theorem RoOwn.caps (h:RoOwn w B r):r.l.length<=r.rc/\r.rc<=maxLen:=by
  rcases h.2 with⟨e,h1⟩|⟨g,cap,cur,e,hb,hg,k1,k2,_⟩
  · simp only[roV,j0.injEq] at e
    exact⟨aa,by rw[e.2.2];exact z8 _⟩
  · simp only[roV,j0.injEq] at e
    rw[e.2.2];exact⟨k1,k2⟩
theorem RoOwn.same (h:RoOwn w B r)(hs:∀b,roB r=sO b->w'.heap[b]? =w.heap[b]?):RoOwn w' B r:=dy h hs
theorem RoOwn.lt (h:RoOwn w B r){b:Nat}(hb:roB r=sO b):b < w.heap.size/\B<=b:=aR h hb
theorem RoOwn.put (h:RoOwn w B r){b:Nat}(hb:r.rs=sO ⟨b,0,nO⟩){k j:Nat}{u:Value}{x':Gc}(hk:k < r.l.length)(hj:j < 7)(hx:br x'=(br r.l[k]).set j u):RoOwn (w.setCell ⟨b,k * 7+j,nO⟩ u) B ⟨r.rs,r.rc,r.l.set k x'⟩:=by
  obtain⟨rs,rc,l⟩:=r;simp only at hb hk hx;subst hb;have h1:=(x7.stored h (k * 7+j) u).1;unfold RoOwn roV;simp only[q0];rw[tU hk hj hx];exact h1
theorem RoOwn.gets (h:RoOwn w B r){S:Nat->Prop}(hg:∀x∈r.l,bS S w x):GsIn (λb=>roB r=sO b\/S b) w r.rs (roG r):=by
  intro i hi;have hil:i < r.l.length:=by simpa[roG] using hi
  obtain⟨b,e,eb,hb,hz⟩:=h.form aa;have hx:=hg _ (gM hil);have ei:(roG r)[i]=r.l[i].g:=by simp[roG]
  rw[ei];have h1:w.ownsRow B 91 7 (U (sO ⟨b,0,nO⟩) r.l.length r.rc) r.l.length (aS r.l):=by rw[<-e];exact h
  refine⟨b,0,e,.inl eb,r.l[i].ss,r.l[i].cap,⟨?_,hz⟩,hx.1.mono λq hq _=>.inr hq,hx.2.1,hx.2.2⟩;have hc:∀j,j < 7->w.cell? ⟨b,i * 7+j,nO⟩=(br r.l[i])[j]? :=λj hj=>by
    rw[<-fG r.l i hil j hj];exact x7.cellAt h1 _ aa
  simp only[z5];exact rU
theorem RoOwn.thaw (h:RoOwn w B r){b:Nat}(hb:r.rs=sO ⟨b,0,nO⟩)(j:Nat):w.frozen? ⟨b,j,nO⟩=false:=by
  have h1:=Km;exact x7.frozenAt h1 j
end
def Off (v:Ro)(fb:Option Nat)(L:List Ro)(b:Nat):Prop:=roB v≠sO b/\fb≠sO b/\∀r∈L,roB r≠sO b
structure PicG (T:Nat->Prop) (B:Nat) (w:World) (v:Ro) (fs:oA) (fc:Nat) (L:List Ro):Prop where
  vq:RoOwn w B v
  fq:w.ownsRow B 25 1 (U fs L.length fc) L.length (L.map roV)
  rows:∀r∈L,RoOwn w B r
  sv:∀g∈v.l,bS (λb=>T b/\Off v (j0 fs L.length fc).ownBlock L b) w g
  sf:∀r∈L,∀g∈r.l,bS (λb=>T b/\Off v (j0 fs L.length fc).ownBlock L b) w g
  dv:∀b,roB v=sO b->(j0 fs L.length fc).ownBlock≠sO b/\∀r∈L,roB r≠sO b
  df:∀b,(j0 fs L.length fc).ownBlock=sO b->∀r∈L,roB r≠sO b
  dr:L.Pairwise λr q=>∀b,roB r=sO b->roB q≠sO b
def aV (n:Bool)(v:Ro)(L:List Ro):Pic:=⟨n,roG v,L.map roG⟩
section
variable {T T':Nat->Prop} {B:Nat} {w w':World} {v:Ro} {fs:oA} {fc:Nat} {L:List Ro}
theorem PicG.mono (h:PicG T B w v fs fc L)(hT:∀b,T b->b < w.heap.size->T' b):PicG T' B w v fs fc L:=
  ⟨h.vq,h.fq,h.rows,λg hg=>⟨(h.sv g hg).1.mono λb hb hz=>⟨hT b hb.1 hz,hb.2⟩,(h.sv g hg).2⟩,λr hr g hg=>⟨(h.sf r hr g hg).1.mono λb hb hz=>⟨hT b hb.1 hz,hb.2⟩,(h.sf r hr g hg).2⟩,h.dv,h.df,h.dr⟩
theorem PicG.same (h:PicG T B w v fs fc L)(hs:∀b,T b\/B<=b->b < w.heap.size->w'.heap[b]? =w.heap[b]?)(hz:w.heap.size<=w'.heap.size):PicG T B w' v fs fc L:=
  ⟨h.vq.same λb hb=>hs b (.inr (h.vq.lt hb).2) (h.vq.lt hb).1,dy h.fq λb hb=>hs b (.inr (aR h.fq hb).2) (aR h.fq hb).1,λr hr=>(h.rows r hr).same λb hb=>hs b (.inr ((h.rows r hr).lt hb).2) ((h.rows r hr).lt hb).1,
   λg hg=>⟨(h.sv g hg).1.same (λb hb hlt=>hs b (.inl hb.1) hlt) hz,(h.sv g hg).2⟩,λr hr g hg=>⟨(h.sf r hr g hg).1.same (λb hb hlt=>hs b (.inl hb.1) hlt) hz,(h.sf r hr g hg).2⟩,h.dv,h.df,h.dr⟩
theorem PicG.call (h:PicG T B w v fs fc L)(hb:bl w w'):PicG T B w' v fs fc L:=h.same (λb _ hlt=>hb.block b hlt) hb.size
theorem PicG.fcap (h:PicG T B w v fs fc L):L.length<=fc/\fc<=maxLen:=by
  rcases h.fq.2 with⟨e,h1⟩|⟨g,cap,cur,e,hb,hg,k1,k2,_⟩
  · simp only[j0.injEq] at e
    exact⟨aa,by rw[e.2.2];exact z8 _⟩
  · simp only[j0.injEq] at e
    rw[e.2.2];exact⟨k1,k2⟩
theorem PicG.fform (h:PicG T B w v fs fc L)(h0:0 < L.length):∃b,fs=sO ⟨b,0,nO⟩/\B<=b/\b < w.heap.size/\∀k (hk:k < L.length),w.cell? ⟨b,k,nO⟩=sO (roV L[k]):=by
  rcases h.fq.2 with⟨e,h1⟩|⟨g,cap,cur,e,hb,hg,k1,k2,_⟩
  · omega
  · simp only[j0.injEq] at e
    obtain⟨e1,-,e3⟩:=e;subst e1 e3;refine⟨g,rfl,hb,(x6.1 hg).1,λk hk=> ?_⟩;have:=x7.cellAt h.fq k aa;rw[this];simp[hk]
theorem PicG.at (h:PicG T B w v fs fc L)(n:Bool):PicAt w (aV n v L) v.rs fs:=by
  refine⟨(h.vq.gets h.sv).at,λi hi=> ?_⟩;have hil:i < L.length:=by simpa[aV] using hi
  obtain⟨b,e,hb,hz,hc⟩:=h.fform aa;have ei:(aV n v L).fq[i]=roG L[i]:=by simp[aV]
  rw[ei];have hm:=gM hil;have hcp:=(h.rows _ hm).caps;refine⟨b,0,e,hz,L[i].rs,L[i].rc,?_,by simpa[roG] using hcp.1,hcp.2,((h.rows _ hm).gets (h.sf _ hm)).at⟩;rw[z5,hc i hil];simp[roV,roG]
theorem PicG.on (h:PicG T B w v fs fc L)(n:Bool):PicOn (λb=>T b\/B<=b) w (aV n v L) v.rs fs:=λw2 hs hz=>(h.same hs hz).at n
theorem PicG.vcap (h:PicG T B w v fs fc L)(n:Bool):(aV n v L).vq.length<=v.rc/\v.rc<=maxLen:=by simpa[aV,roG] using h.vq.caps
theorem PicG.fcap' (h:PicG T B w v fs fc L)(n:Bool):(aV n v L).fq.length<=fc/\fc<=maxLen:=by simpa[aV] using h.fcap
theorem yP {S:Nat->Prop}{x:Gc}{a:Addr}{u:Value}(h:bS S w x)(hs:∀b,S b->b≠a.block):bS S (w.setCell a u) x:=⟨h.1.same (λb hb _=>hSe _ _ _ _ (hs b hb)) bH,h.2⟩
theorem PicG.putV (h:PicG T B w v fs fc L){b:Nat}(hb:v.rs=sO ⟨b,0,nO⟩){k j:Nat}{u:Value}{x':Gc}(hk:k < v.l.length)(hj:j < 7)(hx:br x'=(br v.l[k]).set j u)(hg:bS (λb=>T b/\Off v (j0 fs L.length fc).ownBlock L b) w x'):
    PicG T B (w.setCell ⟨b,k * 7+j,nO⟩ u) ⟨v.rs,v.rc,v.l.set k x'⟩ fs fc L:=by
  have eb:roB v=sO b:=mO;have eb':roB ⟨v.rs,v.rc,v.l.set k x'⟩=roB v:=mO;have eO:∀q,Off ⟨v.rs,v.rc,v.l.set k x'⟩ (j0 fs L.length fc).ownBlock L q=Off v (j0 fs L.length fc).ownBlock L q:=λq=>by unfold Off;rw[eb']
  have hd:=h.dv b eb;have hp:∀g,bS (λb=>T b/\Off v (j0 fs L.length fc).ownBlock L b) w g->bS (λb=>T b/\Off ⟨v.rs,v.rc,v.l.set k x'⟩ (j0 fs L.length fc).ownBlock L b) (w.setCell ⟨b,k * 7+j,nO⟩ u) g:=λg hg=>by
    simp only[eO];exact yP hg λq hq e=>hq.2.1 uT
  refine⟨h.vq.put hb hk hj hx,dy h.fq λq hq=>hSe _ _ _ _ λe=>hd.1 (by rw[hq];exact congrArg sO e),λr hr=>(h.rows r hr).same λq hq=>hSe _ _ _ _ λe=>hd.2 r hr (by rw[hq];exact congrArg sO e),λg hgm=>hp g ?_,λr hr g hgm=>hp g (h.sf r hr g hgm),by rw[eb'];exact h.dv,h.df,h.dr⟩;rcases x8 hgm with hgm|rfl
  · exact h.sv g hgm
  · exact hg
theorem PicG.putF (h:PicG T B w v fs fc L){s:Nat}(hs:s < L.length){b:Nat}(hb:L[s].rs=sO ⟨b,0,nO⟩){k j:Nat}{u:Value}{x':Gc}(hk:k < L[s].l.length)(hj:j < 7)(hx:br x'=(br L[s].l[k]).set j u)(hg:bS (λb=>T b/\Off v (j0 fs L.length fc).ownBlock L b) w x'):
    PicG T B (w.setCell ⟨b,k * 7+j,nO⟩ u) v fs fc (L.set s ⟨L[s].rs,L[s].rc,L[s].l.set k x'⟩):=by
  have hm:=gM hs;have eb:roB L[s]=sO b:=mO;have ebn:roB ⟨L[s].rs,L[s].rc,L[s].l.set k x'⟩=roB L[s]:=mO;have evn:roV ⟨L[s].rs,L[s].rc,L[s].l.set k x'⟩=roV L[s]:=by unfold roV;simp
  have eL:(L.set s ⟨L[s].rs,L[s].rc,L[s].l.set k x'⟩).map roB=L.map roB:=by
    rw[Q1,ebn,<-Q2 (f:=roB) (h:=by simpa using hs),z9]
  have eV:(L.set s ⟨L[s].rs,L[s].rc,L[s].l.set k x'⟩).map roV=L.map roV:=by
    rw[Q1,evn,<-Q2 (f:=roV) (h:=by simpa using hs),z9]
  have allB:∀{M:List Ro} {q:Nat},(∀r∈M,roB r≠sO q)↔∀o∈M.map roB,o≠sO q:=by
    intro M q;simp only[x2,forall_exists_index,and_imp,forall_apply_eq_imp_iff₂]
  have eO:∀q,Off v (j0 fs L.length fc).ownBlock (L.set s ⟨L[s].rs,L[s].rc,L[s].l.set k x'⟩) q↔Off v (j0 fs L.length fc).ownBlock L q:=λq=>by
    unfold Off;rw[allB,allB,eL]
  have hp:∀g,bS (λb=>T b/\Off v (j0 fs L.length fc).ownBlock L b) w g->bS (λb=>T b/\Off v (j0 fs (L.set s ⟨L[s].rs,L[s].rc,L[s].l.set k x'⟩).length fc).ownBlock (L.set s ⟨L[s].rs,L[s].rc,L[s].l.set k x'⟩) b) (w.setCell ⟨b,k * 7+j,nO⟩ u) g:=λg hg=>by
    rw[q0];simp only[eO];exact yP hg λq hq e=>hq.2.2.2 _ hm uT
  have pwB:∀{M:List Ro},M.Pairwise (λr q=>∀b,roB r=sO b->roB q≠sO b)↔(M.map roB).Pairwise λo p=>∀b,o=sO b->p≠sO b:=by
    intro M;rw[Q3]
  refine⟨h.vq.same λq hq=>hSe _ _ _ _ λe=>(h.dv q hq).2 _ hm uT,?_,λr hr=> ?_,λg hgm=>hp g (h.sv g hgm),λr hr g hgm=>hp g ?_,λq hq=> ?_,λq hq=> ?_,?_⟩
  · rw[q0,eV]
    exact dy h.fq λq hq=>hSe _ _ _ _ λe=>h.df q hq _ hm uT
  · rw[Z9] at hr
    obtain⟨i,hi,rfl⟩:=hr;rw[q0] at hi;rw[X0];split
    · exact(h.rows _ hm).put hb hk hj hx
    · rename_i hne
      refine(h.rows _ (gM hi)).same λq hq=>hSe _ _ _ _ λe=> ?_;simp only at e;subst e;have pw:=List.pairwise_iff_getElem.1 h.dr;rcases Nat.lt_or_gt_of_ne hne with hlt|hlt
      · exact pw s i hs hi hlt q eb hq
      · exact pw i s hi hs hlt q hq eb
  · rw[Z9] at hr
    obtain⟨i,hi,rfl⟩:=hr;rw[q0] at hi;rw[X0] at hgm;split at hgm
    · rcases x8 hgm with hgm|rfl
      · exact h.sf _ hm g hgm
      · exact hg
    · exact h.sf _ (gM hi) g hgm
  · rw[q0,allB,eL,<-allB]
    exact h.dv q hq
  · rw[q0] at hq
    rw[allB,eL,<-allB];exact h.df q hq
  · rw[pwB,eL,<-pwB]
    exact h.dr
end
def VRow (S:Nat->Prop)(w:World)(B:Nat)(v:Value)(l:List Gc):Prop:=w.ownsRow B 91 7 v l.length (aS l)/\(∀b,v.ownBlock=sO b->S b)/\∀x∈l,bS (λb=>S b/\v.ownBlock≠sO b) w x
section
variable {S S':Nat->Prop} {w w':World} {B:Nat} {v:Value} {l:List Gc}
theorem VRow.same (h:VRow S w B v l)(hs:∀b,S b->b < w.heap.size->w'.heap[b]? =w.heap[b]?)(hz:w.heap.size<=w'.heap.size):VRow S w' B v l:=⟨dy h.1 λb hb=>hs b (h.2.1 b hb) (aR h.1 hb).1,h.2.1,λx hx=>⟨(h.2.2 x hx).1.same (λb hb hlt=>hs b hb.1 hlt) hz,(h.2.2 x hx).2⟩⟩
theorem VRow.mono (h:VRow S w B v l)(hs:∀b,S b->b < w.heap.size->S' b):VRow S' w B v l:=⟨h.1,λb hb=>hs b (h.2.1 b hb) (aR h.1 hb).1,λx hx=>⟨(h.2.2 x hx).1.mono λb hb hlt=>⟨hs b hb.1 hlt,hb.2⟩,(h.2.2 x hx).2⟩⟩
theorem VRow.call (h:VRow S w B v l)(hb:bl w w'):VRow S w' B v l:=h.same (λb _ hlt=>hb.block b hlt) hb.size
theorem eD {e:TypeId}{z n:Nat}{xs:List Value}{C:Nat}(h:w.ownsRow C e z v n xs)(hB:B<=C):w.ownsRow B e z v n xs:=by
 refine⟨h.1,?_⟩;rcases h.2 with h2|⟨g,cap,cur,e1,hb,h3⟩
 ·exact .inl h2
 ·exact .inr ⟨g,cap,cur,e1,lT hB hb,h3⟩
theorem SRow.vrow (h:SRow w B v l):VRow (λb=>B<=b) w B v l:=⟨h.1,λb hb=>(aR h.1 hb).2,λx hx=>h.2 x hx⟩
theorem VRow.lower (h:VRow S w B v l){C:Nat}(hB:C<=B):VRow S w C v l:=⟨eD h.1 hB,h.2⟩
end
structure FRowS (w:World) (B:Nat) (v:Value) (L:List Ro):Prop where
 own:w.ownsRow B 25 1 v L.length (L.map roV)
 rows:∀r∈L,RoOwn w B r
 sites:∀r∈L,∀g∈r.l,bS (λb=>B<=b/\v.ownBlock≠sO b/\∀q∈L,roB q≠sO b) w g
 df:∀b,v.ownBlock=sO b->∀r∈L,roB r≠sO b
 dr:L.Pairwise λr q=>∀b,roB r=sO b->roB q≠sO b
section
variable {w w0 w':World} {B:Nat} {v v':Value} {L:List Ro}
theorem FRowS.nil (w:World)(B:Nat):FRowS w B (U nO 0 0) []:=⟨⟨rfl,.inl ⟨rfl,rfl⟩⟩,λr hr=>mM,λr hr=>mM,λb hb r hr=>mM,x9.nil⟩
theorem FRowS.olden (h:FRowS w B v L)(hs:∀b,B<=b->b < w.heap.size->w'.heap[b]? =w.heap[b]?)(hz:w.heap.size<=w'.heap.size):FRowS w' B v L:=
 ⟨dy h.own λb hb=>hs b (aR h.own hb).2 (aR h.own hb).1,λr hr=>(h.rows r hr).same λb hb=>hs b ((h.rows r hr).lt hb).2 ((h.rows r hr).lt hb).1,λr hr g hg=>⟨(h.sites r hr g hg).1.same (λb hb hlt=>hs b hb.1 hlt) hz,(h.sites r hr g hg).2⟩,h.df,h.dr⟩
theorem FRowS.call (h:FRowS w B v L)(hb:bl w w'):FRowS w' B v L:=h.olden (λb _ hlt=>hb.block b hlt) hb.size
theorem FRowS.grown (h0:FRowS w0 B v L)(hb:bl w0 w)(hB:B<=w0.heap.size){x:Ro}(hx:VRow (λb=>w0.heap.size<=b) w w0.heap.size (roV x) x.l)(hr:w'.ownsRow B 25 1 v' (L.length+1) (L.map roV++[roV x]))(hg:w.grownBy w' v.ownBlock)(hv:v'.ownBlock=v.ownBlock\/v'.ownBlock=sO w.heap.size):FRowS w' B v' (L++[x]):=by
 have h:=h0.call hb;have hsz:=hb.size;have hxo:RoOwn w w0.heap.size x:=hx.1;have vlt:∀b,v.ownBlock=sO b->b < w0.heap.size:=λb hb=>(aR h0.own hb).1;have rlt:∀r∈L,∀b,roB r=sO b->b < w0.heap.size:=λr hr b hb=>((h0.rows r hr).lt hb).1;have xge:∀b,roB x=sO b->w0.heap.size<=b/\b < w.heap.size:=λb hb=>⟨(hxo.lt hb).2,(hxo.lt hb).1⟩;have keep:∀b,b < w.heap.size->v.ownBlock≠sO b->w'.heap[b]? =w.heap[b]? :=λb hb hne=>hg.block b hb λe=>hne e.symm;refine⟨by rw[X1,List.map_append];exact hr,λr hr=> ?_,λr hr g hgm=> ?_,λb hb r hr=> ?_,?_⟩
 ·rcases j7.1 hr with hr|hr
  ·exact(h.rows r hr).same λb hb=>keep b ((h.rows r hr).lt hb).1 λe=>h.df b e r hr hb
  ·rw[j6.1 hr]
   exact RoOwn.same (eD hxo hB) λb hb=>keep b (xge b hb).2 λe=>by have:=vlt b e;have:=(xge b hb).1;omega
 ·rcases j7.1 hr with hr|hr
  ·have h1:bS (λb=>(B<=b/\v.ownBlock≠sO b/\∀q∈L,roB q≠sO b)/\b < w0.heap.size) w g:=⟨((h0.sites r hr g hgm).1.mono λb hb hlt=>(⟨hb,hlt⟩:_/\b < w0.heap.size)).call hb,(h0.sites r hr g hgm).2⟩
   refine⟨(h1.1.same (λb hb hlt=>keep b hlt hb.1.2.1) hg.size).mono λb hb _=>⟨hb.1.1,?_,λq hq=> ?_⟩,h1.2⟩
   ·rcases hv with e|e
    ·rw[e];exact hb.1.2.1
    ·rw[e];intro e';cases e';have:=hb.2;omega
   ·rcases j7.1 hq with hq|hq
    ·exact hb.1.2.2 q hq
    ·rw[j6.1 hq]
     intro e;have:=(xge b e).1;have:=hb.2;omega
  ·rw[j6.1 hr] at hgm
   have h1:bS (λb=>(w0.heap.size<=b/\roB x≠sO b)/\b < w.heap.size) w g:=⟨(hx.2.2 g hgm).1.mono λb hb hlt=>⟨hb,hlt⟩,(hx.2.2 g hgm).2⟩;refine⟨(h1.1.same (λb hb hlt=>keep b hlt λe=>by have:=vlt b e;have:=hb.1.1;omega) hg.size).mono λb hb _=>⟨lT hB hb.1.1,?_,λq hq=> ?_⟩,h1.2⟩
   ·rcases hv with e|e
    ·rw[e];intro e';have:=vlt b e';have:=hb.1.1;omega
    ·rw[e];intro e';cases e';have:=hb.2;omega
   ·rcases j7.1 hq with hq|hq
    ·intro e
     have:=rlt q hq b e;have:=hb.1.1;omega
    ·rw[j6.1 hq]
     exact hb.1.2
 ·rcases hv with e|e
  ·rw[e] at hb
   rcases j7.1 hr with hr|hr
   ·exact h0.df b hb r hr
   ·rw[j6.1 hr]
    intro e';have:=vlt b hb;have:=(xge b e').1;omega
  ·rw[e] at hb
   cases hb;rcases j7.1 hr with hr|hr
   ·intro e'
    have:=rlt r hr _ e';omega
   ·rw[j6.1 hr]
    intro e';have:=(xge _ e').2;omega
 ·rw[List.pairwise_append]
  refine⟨h0.dr,X2 _ _,λr hr q hq b hb e=> ?_⟩;rw[j6.1 hq] at e;have:=rlt r hr b hb;have:=(xge b e).1;omega
theorem FRowS.form (h:FRowS w B v L):∃fs fc,v=U fs L.length fc:=by
 rcases h.own.2 with⟨e,h0⟩|⟨g,cap,cur,e,_⟩
 ·exact⟨nO,0,by rw[e,h0]⟩
 ·exact⟨sO ⟨g,0,nO⟩,cap,e⟩
theorem FRowS.pic {S:Nat->Prop}{C:Nat}{vs fs:oA}{vc fc:Nat}{l:List Gc}(h:FRowS w B (U fs L.length fc) L)(hv:VRow S w C (U vs l.length vc) l)(hS:∀b,S b->C<=b/\b < B)(hC:C<=B):PicG (λb=>C<=b) C w ⟨vs,vc,l⟩ fs fc L:=by
 have vlt:∀b,roB ⟨vs,vc,l⟩=sO b->b < B:=λb hb=>(hS b (hv.2.1 b hb)).2;have fge:∀b,(j0 fs L.length fc).ownBlock=sO b->B<=b:=λb hb=>(aR h.own hb).2;have rge:∀r∈L,∀b,roB r=sO b->B<=b:=λr hr b hb=>((h.rows r hr).lt hb).2;refine⟨hv.1,eD h.own hC,λr hr=>eD (h.rows r hr) hC,λg hg=>⟨(hv.2.2 g hg).1.mono λb hb _=>⟨(hS b hb.1).1,hb.2,λe=> ?_,λr hr e=> ?_⟩,(hv.2.2 g hg).2⟩,λr hr g hg=>⟨(h.sites r hr g hg).1.mono λb hb _=>⟨lT hC hb.1,λe=> ?_,hb.2.1,hb.2.2⟩,(h.sites r hr g hg).2⟩,λb hb=>⟨λe=> ?_,λr hr e=> ?_⟩,h.df,h.dr⟩
 ·have:=fge b e;have:=(hS b hb.1).2;omega
 ·have:=rge r hr b e;have:=(hS b hb.1).2;omega
 ·have:=vlt b e;have:=hb.1;omega
 ·have:=fge b e;have:=vlt b hb;omega
 ·have:=rge r hr b e;have:=vlt b hb;omega
end
theorem PicG.down {T:Nat->Prop}{B C:Nat}{w:World}{v:Ro}{fs:oA}{fc:Nat}{L:List Ro}(h:PicG T B w v fs fc L)(hC:C<=B):PicG T C w v fs fc L:=⟨eD h.vq hC,eD h.fq hC,λr hr=>eD (h.rows r hr) hC,h.sv,h.sf,h.dv,h.df,h.dr⟩
def PicS (B:Nat)(w':World)(e:Ending)(x:Pic)(er:Int):Prop:=∃v fs fc L,x=aV x.none v L/\e=Rt (Tu #[Ag #[Bb x.none,U v.rs v.l.length v.rc,U fs L.length fc],I Y er])/\PicG (λb=>B<=b) B w' v fs fc L
def OH (w w':World)(e:Ending)(l:List Gs):Prop:=∃rs rc gl,e=Rt (U rs gl.length rc)/\Hid (gl.map Gc.g=l)/\SRow w' w.heap.size (U rs gl.length rc) gl
theorem EE (B:Nat)(w:World):PicG (λb=>B<=b) B w ⟨nO,0,[]⟩ nO 0 []:=⟨⟨rfl,.inl ⟨rfl,rfl⟩⟩,⟨rfl,.inl ⟨rfl,rfl⟩⟩,λr hr=>mM,λg hg=>by simp at hg,λr hr=>mM,λb hb=>by simp[roB,roV,Value.ownBlock] at hb,λb hb r hr=>mM,x9.nil⟩
end
section
def Mr:Ins:=⟨0,0,0,0,0,0⟩
def bL (c:lI)(p:Int):Ins:=c.getD p.toNat Mr
section
variable {V F L:Int} {i:Ins}
theorem cl (h:bn V F L i=0):btw i.k 1 19=true/\(nTo i.k=true->0<=i.tgt/\i.tgt < V)/\(nA i.k=true->0<=i.a/\i.a < V)/\(nB i.k=true->0<=i.b/\i.b < V)/\(i.k=12\/i.k=13->0<=i.n/\i.n < F)/\(nG i.k=true->0<=i.g/\i.g<=L)/\(i.k=1-> -2147483648<=i.n/\i.n<=2147483647)/\(i.k=2->i.n=0\/i.n=1)/\(i.k=14->0<=i.n/\i.n<=1000000):=by
 unfold bn at h;split at h
 ·cases h
 rename_i h1;split at h
 ·cases h
 rename_i h2;split at h
 ·cases h
 rename_i h3;simp only[J0,j8,x0,not_or,not_and,Q4,decide_eq_true_eq,btw] at h2 h3;obtain⟨⟨⟨⟨a1,a2⟩,a3⟩,a4⟩,a5⟩:=h2;obtain⟨⟨b1,b2⟩,b3⟩:=h3;refine⟨by simpa using h1,λh=> ?_,λh=> ?_,λh=> ?_,λh=> ?_,λh=> ?_,λh=> ?_,λh=> ?_,λh=> ?_⟩
 ·have:=a1 h;omega
 ·have:=a2 h;omega
 ·have:=a3 h;omega
 ·have:=a4 h;omega
 ·have:=a5 h;omega
 ·have:=b1 h;omega
 ·have:=b2 h;omega
 ·have:=b3 h;omega
end

theorem PD {V F L:Int}{c:lI}(h:fQ V F L c=0):∀i∈c,bn V F L i=0:=by
 induction c with
 |nil=>intro i hi;cases hi
 |cons x r ih=>
  unfold fQ at h;split at h
  ·rename_i hx
   intro i hi;rcases j5.1 hi with rfl|hi
   ·exact hx
   ·exact ih h i hi
  ·rename_i hx;exact absurd h hx
structure ProgOk (V F:Int) (c:lI):Prop where
 v1:1<=V
 v8:V<=8
 f0:0<=F
 f3:F<=3
 len:c.length<=60
 each:∀i∈c,bn V F c.length i=0
theorem dC {V F:Int}{c:lI}(h:au V F c=0):ProgOk V F c:=by
 unfold au at h;split at h
 ·cases h
 rename_i h1;split at h
 ·cases h
 rename_i h2;simp[btw] at h1;exact⟨aa,aa,aa,aa,aa,PD h⟩

theorem TS {c:lI}{p:Nat}(h:p < c.length):bL c (p:Int)=c[p]:=by
 unfold bL;simp[j3,z4 h]
theorem t8 {c:lI}{p:Int}(h0:0<=p)(h:p < c.length):bL c p∈c:=by
 obtain⟨k,rfl⟩:=Int.eq_ofNat_of_zero_le h0;rw[TS aa];exact gM _

theorem Bl {α:Type}{l:List α}{i:Nat}{v x:α}(h:x∈l.set i v):x=v\/x∈l:=(x8 h).symm
theorem vA {α β:Type}{f:α->β->Bool}{a:List α}{b:List β}:(Q5 f a b).all id=true↔∀i (h1:i < a.length) (h2:i < b.length),f a[i] b[i]=true:=by
 induction a generalizing b with
 |nil=>simp
 |cons x a ih=>
  cases b with
  |nil=>simp
  |cons y b=>
   rw[List.zipWith_cons_cons,X4,j8,ih];constructor
   ·rintro ⟨h,h'⟩ i h1 h2
    cases i with
    |zero=>exact h
    |succ i=>exact h' i gT kX
   ·intro h
    exact⟨h 0 ah ah,λi h1 h2=>h (i+1) gT kX⟩

theorem mem_siteSet {a b:List Int}{x:Int}:x∈ix a b↔(0<=x/\x < 60)/\(x∈a\/x∈b):=by
 unfold ix;simp only[List.mem_filter,x2,X5,J0,X6];constructor
 ·rintro ⟨⟨n,hn,rfl⟩,h⟩
  exact⟨by omega,h⟩
 ·rintro ⟨⟨h0,h1⟩,h⟩
  exact⟨⟨x.toNat,aa,aa⟩,h⟩
theorem ul (a b:List Int):(ix a b).Pairwise (· < ·):=by
 unfold ix;refine x9.filter _ ?_;rw[Q3];exact X7.imp (by intro a b h;omega)
theorem oI:∀{l:List Int},l.Pairwise (· < ·)->di l=true
 |[],_=>rfl
 |[_],_=>rfl
 |a::b::r,h=>by
  unfold di;rw[x3] at h;simp[h.1 b ah,oI h.2]
theorem ckGs_iff {c:lI}{g:Gs}:aE c g=0↔g.sp.Ok/\(∀x∈g.s,cc c x=true)/\di g.s=true:=by
 unfold aE;by_cases h1:cE g.sp=0
 ·rw[if_neg gT]
  by_cases h2:g.s.all (cc c)=false
  ·rw[if_pos h2]
   refine⟨(λh=>aT),λh=> ?_⟩;rw[Q6.2 h.2.1] at h2;cases h2
  ·rw[if_neg h2]
   have h2':∀x∈g.s,cc c x=true:=kX;by_cases h3:di g.s=false
   ·rw[if_pos h3]
    exact⟨λh=>aT,λh=>(by rw[h.2.2] at h3;cases h3)⟩
   ·rw[if_neg h3]
    exact⟨λ_=>⟨ckSp_ok.1 h1,h2',by simpa using h3⟩,λ_=>rfl⟩
 ·rw[if_pos h1]
  exact⟨λh=>absurd h h1,λh=>absurd (ckSp_ok.2 h.1) h1⟩
theorem dI {c:lI}{x:Int}(h:cc c x=true):0<=x/\x < c.length:=by
 unfold cc at h;simp only[j8,decide_eq_true_eq] at h;omega

theorem ME {s:Sp}{a:Int}:s.has a=true↔s.n=false/\s.lo<=a/\a<=s.hi:=by
 unfold Sp.has;simp only[j8,x0,decide_eq_true_eq]
theorem eS {s t:Sp}(h:s.lo<=s.hi):fI s t=true↔s.n=true\/(t.n=false/\t.lo<=s.lo/\s.hi<=t.hi):=by
 unfold fI;rw[J0,j8,ME,ME];constructor
 ·rintro (h|⟨⟨h1,h2,h3⟩,_,h4,h5⟩)
  ·exact .inl h
  ·exact .inr ⟨h1,h2,h5⟩
 ·rintro (h|⟨h1,h2,h3⟩)
  ·exact .inl h
  ·exact .inr ⟨⟨h1,aa,aa⟩,h1,aa,aa⟩
theorem VR {s t:Sp}(hs:s.Ok)(ht:t.Ok):fI s (bj s t)=true/\fI t (bj s t)=true:=by
 obtain⟨_,_,_,h1⟩:=hs;obtain⟨_,_,_,h2⟩:=ht;rw[eS h1,eS h2];unfold bj;cases hn:s.n with
 |true=>
  simp only[if_true];cases ht':t.n with
  |true=>simp
  |false=>simp
 |false=>
  simp only[j2,if_false];cases ht':t.n with
  |true=>simp[hn]
  |false=>simp;omega
theorem VK {s t:Sp}(hs:s.Ok)(ht:t.Ok):fI s (bp s t)=true/\fI t (bp s t)=true:=by
 obtain⟨⟨s1,s2⟩,⟨s3,s4⟩,_,h1⟩:=hs;obtain⟨⟨t1,t2⟩,⟨t3,t4⟩,_,h2⟩:=ht;rw[eS h1,eS h2];unfold bp;cases hn:s.n with
 |true=>
  simp only[if_true];cases ht':t.n with
  |true=>simp
  |false=>simp
 |false=>
  simp only[j2,if_false];cases ht':t.n with
  |true=>simp[hn]
  |false=>
   simp only[j2,if_false,false_or,true_and]
   (repeat' split)<;>omega
section
variable {c:lI} {g h:Gs} {w:Bool}
theorem ub (w:Bool)(g h:Gs):(aj w g h).sp=if w then bp g.sp h.sp else bj g.sp h.sp:=rfl
theorem nM (hg:aE c g=0)(hh:aE c h=0):aE c (aj w g h)=0:=by
 rw[ckGs_iff] at hg hh |-;refine⟨?_,λx hx=> ?_,oI (ul _ _)⟩
 ·rw[ub]
  cases w
  ·exact VC hg.1 hh.1
  ·exact VA hg.1 hh.1
 ·rcases (mem_siteSet.1 hx).2 with h|h
  ·exact hg.2.1 x h
  ·exact hh.2.1 x h
theorem inGs_iff {g h:Gs}:dp g h=true↔(g.n=true->h.n=true)/\(g.t=true->h.t=true)/\(g.f=true->h.f=true)/\fI g.sp h.sp=true/\∀x∈g.s,x∈h.s:=by
 unfold dp;simp only[j8,x0,Bool.and_eq_false_imp,Bool.not_eq_false',Q6,X6]
theorem uV (h60:c.length<=60)(hg:aE c g=0)(hh:aE c h=0):dp g (aj w g h)=true/\dp h (aj w g h)=true:=by
 rw[ckGs_iff] at hg hh;have hs:fI g.sp (aj w g h).sp=true/\fI h.sp (aj w g h).sp=true:=by
  rw[ub];cases w
  ·exact VR hg.1 hh.1
  ·exact VK hg.1 hh.1
 have hm:∀x,x∈g.s\/x∈h.s->x∈(aj w g h).s:=λx hx=>mem_siteSet.2 ⟨by
  rcases hx with hx|hx
  ·have:=dI (hg.2.1 x hx);omega
  ·have:=dI (hh.2.1 x hx);omega,hx⟩
 rw[inGs_iff,inGs_iff];refine⟨⟨λe=> ?_,λe=> ?_,λe=> ?_,hs.1,λx hx=>hm x (.inl hx)⟩,⟨λe=> ?_,λe=> ?_,λe=> ?_,hs.2,λx hx=>hm x (.inr hx)⟩⟩<;>simp[aj,e]
end

theorem om {c:lI}{p:Gs->Bool}:∀{l:List (List Gs)} {i:Nat},dU c p i l=false↔∀k (h:k < l.length),cc c ((i+k:Nat):Int)=true\/∀g∈l[k],p g=false
 |[],i=>by simp[dU]
 |r::l,i=>by
  unfold dU;rw[Bool.or_eq_false_iff,om (l:=l)];constructor
  ·rintro ⟨h,h'⟩ k hk
   cases k with
   |zero=>
    rw[Bool.and_eq_false_iff] at h;rcases h with h|h
    ·exact .inl cq
    ·exact .inr cq
   |succ k=>
    have:=h' k iG;rwa [show i+1+k=i+(k+1) by omega] at this
  ·intro h
   refine⟨?_,λk hk=> ?_⟩
   ·rw[Bool.and_eq_false_iff]
    rcases h 0 ah with h|h
    ·exact .inl cq
    ·exact .inr cq
   ·have:=h (k+1) iG
    rwa [show i+(k+1)=i+1+k by omega] at this
theorem tX {c:lI}:∀{l:List Gs},b9 c l=0↔∀g∈l,aE c g=0
 |[]=>by simp[b9]
 |g::l=>by
  unfold b9;by_cases h:aE c g=0
  ·rw[if_pos h,tX]
   simp[h]
  ·rw[if_neg h]
   exact⟨λe=>absurd e h,λe=>e g ah⟩
structure PicOk (V F:Int) (c:lI) (x:Pic):Prop where
 none:x.none=false
 vq:(x.vq.length:Int)=V
 fq:x.fq.length=c.length
 row:∀k (h:k < x.fq.length),(x.fq[k].length:Int)=F
 gv:∀g∈x.vq,aE c g=0
 gf:∀k (h:k < x.fq.length),∀g∈x.fq[k],aE c g=0
 stray:∀k (h:k < x.fq.length),cc c (k:Int)=true\/∀g∈x.fq[k],an g=true
theorem mi {V F:Int}{c:lI}{x:Pic}(hn:x.none=true):aO V F c x=0↔x=nonePic:=by
 obtain⟨n,vq,fq⟩:=x;simp only at hn;subst hn;unfold aO bK nonePic;simp only[if_true,Pic.mk.injEq,true_and];constructor
 ·intro h
  split at h
  ·cases h
  ·rename_i h1
   simpa using h1
 ·rintro ⟨rfl,rfl⟩
  rfl
theorem Ew {V F:Int}{c:lI}{x:Pic}(hn:x.none=false):aO V F c x=0↔PicOk V F c x:=by
 obtain⟨n,vq,fq⟩:=x;simp only at hn;subst hn;unfold aO bK bP;simp only[j2,if_false];constructor
 ·intro h
  split at h
  ·cases h
  rename_i h1;split at h
  ·rename_i h2;exact absurd h h2
  rename_i h2;split at h
  ·cases h
  rename_i h3;simp only[Q4,j8,decide_eq_true_eq,x0,X8,decide_eq_false_iff_not,Decidable.not_not] at h1;simp only[ne_eq,Decidable.not_not] at h2;rw[tX] at h2;rw[Bool.not_eq_true,om] at h3;refine⟨rfl,h1.1,h1.2.1,λk h=> ?_,λg hg=>h2 g (by simp[hg]),λk h g hg=>h2 g ?_,λk h=> ?_⟩
  ·have:=h1.2.2 _ (gM h)
   simpa using this
  ·rw[j7,X9]
   exact .inr ⟨_,gM h,hg⟩
  ·rcases h3 k h with h3|h3
   ·exact .inl (by simpa using h3)
   ·exact .inr λg hg=>by simpa using h3 g hg
 ·rintro ⟨-,h1,h2,h3,h4,h5,h6⟩
  simp only at h1 h2 h3 h4 h5 h6;rw[if_neg,if_neg,if_neg]
  ·rw[Bool.not_eq_true,om]
   intro k h;rcases h6 k h with h6|h6
   ·exact .inl (by simpa using h6)
   ·exact .inr λg hg=>by simpa using h6 g hg
  ·rw[ne_eq,Decidable.not_not,tX]
   intro g hg;rw[j7,X9] at hg;rcases hg with hg|⟨r,hr,hg⟩
   ·exact h4 g hg
   ·obtain⟨k,hk,rfl⟩:=J1 hr
    exact h5 k hk g hg
  ·simp only[Q4,j8,decide_eq_true_eq,x0,X8]
   refine⟨h1,h2,λr hr=> ?_⟩;obtain⟨k,hk,rfl⟩:=J1 hr;simpa using h3 k hk
section
variable {V F:Int} {c:lI} {x y:Pic} {w:Bool}
theorem cA (h:aO V F c x=0)(hn:x.none=false):PicOk V F c x:=(Ew hn).1 h
theorem PicOk.ck (h:PicOk V F c x):aO V F c x=0:=(Ew h.none).2 h
theorem Lc {g:Gs}:an g=true↔g.sp.n=true/\g.n=false/\g.t=false/\g.f=false/\g.s=[]:=by
 unfold an aP;simp only[j8,x0,Bool.or_eq_false_iff,decide_eq_false_iff_not,x4,Nat.le_zero,Qa]
theorem GQ {g h:Gs}(hg:an g=true)(hh:an h=true):an (aj w g h)=true:=by
 rw[Lc] at hg hh |-;obtain⟨a1,a2,a3,a4,a5⟩:=hg;obtain⟨b1,b2,b3,b4,b5⟩:=hh;refine⟨?_,by simp[aj,a2,b2],by simp[aj,a3,b3],by simp[aj,a4,b4],by simp[aj,ix,a5,b5]⟩;rw[ub];cases w<;>simp[bj,bp,a1,b1]
theorem ou {j:Gs->Gs->Gs}{a b:List Gs}:(aQ j a b).length=min a.length b.length:=j4
theorem oc {j:Gs->Gs->Gs}{a b:List Gs}{g:Gs}(h:g∈aQ j a b):∃i,∃(h1:i < a.length) (h2:i < b.length),g=j a[i] b[i]:=by
 obtain⟨i,hi,rfl⟩:=J1 h;have hi':=hi;rw[ou] at hi';exact⟨i,aa,aa,by simp[aQ]⟩
theorem PicOk.join (hx:PicOk V F c x)(hy:PicOk V F c y):PicOk V F c (aH (aj w) x y):=by
 have e:aH (aj w) x y=⟨false,aQ (aj w) x.vq y.vq,Q5 (aQ (aj w)) x.fq y.fq⟩:=by
  unfold aH;rw[if_neg (by rw[hx.none];decide),if_neg (by rw[hy.none];decide)]
 rw[e];have l1:=hx.vq;have l2:=hy.vq;have l3:=hx.fq;have l4:=hy.fq;refine⟨rfl,?_,?_,λk h=> ?_,λg hg=> ?_,λk h g hg=> ?_,λk h=> ?_⟩
 ·simp only[ou];omega
 ·simp only[j4];omega
 ·simp only[j4] at h
  have:=hx.row k aa;have:=hy.row k aa;simp only[j9,ou];omega
 ·obtain⟨i,h1,h2,rfl⟩:=oc hg
  exact nM (hx.gv _ (gM _)) (hy.gv _ (gM _))
 ·simp only[j4] at h
  simp only[j9] at hg;obtain⟨i,h1,h2,rfl⟩:=oc hg;exact nM (hx.gf k aa _ (gM _)) (hy.gf k aa _ (gM _))
 ·simp only[j4] at h
  rcases hx.stray k aa with a|a
  ·exact .inl a
  rcases hy.stray k aa with b|b
  ·exact .inl b
  right;intro g hg;simp only[j9] at hg;obtain⟨i,h1,h2,rfl⟩:=oc hg;exact GQ (a _ (gM _)) (b _ (gM _))
theorem CJ (hx:aO V F c x=0)(hy:aO V F c y=0):aO V F c (aH (aj w) x y)=0:=by
 cases hn:x.none with
 |true=>unfold aH;rw[if_pos hn];exact hy
 |false=>
  cases hm:y.none with
  |true=>unfold aH;rw[if_neg uu,if_pos hm];exact hx
  |false=>exact((cA hx hn).join (cA hy hm)).ck
theorem EK {a b:List Gs}:gp a b=true↔∀i (h1:i < a.length) (h2:i < b.length),dp a[i] b[i]=true:=vA
theorem fS (hn:x.none=false)(hm:y.none=false):bJ x y=true↔(∀i (h1:i < x.vq.length) (h2:i < y.vq.length),dp x.vq[i] y.vq[i]=true)/\∀k (h1:k < x.fq.length) (h2:k < y.fq.length) i (h3:i < x.fq[k].length) (h4:i < y.fq[k].length),dp x.fq[k][i] y.fq[k][i]=true:=by
 unfold bJ;rw[hn,hm];simp only[Bool.false_or,Bool.not_false,Bool.true_and,j8];rw[EK,vA];simp only[EK]
theorem oN {g:Gs}(h:aE c g=0):g.sp.lo<=g.sp.hi:=(ckGs_iff.1 h).1.2.2.2
theorem Tr {L:List (List Gs)}{k:Nat}(h:k < L.length):L.getD k []=L[k]:=by simp[j3,z4 h]
theorem Sm {L:List (List Gs)}{k:Nat}(h:¬k < L.length):L.getD k []=[]:=by simp[j3,x5 (x4.1 h)]
theorem rC (h60:c.length<=60)(hx:aO V F c x=0)(hy:aO V F c y=0):bJ x (aH (aj w) x y)=true/\bJ y (aH (aj w) x y)=true:=by
 have self:∀{z:Pic},aO V F c z=0->bJ z z=true:=by
  intro z hz;cases hn:z.none with
  |true=>simp[bJ,hn]
  |false=>
   have kz:=cA hz hn;rw[fS hn hn];have sg:∀{g:Gs},aE c g=0->dp g g=true:=λhg=>inGs_iff.2 ⟨id,id,id,by
    rw[eS (oN hg)];rename_i g;cases e:g.sp.n with
    |true=>exact .inl rfl
    |false=>exact .inr ⟨rfl,aa,aa⟩,λ_ h=>h⟩
   exact⟨λi h1 _=>sg (kz.gv _ (gM _)),λk h1 _ i h3 _=>sg (kz.gf k h1 _ (gM _))⟩
 cases hn:x.none with
 |true=>
  have e:aH (aj w) x y=y:=by unfold aH;rw[if_pos hn]
  rw[e];exact⟨by simp[bJ,hn],self hy⟩
 |false=>
  cases hm:y.none with
  |true=>
   have e:aH (aj w) x y=x:=by unfold aH;rw[if_neg (by rw[hn];decide),if_pos hm]
   rw[e];exact⟨self hx,by simp[bJ,hm]⟩
  |false=>
   have kx:=cA hx hn;have ky:=cA hy hm;have e:aH (aj w) x y=⟨false,aQ (aj w) x.vq y.vq,Q5 (aQ (aj w)) x.fq y.fq⟩:=by
    unfold aH;rw[if_neg uu,if_neg (by rw[hm];decide)]
   rw[e,fS hn rfl,fS hm rfl];refine⟨⟨λi h1 h2=> ?_,λk h1 h2 i h3 h4=> ?_⟩,⟨λi h1 h2=> ?_,λk h1 h2 i h3 h4=> ?_⟩⟩
   ·simp only[aQ,j4] at h2
    simp only[aQ,j9];exact(uV h60 (kx.gv _ (gM _)) (ky.gv _ (gM _))).1
   ·simp only[j4] at h2
    simp only[aQ,j9,j4] at h4;simp only[aQ,j9];exact(uV h60 (kx.gf k h1 _ (gM _)) (ky.gf k aa _ (gM _))).1
   ·simp only[aQ,j4] at h2
    simp only[aQ,j9];exact(uV h60 (kx.gv _ (gM _)) (ky.gv _ (gM _))).2
   ·simp only[j4] at h2
    simp only[aQ,j9,j4] at h4;simp only[aQ,j9];exact(uV h60 (kx.gf k aa _ (gM _)) (ky.gf k h1 _ (gM _))).2
end
structure Edg where
 tgt:Int
 pic:Pic
def gAt (x:Pic)(i:Int):Gs:=x.vq.getD i.toNat noneG
def aY (x:Pic)(i:Int)(g:Gs):Pic:={x with vq:=x.vq.set i.toNat g}
def fAt (x:Pic)(s n:Int):Gs:=(x.fq.getD s.toNat []).getD n.toNat noneG
def tt (x:Pic)(s n:Int)(g:Gs):Pic:={x with fq:=x.fq.modify s.toNat λr=>r.set n.toNat g}
def bZ (s:Sp):Sp:=if s.n then⟨true,0,0⟩ else if (if s.hi=0 then -1 else s.hi) < (if s.lo=0 then 1 else s.lo) then⟨true,0,0⟩ else⟨false,if s.lo=0 then 1 else s.lo,if s.hi=0 then -1 else s.hi⟩
def bw (g:Gs):Gs:=⟨false,bZ g.sp,g.t,false,g.s⟩
def b8 (g:Gs):Gs:=⟨g.n,if g.sp.has 0 then⟨false,0,0⟩ else⟨true,0,0⟩,false,g.f,[]⟩
def bN (g:Gs):Bool:=g.n||(!g.sp.n||(g.t||g.f))
def fj (x:Pic)(n:Int)(l:List Int):Gs:=l.foldl (λg s=>aj false g (fAt x s n)) noneG
def dw (x:Pic)(n:Int)(b:Gs)(l:List Int):Pic:=l.foldl (λy s=>tt y s n (aj false (fAt y s n) b)) x
def aZ (i:Ins)(at_:Int)(x:Pic):Gs×Bool:=
 if i.k=1 then(⟨false,⟨false,i.n,i.n⟩,false,false,[]⟩,false)
 else if i.k=2 then(⟨false,⟨true,0,0⟩,decide (i.n=1),decide (i.n=0),[]⟩,false)
 else if i.k=3 then(dm,false)
 else if i.k=11 then(⟨false,⟨true,0,0⟩,false,false,[at_]⟩,false)
 else if i.k=12 then(fj x i.n (gAt x i.a).s,bN (gAt x i.a))
 else if i.k=14 then(⟨false,⟨false,-i.n,i.n⟩,false,false,[]⟩,false)
 else cK i.k (gAt x i.a) (gAt x i.b)
def gQ (at_:Int)(x:Pic):Pic:={x with fq:=x.fq.modify at_.toNat λr=>r.map λg=>{g with n:=true}}
def aA (i:Ins)(at_:Int)(x:Pic):List Edg×Bool×Bool:=
 if x.none then([],false,false)
 else if i.k=19 then([],false,false)
 else if i.k=18 then([⟨at_+1,x⟩],false,false)
 else if i.k=16 then([⟨i.g,x⟩],false,false)
 else if i.k=15 then((if cd (gAt x i.a) then [⟨i.g,aY x i.a (bw (gAt x i.a))⟩] else [])++(if cQ (gAt x i.a) then [⟨at_+1,aY x i.a (b8 (gAt x i.a))⟩] else []),false,false)
 else if i.k=17 then((if cd (gAt x i.a) then [⟨at_+1,aY x i.a (bw (gAt x i.a))⟩] else []),false,cQ (gAt x i.a))
 else if i.k=13 then(if (gAt x i.a).s.length=0 then([],bN (gAt x i.a),false) else([⟨at_+1,dw x i.n (gAt x i.b) (gAt x i.a).s⟩],bN (gAt x i.a),false))
 else if an (aZ i at_ x).1 then([],(aZ i at_ x).2,false)
 else([⟨at_+1,aY (if i.k=11 then gQ at_ x else x) i.tgt (aZ i at_ x).1⟩],(aZ i at_ x).2,false)

section
variable {V F:Int} {c:lI} {x:Pic} {g b:Gs}
theorem iM (hx:PicOk V F c x)(i:Int):aE c (gAt x i)=0:=by
 unfold gAt;by_cases h:i.toNat < x.vq.length
 ·simp only[j3,z4 h,Q7]
  exact hx.gv _ (gM h)
 ·simp only[j3,x5 (x4.1 h),Q8]
  rfl
theorem AG (hx:PicOk V F c x)(s n:Int):aE c (fAt x s n)=0:=by
 unfold fAt;by_cases h:s.toNat < x.fq.length
 ·rw[Tr h]
  by_cases h2:n.toNat < x.fq[s.toNat].length
  ·simp only[j3,z4 h2,Q7]
   exact hx.gf _ h _ (gM h2)
  ·simp only[j3,x5 (x4.1 h2),Q8]
   rfl
 ·rw[Sm h]
  rfl
theorem PicOk.setVar (hx:PicOk V F c x)(i:Int)(hg:aE c g=0):PicOk V F c (aY x i g):=by
 refine⟨hx.none,by simpa[Go.Proofs.YtmapdpcfanecdabGreatDoor.aY] using hx.vq,hx.fq,hx.row,λh hh=> ?_,hx.gf,hx.stray⟩;rcases Bl hh with rfl|hh
 ·exact hg
 ·exact hx.gv h hh
theorem iz {L:List (List Gs)}{s k:Nat}{f:List Gs->List Gs}(h:k < (L.modify s f).length):(L.modify s f)[k]=if s=k then f (L[k]'(by simpa using h)) else L[k]'(by simpa using h):=by
 rw[List.getElem_modify]
theorem PicOk.setFld (hx:PicOk V F c x)(s n:Int)(h0:0<=s)(hs:cc c s=true)(hg:aE c g=0):PicOk V F c (tt x s n g):=by
 refine⟨hx.none,hx.vq,by simpa[Go.Proofs.YtmapdpcfanecdabGreatDoor.tt] using hx.fq,λk h=> ?_,hx.gv,λk h q hq=> ?_,λk h=> ?_⟩
 ·have h':=An
  show (((x.fq.modify s.toNat λr=>r.set n.toNat g)[k]'(by simpa using h')).length:Int)=F;rw[iz];split
  ·rw[q0];exact hx.row k h'
  ·exact hx.row k h'
 ·have h':=An
  have hq':=ID;rw[iz] at hq';split at hq'
  ·rcases Bl hq' with rfl|hq'
   ·exact hg
   ·exact hx.gf k h' q hq'
  ·exact hx.gf k h' q hq'
 ·have h':=An
  by_cases e:s.toNat=k
  ·left
   rw[<-e,Int.toNat_of_nonneg h0];exact hs
  ·rcases hx.stray k h' with a|a
   ·exact .inl a
   ·right
    intro q hq;have hq':=ID;rw[iz,if_neg e] at hq';exact a q hq'
theorem yS (hx:PicOk V F c x)(n:Int)(l:List Int):aE c (fj x n l)=0:=by
 unfold fj;have:∀(l:List Int) (g:Gs),aE c g=0->aE c (l.foldl (λg s=>aj false g (fAt x s n)) g)=0:=by
  intro l;induction l with
  |nil=>exact λg h=>h
  |cons s l ih=>exact λg h=>ih _ (nM h (AG hx s n))
 exact this l _ rfl
theorem tr (hx:PicOk V F c x)(n:Int)(hb:aE c b=0):∀(l:List Int),(∀s∈l,cc c s=true)->PicOk V F c (dw x n b l):=by
 intro l;unfold dw;induction l generalizing x with
 |nil=>exact λ_=>hx
 |cons s l ih=>
  intro h;have hs:=h s ah;exact ih (hx.setFld s n (dI hs).1 hs (nM (AG hx s n) hb)) λt ht=>h t (by simp[ht])
theorem gU:(⟨true,0,0⟩:Sp).Ok:=⟨by unfold bk;simp only;omega,by unfold bk;simp only;omega,λ_=>⟨rfl,rfl⟩,Int.le_refl _⟩
theorem kW {lo hi:Int}(h1: -2147483648<=lo)(h2:hi<=2147483647)(h:lo<=hi):(⟨false,lo,hi⟩:Sp).Ok:=⟨⟨h1,aw⟩,⟨aw,h2⟩,(λh=>aT),h⟩
theorem Se {s:Sp}(h:s.Ok):(bZ s).Ok:=by
 obtain⟨⟨a1,a2⟩,⟨a3,a4⟩,a5,a6⟩:=h;unfold bZ;split
 ·exact gU
 generalize e1:(if s.hi=0 then(-1:Int) else s.hi)=hi;generalize e2:(if s.lo=0 then(1:Int) else s.lo)=lo;split
 ·exact gU
 ·have:hi<=2147483647:=by rw[<-e1];split<;>omega
  have: -2147483648<=lo:=by rw[<-e2];split<;>omega
  exact kW aa aa aa
theorem EQ (h:aE c g=0):aE c (bw g)=0:=by
 rw[ckGs_iff] at h |-;exact⟨Se h.1,h.2⟩
theorem ND (h:aE c g=0):aE c (b8 g)=0:=by
 rw[ckGs_iff] at h |-;refine⟨?_,λx hx=>by simp[b8] at hx,rfl⟩;show (if g.sp.has 0=true then _ else _:Sp).Ok;split
 ·exact kW aa aa aa
 ·exact gU
theorem fU {n t f:Bool}{sp:Sp}(h:sp.Ok):aE c ⟨n,sp,t,f,[]⟩=0:=by
 rw[ckGs_iff];exact⟨h,λx hx=>by simp at hx,rfl⟩
theorem Vb {k:Int}{h:Gs}(hg:aE c g=0)(hh:aE c h=0):aE c (cK k g h).1=0:=by
 unfold cK;split
 ·exact hg
 split
 ·exact fU gU
 split
 ·rfl
 split
 ·exact fU gU
 split
 ·exact fU gU
 ·exact fU (WM (ckGs_iff.1 hg).1 (ckGs_iff.1 hh).1)
theorem PicOk.newPic (hx:PicOk V F c x){at_:Int}(h0:0<=at_)(hs:cc c at_=true):PicOk V F c (gQ at_ x):=by
 refine⟨hx.none,hx.vq,by simpa[Go.Proofs.YtmapdpcfanecdabGreatDoor.gQ] using hx.fq,λk h=> ?_,hx.gv,λk h q hq=> ?_,λk h=> ?_⟩
 ·have h':=yI
  show (((x.fq.modify at_.toNat λr=>r.map λg=>{g with n:=true})[k]'(by simpa using h')).length:Int)=F;rw[iz];split
  ·rw[List.length_map];exact hx.row k h'
  ·exact hx.row k h'
 ·have h':=yI
  have hq':=Ku;rw[iz] at hq';split at hq'
  ·obtain⟨p,hp,rfl⟩:=x2.1 hq'
   have:=hx.gf k h' p hp;rw[ckGs_iff] at this |-;exact this
  ·exact hx.gf k h' q hq'
 ·have h':=yI
  by_cases e:at_.toNat=k
  ·left
   rw[<-e,Int.toNat_of_nonneg h0];exact hs
  ·rcases hx.stray k h' with a|a
   ·exact .inl a
   ·right
    intro q hq;have hq':=Ku;rw[iz,if_neg e] at hq';exact a q hq'
theorem Bt {p:Int}(h0:0<=p)(h1:p < c.length)(hk:(bL c p).k=11):cc c p=true:=by
 unfold cc;unfold bL Mr at hk;rw[hk];simp[h0,h1]
theorem Ca (hp:ProgOk V F c)(hx:PicOk V F c x){p:Int}(h0:0<=p)(h1:p < c.length):aE c (aZ (bL c p) p x).1=0:=by
 obtain⟨q1,q2,q3,q4,q5,q6,q7,q8,q9⟩:=cl (hp.each _ (t8 h0 h1));unfold aZ;split
 ·rename_i h
  have:=q7 h;exact fU (kW aa aa aa)
 split
 ·exact fU gU
 split
 ·exact fU gU
 split
 ·rename_i h
  rw[ckGs_iff];refine⟨gU,λy hy=> ?_,rfl⟩;rw[j6.1 hy];exact Bt h0 h1 h
 split
 ·exact yS hx _ _
 split
 ·rename_i h
  have:=q9 h;exact fU (kW aa aa aa)
 ·exact Vb (iM hx _) (iM hx _)
theorem Oy (hp:ProgOk V F c)(hx:aO V F c x=0){p:Int}(h0:0<=p)(h1:p < c.length):∀e∈(aA (bL c p) p x).1,aO V F c e.pic=0/\e.pic.none=false/\0<=e.tgt/\e.tgt<=c.length:=by
 obtain⟨q1,q2,q3,q4,q5,q6,q7,q8,q9⟩:=cl (hp.each _ (t8 h0 h1));intro e he;unfold aA at he;split at he
 ·simp at he
 rename_i hn;have hn':x.none=false:=oT;have kx:=cA hx hn';split at he
 ·simp at he
 split at he
 ·obtain rfl:=i6
  exact⟨hx,hn',aw,aw⟩
 split at he
 ·rename_i h16
  have:=q6 (by simp[nG,h16]);obtain rfl:=i6;exact⟨hx,hn',aw,aw⟩
 split at he
 ·rename_i h15
  have:=q6 (by simp[nG,h15]);simp only[j7] at he;rcases he with he|he
  ·split at he
   ·obtain rfl:=i6
    exact⟨(kx.setVar _ (EQ (iM kx _))).ck,hn',aw,aw⟩
   ·simp at he
  ·split at he
   ·obtain rfl:=i6
    exact⟨(kx.setVar _ (ND (iM kx _))).ck,hn',aw,aw⟩
   ·simp at he
 split at he
 ·simp only at he
  split at he
  ·obtain rfl:=i6
   exact⟨(kx.setVar _ (EQ (iM kx _))).ck,hn',aw,aw⟩
  ·simp at he
 split at he
 ·split at he
  ·simp at he
  ·obtain rfl:=i6
   have:=tr kx (bL c p).n (iM kx (bL c p).b) (gAt x (bL c p).a).s ((ckGs_iff.1 (iM kx _)).2.1);exact⟨this.ck,this.none,aw,aw⟩
 split at he
 ·simp at he
 ·obtain rfl:=i6
  have:PicOk V F c (if (bL c p).k=11 then gQ p x else x):=by
   split
   ·rename_i h11;exact kx.newPic h0 (Bt h0 h1 h11)
   ·exact kx
  have:=this.setVar (bL c p).tgt (Ca hp kx h0 h1);exact⟨this.ck,this.none,aw,aw⟩
end
end
section
open Go.RowKit
def Cells (w:World)(b:Nat)(cs:List Value):Prop:=(∀(j:Nat) (v:Value),cs[j]? =sO v->w.cell? ⟨b,j,nO⟩=sO v)/\b < w.heap.size/\∀j,w.frozen? ⟨b,j,nO⟩=false
section
variable {w w':World} {b:Nat} {cs:List Value}
theorem Cells.same (h:Cells w b cs)(hb:w'.heap[b]? =w.heap[b]?)(hz:w.heap.size<=w'.heap.size):Cells w' b cs:=⟨λj v hj=>by rw[Z6 (a:=⟨b,j,nO⟩) hb];exact h.1 j v hj,lL h.2.1 hz,λj=>by rw[World.frozen?_of_block (a:=⟨b,j,nO⟩) hb];exact h.2.2 j⟩
theorem Cells.call (h:Cells w b cs)(hb:bl w w'):Cells w' b cs:=h.same (hb.block b h.2.1) hb.size
theorem Cells.far (h:Cells w b cs){a:Addr}(ha:b≠a.block)(u:Value):Cells (w.setCell a u) b cs:=h.same (hSe _ _ _ _ ha) bH
theorem Cells.put (h:Cells w b cs)(j:Nat)(hj:j < cs.length)(u:Value):Cells (w.setCell ⟨b,j,nO⟩ u) b (cs.set j u):=by
 refine⟨λk v hk=> ?_,by simpa[Q9] using h.2.1,λk=>by rw[World.frozen?_setCell];exact h.2.2 k⟩;by_cases e:k=j
 ·subst e
  rw[List.getElem?_set_self hj] at hk;cases hk;exact World.cell?_setCell_same _ _ _ (h.1 k cs[k] (z4 hj))
 ·rw[List.getElem?_set_ne (Ne.symm e)] at hk
  rw[World.cell?_setCell_other _ _ _ _ (by intro e';cases e';exact e rfl)];exact h.1 k v hk
theorem Cells.new (w:World)(t:TypeId)(cs:List Value):Cells (w.alloc (Cc cs.toArray t)) w.heap.size cs:=by
 refine⟨λj v hj=> ?_,ah,λj=> ?_⟩
 ·have:(w.alloc (Cc cs.toArray t)).cell? ⟨w.heap.size,j,nO⟩=cs.toArray[j]? :=World.cell?_alloc_mark w cs.toArray t (0,0) j
  rw[this];simpa using hj
 ·have:=World.frozen?_alloc_mark w cs.toArray t 0 0 j
  rw[this];simp
end
def aW (i:Ins)(V F:Int)(s:oA)(c:lI)(cap:Nat)(at_:Int)(x:Pic)(vs:oA)(vc:Nat)(fs:oA)(fc:Nat)(ev:Value)(wr fl:Bool):List Value:=
 [I Y i.k,I Y i.tgt,I Y i.a,I Y i.b,I Y i.n,I Y i.g,I Y V,I Y F,U s c.length cap,I Y at_,Bb x.none,U vs x.vq.length vc,U fs x.fq.length fc,ev,Bb wr,Bb fl]
structure Ed where
 tgt:Int
 pic:Pic
 vs:oA
 vc:Nat
 fs:oA
 fc:Nat
def c8 (e:Ed):List Value:=[I Y e.tgt,Bb e.pic.none,U e.vs e.pic.vq.length e.vc,U e.fs e.pic.fq.length e.fc]
def edG (e:Ed):Edg:=⟨e.tgt,e.pic⟩
def yV (S:Nat->Prop)(w:World)(e:Ed):Prop:=PicOn S w e.pic e.vs e.fs/\(e.pic.vq.length<=e.vc/\e.vc<=maxLen)/\(e.pic.fq.length<=e.fc/\e.fc<=maxLen)
theorem n8 (e:Ed):∀u∈c8 e,u.oneCell'=true:=by
 intro u hu;simp only[c8,j5,List.not_mem_nil,or_false] at hu;rcases hu with rfl|rfl|rfl|rfl<;>rfl
theorem vI:∀(l:List Ed) (i:Nat) (h:i < l.length) (j:Nat) (_:j < 4),(l.flatMap c8)[i * 4+j]? =(c8 l[i])[j]?
 |[],i,h,_,_=>absurd h ah
 |x::r,0,_,j,hj=>by
  rw[J7,Nat.zero_mul,z5,List.getElem?_append_left (by simpa[c8] using hj)];rfl
 |x::r,i+1,h,j,hj=>by
  have e4:(c8 x).length=4:=rfl;rw[J7,List.getElem?_append_right (by rw[e4];omega),e4];have:(i+1) * 4+j - 4=i * 4+j:=aa;rw[this,vI r i cq j hj];rfl
structure ERow (n sb:Nat) (w:World) (v:Value) (L:List Ed):Prop where
 own:w.ownsRow n 45 4 v L.length (L.flatMap c8)
 off:v.ownBlock≠sO sb
 pics:∀e∈L,yV (λb=>n<=b/\b≠sb/\v.ownBlock≠sO b) w e
section
variable {n sb:Nat} {w w':World} {v v':Value} {L:List Ed}
theorem ERow.nil (n sb:Nat)(w:World):ERow n sb w (U nO 0 0) []:=⟨⟨rfl,.inl ⟨rfl,rfl⟩⟩,(λh=>aT),λe he=>by simp at he⟩
theorem ERow.same (h:ERow n sb w v L)(hs:∀b,n<=b->b≠sb->b < w.heap.size->w'.heap[b]? =w.heap[b]?)(hz:w.heap.size<=w'.heap.size):ERow n sb w' v L:=
 ⟨dy h.own λb hb=>hs b (aR h.own hb).2 (λe=>h.off (by rw[hb,e])) (aR h.own hb).1,h.off,λe he=>⟨((h.pics e he).1.same (λb hb hlt=>hs b hb.1 hb.2.1 hlt) hz).mono λb hb _=>hb.1,(h.pics e he).2⟩⟩
theorem ERow.call (h:ERow n sb w v L)(hb:bl w w'):ERow n sb w' v L:=h.same (λb _ _ hlt=>hb.block b hlt) hb.size
theorem ERow.grown (h:ERow n sb w v L){e:Ed}(he:yV (λb=>n<=b/\b≠sb/\v.ownBlock≠sO b) w e)(hr:w'.ownsRow n 45 4 v' (L.length+1) (L.flatMap c8++c8 e))(hg:w.grownBy w' v.ownBlock)(hv:v'.ownBlock=v.ownBlock\/v'.ownBlock=sO w.heap.size)(hsb:sb < w.heap.size):ERow n sb w' v' (L++[e]):=by
 refine⟨by rw[X1,List.flatMap_append];simpa using hr,λe'=> ?_,λq hq=> ?_⟩
 ·rcases hv with hv|hv
  ·rw[hv] at e';exact h.off e'
  ·rw[hv] at e';cases e';exact absurd hsb (Qb _)
 ·have hq':yV (λb=>n<=b/\b≠sb/\v.ownBlock≠sO b) w q:=by
   rcases j7.1 hq with hq|hq
   ·exact h.pics q hq
   ·rw[j6.1 hq];exact he
  refine⟨(hq'.1.same (λb hb hlt=>hg.block b hlt λe=>hb.2.2 e.symm) hg.size).mono λb hb _=>⟨hb.1.1,hb.1.2.1,?_⟩,hq'.2⟩;rcases hv with hv|hv
  ·rw[hv];exact hb.1.2.2
  ·rw[hv];intro e;cases e;exact absurd hb.2 (Qb _)
theorem ERow.form (h:ERow n sb w v L):∃es ec,v=U es L.length ec/\L.length<=ec/\ec<=maxLen:=by
 rcases h.own.2 with⟨e,h0⟩|⟨g,cap,cur,e,_,_,k1,k2,_⟩
 ·exact⟨nO,0,by rw[e,h0],aa,z8 _⟩
 ·exact⟨sO ⟨g,0,nO⟩,cap,e,k1,k2⟩
end
def ClT (n sb:Nat)(eb:Option Nat)(xb b:Nat):Prop:=n<=b/\b≠sb/\b≠xb/\eb≠sO b
def nP (n sb:Nat)(eb:Option Nat)(H:Nat)(w:World)(xb:Nat)(v:Ro)(gs:oA)(gc:Nat)(L:List Ro)(x:Pic):Prop:=
 H<=xb/\Cells w xb [Bb false,U v.rs v.l.length v.rc,U gs L.length gc]/\PicG (ClT n sb eb xb) H w v gs gc L/\Off v (j0 gs L.length gc).ownBlock L xb/\aV false v L=x
section
variable {w w':World} {B m:Nat} {vv tv lv:Value} {fv:List Value}

theorem Ks {e:TypeId}{z:Nat}{v:Value}{n:Nat}{xs:List Value}{B':Nat}(h:w.ownsRow B e z v n xs)(hB:B'<=B):w.ownsRow B' e z v n xs:=by
 obtain⟨h1,h2⟩:=h;refine⟨h1,?_⟩;rcases h2 with h2|⟨g,cap,cur,hv,hb,r⟩
 ·exact .inl h2
 ·exact .inr ⟨g,cap,cur,hv,lT hB hb,r⟩
end
def bD (w:World)(b:Nat):Nat->List Value->World
 |_,[]=>w
 |i,y::ys=>bD (w.setCell ⟨b,i,nO⟩ y) b (i+1) ys
theorem Kd (b k:Nat)(hk:k≠b):∀(ys:List Value) (i:Nat) (w:World),(bD w b i ys).heap[k]? =w.heap[k]?
 |[],_,_=>rfl
 |y::ys,i,w=>by
  show (bD (w.setCell ⟨b,i,nO⟩ y) b (i+1) ys).heap[k]? =_;rw[Kd b k hk ys (i+1) _,hSe _ _ _ _ hk]
theorem EB (b:Nat):∀(ys:List Value) (i:Nat) (w:World),(bD w b i ys).heap.size=w.heap.size
 |[],_,_=>rfl
 |y::ys,i,w=>by
  show (bD (w.setCell ⟨b,i,nO⟩ y) b (i+1) ys).heap.size=_;rw[EB b ys (i+1) _];simp[Q9]
theorem Bv {B:Nat}{a:World}(b:Nat)(hB:B<=b):∀(ys:List Value) (i:Nat) (w:World),Below B a w->Below B a (bD w b i ys)
 |[],_,_,h=>h
 |y::ys,i,w,h=>Bv b hB ys (i+1) _ (h.setCell (p:=⟨b,i,nO⟩) hB y)
def lH:List Value->Nat->List Value->List Value
 |cs,_,[]=>cs
 |cs,o,y::ys=>lH (cs.set o y) (o+1) ys
structure Put (b:Nat) (w w':World) (cs:List Value):Prop where
 cells:Cells w' b cs
 far:∀q,q≠b->w'.heap[q]? =w.heap[q]?
 size:w.heap.size<=w'.heap.size
 low:∀{B:Nat} {a:World},B<=b->Below B a w->Below B a w'
section
variable {b:Nat} {w w':World} {cs:List Value}
theorem CB:∀(ys:List Value) (o:Nat) (w:World) (cs:List Value),Cells w b cs->o+ys.length<=cs.length->Cells (bD w b o ys) b (lH cs o ys)
 |[],_,_,_,h,_=>h
 |y::ys,o,w,cs,h,hl=>CB ys (o+1) _ _ (h.put o (by simp at hl;omega) y) (by simp at hl |-;omega)
theorem bO (h:Cells w b cs)(o:Nat)(ys:List Value)(e:w'=bD w b o ys)(hl:o+ys.length<=cs.length:=by simp):Put b w w' (lH cs o ys):=by
 subst e;exact⟨CB ys o w cs h hl,λq hq=>Kd b q hq ys o w,by rw[EB];exact Nat.le_refl _,λhB hb=>Bv b hB ys o w hb⟩
theorem Put.refl (h:Cells w b cs):Put b w w cs:=⟨h,λ_ _=>rfl,lR _,λ_ hb=>hb⟩
theorem Put.trans {w2:World}{ds:List Value}(p:Put b w w' cs)(q:Put b w' w2 ds):Put b w w2 ds:=⟨q.cells,λk hk=>(q.far k hk).trans (p.far k hk),lT p.size q.size,λhB hb=>q.low hB (p.low hB hb)⟩
theorem Put.keep (p:Put b w w' cs){q:Nat}{ds:List Value}(h:Cells w q ds)(hq:q≠b:=by omega):Cells w' q ds:=h.same (p.far q hq) p.size
theorem Put.ints (p:Put b w w' cs){S:Nat->Prop}{ss:oA}{l:List Int}(h:IntsIn S w ss l)(hS:∀q,S q->q≠b):IntsIn S w' ss l:=h.same (λq hq _=>p.far q (hS q hq)) p.size
end
theorem AO {p:Prop}(h:p:=by
 have n0:=bA;go_enter func224,ntmps224;go_wp2;go_ret;exact⟨bF (by rw[HR.out];simp[h11,hk]),Below.refl _ _⟩):p:=h
theorem Kv (x:Int)(q:Nat)(V F:Int)(s:oA)(c:lI)(cap:Nat)(w:World)(hp:PrAt w q V F s c cap)(hc:CodeAt w s c)(hl:c.length<=60):
  Calls pG 224 #[I Y x,Pp (sO ⟨q,0,nO⟩)] w λe w'=>e=Rt (Bb (!cc c x))/\bl w w':=by
 obtain⟨⟨p0,p1,p2⟩,p3⟩:=hp;have hl':(c.length:Int)<=60:=aa;by_cases h0:x < 0
 ·have HR:Hid (cc c x=false):=by show _=_;unfold cc;rw[decide_eq_false aa];rfl
  go_enter func224,ntmps224;go_wp2;go_ret;exact⟨bF oJ,bR _ _⟩
 by_cases h1:x < (c.length:Int)
 ·obtain⟨k,rfl⟩:=Int.eq_ofNat_of_zero_le (show 0<=x by omega)
  have hk:k < c.length:=aa;obtain⟨b,off,rfl,hb,hi⟩:=hc.get k hk;obtain⟨i0,-,-,-,-,-⟩:=hi k hk;have HR:Hid (cc c k=decide (c[k].k=11)):=by
   show _=_;unfold cc;rw[decide_eq_true (show (0:Int)<=(k:Int) by omega),decide_eq_true h1,Int.toNat_natCast,show c.getD k ⟨0,0,0,0,0,0⟩=c[k] by simp[j3,z4 hk]];simp
  clear hi hc;by_cases h11:c[k].k=11
  ·have e11:(c[k].k !=11)=false:=by simp[h11]
   exact AO
  ·have e11:(c[k].k !=11)=true:=by simpa using h11
   exact AO
 ·have HR:Hid (cc c x=false):=by show _=_;unfold cc;rw[decide_eq_false h1];simp
  go_enter func224,ntmps224;go_wp2;go_ret;exact⟨bF oJ,bR _ _⟩

theorem vP (l:List Int)(p:Int->Bool):(l.any λx=> !p x)= !l.all p:=by
 induction l with
 |nil=>rfl
 |cons a r ih=>simp only[List.any_cons,X4,ih,Bool.not_and]

theorem Co (l:List Int):di l=true↔∀k (h:k+1 < l.length),l[k] < l[k+1]:=by
 induction l with
 |nil=>simp[di]
 |cons a r ih=>
  cases r with
  |nil=>simp[di]
  |cons b t=>
   simp only[di,j8,decide_eq_true_eq,ih];constructor
   ·rintro ⟨h1,h2⟩ k hk
    cases k with
    |zero=>exact h1
    |succ k=>exact h2 k iG
   ·intro h
    exact⟨h 0 ah,λk hk=>h (k+1) iG⟩

abbrev pgW (w:World)(V F:Int)(s:oA)(c:lI)(cap:Nat)(g:Gs)(ss:oA)(gc:Nat):World:=
 (w.alloc (Cc #[I Y V,I Y F,U s c.length cap] 24)).alloc (Cc #[Bb g.n,Bb g.sp.n,I Y g.sp.lo,I Y g.sp.hi,Bb g.t,Bb g.f,U ss g.s.length gc] 91)

theorem Dw (V F:Int)(s:oA)(c:lI)(cap:Nat)(g:Gs)(ss:oA)(gc:Nat)(w:World)(hc:CodeAt w s c)(hl:c.length<=60)(hs:IntsAt w ss g.s)(hgl:g.s.length<=9223372036854775807):
  Calls pG 194 #[pv V F s c cap,gv g ss gc] w λe w'=>e=Rt (I Y (aE c g))/\bl w w':=by
 have P0:PrAt (pgW w V F s c cap g ss gc) w.heap.size V F s c cap:=(PrAt.new w V F s c cap).alloc _;have G0:GuAt (pgW w V F s c cap g ss gc) (w.heap.size+1) 0 g ss gc:=by
  have:=GuAt.new (w.alloc (Cc #[I Y V,I Y F,U s c.length cap] 24)) g ss gc;simpa using this
 have C0:CodeAt (pgW w V F s c cap g ss gc) s c:=(hc.alloc _).alloc _;have I0:IntsAt (pgW w V F s c cap g ss gc) ss g.s:=(hs.alloc _).alloc _;have B0:Below w.heap.size w (pgW w V F s c cap g ss gc):=am;have HR:Hid (aE c g=if cE g.sp≠0 then cE g.sp else if g.s.all (cc c)=false then 5 else if di g.s=false then 4 else 0):=rfl;go_enter func194,ntmps194;go_wp2_with fail;refine(kw g.sp _).mono ?_;rintro e w1 ⟨rfl,hb1⟩;have P1:=gk;have G1:=G0.call hb1;have C1:=C0.call hb1;have I1:=I0.call hb1;have B1:bl w w1:=B0.trans (hb1.mono ap);clear hb1 P0 G0 C0 I0 B0 hc hs;by_cases hsp:cE g.sp=0
 ·obtain⟨⟨g0,g1,g2,g3,g4,g5,g6⟩,gz⟩:=id G1
  rw[hsp];go_wp2_with fail;refine(vt w.heap.size (λx=> !cc c x) ss gc g.s _ hgl I1 λx wx hbx=>Kv x w.heap.size V F s c cap wx (P1.call hbx) (C1.call hbx) hl).mono ?_;rintro e w2 ⟨rfl,hb2⟩;rw[vP];have G2:=G1.call hb2;have I2:=I1.call hb2;have B2:bl w w2:=B1.trans (hb2.mono B1.size);clear hb2 P1 G1 C1 I1 B1 g0 g1 g2 g3 g4 g5 g6 gz;obtain⟨⟨g0,g1,g2,g3,g4,g5,g6⟩,gz⟩:=id G2;cases hA:g.s.all (cc c) with
  |false=>
   have HF:Hid (aE c g=5):=by show _=_;rw[HR.out,if_neg (by simpa using hsp),if_pos hA]
   clear HR;go_wp2;go_ret;exact⟨bQ HF.out.symm,B2⟩
  |true=>
   have HF:Hid (aE c g=if di g.s=false then 4 else 0):=by show _=_;rw[HR.out,if_neg (by simpa using hsp),if_neg (by simp[hA])]
   have HQ:=ag (Co g.s);clear HR;go_wp2;go_loopw [7] (λi wr=>∃k:Nat,1<=k/\i=I Y k/\k<=g.s.length+1/\wr.cell? ⟨w.heap.size+1,6,nO⟩=sO (U ss g.s.length gc)/\IntsAt wr ss g.s/\bl w wr/\Hid (∀j (h:j+1 < g.s.length),j+1 < k->g.s[j] < g.s[j+1])) (λi _=>g.s.length+1 - (intOf i).toNat)
   case atStart=>exact⟨1,lR _,rfl,aa,g6,I2,B2,λj h h'=>aa⟩
   case round=>
    obtain⟨k,hk1,rfl,hk2,r6,IR,BR,HK⟩:=hrel;by_cases hlt:k < g.s.length
    ·obtain⟨b,off,rfl,hb,hcell⟩:=IR.get k hlt
     have c0:=hcell (k - 1) aa;have c1:=hcell k hlt;have t1:((k:Int) - 1).toNat=k - 1:=aa;have n0:(0:Int)<=(k:Int) - 1:=aa;have n1:(k:Int) - 1 < (g.s.length:Int):=aa;have n2:=bA;have n3:(k:Int) < (g.s.length:Int):=aa;clear hcell;by_cases hr:g.s[k - 1] < g.s[k]
     ·go_wp2
      go_quiet (fail)
      go_wp2;go_roundw
      case rel=>
       refine⟨k+1,aa,aF,aa,?_,IR.drewN _,below_drewN BR _,λj h h'=> ?_⟩
       ·rw[<-r6];exact(below_drewN (bR (wr.heap.size+(w.heap.size+2)) wr) _).cell ap
       ·by_cases e:j+1=k
        ·subst e;exact hr
        ·exact HK.out j h aa
      case measure=>exact aK
     ·have HG:Hid (di g.s=false):=by
       show _=_;rw[Bool.eq_false_iff];intro hx;have:=HQ.out.1 hx (k - 1) aa;have e:k - 1+1=k:=aa;simp only[e] at this;exact hr this
      clear HQ;go_wp2
      go_quiet (fail)
      go_wp2;go_ret;exact⟨bQ (by rw[HF.out,if_pos HG.out]),below_drewN BR _⟩
    ·go_wp2
     go_ret;refine⟨bQ ?_,BR⟩;rw[HF.out,if_neg];have:di g.s=true:=HQ.out.2 λj h=>HK.out j h aa;simp[this]
 ·have HF:Hid (aE c g=cE g.sp):=by show _=_;rw[HR.out,if_pos hsp]
  have hne:(cE g.sp !=0)=true:=by simpa using hsp
  clear HR;go_wp2;go_ret;exact⟨bQ HF.out.symm,B1⟩
theorem Be (s t:Sp)(b:Bool)(w:World)(h:(s.n||t.n)=true):
  Calls pG 167 #[sv s,sv t,Bb b] w λe w'=>e=Rt (sv (bj s t))/\bl w w':=by
 obtain⟨n,lo,hi⟩:=s;obtain⟨n',lo',hi'⟩:=t;cases n with
 |true=>
  go_enter func167,ntmps167;go_wp2
  go_returns
  exact cZ
 |false=>
  cases n' with
  |true=>
   go_enter func167,ntmps167;go_wp2
   go_returns
   exact cZ
  |false=>exact absurd h ah

theorem UX {lo hi lo' hi' a b:Int}(ha:a=if lo' < lo then -2147483648 else lo)(hb:b=if hi < hi' then 2147483647 else hi):bp ⟨false,lo,hi⟩ ⟨false,lo',hi'⟩=⟨false,a,b⟩:=by
 subst ha hb;rfl
abbrev fJ (e:Int)(r:Sp):Sp:=if e=0 then r else dh

theorem Us (s t:Sp)(w:World):
  Calls pG 181 #[sv s,sv t,.func (.func 182) #[] #[]] w λe w'=>e=Rt (Tu #[sv (fJ (bx s t) (bj s t)),I Y (bx s t)])/\bl w w':=by
 by_cases h:bx s t=0
 ·rw[h];exact Fz s t w h
 ·unfold fJ;rw[if_neg h];exact m9 _ s t w h

theorem rY {p:Prop}(h:p:=by
 exact((H1.setCell ap _).setCell ap _).setCell ap _):p:=h
theorem Pu (s t:Sp)(w:World):
  Calls pG 124 #[sv s,sv t] w λe w'=>e=Rt (Tu #[sv (fJ (bx s t) (bj s t)),I Y (bx s t)])/\bl w w':=by
 have hT:=Us s t;generalize fJ (bx s t) (bj s t)=r at hT |-;generalize bx s t=c at hT |-;obtain⟨n,lo,hi⟩:=s;obtain⟨n',lo',hi'⟩:=t;obtain⟨rn,rlo,rhi⟩:=r;go_enter func124,ntmps124;go_wp2_with fail;refine(hT _).mono ?_;rintro e w1 ⟨rfl,hb1⟩;obtain⟨-,-,⟨r0,r1,r2⟩,⟨f0,f1,f2⟩,z0,z1,z2⟩:=fu;have H1:=fw;simp only[dh] at r0 r1 r2;clear hb1 hT;go_wp2;refine bodyPost_ret (v:=Tu #[sv ⟨rn,rlo,rhi⟩,I Y c]) (by simp[results,results124,go_sem,r0,r1,r2]) rfl ⟨rfl,?_⟩;exact rY

theorem Tp (s t:Sp)(w:World):
  Calls pG 181 #[sv s,sv t,.func (.func 197) #[] #[]] w λe w'=>e=Rt (Tu #[sv (fJ (bx s t) (aM s t)),I Y (bx s t)])/\bl w w':=by
 by_cases h:bx s t=0
 ·rw[h];exact Ff s t w h
 ·unfold fJ;rw[if_neg h];exact m9 _ s t w h

theorem lV (s t:Sp)(w:World):
  Calls pG 159 #[sv s,sv t] w λe w'=>e=Rt (Tu #[sv (fJ (bx s t) (aM s t)),I Y (bx s t)])/\bl w w':=by
 have hT:=Tp s t;generalize fJ (bx s t) (aM s t)=r at hT |-;generalize bx s t=c at hT |-;obtain⟨n,lo,hi⟩:=s;obtain⟨n',lo',hi'⟩:=t;obtain⟨rn,rlo,rhi⟩:=r;go_enter func159,ntmps159;go_wp2_with fail;refine(hT _).mono ?_;rintro e w1 ⟨rfl,hb1⟩;obtain⟨-,-,⟨r0,r1,r2⟩,⟨f0,f1,f2⟩,z0,z1,z2⟩:=fu;have H1:=fw;simp only[dh] at r0 r1 r2;clear hb1 hT;go_wp2;refine bodyPost_ret (v:=Tu #[sv ⟨rn,rlo,rhi⟩,I Y c]) (by simp[results,results159,go_sem,r0,r1,r2]) rfl ⟨rfl,?_⟩;exact rY

theorem Rf (s t:Sp)(w:World):
  Calls pG 181 #[sv s,sv t,.func (.func 183) #[] #[]] w λe w'=>e=Rt (Tu #[sv (fJ (bx s t) (bp s t)),I Y (bx s t)])/\bl w w':=by
 by_cases h:bx s t=0
 ·rw[h];exact DB s t w h
 ·unfold fJ;rw[if_neg h];exact m9 _ s t w h

theorem OD (s t:Sp)(w:World):
  Calls pG 125 #[sv s,sv t] w λe w'=>e=Rt (Tu #[sv (fJ (bx s t) (bp s t)),I Y (bx s t)])/\bl w w':=by
 have hT:=Rf s t;generalize fJ (bx s t) (bp s t)=r at hT |-;generalize bx s t=c at hT |-;obtain⟨n,lo,hi⟩:=s;obtain⟨n',lo',hi'⟩:=t;obtain⟨rn,rlo,rhi⟩:=r;go_enter func125,ntmps125;go_wp2_with fail;refine(hT _).mono ?_;rintro e w1 ⟨rfl,hb1⟩;obtain⟨-,-,⟨r0,r1,r2⟩,⟨f0,f1,f2⟩,z0,z1,z2⟩:=fu;have H1:=fw;simp only[dh] at r0 r1 r2;clear hb1 hT;go_wp2;refine bodyPost_ret (v:=Tu #[sv ⟨rn,rlo,rhi⟩,I Y c]) (by simp[results,results125,go_sem,r0,r1,r2]) rfl ⟨rfl,?_⟩;exact rY

theorem Pj (s t:Sp)(w:World)(h:bx s t≠0):
  Calls pG 201 #[sv s,sv t] w λe w'=>e=Rt (Tu #[Bb false,I Y (bx s t)])/\bl w w':=by
 have hT:=lV s t;have h':(bx s t==0)=false:=cq;generalize fJ (bx s t) (aM s t)=r at hT;generalize bx s t=c at hT h h' |-;obtain⟨n,lo,hi⟩:=s;obtain⟨n',lo',hi'⟩:=t;obtain⟨rn,rlo,rhi⟩:=r;have h0:=Gr;go_enter func201,ntmps201;go_wp2_with fail;refine(hT _).mono ?_;rintro e w1 ⟨rfl,hb1⟩;obtain⟨c0,c1,c2,d0,d1,d2⟩:=tI hb1 ah;have H1:bl w w1:=h0.trans (hb1.mono ap);have z0:w.heap.size < w1.heap.size:=mH;clear hb1 hT;go_wp2
 go_ret2
 exact⟨rfl,H1.alloc aa _⟩

theorem Uz (r:Sp)(s:Sp):@decide _ (r.dq s)=(r.n==s.n&&(r.lo==s.lo&&r.hi==s.hi)):=by
 obtain⟨n,lo,hi⟩:=r;obtain⟨n',lo',hi'⟩:=s;rw[Bool.eq_iff_iff];simp

theorem Pw (s t:Sp)(w:World)(h:bx s t=0):
  Calls pG 201 #[sv s,sv t] w λe w'=>e=Rt (Tu #[Bb (@decide _ ((aM s t).dq s)),I Y 0])/\bl w w':=by
 have hT:=lV s t;rw[h] at hT;have e0:fJ 0 (aM s t)=aM s t:=rfl;rw[e0] at hT;rw[Uz];clear e0 h;generalize aM s t=r at hT |-;obtain⟨n,lo,hi⟩:=s;obtain⟨n',lo',hi'⟩:=t;obtain⟨rn,rlo,rhi⟩:=r;have h0:=Gr;go_enter func201,ntmps201;go_wp2_with fail;refine(hT _).mono ?_;rintro e w1 ⟨rfl,hb1⟩;obtain⟨c0,c1,c2,d0,d1,d2⟩:=tI hb1 ah;have H1:bl w w1:=h0.trans (hb1.mono ap);have z0:w.heap.size < w1.heap.size:=mH;clear hb1 hT;go_wp2;all_goals go_ret2
 all_goals exact⟨MV (by simp_all),H1.alloc aa _⟩

theorem Pc (s t:Sp)(w:World):
  Calls pG 201 #[sv s,sv t] w λe w'=>e=Rt (Tu #[Bb (decide (bx s t=0)&&@decide _ ((aM s t).dq s)),I Y (bx s t)])/\bl w w':=by
 by_cases h:bx s t=0
 ·have:=Pw s t w h
  rw[h];simpa using this
 ·have:=Pj s t w h
  simpa[h] using this
@[go_sem] theorem run_min4 {P:Program} (w:World) (ts:Array TypeId) (t:TypeId) (a b c d:Int):
  (Builtin.min_ ts t #[I Y a,I Y b,I Y c,I Y d]).run P w=.ok (I Y (dZ a b c d)) w:=by
 have e:∀x y:Int,(if y < x then y else x)=min x y:=λx y=>vh;simp[Builtin.min_,Builtin.min2,e,dZ]

@[go_sem] theorem run_max4 {P:Program} (w:World) (ts:Array TypeId) (t:TypeId) (a b c d:Int):
  (Builtin.max_ ts t #[I Y a,I Y b,I Y c,I Y d]).run P w=.ok (I Y (dX a b c d)) w:=by
 have e:∀x y:Int,(if x < y then y else x)=max x y:=λx y=>vh;simp[Builtin.max_,Builtin.max2,e,dX]

theorem Cf {p:Prop}(h:p:=by
 go_enter func228,ntmps228;go_wp2_with (go_at_call 226;refine(DU _).mono ?_;rintro e w1 ⟨rfl,rfl⟩)
 go_returns
 exact⟨rfl,am⟩):p:=h
theorem oe (F:Nat)(s t:Sp)(w:World)(h:(s.n||t.n)=true):
  Calls pG 228 #[sv s,sv t,.func (.func F) #[] #[]] w λe w'=>e=Rt (sv ⟨true,0,0⟩)/\bl w w':=by
 obtain⟨n,lo,hi⟩:=s;obtain⟨n',lo',hi'⟩:=t;cases n with
 |true=>
  exact Cf
 |false=>
  cases n' with
  |true=>
   exact Cf
  |false=>simp at h

theorem MT {a b c d:Int}(h1:bk (dZ a b c d))(h2:bk (dX a b c d)):gW a b c d=⟨false,dZ a b c d,dX a b c d⟩:=if_pos ⟨h1,h2⟩
theorem V3 {a b c d:Int}(h1:¬bk (dZ a b c d)):gW a b c d=⟨false,-2147483648,2147483647⟩:=if_neg (λh=>h1 h.1)
theorem U6 {a b c d:Int}(h1:¬bk (dX a b c d)):gW a b c d=⟨false,-2147483648,2147483647⟩:=if_neg (λh=>h1 h.2)
theorem pU {p:Prop}(h:p:=by
 clear h1 h2 h3 h4;go_enter func228,ntmps228;go_wp2
 go_quiet (first|exact Calls.quiet_of (k1 _)|exact Calls.quiet_of (k2 _)|exact Calls.quiet_of (k3 _)|exact Calls.quiet_of (k4 _))
 clear k1 k2 k3 k4;by_cases h1:bk (dZ a b c d)
 ·have e1:decide (bk (dZ a b c d))=true:=decide_eq_true h1
  by_cases h2:bk (dX a b c d)
  ·have e2:decide (bk (dX a b c d))=true:=decide_eq_true h2
   go_wp2_with (go_at_call 225;refine(iI _ _).mono ?_;rintro e w' ⟨rfl,rfl⟩)
   go_returns
   exact⟨ia (MT h1 h2),u9⟩
  ·have e2:decide (bk (dX a b c d))=false:=decide_eq_false h2
   go_wp2_with (first|(go_at_call 225;refine(iI _ _).mono ?_;rintro e w' ⟨rfl,rfl⟩)|(go_at_call 245;refine(PL _).mono ?_;rintro e w' ⟨rfl,rfl⟩))
   go_returns
   exact⟨ia (U6 h2),u9⟩
 ·have e1:decide (bk (dZ a b c d))=false:=decide_eq_false h1
  go_wp2_with (first|(go_at_call 225;refine(iI _ _).mono ?_;rintro e w' ⟨rfl,rfl⟩)|(go_at_call 245;refine(PL _).mono ?_;rintro e w' ⟨rfl,rfl⟩))
  go_returns
  exact⟨ia (V3 h1),u9⟩):p:=h
theorem NB (lo hi lo' hi':Int)(w:World)(h1:wrap64 (lo+lo')=lo+lo')(h2:wrap64 (lo+hi')=lo+hi')(h3:wrap64 (hi+lo')=hi+lo')(h4:wrap64 (hi+hi')=hi+hi'):
  Calls pG 228 #[sv ⟨false,lo,hi⟩,sv ⟨false,lo',hi'⟩,.func (.func 229) #[] #[]] w λe w'=>e=Rt (sv (gW (lo+lo') (lo+hi') (hi+lo') (hi+hi')))/\bl w w':=by
 have k1:∀w:World,Calls pG 229 #[I Y lo,I Y lo'] w λe w'=>e=Rt (I Y (lo+lo'))/\∃n,w'=w.drewN n:=λw=>(uq lo lo' w h1).mono fM;have k2:∀w:World,Calls pG 229 #[I Y lo,I Y hi'] w λe w'=>e=Rt (I Y (lo+hi'))/\∃n,w'=w.drewN n:=λw=>(uq lo hi' w h2).mono fM;have k3:∀w:World,Calls pG 229 #[I Y hi,I Y lo'] w λe w'=>e=Rt (I Y (hi+lo'))/\∃n,w'=w.drewN n:=λw=>(uq hi lo' w h3).mono fM;have k4:∀w:World,Calls pG 229 #[I Y hi,I Y hi'] w λe w'=>e=Rt (I Y (hi+hi'))/\∃n,w'=w.drewN n:=λw=>(uq hi hi' w h4).mono fM;generalize lo+lo'=a at k1 |-;generalize lo+hi'=b at k2 |-;generalize hi+lo'=c at k3 |-;generalize hi+hi'=d at k4 |-;exact pU
theorem Oa (lo hi lo' hi':Int)(w:World)(h1:wrap64 (lo - lo')=lo - lo')(h2:wrap64 (lo - hi')=lo - hi')(h3:wrap64 (hi - lo')=hi - lo')(h4:wrap64 (hi - hi')=hi - hi'):
  Calls pG 228 #[sv ⟨false,lo,hi⟩,sv ⟨false,lo',hi'⟩,.func (.func 230) #[] #[]] w λe w'=>e=Rt (sv (gW (lo - lo') (lo - hi') (hi - lo') (hi - hi')))/\bl w w':=by
 have k1:∀w:World,Calls pG 230 #[I Y lo,I Y lo'] w λe w'=>e=Rt (I Y (lo - lo'))/\∃n,w'=w.drewN n:=λw=>(uY lo lo' w h1).mono fM;have k2:∀w:World,Calls pG 230 #[I Y lo,I Y hi'] w λe w'=>e=Rt (I Y (lo - hi'))/\∃n,w'=w.drewN n:=λw=>(uY lo hi' w h2).mono fM;have k3:∀w:World,Calls pG 230 #[I Y hi,I Y lo'] w λe w'=>e=Rt (I Y (hi - lo'))/\∃n,w'=w.drewN n:=λw=>(uY hi lo' w h3).mono fM;have k4:∀w:World,Calls pG 230 #[I Y hi,I Y hi'] w λe w'=>e=Rt (I Y (hi - hi'))/\∃n,w'=w.drewN n:=λw=>(uY hi hi' w h4).mono fM;generalize lo - lo'=a at k1 |-;generalize lo - hi'=b at k2 |-;generalize hi - lo'=c at k3 |-;generalize hi - hi'=d at k4 |-;exact pU
theorem OW (lo hi lo' hi':Int)(w:World)(h1:wrap64 (lo * lo')=lo * lo')(h2:wrap64 (lo * hi')=lo * hi')(h3:wrap64 (hi * lo')=hi * lo')(h4:wrap64 (hi * hi')=hi * hi'):
  Calls pG 228 #[sv ⟨false,lo,hi⟩,sv ⟨false,lo',hi'⟩,.func (.func 231) #[] #[]] w λe w'=>e=Rt (sv (gW (lo * lo') (lo * hi') (hi * lo') (hi * hi')))/\bl w w':=by
 have k1:∀w:World,Calls pG 231 #[I Y lo,I Y lo'] w λe w'=>e=Rt (I Y (lo * lo'))/\∃n,w'=w.drewN n:=λw=>(uF lo lo' w h1).mono fM;have k2:∀w:World,Calls pG 231 #[I Y lo,I Y hi'] w λe w'=>e=Rt (I Y (lo * hi'))/\∃n,w'=w.drewN n:=λw=>(uF lo hi' w h2).mono fM;have k3:∀w:World,Calls pG 231 #[I Y hi,I Y lo'] w λe w'=>e=Rt (I Y (hi * lo'))/\∃n,w'=w.drewN n:=λw=>(uF hi lo' w h3).mono fM;have k4:∀w:World,Calls pG 231 #[I Y hi,I Y hi'] w λe w'=>e=Rt (I Y (hi * hi'))/\∃n,w'=w.drewN n:=λw=>(uF hi hi' w h4).mono fM;generalize lo * lo'=a at k1 |-;generalize lo * hi'=b at k2 |-;generalize hi * lo'=c at k3 |-;generalize hi * hi'=d at k4 |-;exact pU
theorem mT {a b c d:Bool}(h:a=c)(h':b=d):Ending.returned (Tu #[Bb a,Bb b])=Rt (Tu #[Bb c,Bb d]):=by rw[h,h']

theorem BF {p:Prop}(h:p:=by
 go_wp2;refine wp_region_quiet_lit ae ae ?_;repeat (any_goals (first|go_big_quiet_step (fail)|quiet_step (fail)|(refine wpQuiet_step (λK hK=> ?_);go_simp;split<;>(refine hK _ ?_;clear hK K))))
 all_goals (refine wpQuiet_nil ?_;intro _ hw';obtain⟨nq,hw''⟩:=hw';subst hw'')
 all_goals go_wp2
 all_goals go_ret2
 all_goals exact⟨mT oF (by rw[HN.out];simp_all),below_drewN B1 _⟩):p:=h
theorem Ci {p:Prop}(h:p:=by
 clear hz HZ;go_wp2;refine wp_region_quiet_lit ae ae ?_;repeat (any_goals (first|go_big_quiet_step (fail)|quiet_step (fail)|(refine wpQuiet_step (λK hK=> ?_);go_simp;split<;>(refine hK _ ?_;clear hK K))))
 all_goals (refine wpQuiet_nil ?_;intro _ hw';obtain⟨nq,hw''⟩:=hw';subst hw'')
 all_goals go_wp2
 all_goals go_ret2
 all_goals exact⟨mT rfl (by rw[HN.out];simp_all),below_drewN B1 _⟩):p:=h
theorem AH (g:Gs)(ss:oA)(gc:Nat)(w:World)(hsp:cE g.sp=0):
  Calls pG 198 #[gv g ss gc] w λe w'=>e=Rt (Tu #[Bb (cd g),Bb (cQ g)])/\bl w w':=by
 have hH:=λw=>Vm g.sp 0 w;rw[hsp,show (decide ((0:Int)=0)&&g.sp.has 0)=g.sp.has 0 from rfl] at hH;have HY:=Hq;have HN:Hid (cQ g=(g.sp.has 0||(g.n||g.f))):=rfl;generalize cd g=yy at *;generalize cQ g=nn at *;generalize g.sp.has 0=z at *;obtain⟨n,⟨sn,lo,hi⟩,t,f,s⟩:=g;have G0:=GuAt.new w ⟨n,⟨sn,lo,hi⟩,t,f,s⟩ ss gc;go_enter func198,ntmps198;go_wp2_with fail;refine(hH _).mono ?_;rintro e w1 ⟨rfl,hb1⟩;have G1:=G0.call hb1;have B1:Below w.heap.size w w1:=Below.trans am (hb1.mono ah);obtain⟨⟨g0,g1,g2,g3,g4,g5,g6⟩,gz⟩:=id G1;simp only[z5] at g0 g1 g2 g3 g4 g5 g6;clear G0 G1 hb1 hH hsp;cases sn with
 |true=>
  exact BF
 |false=>
  by_cases hz:lo=0/\hi=0
  ·obtain⟨rfl,rfl⟩:=hz
   exact BF
  ·have HZ:Hid (decide (lo=0/\hi=0)=false):=by show _=_;simpa using hz
   have hm:yy=true:=by rw[HY.out,HZ.out];rfl
   subst hm;clear HY;by_cases h1:lo=0
   ·subst h1
    have h2:(hi==0)=false:=by simp only[beq_eq_false_iff_ne];intro h;exact hz ⟨rfl,h⟩
    exact Ci
   ·have h2:(lo==0)=false:=by simpa using h1
    exact Ci

theorem BU {p:Prop}(h:p:=by
 go_wp2_with fail;refine(Fw x ss gc h.s _ hl hs).mono ?_;rintro e w1 ⟨rfl,rfl⟩;go_wp2;go_ret;exact⟨bF ah,Below.refl _ _⟩):p:=h
theorem g9 (x:Int)(q:Nat)(h:Gs)(ss:oA)(gc:Nat)(w:World)(hg:GuAt w q 0 h ss gc)(hs:IntsAt w ss h.s)(hl:h.s.length<=9223372036854775807):
  Calls pG 199 #[I Y x,Pp (sO ⟨q,0,nO⟩)] w λe w'=>e=Rt (Bb (!h.s.contains x))/\bl w w':=by
 obtain⟨⟨g0,g1,g2,g3,g4,g5,g6⟩,gz⟩:=id hg;simp only[z5] at g6;go_enter func199,ntmps199;exact BU

theorem fP (x:Int)(q:Nat)(h:Gs)(ss:oA)(gc:Nat)(w:World)(hg:GuAt w q 0 h ss gc)(hs:IntsAt w ss h.s)(hl:h.s.length<=9223372036854775807):
  Calls pG 234 #[I Y x,Pp (sO ⟨q,0,nO⟩)] w λe w'=>e=Rt (Bb (h.s.contains x))/\bl w w':=by
 obtain⟨⟨g0,g1,g2,g3,g4,g5,g6⟩,gz⟩:=id hg;simp only[z5] at g6;go_enter func234,ntmps234;exact BU
theorem DN (l:List Gs)(p:Gs->Bool)(k:Nat)(h:k < l.length):(l.drop k).any p=(p l[k]||(l.drop (k+1)).any p):=by
 rw[z6 h];rfl

theorem Fg (g:Gs)(ss:oA)(gc:Nat)(w:World):
  Calls pG 246 #[gv g ss gc] w λe w'=>e=Rt (Bb (aP g))/\bl w w':=by
 have HO:Hid (aP g=(g.n||(g.t||(g.f||decide (0 < g.s.length))))):=rfl;generalize aP g=o at *;obtain⟨n,⟨sn,lo,hi⟩,t,f,s⟩:=g;cases n;all_goals cases t
 all_goals cases f
 all_goals
  go_enter func246,ntmps246;go_wp2;go_ret;exact⟨bF (by rw[HO.out];simp),am⟩

theorem As {p:Prop}(h:p:=by
 refine(HF.out L[k] ss gc _).mono ?_;rintro e w1 ⟨rfl,hb1⟩;cases hp:p L[k] with
 |true=>
  have HT:Hid (L.any p=true):=kk;clear HN HA;go_wp2;go_ret;exact lk
 |false=>
  have HT:Hid (L.any p=(L.drop (k+1)).any p):=kk;have hR':=hR.call hb1;clear HN HA;go_wp2;go_roundw
  case rel=>exact⟨k+1,aa,aF,hR',hbr.trans (hb1.mono s0),HT⟩
  case measure=>exact aK):p:=h
theorem y6 (p:Gs->Bool)(ls:oA)(L:List Gs)(lc:Nat)(w:World)(hl:L.length<=9223372036854775807)(hL:GhAt w ls L)
  (hF:∀g ss gc wx,Calls pG 246 #[gv g ss gc] wx λe w'=>e=Rt (Bb (p g))/\bl wx w'):
  Calls pG 193 #[U ls L.length lc,.func (.func 246) #[] #[]] w λe w'=>∃n:Int,e=Rt (I Y n)/\decide (0<=n)=L.any p/\bl w w':=by
 have HF:=ag hF;clear hF;go_enter func193,ntmps193;go_wp2;go_loopw [8] (λi wr=>∃k:Nat,k<=L.length/\i=I Y k/\GhAt wr ls L/\bl w wr/\Hid (L.any p=(L.drop k).any p)) (λi _=>L.length - (intOf i).toNat)
 case atStart=>exact⟨0,z8 _,rfl,hL,bR _ _,rfl⟩
 case round=>
  obtain⟨k,hk,rfl,hR,hbr,HA⟩:=hrel;by_cases hlt:k < L.length
  ·obtain⟨b,off,rfl,ss,gc,hG⟩:=hR k hlt
   obtain⟨⟨g0,g1,g2,g3,g4,g5,g6⟩,gz⟩:=id hG;have n0:=bA;have n1:=gC;have s0:=hbr.size;have HN:=KQ;go_wp2_with fail;exact As
  ·go_wp2
   go_ret;exact im

theorem tc (p:Gs->Bool)(ls:oA)(L:List Gs)(lc:Nat)(w:World)(hl:L.length<=9223372036854775807)(hL:GhAt w ls L)
  (hF:∀g ss gc wx,Calls pG 246 #[gv g ss gc] wx λe w'=>e=Rt (Bb (p g))/\bl wx w'):
  Calls pG 141 #[U ls L.length lc,.func (.func 246) #[] #[]] w λe w'=>e=Rt (Bb (L.any p))/\bl w w':=by
 have HF:=ag hF;clear hF;go_enter func141,ntmps141;go_wp2_with fail;refine(y6 p ls L lc _ hl hL HF.out).mono ?_;rintro e w1 ⟨n,rfl,hn,hb1⟩;go_wp2;go_ret;exact fA

theorem tB (ls:oA)(L:List Gs)(lc:Nat)(w:World)(hl:L.length<=9223372036854775807)(hL:GhAt w ls L):
  Calls pG 232 #[U ls L.length lc] w λe w'=>e=Rt (Bb (L.any aP))/\bl w w':=by
 go_enter func232,ntmps232;go_wp2_with fail;refine(tc aP ls L lc _ hl hL λg ss gc wx=>Fg g ss gc wx).mono ?_;rintro e w1 ⟨rfl,hb1⟩;go_wp2;go_ret;exact fA

theorem Cu (g:Gs)(ss:oA)(gc:Nat)(w:World):
  Calls pG 247 #[gv g ss gc] w λe w'=>e=Rt (Bb (an g))/\bl w w':=by
 have HO:Hid (an g=(g.sp.n&& !aP g)):=rfl;have hA:=tB (sO ⟨w.heap.size+1,0,nO⟩) [g] 1;have G0:=GhAt.new1 (w.alloc (Cc #[Bb g.n,Bb g.sp.n,I Y g.sp.lo,I Y g.sp.hi,Bb g.t,Bb g.f,U ss g.s.length gc] 91)) g ss gc;rw[zA] at G0;rw[show [g].any aP=aP g by simp] at hA;have HA:=ag hA;clear hA;generalize aP g=oo at *;generalize an g=o at *;obtain⟨n,⟨sn,lo,hi⟩,t,f,s⟩:=g;cases sn with
 |true=>
  go_enter func247,ntmps247;go_wp2_with fail;refine(HA.out _ ah G0).mono ?_;rintro e w1 ⟨rfl,hb1⟩;go_wp2;go_ret;exact⟨bF (by rw[HO.out];simp),Below.trans am (hb1.mono ap)⟩
 |false=>
  go_enter func247,ntmps247;go_wp2;go_ret;exact⟨bF (by rw[HO.out];rfl),am⟩

theorem tw (p:Gs->Bool)(ls:oA)(L:List Gs)(lc:Nat)(w:World)(hl:L.length<=9223372036854775807)(hL:GhAt w ls L)
  (hF:∀g ss gc wx,Calls pG 247 #[gv g ss gc] wx λe w'=>e=Rt (Bb (p g))/\bl wx w'):
  Calls pG 193 #[U ls L.length lc,.func (.func 247) #[] #[]] w λe w'=>∃n:Int,e=Rt (I Y n)/\decide (0<=n)=L.any p/\bl w w':=by
 have HF:=ag hF;clear hF;go_enter func193,ntmps193;go_wp2;go_loopw [8] (λi wr=>∃k:Nat,k<=L.length/\i=I Y k/\GhAt wr ls L/\bl w wr/\Hid (L.any p=(L.drop k).any p)) (λi _=>L.length - (intOf i).toNat)
 case atStart=>exact⟨0,z8 _,rfl,hL,bR _ _,rfl⟩
 case round=>
  obtain⟨k,hk,rfl,hR,hbr,HA⟩:=hrel;by_cases hlt:k < L.length
  ·obtain⟨b,off,rfl,ss,gc,hG⟩:=hR k hlt
   obtain⟨⟨g0,g1,g2,g3,g4,g5,g6⟩,gz⟩:=id hG;have n0:=bA;have n1:=gC;have s0:=hbr.size;have HN:=KQ;go_wp2_with fail;exact As
  ·go_wp2
   go_ret;exact im

theorem ow (p:Gs->Bool)(ls:oA)(L:List Gs)(lc:Nat)(w:World)(hl:L.length<=9223372036854775807)(hL:GhAt w ls L)
  (hF:∀g ss gc wx,Calls pG 247 #[gv g ss gc] wx λe w'=>e=Rt (Bb (p g))/\bl wx w'):
  Calls pG 141 #[U ls L.length lc,.func (.func 247) #[] #[]] w λe w'=>e=Rt (Bb (L.any p))/\bl w w':=by
 have HF:=ag hF;clear hF;go_enter func141,ntmps141;go_wp2_with fail;refine(tw p ls L lc _ hl hL HF.out).mono ?_;rintro e w1 ⟨n,rfl,hn,hb1⟩;go_wp2;go_ret;exact fA

theorem oM (ls:oA)(L:List Gs)(lc:Nat)(w:World)(hl:L.length<=9223372036854775807)(hL:GhAt w ls L):
  Calls pG 233 #[U ls L.length lc] w λe w'=>e=Rt (Bb (L.any an))/\bl w w':=by
 go_enter func233,ntmps233;go_wp2_with fail;refine(ow an ls L lc _ hl hL λg ss gc wx=>Cu g ss gc wx).mono ?_;rintro e w1 ⟨rfl,hb1⟩;go_wp2;go_ret;exact fA

theorem vW (ls:oA)(L:List Gs)(lc:Nat)(w:World)(hl:L.length<=9223372036854775807)(hL:GhAt w ls L):
  Calls pG 203 #[U ls L.length lc] w λe w'=>e=Rt (Bb (L.any aP&& !L.any an))/\bl w w':=by
 have H1:=ag (tB ls L lc w hl hL);cases ho:L.any aP with
 |true=>
  rw[ho] at H1;go_enter func203,ntmps203;go_wp2_with fail;refine H1.out.mono ?_;rintro e w1 ⟨rfl,hb1⟩;go_wp2_with fail;refine(oM ls L lc _ hl (hL.call hb1)).mono ?_;rintro e w2 ⟨rfl,hb2⟩;go_wp2;go_ret;exact⟨rfl,hb1.trans (hb2.mono hb1.size)⟩
 |false=>
  rw[ho] at H1;go_enter func203,ntmps203;go_wp2_with fail;refine H1.out.mono ?_;rintro e w1 ⟨rfl,hb1⟩;go_wp2;go_ret;exact fA

theorem TZ (s t:Sp)(w:World):
  Calls pG 205 #[sv s,sv t] w λe w'=>e=Rt (Tu #[Bb (!(s.n||t.n)&&decide (s.lo < t.hi)),Bb (!(s.n||t.n)&&decide (t.lo<=s.hi))])/\bl w w':=by
 obtain⟨sn,lo,hi⟩:=s;obtain⟨tn,lo',hi'⟩:=t;cases sn with
 |true=>
  go_enter func205,ntmps205;go_wp2
  go_ret2
  exact cZ
 |false=>
  cases tn with
  |true=>
   go_enter func205,ntmps205;go_wp2
   go_ret2
   exact cZ
  |false=>
   go_enter func205,ntmps205;go_wp2
   go_quiet (fail)
   go_wp2
   go_ret2
   exact⟨mT ah ah,below_drewN am _⟩

theorem mt (y n:Bool)(w:World):
  Calls pG 204 #[Bb y,Bb n] w λe w'=>e=Rt (gv ⟨false,⟨true,0,0⟩,y,n,[]⟩ nO 0)/\bl w w':=by
 go_enter func204,ntmps204;go_wp2
 go_returns
 exact cZ
end
section
theorem oY:∀{l:List Int},di l=true->l.Pairwise (· < ·)
 |[],_=>x9.nil
 |[a],_=>X2 _ _
 |a::b::r,h=>by
  unfold di at h;rw[j8,decide_eq_true_eq] at h;have ih:=oY h.2;rw[x3];refine⟨λx hx=> ?_,ih⟩;rcases j5.1 hx with rfl|hx
  ·exact h.1
  ·have:=(x3.1 ih).1 x hx
   omega
theorem iB:∀{a b:List Int},a.Pairwise (· < ·)->b.Pairwise (· < ·)->(∀x∈a,x∈b)->a.length<=b.length/\(a.length=b.length->a=b)
 |[],b,_,_,_=>⟨z8 _,λh=>(Qa.1 h.symm).symm⟩
 |x::r,[],_,_,h=>absurd (h x ah) ah
 |x::r,y::q,ha,hb,h=>by
  obtain⟨a1,a2⟩:=x3.1 ha;obtain⟨b1,b2⟩:=x3.1 hb;by_cases e:x=y
  ·subst e
   have hs:∀z∈r,z∈q:=λz hz=>by
    rcases j5.1 (h z (by simp[hz])) with rfl|hq
    ·exact absurd (a1 z hz) aa
    ·exact hq
   obtain⟨h1,h2⟩:=iB a2 b2 hs;refine⟨by simp only[z3];omega,λhl=> ?_⟩;rw[h2 (by simpa using hl)]
  ·have hyx:y < x:=by
    rcases j5.1 (h x ah) with rfl|hq
    ·exact absurd rfl e
    ·exact b1 x hq
   have hs:∀z∈x::r,z∈q:=λz hz=>by
    rcases j5.1 (h z hz) with rfl|hq
    ·rcases j5.1 hz with rfl|hz
     ·exact absurd rfl e
     ·exact absurd (a1 z hz) aa
    ·exact hq
   obtain⟨h1,h2⟩:=iB ha b2 hs;simp only[z3] at h1 |-;exact⟨aa,λhl=>aa⟩
theorem LZ {a b:List Int}(ha:a.Pairwise (· < ·))(hb:b.Pairwise (· < ·))(h:∀x,x∈a↔x∈b):a=b:=by
 obtain⟨h1,h2⟩:=iB ha hb λx hx=>(h x).1 hx;obtain⟨h3,_⟩:=iB hb ha λx hx=>(h x).2 hx;exact h2 aa
theorem Sh {s t:Sp}(hs:s.Ok)(ht:t.Ok)(h:fI t s=true):bj s t=s:=by
 obtain⟨_,_,s5,s6⟩:=hs;obtain⟨_,_,t5,t6⟩:=ht;rw[eS t6] at h;unfold bj;obtain⟨sn,slo,shi⟩:=s;obtain⟨tn,tlo,thi⟩:=t;simp only at h s5 t5 s6 t6 |-;rcases h with h|⟨h1,h2,h3⟩
 ·subst h
  obtain⟨rfl,rfl⟩:=t5 rfl;cases sn with
  |true=>obtain⟨rfl,rfl⟩:=s5 rfl;rfl
  |false=>rfl
 ·subst h1
  cases tn with
  |true=>rfl
  |false=>
   simp only[j2,if_false,Sp.mk.injEq,true_and];omega
theorem Si {s t:Sp}(hs:s.Ok)(ht:t.Ok)(h:fI t s=true):bp s t=s:=by
 obtain⟨_,_,s5,s6⟩:=hs;obtain⟨_,_,t5,t6⟩:=ht;rw[eS t6] at h;unfold bp;obtain⟨sn,slo,shi⟩:=s;obtain⟨tn,tlo,thi⟩:=t;simp only at h s5 t5 s6 t6 |-;rcases h with h|⟨h1,h2,h3⟩
 ·subst h
  obtain⟨rfl,rfl⟩:=t5 rfl;cases sn with
  |true=>obtain⟨rfl,rfl⟩:=s5 rfl;rfl
  |false=>rfl
 ·subst h1
  cases tn with
  |true=>rfl
  |false=>
   simp only[j2,if_false,Sp.mk.injEq,true_and];rw[if_neg aa,if_neg aa];exact ii
section
variable {c:lI} {g h k:Gs} {w:Bool}
theorem nJ (hg:aE c g=0):g.s.Pairwise (· < ·):=oY (ckGs_iff.1 hg).2.2
theorem Cl (hg:aE c g=0):dp g g=true:=by
 rw[inGs_iff,eS (oN hg)];refine⟨id,id,id,?_,λ_ h=>h⟩;cases g.sp.n
 ·exact .inr ⟨rfl,aa,aa⟩
 ·exact .inl rfl
theorem Bs (hg:aE c g=0)(hh:aE c h=0)(h1:dp g h=true)(h2:dp h k=true):dp g k=true:=by
 rw[inGs_iff,eS (oN hg)] at h1;rw[inGs_iff,eS (oN hh)] at h2;rw[inGs_iff,eS (oN hg)];obtain⟨a1,a2,a3,a4,a5⟩:=h1;obtain⟨b1,b2,b3,b4,b5⟩:=h2;refine⟨λe=>b1 (a1 e),λe=>b2 (a2 e),λe=>b3 (a3 e),?_,λx hx=>b5 x (a5 x hx)⟩;rcases a4 with a4|⟨a4,a6,a7⟩
 ·exact .inl a4
 ·rcases b4 with b4|⟨b4,b6,b7⟩
  ·rw[a4] at b4;cases b4
  ·exact .inr ⟨b4,aa,aa⟩
theorem wm (h60:c.length<=60)(hg:aE c g=0)(hh:aE c h=0)(hi:dp h g=true):aj w g h=g:=by
 obtain⟨a1,a2,a3,a4,a5⟩:=inGs_iff.1 hi;have og:=(ckGs_iff.1 hg).1;have oh:=(ckGs_iff.1 hh).1;have e1:(if w then bp g.sp h.sp else bj g.sp h.sp)=g.sp:=by
  cases w
  ·exact Sh og oh a4
  ·exact Si og oh a4
 have e2:ix g.s h.s=g.s:=by
  refine LZ (ul _ _) (nJ hg) λx=> ?_;rw[mem_siteSet];constructor
  ·rintro ⟨_,hx|hx⟩
   ·exact hx
   ·exact a5 x hx
  ·intro hx
   have:=dI ((ckGs_iff.1 hg).2.1 x hx);exact⟨⟨this.1,aa⟩,.inl hx⟩
 unfold aj;rw[e1,e2];obtain⟨gn,gsp,gt,gf,gs⟩:=g;obtain⟨hn,hsp,ht,hf,hs⟩:=h;simp only at a1 a2 a3 |-;cases gn<;>cases hn<;>cases gt<;>cases ht<;>cases gf<;>cases hf<;>simp_all
end
def tM (s:Sp):Nat:=if s.n then 8589934592 else(s.lo+2147483648).toNat+(2147483647 - s.hi).toNat
def lX (g:Gs):Nat:=b2n (!g.n)+b2n (!g.t)+b2n (!g.f)+(60 - g.s.length)+tM g.sp
def td (l:List Gs):Nat:=(l.map lX).sum
def Tm (l:List (List Gs)):Nat:=(l.map td).sum
def iK (x:Pic):Nat:=if x.none then 2000000000000 else td x.vq+Tm x.fq
def i8 (l:List Pic):Nat:=(l.map iK).sum
theorem UM {s t:Sp}(hs:s.Ok)(ht:t.Ok)(h:fI s t=true):tM t<=tM s/\(tM t=tM s->s=t):=by
 obtain⟨⟨s1,s2⟩,⟨s3,s4⟩,s5,s6⟩:=hs;obtain⟨⟨t1,t2⟩,⟨t3,t4⟩,t5,t6⟩:=ht;rw[eS s6] at h;unfold tM;obtain⟨sn,slo,shi⟩:=s;obtain⟨tn,tlo,thi⟩:=t;simp only at h s1 s2 s3 s4 s5 s6 t1 t2 t3 t4 t5 t6 |-;rcases h with h|⟨h1,h2,h3⟩
 ·subst h
  obtain⟨rfl,rfl⟩:=s5 rfl;cases tn with
  |true=>obtain⟨rfl,rfl⟩:=t5 rfl;simp
  |false=>
   simp only[j2,if_false,if_true];exact⟨aa,λe=>aa⟩
 ·subst h1
  cases sn with
  |true=>
   simp only[j2,if_false,if_true];exact⟨aa,λe=>aa⟩
  |false=>
   simp only[j2,if_false,Sp.mk.injEq,true_and];exact⟨aa,λe=>aa⟩
theorem DJ {a b:Bool}(h:a=true->b=true):b2n (!b)<=b2n (!a)/\(b2n (!b)=b2n (!a)->a=b):=by
 cases a<;>cases b<;>simp_all[b2n]
theorem Mt {c:lI}{g h:Gs}(h60:c.length<=60)(hg:aE c g=0)(hh:aE c h=0)(hi:dp g h=true):lX h<=lX g/\(lX h=lX g->g=h):=by
 obtain⟨a1,a2,a3,a4,a5⟩:=inGs_iff.1 hi;obtain⟨b1,b1'⟩:=DJ a1;obtain⟨b2,b2'⟩:=DJ a2;obtain⟨b3,b3'⟩:=DJ a3;obtain⟨b4,b4'⟩:=UM (ckGs_iff.1 hg).1 (ckGs_iff.1 hh).1 a4;obtain⟨b5,b5'⟩:=iB (nJ hg) (nJ hh) a5;have h6:h.s.length<=60:=by
  have hp:=nJ hh;have hr:∀x∈h.s,x∈((j1 60).map λn:Nat=>(n:Int)):=λx hx=>by
   have:=dI ((ckGs_iff.1 hh).2.1 x hx);rw[x2];exact⟨x.toNat,by rw[X5];omega,aa⟩
  have h7:=(iB hp (b:=(j1 60).map λn:Nat=>(n:Int)) (by rw[Q3];exact X7.imp λh=>by omega) hr).1;simpa using h7
 unfold lX;refine⟨by omega,λe=> ?_⟩;have e1:=b1' aa;have e2:=b2' aa;have e3:=b3' aa;have e4:=b4' aa;have e5:=b5' aa;obtain⟨gn,gsp,gt,gf,gs⟩:=g;obtain⟨hn,hsp,ht,hf,hs⟩:=h;simp only at e1 e2 e3 e4 e5;rw[e1,e2,e3,e4,e5]
theorem Bx {α:Type}(f:α->Nat):∀{a b:List α},a.length=b.length->(∀i (h1:i < a.length) (h2:i < b.length),f b[i]<=f a[i]/\(f b[i]=f a[i]->a[i]=b[i]))->(b.map f).sum<=(a.map f).sum/\((b.map f).sum=(a.map f).sum->a=b)
 |[],[],_,_=>⟨lR _,λ_=>rfl⟩
 |[],_::_,h,_=>by simp at h
 |_::_,[],h,_=>by simp at h
 |x::a,y::b,hl,h=>by
  obtain⟨h1,h2⟩:=Bx f (a:=a) (b:=b) (by simpa using hl) λi k1 k2=>by
   have:=h (i+1) ap ap;simpa using this
  have h0:=h 0 ah ah;simp only[Q0] at h0;simp only[J2,J3];refine⟨by omega,λe=> ?_⟩;rw[h0.2 aa,h2 aa]
theorem tN {α:Type}(f:α->Nat)(m:Nat):∀{a:List α},(∀x∈a,f x<=m)->(a.map f).sum<=a.length * m
 |[],_=>ah
 |x::a,h=>by
  have:=tN f m (a:=a) λy hy=>h y (by simp[hy]);have:=h x ah;simp only[J2,J3,z3,Nat.add_mul];omega
theorem Mk {α:Type}(f:α->Nat):∀{a:List α} {k:Nat} {y:α} (hk:k < a.length),f y < f a[k]->((a.set k y).map f).sum < (a.map f).sum
 |[],_,_,hk,_=>absurd hk ah
 |x::a,0,y,_,h=>by simp only[Q0] at h;simp only[Z7,J2,J3];omega
 |x::a,k+1,y,hk,h=>by
  have:=Mk f (a:=a) (k:=k) (y:=y) iG cq;simp only[Z8,J2,J3];omega
theorem VY {s:Sp}(h:s.Ok):tM s<=8589934592:=by
 obtain⟨⟨s1,s2⟩,⟨s3,s4⟩,s5,s6⟩:=h;unfold tM;split<;>omega
theorem G9 (b:Bool):b2n b<=1:=by cases b<;>decide
theorem Mc {c:lI}{g:Gs}(h:aE c g=0):lX g<=8600000000:=by
 have:=VY (ckGs_iff.1 h).1;have:=G9 (!g.n);have:=G9 (!g.t);have:=G9 (!g.f);unfold lX;omega
section
variable {V F:Int} {c:lI} {x y z:Pic} {w:Bool}
theorem Ez (h0:au V F c=0)(hx:PicOk V F c x):iK x < 2000000000000:=by
 have hp:=dC h0;have h1:=hp.v8;have h2:=hp.f3;have h3:=hp.len;have a1:=hx.vq;have a2:=hx.fq;obtain⟨G,hG⟩:∃G:Nat,G=8600000000:=⟨_,rfl⟩;have b1:td x.vq<=x.vq.length * G:=tN lX G λg hg=>by rw[hG];exact Mc (hx.gv g hg)
 have b2:∀r∈x.fq,td r<=3 * G:=λr hr=>by
  obtain⟨k,hk,rfl⟩:=J1 hr;have q:td x.fq[k]<=x.fq[k].length * G:=tN lX G λg hg=>by rw[hG];exact Mc (hx.gf k hk g hg)
  have:=hx.row k hk;have h8:x.fq[k].length<=3:=aa;exact lT q (J4 _ h8)
 have b3:Tm x.fq<=x.fq.length * (3 * G):=tN td _ b2;have h4:x.vq.length<=8:=aa;have h5:x.fq.length<=60:=aa;have h6:x.vq.length * G<=8 * G:=J4 _ h4;have h7:x.fq.length * (3 * G)<=60 * (3 * G):=J4 _ h5;unfold iK;rw[if_neg (by rw[hx.none];decide)];omega
theorem Nv (h0:au V F c=0)(hx:aO V F c x=0):iK x<=2000000000000:=by
 cases hn:x.none with
 |true=>unfold iK;rw[if_pos hn];exact lR _
 |false=>exact Nat.le_of_lt (Ez h0 (cA hx hn))
theorem CU (hx:aO V F c x=0):bJ x x=true:=by
 cases hn:x.none with
 |true=>simp[bJ,hn]
 |false=>
  have kx:=cA hx hn;rw[fS hn hn];exact⟨λi h1 _=>Cl (kx.gv _ (gM _)),λk h1 _ i h3 _=>Cl (kx.gf k h1 _ (gM _))⟩
theorem mB {x y:Pic}(h:bJ x y=true)(hn:x.none=false):y.none=false:=by
 cases e:y.none with
 |false=>rfl
 |true=>simp[bJ,e,hn] at h
theorem lJ (hx:aO V F c x=0)(hy:aO V F c y=0)(hz:aO V F c z=0)(h1:bJ x y=true)(h2:bJ y z=true):bJ x z=true:=by
 cases hn:x.none with
 |true=>simp[bJ,hn]
 |false=>
  have hm:=mB h1 hn;have ho:=mB h2 hm;have kx:=cA hx hn;have ky:=cA hy hm;have kz:=cA hz ho;have:=kx.vq;have:=ky.vq;have:=kz.vq;have:=kx.fq;have:=ky.fq;have:=kz.fq;obtain⟨a1,a2⟩:=(fS hn hm).1 h1;obtain⟨b1,b2⟩:=(fS hm ho).1 h2;rw[fS hn ho];refine⟨λi p q=> ?_,λk p q i r s=> ?_⟩
  ·have hy':i < y.vq.length:=by omega
   exact Bs (kx.gv _ (gM p)) (ky.gv _ (gM hy')) (a1 i p hy') (b1 i hy' q)
  ·have hy':k < y.fq.length:=by omega
   have:=kx.row k p;have:=ky.row k hy';have hi':i < y.fq[k].length:=aa;exact Bs (kx.gf k p _ (gM r)) (ky.gf k hy' _ (gM hi')) (a2 k p hy' i r hi') (b2 k hy' q i hi' s)
theorem Ii (h0:au V F c=0)(hx:aO V F c x=0)(hy:aO V F c y=0)(hi:bJ y x=true):aH (aj w) x y=x:=by
 have h60:c.length<=60:=(dC h0).len;unfold aH;cases hm:y.none with
 |true=>
  have ey:=(mi hm).1 hy;subst ey;cases hn:x.none with
  |true=>rw[(mi hn).1 hx];rfl
  |false=>rfl
 |false=>
  have hn:=mB hi hm;rw[hn];simp only[j2,if_false];have kx:=cA hx hn;have ky:=cA hy hm;have:=kx.vq;have:=ky.vq;have:=kx.fq;have:=ky.fq;obtain⟨a1,a2⟩:=(fS hm hn).1 hi;have v1:=kx.vq;have v2:=kx.fq;obtain⟨xn,xv,xf⟩:=x;simp only at hn v1 v2;subst hn;simp only[Pic.mk.injEq,true_and];constructor
  ·refine Z0 (by simp only[aQ,j4];omega) λi p q=> ?_
   simp only[aQ,j9];exact wm h60 (kx.gv _ (gM _)) (ky.gv _ (gM _)) (a1 i _ _)
  ·refine Z0 (by simp only[j4];omega) λk p q=> ?_
   have hk:k < y.fq.length:=aa;have r1:=kx.row k q;have r2:=ky.row k hk;simp only[j9];refine Z0 (by simp only[aQ,j4];simp only at r1;omega) λi r s=> ?_;simp only[aQ,j9];exact wm h60 (kx.gf k q _ (gM _)) (ky.gf k hk _ (gM _)) (a2 k hk q i _ _)
theorem ol (h0:au V F c=0)(hx:aO V F c x=0)(hy:aO V F c y=0):aH (aj w) x y=x↔bJ y x=true:=by
 constructor
 ·intro h
  have:=(rC (w:=w) (dC h0).len hx hy).2;rw[h] at this;exact this
 ·exact Ii h0 hx hy
theorem Vs (h0:au V F c=0)(hx:aO V F c x=0)(hy:aO V F c y=0)(hi:bJ x y=true):iK y<=iK x/\(iK y=iK x->x=y):=by
 have h60:c.length<=60:=(dC h0).len;cases hn:x.none with
 |true=>
  have ex:=(mi hn).1 hx;refine⟨by have:=Nv h0 hy;unfold iK at this |-;rw[if_pos hn];exact this,λe=> ?_⟩;cases hm:y.none with
  |true=>rw[ex,(mi hm).1 hy]
  |false=>
   have:=Ez h0 (cA hy hm);rw[e] at this;unfold iK at this;rw[if_pos hn] at this;omega
 |false=>
  have hm:=mB hi hn;have kx:=cA hx hn;have ky:=cA hy hm;have:=kx.vq;have:=ky.vq;have:=kx.fq;have:=ky.fq;obtain⟨a1,a2⟩:=(fS hn hm).1 hi;have b1:=Bx lX (a:=x.vq) (b:=y.vq) aa λi p q=>Mt h60 (kx.gv _ (gM _)) (ky.gv _ (gM _)) (a1 i p q);have b2:=Bx td (a:=x.fq) (b:=y.fq) aa λk p q=>by
   have:=kx.row k p;have:=ky.row k q;exact Bx lX aa λi r s=>Mt h60 (kx.gf k p _ (gM _)) (ky.gf k q _ (gM _)) (a2 k p q i r s)
  unfold iK td Tm;rw[if_neg (by rw[hm];decide),if_neg uu];refine⟨by omega,λe=> ?_⟩;have e1:=b1.2 aa;have e2:=b2.2 aa;obtain⟨xn,xv,xf⟩:=x;obtain⟨yn,yv,yf⟩:=y;simp only at hn hm e1 e2;rw[hn,hm,e1,e2]
theorem Rp (h0:au V F c=0)(hx:aO V F c x=0)(hy:aO V F c y=0)(hi:bJ y x=false):iK (aH (aj w) x y) < iK x:=by
 have hj:=CJ (w:=w) hx hy;have h1:=Vs h0 hx hj (rC (w:=w) (dC h0).len hx hy).1;have h2:aH (aj w) x y≠x:=λe=>by rw[(ol h0 hx hy).1 e] at hi;cases hi
 rcases Nat.lt_or_eq_of_le h1.1 with h|h
 ·exact h
 ·exact absurd (h1.2 h).symm h2
end
def bm (l:List Pic)(p:Int):Pic:=l.getD p.toNat nonePic
def dt (n i tto:Int):Bool:=decide (4<=n)&&decide (tto<=i)
def bV (n i:Int)(s:List Pic×Bool)(e:Edg):List Pic×Bool:=
 if bJ e.pic (bm s.1 e.tgt) then s else(s.1.set e.tgt.toNat (aH (aj (dt n i e.tgt)) (bm s.1 e.tgt) e.pic),true)
def cW (c:lI)(i:Nat)(x:Pic):List Edg:=(aA (bL c i) i x).1
def dL (c:lI)(n:Int)(s:List Pic×Bool)(i:Nat):List Pic×Bool:=(cW c i (bm s.1 i)).foldl (bV n i) s
def du (c:lI)(n:Int)(l:List Pic):List Pic×Bool:=(j1 c.length).foldl (dL c n) (l,false)
def cN (n i:Int)(s:List Pic×List Int×Bool)(e:Edg):List Pic×List Int×Bool:=
 if bJ e.pic (bm s.1 e.tgt) then s else(s.1.set e.tgt.toNat (aH (aj (dt n i e.tgt)) (bm s.1 e.tgt) e.pic),s.2.1.set e.tgt.toNat (if i < e.tgt then n else n+1),true)
def iu (c:lI)(n:Int)(s:List Pic×List Int×Bool)(i:Nat):List Pic×List Int×Bool:=if s.2.1.getD i 0=n then(cW c i (bm s.1 i)).foldl (cN n i) s else s
def fW (c:lI)(n:Int)(s:List Pic×List Int):List Pic×List Int×Bool:=(j1 c.length).foldl (iu c n) (s.1,s.2,false)

structure XsOk (V F:Int) (c:lI) (l:List Pic):Prop where
 len:l.length=c.length+1
 ck:∀x∈l,aO V F c x=0
def gq (c:lI)(l:List Pic)(i:Nat):Prop:=∀e∈cW c i (bm l i),bJ e.pic (bm l e.tgt)=true
def LeX (l l':List Pic):Prop:=l'.length=l.length/\∀p:Int,bJ (bm l p) (bm l' p)=true
section
variable {V F:Int} {c:lI} {l l' l2:List Pic} {n:Int}
theorem gZ {k:Nat}(h:k < l.length):bm l (k:Int)=l[k]:=by unfold bm;simp[j3,h]
theorem XsOk.at (h:XsOk V F c l)(p:Int):aO V F c (bm l p)=0:=by
 unfold bm;by_cases hp:p.toNat < l.length
 ·simp only[j3,z4 hp,Q7]
  exact h.ck _ (gM hp)
 ·simp only[j3,x5 (x4.1 hp),Q8]
  rfl
theorem LeX.refl (h:XsOk V F c l):LeX l l:=⟨rfl,λp=>CU (h.at p)⟩
theorem LeX.trans (h:XsOk V F c l)(h':XsOk V F c l')(h2:XsOk V F c l2)(a:LeX l l')(b:LeX l' l2):LeX l l2:=⟨by rw[b.1,a.1],λp=>lJ (h.at p) (h'.at p) (h2.at p) (a.2 p) (b.2 p)⟩
theorem nL {p:Int}{q:Nat}{y:Pic}:bm (l.set q y) p=if q=p.toNat/\q < l.length then y else bm l p:=by
 unfold bm;simp only[j3,Qc];by_cases h:q=p.toNat
 ·by_cases hq:q < l.length
  ·rw[if_pos h,if_pos hq,if_pos ⟨h,hq⟩];rfl
  ·have hq':¬p.toNat < l.length:=by omega
   rw[if_pos h,if_neg hq,if_neg aa,x5 aa]
 ·rw[if_neg h,if_neg aa]
def iP (V F:Int)(c:lI)(e:Edg):Prop:=aO V F c e.pic=0/\0<=e.tgt/\e.tgt<=c.length
theorem kG (h0:au V F c=0){x:Pic}(hx:aO V F c x=0){i:Nat}(hi:i < c.length):∀e∈cW c i x,iP V F c e:=λe he=>by
 have:=Oy (dC h0) hx (p:=(i:Int)) aa aa e he;exact⟨this.1,this.2.2.1,this.2.2.2⟩
theorem XsOk.put (h:XsOk V F c l){y:Pic}(hy:aO V F c y=0)(q:Nat):XsOk V F c (l.set q y):=⟨by rw[q0];exact h.len,λx hx=>by
 rcases x8 hx with hx|rfl
 ·exact h.ck x hx
 ·exact hy⟩
theorem rV (h0:au V F c=0){s:List Pic×Bool}{i:Int}{e:Edg}(h:XsOk V F c s.1)(he:iP V F c e):
  XsOk V F c (bV n i s e).1/\LeX s.1 (bV n i s e).1/\bJ e.pic (bm (bV n i s e).1 e.tgt)=true/\((bV n i s e).2=false->s.2=false/\(bV n i s e).1=s.1)/\((bV n i s e).1=s.1/\(bV n i s e).2=s.2\/(bV n i s e).2=true/\i8 (bV n i s e).1 < i8 s.1):=by
 unfold bV;by_cases hi:bJ e.pic (bm s.1 e.tgt)=true
 ·rw[if_pos hi]
  exact⟨h,LeX.refl h,hi,λhf=>⟨hf,rfl⟩,.inl ⟨rfl,rfl⟩⟩
 ·rw[if_neg hi]
  have hi':bJ e.pic (bm s.1 e.tgt)=false:=fN;have hc:=h.at e.tgt;have hj:=CJ (w:=dt n i e.tgt) hc he.1;have hin:=rC (w:=dt n i e.tgt) (dC h0).len hc he.1;have hl:=h.len;have hq:e.tgt.toNat < s.1.length:=by have:=he.2;omega
  refine⟨h.put hj _,⟨ah,λp=> ?_⟩,?_,(λhf=>by cases hf),.inr ⟨rfl,?_⟩⟩
  ·rw[nL]
   split
   ·rename_i hp
    have:bm s.1 p=bm s.1 e.tgt:=by unfold bm;rw[hp.1]
    rw[this];exact hin.1
   ·exact CU (h.at p)
  ·rw[nL,if_pos ⟨rfl,hq⟩]
   exact hin.2
  ·have hp:=Rp (w:=dt n i e.tgt) h0 hc he.1 hi'
   have e1:bm s.1 e.tgt=s.1[e.tgt.toNat]:=by unfold bm;simp[j3,hq]
   refine Mk iK hq ?_;rw[e1] at hp |-;exact hp
theorem KM (h0:au V F c=0)(h:XsOk V F c l)(h':XsOk V F c l')(hl:LeX l l'){i:Nat}(hi:i < c.length)(hs:gq c l i)(e:bm l' i=bm l i):gq c l' i:=by
 intro q hq;rw[e] at hq;exact lJ (kG h0 (h.at _) hi q hq).1 (h.at _) (h'.at _) (hs q hq) (hl.2 _)
theorem tE (h0:au V F c=0){i:Int}:∀{E:List Edg} {s:List Pic×Bool},XsOk V F c s.1->(∀e∈E,iP V F c e)->
  XsOk V F c (E.foldl (bV n i) s).1/\LeX s.1 (E.foldl (bV n i) s).1/\(∀e∈E,bJ e.pic (bm (E.foldl (bV n i) s).1 e.tgt)=true)/\((E.foldl (bV n i) s).2=false->s.2=false/\(E.foldl (bV n i) s).1=s.1)/\((E.foldl (bV n i) s).1=s.1/\(E.foldl (bV n i) s).2=s.2\/(E.foldl (bV n i) s).2=true/\i8 (E.foldl (bV n i) s).1 < i8 s.1)
 |[],s,h,_=>⟨h,LeX.refl h,λe he=>by simp at he,λhf=>⟨hf,rfl⟩,.inl ⟨rfl,rfl⟩⟩
 |e::E,s,h,hE=>by
  have he:=hE e ah;obtain⟨a1,a2,a3,a4,a5⟩:=rV (n:=n) (i:=i) h0 h he;obtain⟨b1,b2,b3,b4,b5⟩:=tE h0 (i:=i) (E:=E) a1 λq hq=>hE q (by simp[hq]);rw[z7];refine⟨b1,LeX.trans h a1 b1 a2 b2,λq hq=> ?_,λhf=> ?_,?_⟩
  ·rcases j5.1 hq with rfl|hq
   ·exact lJ he.1 (a1.at _) (b1.at _) a3 (b2.2 _)
   ·exact b3 q hq
  ·obtain⟨c1,c2⟩:=b4 hf
   obtain⟨d1,d2⟩:=a4 c1;exact⟨d1,by rw[c2,d2]⟩
  ·rcases b5 with⟨c1,c2⟩|⟨c1,c2⟩
   ·rcases a5 with⟨d1,d2⟩|⟨d1,d2⟩
    ·exact .inl ⟨by rw[c1,d1],by rw[c2,d2]⟩
    ·exact .inr ⟨by rw[c2,d1],by rw[c1];exact d2⟩
   ·rcases a5 with⟨d1,d2⟩|⟨d1,d2⟩
    ·exact .inr ⟨c1,by rw[<-d1];exact c2⟩
    ·exact .inr ⟨c1,Nat.lt_trans c2 d2⟩
theorem Ov (h0:au V F c=0){s:List Pic×Bool}(h:XsOk V F c s.1){i:Nat}(hi:i < c.length):
  XsOk V F c (dL c n s i).1/\LeX s.1 (dL c n s i).1/\((dL c n s i).2=false->s.2=false/\(dL c n s i).1=s.1/\gq c s.1 i)/\((dL c n s i).1=s.1/\(dL c n s i).2=s.2\/(dL c n s i).2=true/\i8 (dL c n s i).1 < i8 s.1):=by
 obtain⟨a1,a2,a3,a4,a5⟩:=tE (n:=n) (i:=(i:Int)) h0 h (kG h0 (h.at _) hi);refine⟨a1,a2,λhf=> ?_,a5⟩;obtain⟨b1,b2⟩:=a4 hf;exact⟨b1,b2,λe he=>by have:=a3 e he;rw[b2] at this;exact this⟩
theorem tV (h0:au V F c=0):∀{k:Nat},k<=c.length->∀{s:List Pic×Bool},XsOk V F c s.1->
  XsOk V F c ((j1 k).foldl (dL c n) s).1/\LeX s.1 ((j1 k).foldl (dL c n) s).1/\(((j1 k).foldl (dL c n) s).2=false->s.2=false/\((j1 k).foldl (dL c n) s).1=s.1/\∀i,i < k->gq c s.1 i)/\(((j1 k).foldl (dL c n) s).1=s.1/\((j1 k).foldl (dL c n) s).2=s.2\/((j1 k).foldl (dL c n) s).2=true/\i8 ((j1 k).foldl (dL c n) s).1 < i8 s.1)
 |0,_,s,h=>⟨h,LeX.refl h,λhf=>⟨hf,rfl,λi hi=>absurd hi aa⟩,.inl ⟨rfl,rfl⟩⟩
 |k+1,hk,s,h=>by
  rw[Qd,Z1,z7,Z2];obtain⟨a1,a2,a3,a4⟩:=tV h0 (k:=k) aa h;obtain⟨b1,b2,b3,b4⟩:=Ov (n:=n) h0 a1 (i:=k) aa;refine⟨b1,LeX.trans h a1 b1 a2 b2,λhf=> ?_,?_⟩
  ·obtain⟨c1,c2,c3⟩:=b3 hf
   obtain⟨d1,d2,d3⟩:=a3 c1;refine⟨d1,by rw[c2,d2],λi hi=> ?_⟩;by_cases e:i=k
   ·rw[e];rw[d2] at c3;exact c3
   ·exact d3 i aa
  ·rcases b4 with⟨c1,c2⟩|⟨c1,c2⟩
   ·rcases a4 with⟨d1,d2⟩|⟨d1,d2⟩
    ·exact .inl ⟨by rw[c1,d1],by rw[c2,d2]⟩
    ·exact .inr ⟨by rw[c2,d1],by rw[c1];exact d2⟩
   ·rcases a4 with⟨d1,d2⟩|⟨d1,d2⟩
    ·exact .inr ⟨c1,by rw[<-d1];exact c2⟩
    ·exact .inr ⟨c1,Nat.lt_trans c2 d2⟩
theorem lM (h0:au V F c=0)(h:XsOk V F c l):
  XsOk V F c (du c n l).1/\LeX l (du c n l).1/\((du c n l).2=false->(du c n l).1=l/\∀i,i < c.length->gq c l i)/\((du c n l).2=true->i8 (du c n l).1 < i8 l):=by
 obtain⟨a1,a2,a3,a4⟩:=tV (n:=n) h0 (lR c.length) (s:=(l,false)) h;refine⟨a1,a2,λhf=>(a3 hf).2,λht=> ?_⟩;rcases a4 with⟨_,b⟩|⟨_,b⟩
 ·unfold du at ht
  rw[b] at ht;cases ht
 ·exact b

structure Due (V F:Int) (c:lI) (n:Int) (i:Nat) (l:List Pic) (d:List Int):Prop where
 ok:XsOk V F c l
 len:d.length=c.length+1
 set:∀k,k < c.length->(if k < i then d.getD k 0≠n+1 else d.getD k 0≠n)->gq c l k
theorem Er {d:List Int}{q k:Nat}{y:Int}(hq:q < d.length):(d.set q y).getD k 0=if q=k then y else d.getD k 0:=by
 simp only[j3,Qc];by_cases h:q=k
 ·rw[if_pos h,if_pos hq,if_pos h];rfl
 ·rw[if_neg h,if_neg h]
structure DueIn (V F:Int) (c:lI) (n:Int) (i:Nat) (x:Pic) (P:List Edg) (s:List Pic×List Int×Bool):Prop where
 ok:XsOk V F c s.1
 len:s.2.1.length=c.length+1
 set:∀k,k < c.length->k≠i->(if k < i then s.2.1.getD k 0≠n+1 else s.2.1.getD k 0≠n)->gq c s.1 k
 own:s.2.1.getD i 0=n+1\/bm s.1 i=x
 past:∀e∈P,bJ e.pic (bm s.1 e.tgt)=true
theorem pT {i:Int}{s:List Pic×List Int×Bool}{e:Edg}:((cN n i s e).1,(cN n i s e).2.2)=bV n i (s.1,s.2.2) e:=by
 unfold cN bV;split<;>rfl
theorem ww {i:Int}:∀{E:List Edg} {s:List Pic×List Int×Bool},((E.foldl (cN n i) s).1,(E.foldl (cN n i) s).2.2)=E.foldl (bV n i) (s.1,s.2.2)
 |[],_=>rfl
 |e::E,s=>by rw[z7,z7,ww,pT]
theorem DueIn.step (h0:au V F c=0){i:Nat}(hi:i < c.length){x:Pic}{P:List Edg}{s:List Pic×List Int×Bool}(h:DueIn V F c n i x P s)(hP:∀e∈P,iP V F c e){e:Edg}(he:iP V F c e):DueIn V F c n i x (P++[e]) (cN n i s e):=by
 obtain⟨b1,b2,b3,-,-⟩:=rV (n:=n) (i:=(i:Int)) (s:=(s.1,s.2.2)) h0 h.ok he;have e1:(bV n i (s.1,s.2.2) e).1=(cN n i s e).1:=by rw[<-pT]
 rw[e1] at b1 b2 b3;have hpast:∀q∈P++[e],bJ q.pic (bm (cN n i s e).1 q.tgt)=true:=λq hq=>by
  rcases j7.1 hq with hq|hq
  ·exact lJ (hP q hq).1 (h.ok.at _) (b1.at _) (h.past q hq) (b2.2 _)
  ·rw[j6.1 hq];exact b3
 by_cases hin:bJ e.pic (bm s.1 e.tgt)=true
 ·have es:cN n i s e=s:=by unfold cN;rw[if_pos hin]
  rw[es] at hpast |-;exact⟨h.ok,h.len,h.set,h.own,hpast⟩
 ·have es:cN n i s e=(s.1.set e.tgt.toNat (aH (aj (dt n i e.tgt)) (bm s.1 e.tgt) e.pic),s.2.1.set e.tgt.toNat (if (i:Int) < e.tgt then n else n+1),true):=by unfold cN;rw[if_neg hin]
  have hl:=h.len;have hq:e.tgt.toNat < s.2.1.length:=by have:=he.2;omega
  have hto:=he.2;rw[es] at b1 b2 hpast |-;refine⟨b1,by simpa using h.len,λk hk hne hd=> ?_,?_,hpast⟩
  ·simp only at hd |-
   rw[Er hq] at hd;by_cases ek:e.tgt.toNat=k
   ·rw[if_pos ek] at hd
    exfalso;by_cases hki:k < i
    ·rw[if_pos hki,if_neg aa] at hd
     exact hd rfl
    ·rw[if_neg hki,if_pos aa] at hd
     exact hd rfl
   ·rw[if_neg ek] at hd
    refine KM h0 h.ok b1 b2 hk (h.set k hk hne hd) ?_;rw[nL,if_neg aa]
  ·simp only
   rw[Er hq];by_cases ek:e.tgt.toNat=i
   ·left
    rw[if_pos ek,if_neg aa]
   ·rw[if_neg ek,nL,if_neg aa]
    exact h.own
theorem DueIn.steps (h0:au V F c=0){i:Nat}(hi:i < c.length){x:Pic}:∀{E P:List Edg} {s:List Pic×List Int×Bool},DueIn V F c n i x P s->(∀e∈P,iP V F c e)->(∀e∈E,iP V F c e)->DueIn V F c n i x (P++E) (E.foldl (cN n i) s)
 |[],P,s,h,_,_=>by rw[Qe];exact h
 |e::E,P,s,h,hP,hE=>by
  have h1:=h.step h0 hi hP (hE e ah);have h2:=DueIn.steps h0 hi (E:=E) h1 (λq hq=>by
   rcases j7.1 hq with hq|hq
   ·exact hP q hq
   ·rw[j6.1 hq];exact hE e ah) λq hq=>hE q (by simp[hq])
  rw[List.append_assoc] at h2;exact h2
theorem Iy {s:List Pic×Bool}{i:Nat}(h:gq c s.1 i):dL c n s i=s:=by
 unfold dL;have:∀(E:List Edg),(∀e∈E,bJ e.pic (bm s.1 e.tgt)=true)->E.foldl (bV n i) s=s:=by
  intro E;induction E with
  |nil=>exact λ_=>rfl
  |cons e E ih=>
   intro hE;rw[z7];have:bV n i s e=s:=by unfold bV;rw[if_pos (hE e (by simp))]
   rw[this];exact ih λq hq=>hE q (by simp[hq])
 exact this _ h
theorem De {p:Prop}(h:p:=by
 by_cases hki:k < i
 ·rw[if_pos hki];rw[if_pos aa] at hh;exact hh
 ·rw[if_neg hki];rw[if_neg aa] at hh;exact hh):p:=h
theorem NU (h0:au V F c=0){i:Nat}(hi:i < c.length){s:List Pic×List Int×Bool}(h:Due V F c n i s.1 s.2.1):Due V F c n (i+1) (iu c n s i).1 (iu c n s i).2.1/\((iu c n s i).1,(iu c n s i).2.2)=dL c n (s.1,s.2.2) i:=by
 unfold iu;by_cases hd:s.2.1.getD i 0=n
 ·rw[if_pos hd]
  refine⟨?_,ww⟩;have hE:=kG h0 (h.ok.at (i:Int)) hi;have h1:DueIn V F c n i (bm s.1 i) [] s:=⟨h.ok,h.len,λk hk _ hh=>h.set k hk hh,.inr rfl,λe he=>by simp at he⟩;have h2:=h1.steps h0 hi (λe he=>by simp at he) hE;rw[Z3] at h2;refine⟨h2.ok,h2.len,λk hk hh=> ?_⟩;by_cases ek:k=i
  ·subst ek
   rw[if_pos aa] at hh;rcases h2.own with ho|ho
   ·exact absurd ho hh
   ·intro e he
    rw[ho] at he;exact h2.past e he
  ·refine h2.set k hk ek ?_
   exact De
 ·rw[if_neg hd]
  have hs:gq c s.1 i:=h.set i hi (by rw[if_neg (by omega)];exact hd);refine⟨⟨h.ok,h.len,λk hk hh=> ?_⟩,(Iy hs).symm⟩;by_cases ek:k=i
  ·rw[ek];exact hs
  ·refine h.set k hk ?_
   exact De
theorem wf (h0:au V F c=0):∀{k:Nat},k<=c.length->∀{s:List Pic×List Int×Bool},Due V F c n 0 s.1 s.2.1->Due V F c n k ((j1 k).foldl (iu c n) s).1 ((j1 k).foldl (iu c n) s).2.1/\(((j1 k).foldl (iu c n) s).1,((j1 k).foldl (iu c n) s).2.2)=(j1 k).foldl (dL c n) (s.1,s.2.2)
 |0,_,s,h=>⟨h,rfl⟩
 |k+1,hk,s,h=>by
  rw[Qd,Z1,z7,Z2,Z1,z7,Z2];obtain⟨a1,a2⟩:=wf h0 (k:=k) aa h;obtain⟨b1,b2⟩:=NU h0 (i:=k) aa a1;exact⟨b1,by rw[b2,a2]⟩
theorem vK (h0:au V F c=0){d:List Int}(h:Due V F c n 0 l d):Due V F c (n+1) 0 (fW c n (l,d)).1 (fW c n (l,d)).2.1/\(fW c n (l,d)).1=(du c n l).1/\(fW c n (l,d)).2.2=(du c n l).2:=by
 obtain⟨a1,a2⟩:=wf h0 (lR c.length) (s:=(l,d,false)) h;refine⟨⟨a1.ok,a1.len,λk hk hh=> ?_⟩,congrArg Prod.fst a2,congrArg Prod.snd a2⟩;rw[if_neg aa] at hh;exact a1.set k hk (by rw[if_pos hk];exact hh)

def lW (V F:Int)(c:lI):List Pic:=bM V F c::J5 c.length nonePic
def aI (V F:Int)(c:lI):Nat->List Pic
 |0=>lW V F c
 |m+1=>(du c ((m+1:Nat):Int) (aI V F c m)).1
def SolvedAt (V F:Int)(c:lI)(m:Nat):Prop:=(∀k,k < m->(du c ((k+1:Nat):Int) (aI V F c k)).2=true)/\(du c ((m+1:Nat):Int) (aI V F c m)).2=false
theorem SolvedAt.one {m m':Nat}(h:SolvedAt V F c m)(h':SolvedAt V F c m'):m=m':=by
 rcases Nat.lt_trichotomy m m' with e|e|e
 ·have:=h'.1 m e;rw[h.2] at this;cases this
 ·exact e
 ·have:=h.1 m' e;rw[h'.2] at this;cases this
theorem Ld (h0:au V F c=0):PicOk V F c (bM V F c):=by
 have hp:=dC h0;have h1:=hp.v1;have h2:=hp.f0;refine⟨rfl,by simp[bM];omega,by simp[bM],λk h=> ?_,λg hg=> ?_,λk h g hg=> ?_,λk h=>.inr λg hg=> ?_⟩
 ·simp[bM];omega
 ·rw[J6 hg];rfl
 ·have hg':g∈J5 F.toNat noneG:=by simpa[bM] using hg
  rw[J6 hg'];rfl
 ·have hg':g∈J5 F.toNat noneG:=by simpa[bM] using hg
  rw[J6 hg'];rfl
theorem lS (h0:au V F c=0):XsOk V F c (lW V F c):=⟨by simp[lW],λx hx=>by
 rcases j5.1 hx with rfl|hx
 ·exact(Ld h0).ck
 ·rw[J6 hx];rfl⟩
theorem d9 (h0:au V F c=0):∀m,XsOk V F c (aI V F c m)
 |0=>lS h0
 |m+1=>(lM h0 (d9 h0 m)).1
theorem uj (h0:au V F c=0):∀m,LeX (lW V F c) (aI V F c m)
 |0=>LeX.refl (lS h0)
 |m+1=>LeX.trans (lS h0) (d9 h0 m) (d9 h0 (m+1)) (uj h0 m) (lM h0 (d9 h0 m)).2.1
theorem Vt (h0:au V F c=0)(h:XsOk V F c l):i8 l<=200000000000000:=by
 obtain⟨G,hG⟩:∃G:Nat,G=2000000000000:=⟨_,rfl⟩;have h1:i8 l<=l.length * G:=tN iK G λx hx=>by rw[hG];exact Nv h0 (h.ck x hx)
 have h2:=h.len;have h3:=(dC h0).len;have h4:l.length<=61:=aa;have h5:l.length * G<=61 * G:=J4 _ h4;omega
theorem kB (h0:au V F c=0):∀{m:Nat},(∀k,k < m->(du c ((k+1:Nat):Int) (aI V F c k)).2=true)->m+i8 (aI V F c m)<=200000000000000
 |0,_=>by have:=Vt h0 (lS h0);simp only[aI];omega
 |m+1,h=>by
  have h1:=kB h0 (m:=m) λk hk=>h k aa;have h2:=(lM (n:=((m+1:Nat):Int)) h0 (d9 h0 m)).2.2.2 (h m aa);have h3:i8 (aI V F c (m+1)) < i8 (aI V F c m):=h2;omega
def Rs (c:lI):List Int:=1::J5 c.length 0
theorem Oe (h0:au V F c=0):Due V F c 1 0 (lW V F c) (Rs c):=by
 refine⟨lS h0,by simp[Rs],λk hk hd=> ?_⟩;rw[if_neg aa] at hd;cases k with
 |zero=>exact absurd rfl hd
 |succ k=>
  intro e he;have:bm (lW V F c) ((k+1:Nat):Int)=nonePic:=by
   rw[gZ (by simp[lW];omega)];simp[lW]
  rw[this] at he;simp[cW,aA,nonePic] at he
def Pg (V F:Int)(c:lI)(l:List Pic):Bool:=bJ (bM V F c) (bm l 0)&&(j1 c.length).all λi=>(cW c i (bm l i)).all λe=>bJ e.pic (bm l e.tgt)
theorem fitsX_iff:Pg V F c l=true↔bJ (bM V F c) (bm l 0)=true/\∀i,i < c.length->gq c l i:=by
 unfold Pg gq;simp[Q6]
theorem vG (h0:au V F c=0){m:Nat}(h:SolvedAt V F c m):aI V F c (m+1)=aI V F c m/\Pg V F c (aI V F c m)=true:=by
 have h1:=(lM (n:=((m+1:Nat):Int)) h0 (d9 h0 m)).2.2.1 h.2;refine⟨h1.1,fitsX_iff.2 ⟨?_,h1.2⟩⟩;have:=(uj h0 m).2 0;exact this
end
theorem vF (i:Ins)(at_:Int)(x:Pic):(aA i at_ x).1.length<=2:=by
 unfold aA;repeat' split
 all_goals simp
 all_goals (repeat' split)
 all_goals simp
end
section
open Go.RowKit
attribute [local go_sem ↓] Go.wp_at_zero Go.wp_at_succ
theorem lA (sb:Nat)(at_:Int)(cs:List Value)(w:World)(h:Cells w sb cs)(h9:cs[9]? =sO (I Y at_))(h0:0<=at_)(h1:at_<=1000):
  Calls pG 92 #[Pp (sO ⟨sb,0,nO⟩)] w λe w'=>e=Rt (I Y (at_+1))/\w'=w:=by
 have c9:=h.1 9 _ h9;clear h h9;go_enter func92,ntmps92;go_wp2;go_ret;exact⟨bQ aF,rfl⟩
theorem Lj {s:Sp}(hs:s.Ok):bZ s=(if (if s.lo=0 then aM s ⟨false,1,2147483647⟩ else s).hi=0 then aM (if s.lo=0 then aM s ⟨false,1,2147483647⟩ else s) ⟨false,-2147483648,-1⟩ else(if s.lo=0 then aM s ⟨false,1,2147483647⟩ else s)):=by
 obtain⟨⟨a1,a2⟩,⟨a3,a4⟩,a5,a6⟩:=hs;obtain⟨n,lo,hi⟩:=s;simp only at a1 a2 a3 a4 a5 a6;cases n with
 |true=>
  obtain⟨rfl,rfl⟩:=a5 rfl;rfl
 |false=>
  by_cases h1:lo=0
  ·subst h1
   by_cases h2:hi=0
   ·subst h2;rfl
   ·have e1:min hi 2147483647=hi:=by omega
    have e2:max (0:Int) 1=1:=aa;have e3:¬hi < 1:=aa;simp[bZ,aM,h2,e1,e2,e3]
  ·by_cases h2:hi=0
   ·subst h2
    have e1:min (0:Int) (-1)= -1:=aa;have e2:max lo (-2147483648)=lo:=aa;have e3:¬ -1 < lo:=aa;simp[bZ,aM,h1,e1,e2,e3]
   ·have e3:¬hi < lo:=by omega
    simp[bZ,h1,h2,e3]
theorem Vg {s t:Sp}(hs:s.Ok)(ht:t.Ok):(aM s t).Ok:=by
 obtain⟨⟨a1,a2⟩,⟨a3,a4⟩,a5,a6⟩:=hs;obtain⟨⟨b1,b2⟩,⟨b3,b4⟩,b5,b6⟩:=ht;unfold aM;split
 ·exact gU
 ·rename_i h
  simp only[J0,decide_eq_true_eq,not_or] at h;exact kW aa aa aa
theorem Oc {s t:Sp}(hs:s.Ok)(ht:t.Ok):bx s t=0:=ckSps_ok.2 ⟨hs,ht⟩
theorem AS (s:Sp)(w:World)(hs:s.Ok):
  Calls pG 157 #[sv s] w λe w'=>e=Rt (sv (bZ s))/\bl w w':=by
 rw[Lj hs];have HM:Hid (∀(a b:Sp) wx,a.Ok->b.Ok->Calls pG 159 #[sv a,sv b] wx λe w'=>e=Rt (Tu #[sv (aM a b),I Y 0])/\bl wx w'):=λa b wx ha hb=>by
  have:=lV a b wx;rw[Oc ha hb] at this;exact this
 have B0:Below w.heap.size w ((w.alloc (Cc #[Bb s.n,I Y s.lo,I Y s.hi] 89)).alloc (Cc #[Bb false,I Y 0,I Y 0] 89)):=am;have A0:Cells ((w.alloc (Cc #[Bb s.n,I Y s.lo,I Y s.hi] 89)).alloc (Cc #[Bb false,I Y 0,I Y 0] 89)) w.heap.size [Bb s.n,I Y s.lo,I Y s.hi]:=(Cells.new w 89 [Bb s.n,I Y s.lo,I Y s.hi]).call am;have R0:Cells ((w.alloc (Cc #[Bb s.n,I Y s.lo,I Y s.hi] 89)).alloc (Cc #[Bb false,I Y 0,I Y 0] 89)) (w.heap.size+1) [Bb false,I Y 0,I Y 0]:=by
  have:=Cells.new (w.alloc (Cc #[Bb s.n,I Y s.lo,I Y s.hi] 89)) 89 [Bb false,I Y 0,I Y 0];rw[zA] at this;exact this
 have HK1:Hid ((⟨false,1,2147483647⟩:Sp).Ok):=kW aa aa aa;have HK2:Hid ((⟨false,-2147483648,-1⟩:Sp).Ok):=kW aa aa aa;obtain⟨m1,hm1⟩:∃q,q=(if s.lo=0 then aM s ⟨false,1,2147483647⟩ else s):=⟨_,rfl⟩;rw[<-hm1];have HO1:Hid (m1.Ok):=by
  show m1.Ok;rw[hm1];split
  ·exact Vg hs HK1.out
  ·exact hs
 have HM1:=ag hm1;clear hm1;obtain⟨m2,hm2⟩:∃q,q=(if m1.hi=0 then aM m1 ⟨false,-2147483648,-1⟩ else m1):=⟨_,rfl⟩;rw[<-hm2];have HM2:=ag hm2;have HS:=ag hs;clear hm2 hs;go_enter func157,ntmps157;go_upto_if 5 with fail
 generalize ((w.alloc (Cc #[Bb s.n,I Y s.lo,I Y s.hi] 89)).alloc (Cc #[Bb false,I Y 0,I Y 0] 89))=w0 at *;go_cut [] (λwy=>Cells wy w.heap.size [Bb m1.n,I Y m1.lo,I Y m1.hi]/\Cells wy (w.heap.size+1) [Bb false,I Y 0,I Y 0]/\bl w wy)
 case first=>
  have a0:=A0.1 0 _ rfl;have a1:=A0.1 1 _ rfl;have a2:=A0.1 2 _ rfl;by_cases e:s.lo=0
  ·have e1:=HM1.out
   rw[if_pos e] at e1;have E1:=ag e1;have eb:(s.lo==0)=true:=kQ;clear e1 e;have HC:=ag (HM.out s ⟨false,1,2147483647⟩ w0 HS.out HK1.out);rw[<-E1.out] at HC;go_wp2_with fail;refine HC.out.mono ?_;rintro e w1 ⟨rfl,hb1⟩;have A1:=A0.call hb1;have R1:=R0.call hb1;have B1:=gO;clear a0 a1 a2 hb1 A0 R0 B0 HC;have b0:=A1.1 0 _ rfl;have b1:=A1.1 1 _ rfl;have b2:=A1.1 2 _ rfl;have f0:=A1.2.2 0;have f1:=A1.2.2 1;have f2:=A1.2.2 2;go_wp2_with fail;go_meet;exact⟨((A1.put 0 ah _).put 1 ah _).put 2 ah _,((R1.far aw _).far aw _).far aw _,((B1.setCell (lR _) _).setCell (lR _) _).setCell (lR _) _⟩
  ·have e1:=HM1.out
   rw[if_neg e] at e1;have eb:(s.lo==0)=false:=kQ;clear e;subst e1;go_wp2_with fail;go_meet;exact⟨A0,R0,B0⟩
 obtain⟨A1,R1,B1⟩:=hcut;clear A0 R0 B0;generalize wc=w1 at *;clear wc;have a0:=A1.1 0 _ rfl;have a1:=A1.1 1 _ rfl;have a2:=A1.1 2 _ rfl;go_upto_if 14 with fail
 go_cut [] (λwy=>Cells wy w.heap.size [Bb m2.n,I Y m2.lo,I Y m2.hi]/\Cells wy (w.heap.size+1) [Bb false,I Y 0,I Y 0]/\bl w wy)
 case first=>
  by_cases e:m1.hi=0
  ·have e1:=HM2.out
   rw[if_pos e] at e1;have E1:=ag e1;have eb:(m1.hi==0)=true:=kQ;clear e1 e;have HC:=ag (HM.out m1 ⟨false,-2147483648,-1⟩ w1 HO1.out HK2.out);rw[<-E1.out] at HC;go_wp2_with fail;refine HC.out.mono ?_;rintro e w2 ⟨rfl,hb2⟩;have A2:=A1.call hb2;have R2:=R1.call hb2;have B2:=gH;clear a0 a1 a2 hb2 A1 R1 B1 HC;have b0:=A2.1 0 _ rfl;have b1:=A2.1 1 _ rfl;have b2:=A2.1 2 _ rfl;have f0:=A2.2.2 0;have f1:=A2.2.2 1;have f2:=A2.2.2 2;go_wp2_with fail;go_meet;exact⟨((A2.put 0 ah _).put 1 ah _).put 2 ah _,((R2.far aw _).far aw _).far aw _,((B2.setCell (lR _) _).setCell (lR _) _).setCell (lR _) _⟩
  ·have e1:=HM2.out
   rw[if_neg e] at e1;have eb:(m1.hi==0)=false:=kQ;clear e;subst e1;go_wp2_with fail;go_meet;exact⟨A1,R1,B1⟩
 obtain⟨A2,R2,B2⟩:=hcut;clear A1 R1 B1 a0 a1 a2;generalize wc=w2 at *;clear wc;have b0:=A2.1 0 _ rfl;have b1:=A2.1 1 _ rfl;have b2:=A2.1 2 _ rfl;have d0:=R2.1 0 _ rfl;have d1:=R2.1 1 _ rfl;have d2:=R2.1 2 _ rfl;have f0:=R2.2.2 0;have f1:=R2.2.2 1;have f2:=R2.2.2 2;go_wp2;refine bodyPost_ret (v:=sv m2) (by simp[results,results157,go_sem,d0,d1,d2]) rfl ⟨rfl,?_⟩;exact((B2.setCell aw _).setCell aw _).setCell aw _
end
section
open Go.RowKit
def cj (w:World)(b k:Nat)(x':Gc):World:=(((((((w.setCell ⟨b,k * 7,nO⟩ (Bb x'.g.n)).setCell ⟨b,k * 7+1,nO⟩ (Bb x'.g.sp.n)).setCell ⟨b,k * 7+2,nO⟩ (I Y x'.g.sp.lo)).setCell ⟨b,k * 7+3,nO⟩ (I Y x'.g.sp.hi)).setCell ⟨b,k * 7+4,nO⟩ (Bb x'.g.t)).setCell ⟨b,k * 7+5,nO⟩ (Bb x'.g.f)).setCell ⟨b,k * 7+6,nO⟩ (U x'.ss x'.g.s.length x'.cap))
section
variable {T:Nat->Prop} {B:Nat} {w w':World} {v:Ro} {fs:oA} {fc:Nat} {L:List Ro}
theorem Off.same {v v':Ro}{fb:Option Nat}{L:List Ro}{b:Nat}(hv:roB v'=roB v):Off v' fb L b↔Off v fb L b:=by unfold Off;rw[hv]
theorem iC {v:Ro}{l:List Gc}(h:l.length=v.l.length):roB ⟨v.rs,v.rc,l⟩=roB v:=by unfold roB roV;rw[h]
theorem PicG.cellV (h:PicG T B w v fs fc L){b:Nat}(hb:v.rs=sO ⟨b,0,nO⟩){k:Nat}(hk:k < v.l.length){y z:Gc}(hy:PicG T B w' ⟨v.rs,v.rc,v.l.set k y⟩ fs fc L){j:Nat}{u:Value}(hj:j < 7)(hx:br z=(br y).set j u)(hg:bS (λb=>T b/\Off v (j0 fs L.length fc).ownBlock L b) w' z):
  PicG T B (w'.setCell ⟨b,k * 7+j,nO⟩ u) ⟨v.rs,v.rc,v.l.set k z⟩ fs fc L:=by
 have h1:=PicG.putV hy hb (k:=k) (j:=j) (u:=u) (x':=z) iG hj (by simpa using hx) ⟨hg.1.mono λq hq _=>⟨hq.1,(Off.same (iC ah)).2 hq.2⟩,hg.2⟩;simpa[Qf] using h1
theorem aJ {S:Nat->Prop}{x:Gc}{b:Nat}{o:Nat}{u:Value}(h:bS S w x)(hs:¬S b):bS S (w.setCell ⟨b,o,nO⟩ u) x:=yP h λq hq e=>hs (by have e':q=b:=e;rw[<-e'];exact hq)
theorem PicG.setV (h:PicG T B w v fs fc L){b:Nat}(hb:v.rs=sO ⟨b,0,nO⟩){k:Nat}(hk:k < v.l.length){x':Gc}(hg:bS (λb=>T b/\Off v (j0 fs L.length fc).ownBlock L b) w x'):PicG T B (cj w b k x') ⟨v.rs,v.rc,v.l.set k x'⟩ fs fc L:=by
 have eb:roB v=sO b:=mO;have nb:¬(λq=>T q/\Off v (j0 fs L.length fc).ownBlock L q) b:=λq=>q.2.1 eb;obtain⟨y,ey⟩:∃y,y=v.l[k]:=⟨_,rfl⟩;have gy:bS (λb=>T b/\Off v (j0 fs L.length fc).ownBlock L b) w y:=by rw[ey];exact h.sv _ (gM hk)
 have h0:PicG T B w ⟨v.rs,v.rc,v.l.set k y⟩ fs fc L:=by rw[ey,z9];exact h
 unfold cj;have h1:=h.cellV hb hk h0 (j:=0) (u:=Bb x'.g.n) (z:=⟨⟨x'.g.n,y.g.sp,y.g.t,y.g.f,y.g.s⟩,y.ss,y.cap⟩) aa bu gy;have h2:=h.cellV hb hk h1 (j:=1) (u:=Bb x'.g.sp.n) (z:=⟨⟨x'.g.n,⟨x'.g.sp.n,y.g.sp.lo,y.g.sp.hi⟩,y.g.t,y.g.f,y.g.s⟩,y.ss,y.cap⟩) aa bu (aJ gy nb);have h3:=h.cellV hb hk h2 (j:=2) (u:=I Y x'.g.sp.lo) (z:=⟨⟨x'.g.n,⟨x'.g.sp.n,x'.g.sp.lo,y.g.sp.hi⟩,y.g.t,y.g.f,y.g.s⟩,y.ss,y.cap⟩) aa bu (aJ (aJ gy nb) nb);have h4:=h.cellV hb hk h3 (j:=3) (u:=I Y x'.g.sp.hi) (z:=⟨⟨x'.g.n,⟨x'.g.sp.n,x'.g.sp.lo,x'.g.sp.hi⟩,y.g.t,y.g.f,y.g.s⟩,y.ss,y.cap⟩) aa bu (aJ (aJ (aJ gy nb) nb) nb);have h5:=h.cellV hb hk h4 (j:=4) (u:=Bb x'.g.t) (z:=⟨⟨x'.g.n,⟨x'.g.sp.n,x'.g.sp.lo,x'.g.sp.hi⟩,x'.g.t,y.g.f,y.g.s⟩,y.ss,y.cap⟩) aa bu (aJ (aJ (aJ (aJ gy nb) nb) nb) nb);have h6:=h.cellV hb hk h5 (j:=5) (u:=Bb x'.g.f) (z:=⟨⟨x'.g.n,⟨x'.g.sp.n,x'.g.sp.lo,x'.g.sp.hi⟩,x'.g.t,x'.g.f,y.g.s⟩,y.ss,y.cap⟩) aa bu (aJ (aJ (aJ (aJ (aJ gy nb) nb) nb) nb) nb);have h7:=h.cellV hb hk h6 (j:=6) (u:=U x'.ss x'.g.s.length x'.cap) (z:=x') aa bu (aJ (aJ (aJ (aJ (aJ (aJ hg nb) nb) nb) nb) nb) nb);exact h7
theorem PicG.cellF (h:PicG T B w v fs fc L){s:Nat}(hs:s < L.length){b:Nat}(hb:L[s].rs=sO ⟨b,0,nO⟩){k:Nat}(hk:k < L[s].l.length){y z:Gc}(hy:PicG T B w' v fs fc (L.set s ⟨L[s].rs,L[s].rc,L[s].l.set k y⟩)){j:Nat}{u:Value}(hj:j < 7)(hx:br z=(br y).set j u)(hg:bS (λb=>T b/\Off v (j0 fs L.length fc).ownBlock L b) w' z):
  PicG T B (w'.setCell ⟨b,k * 7+j,nO⟩ u) v fs fc (L.set s ⟨L[s].rs,L[s].rc,L[s].l.set k z⟩):=by
 have eL:∀q,(∀r∈L.set s ⟨L[s].rs,L[s].rc,L[s].l.set k y⟩,roB r≠sO q)↔∀r∈L,roB r≠sO q:=λq=>by
  have e1:(L.set s ⟨L[s].rs,L[s].rc,L[s].l.set k y⟩).map roB=L.map roB:=by
   rw[Q1,iC (v:=L[s]) ah,<-Q2 (f:=roB) (h:=by simpa using hs),z9]
  have e2:∀M:List Ro,(∀r∈M,roB r≠sO q)↔∀o∈M.map roB,o≠sO q:=λM=>by simp only[x2,forall_exists_index,and_imp,forall_apply_eq_imp_iff₂]
  rw[e2,e1,<-e2]
 have h1:=PicG.putF hy (s:=s) (by simpa using hs) (b:=b) (by simpa using hb) (k:=k) (j:=j) (u:=u) (x':=z) iG hj (by simpa using hx) ⟨hg.1.mono λq hq _=>⟨hq.1,hq.2.1,by rw[q0];exact hq.2.2.1,(eL q).2 hq.2.2.2⟩,hg.2⟩;simpa[Qf] using h1
theorem PicG.setF (h:PicG T B w v fs fc L){s:Nat}(hs:s < L.length){b:Nat}(hb:L[s].rs=sO ⟨b,0,nO⟩){k:Nat}(hk:k < L[s].l.length){x':Gc}(hg:bS (λb=>T b/\Off v (j0 fs L.length fc).ownBlock L b) w x'):PicG T B (cj w b k x') v fs fc (L.set s ⟨L[s].rs,L[s].rc,L[s].l.set k x'⟩):=by
 have hm:=gM hs;have eb:roB L[s]=sO b:=mO;have nb:¬(λq=>T q/\Off v (j0 fs L.length fc).ownBlock L q) b:=λq=>q.2.2.2 _ hm eb;obtain⟨y,ey⟩:∃y,y=L[s].l[k]:=⟨_,rfl⟩;have gy:bS (λb=>T b/\Off v (j0 fs L.length fc).ownBlock L b) w y:=by rw[ey];exact h.sf _ hm _ (gM hk)
 have h0:PicG T B w v fs fc (L.set s ⟨L[s].rs,L[s].rc,L[s].l.set k y⟩):=by
  rw[ey,z9];have:(⟨L[s].rs,L[s].rc,L[s].l⟩:Ro)=L[s]:=rfl;rw[this,z9];exact h
 unfold cj;have h1:=h.cellF hs hb hk h0 (j:=0) (u:=Bb x'.g.n) (z:=⟨⟨x'.g.n,y.g.sp,y.g.t,y.g.f,y.g.s⟩,y.ss,y.cap⟩) aa bu gy;have h2:=h.cellF hs hb hk h1 (j:=1) (u:=Bb x'.g.sp.n) (z:=⟨⟨x'.g.n,⟨x'.g.sp.n,y.g.sp.lo,y.g.sp.hi⟩,y.g.t,y.g.f,y.g.s⟩,y.ss,y.cap⟩) aa bu (aJ gy nb);have h3:=h.cellF hs hb hk h2 (j:=2) (u:=I Y x'.g.sp.lo) (z:=⟨⟨x'.g.n,⟨x'.g.sp.n,x'.g.sp.lo,y.g.sp.hi⟩,y.g.t,y.g.f,y.g.s⟩,y.ss,y.cap⟩) aa bu (aJ (aJ gy nb) nb);have h4:=h.cellF hs hb hk h3 (j:=3) (u:=I Y x'.g.sp.hi) (z:=⟨⟨x'.g.n,⟨x'.g.sp.n,x'.g.sp.lo,x'.g.sp.hi⟩,y.g.t,y.g.f,y.g.s⟩,y.ss,y.cap⟩) aa bu (aJ (aJ (aJ gy nb) nb) nb);have h5:=h.cellF hs hb hk h4 (j:=4) (u:=Bb x'.g.t) (z:=⟨⟨x'.g.n,⟨x'.g.sp.n,x'.g.sp.lo,x'.g.sp.hi⟩,x'.g.t,y.g.f,y.g.s⟩,y.ss,y.cap⟩) aa bu (aJ (aJ (aJ (aJ gy nb) nb) nb) nb);have h6:=h.cellF hs hb hk h5 (j:=5) (u:=Bb x'.g.f) (z:=⟨⟨x'.g.n,⟨x'.g.sp.n,x'.g.sp.lo,x'.g.sp.hi⟩,x'.g.t,x'.g.f,y.g.s⟩,y.ss,y.cap⟩) aa bu (aJ (aJ (aJ (aJ (aJ gy nb) nb) nb) nb) nb);have h7:=h.cellF hs hb hk h6 (j:=6) (u:=U x'.ss x'.g.s.length x'.cap) (z:=x') aa bu (aJ (aJ (aJ (aJ (aJ (aJ hg nb) nb) nb) nb) nb) nb);exact h7
theorem dN {b k q:Nat}{x':Gc}(h:q≠b):(cj w b k x').heap[q]? =w.heap[q]? :=by
 unfold cj;rw[hSe _ _ _ _ h,hSe _ _ _ _ h,hSe _ _ _ _ h,hSe _ _ _ _ h,hSe _ _ _ _ h,hSe _ _ _ _ h,hSe _ _ _ _ h]
theorem kj {b k:Nat}{x':Gc}:(cj w b k x').heap.size=w.heap.size:=by simp[cj,Q9]
theorem fi {A:Nat}{w0:World}{b k:Nat}{x':Gc}(h:Below A w0 w)(hb:A<=b):Below A w0 (cj w b k x'):=by
 unfold cj;exact((((((h.setCell hb _).setCell hb _).setCell hb _).setCell hb _).setCell hb _).setCell hb _).setCell hb _
end
end
section
theorem kL (c:UInt8):∀l,(bt c l).length<=l.length+1
 |[]=>by simp[bt]
 |b::l=>by
  have ih:=kL c l;obtain⟨x,r,h⟩:=ge c l;unfold bt;rw[h] at ih |-;simp only[z3] at ih |-;split<;>simp only[z3]<;>omega
theorem iW (c:UInt8)(x y:List UInt8)(r:List (List UInt8)):gV c (x::y::r)=x++c::gV c (y::r):=by simp[gV]
theorem iT (c:UInt8):∀(ls:List (List UInt8)) (x:List UInt8),x∈ls->x.length<=(gV c ls).length
 |[],x,h=>aT
 |[y],x,h=>by simp at h;subst h;simp[gV]
 |y::z::r,x,h=>by
  rw[iW];rcases j5.1 h with rfl|h
  ·simp
  ·have:=iT c (z::r) x h
   simp;omega
theorem uo (c:UInt8):∀(ls:List (List UInt8)) (k:Nat),(gV c (ls.drop k)).length<=(gV c ls).length
 |ls,0=>ah
 |[],k+1=>ah
 |[y],k+1=>by simp[gV]
 |y::z::r,k+1=>by
  have:=uo c (z::r) k;rw[List.drop_succ_cons,iW];simp at this |-;omega
def txB (ls:List (List UInt8))(k:Nat):ByteArray:=⟨(gV 10 (ls.drop k)).toArray⟩
def lnB (ls:List (List UInt8))(k:Nat):ByteArray:=⟨(ls.getD k []).toArray⟩
theorem fY (ls:List (List UInt8))(k:Nat):(txB ls k).data.toList=gV 10 (ls.drop k):=by simp[txB]
theorem eU (ls:List (List UInt8))(k:Nat):(lnB ls k).data.toList=ls.getD k []:=by simp[lnB]
theorem lC {ls:List (List UInt8)}{k:Nat}(h:k < ls.length):ls.getD k []=ls[k]:=by simp[j3,z4 h]
theorem Bg {ls:List (List UInt8)}{k:Nat}(h:k+1 < ls.length)(hf:∀x∈ls,(10:UInt8)∉x):Lib.cut (txB ls k).data.toList [10]=((lnB ls k).data.toList,(txB ls (k+1)).data.toList,true):=by
 rw[fY,fY,eU,lC (by omega:k < ls.length),z6 (by omega:k < ls.length),z6 h,iW];exact Mv 10 _ _ (hf _ (gM _))
theorem MY {ls:List (List UInt8)}{k:Nat}(h:k+1=ls.length)(hf:∀x∈ls,(10:UInt8)∉x):Lib.cut (txB ls k).data.toList [10]=((lnB ls k).data.toList,(⟨#[]⟩:ByteArray).data.toList,false):=by
 rw[fY,eU,lC (by omega:k < ls.length),z6 (by omega:k < ls.length),Qg aa];simp only[gV,List.flatMap_nil,Qe];exact SM 10 _ (hf _ (gM _))
theorem Pb {ls:List (List UInt8)}{k:Nat}(h:k+1 < ls.length):txB ls k≠⟨#[]⟩:=by
 intro e;have h2:(txB ls k).data.toList=[]:=by rw[e]
 rw[fY,z6 (by omega:k < ls.length),z6 h,iW] at h2;simp at h2
theorem Su {ls:List (List UInt8)}{k:Nat}(h:k+1=ls.length):(txB ls k).data.toList=ls.getD k []:=by
 rw[fY,lC (by omega:k < ls.length),z6 (by omega:k < ls.length),Qg aa];simp[gV]
theorem MH:∀{ls:List (List UInt8)} {m:Nat} {c:lI},eF m ls=.ok c->ls.length=c.length+1/\ls.getD c.length []=[]/\∀k (h:k < c.length),eI (ls.getD k [])=sO c[k]
 |[],_,_,h=>aT
 |[x],m,c,h=>by
  unfold eF at h;split at h
  ·rename_i e
   cases h;exact⟨rfl,by rw[e];rfl,λk h=>aT⟩
  ·cases h
 |x::y::r,m,c,h=>by
  unfold eF at h;split at h
  ·cases h
  ·rename_i i hi
   split at h
   ·cases h
   ·rename_i c' hc
    cases h;obtain⟨h1,h2,h3⟩:=MH hc;refine⟨by simp only[z3] at h1 |-;omega,?_,?_⟩
    ·simpa using h2
    ·intro k hk
     cases k with
     |zero=>simpa using hi
     |succ k=>simpa using h3 k iG
theorem Ke:∀{ls:List (List UInt8)} {m e:Nat},ls≠[]->eF m ls=.error e->∃n,e=m+n/\n < ls.length/\(∀k,k < n->∃i,eI (ls.getD k [])=sO i)/\((n+1=ls.length/\ls.getD n []≠[])\/(n+1 < ls.length/\eI (ls.getD n [])=nO))
 |[],_,_,hn,_=>absurd rfl hn
 |[x],m,e,_,h=>by
  unfold eF at h;split at h
  ·cases h
  ·rename_i hx
   cases h;exact⟨0,rfl,ah,λk hk=>aa,.inl ⟨rfl,by simpa using hx⟩⟩
 |x::y::r,m,e,_,h=>by
  unfold eF at h;split at h
  ·rename_i hi
   cases h;exact⟨0,rfl,ah,λk hk=>aa,.inr ⟨ah,fN⟩⟩
  ·rename_i i hi
   split at h
   ·rename_i e' hc
    cases h;obtain⟨n,h1,h2,h3,h4⟩:=Ke ah hc;refine⟨n+1,aa,by simp only[z3] at h2 |-;omega,?_,?_⟩
    ·intro k hk
     cases k with
     |zero=>exact⟨i,fN⟩
     |succ k=>simpa using h3 k aa
    ·rcases h4 with⟨h5,h6⟩|⟨h5,h6⟩
     ·exact .inl ⟨by simp only[z3] at h5 |-;omega,by simpa using h6⟩
     ·exact .inr ⟨by simp only[z3] at h5 |-;omega,by simpa using h6⟩
   ·cases h
theorem Sx (v:Int):(v < 0/\Lib.itoa v=45::Lib.decDigits v.natAbs)\/(0<=v/\Lib.itoa v=Lib.decDigits v.toNat):=by
 unfold Lib.itoa;by_cases h:v < 0
 ·exact .inl ⟨h,if_pos h⟩
 ·exact .inr ⟨by omega,if_neg h⟩
theorem NH {l dl:List UInt8}{neg:Bool}{v:Int}(hl:l=if neg=true then 45::dl else dl)(hn:neg=false->dl.head?≠sO 45)(h:bW l=sO v):∀b∈dl,48<=b.toNat/\b.toNat<=57:=by
 have hi:=NG h;rcases Sx v with⟨_,h2⟩|⟨_,h2⟩
 ·rw[h2] at hi
  cases neg with
  |true=>
   simp only[if_true] at hl;rw[hl] at hi;obtain⟨-,rfl⟩:=List.cons.inj hi;exact nR _
  |false=>
   simp only[j2,if_false] at hl;rw[hl] at hi;exact absurd (by rw[<-hi];rfl) (hn rfl)
 ·rw[h2] at hi
  have hd:=nR v.toNat;rw[hi] at hd;cases neg with
  |true=>
   simp only[if_true] at hl;rw[hl] at hd;exact absurd (hd 45 ah) ai
  |false=>
   simp only[j2,if_false] at hl;rw[hl] at hd;exact hd
theorem Np {l dl:List UInt8}{neg:Bool}{k:Nat}{b:UInt8}(hl:l=if neg=true then 45::dl else dl)(hn:neg=false->dl.head?≠sO 45)(hk:dl[k]? =sO b)(hb:¬(48<=b.toNat/\b.toNat<=57)):bW l=none:=by
 cases h:bW l with
 |none=>rfl
 |some v=>exact absurd (NH hl hn h b (List.mem_of_getElem? hk)) hb
theorem Rr {l:List UInt8}{neg:Bool}(hl:l=if neg=true then [45] else []):bW l=none:=by
 cases neg<;>(simp at hl;subst hl;decide)
theorem SY {b:UInt8}{d:Nat}(h:Lib.digitVal b=sO d):48<=b.toNat/\b.toNat<=57:=by
 unfold Lib.digitVal at h;split at h
 ·assumption
 ·cases h
theorem TF {dl:List UInt8}{k n:Nat}{b:UInt8}(h:Lib.decFrom 0 (dl.take k)=sO n)(hk:dl[k]? =sO b)(hb:48<=b.toNat/\b.toNat<=57):Lib.decFrom 0 (dl.take (k+1))=sO (n * 10+(b.toNat - 48)):=by
 rw[List.take_add_one,hk,vQ,h];simp only[Option.toList,Option.bind,Lib.decFrom,Lib.digitVal,if_pos hb]
theorem Sz {l dl:List UInt8}{neg:Bool}{n:Nat}(hl:l=if neg=true then 45::dl else dl)(hne:dl≠[])(hlen:l.length<=11)(hd:Lib.decFrom 0 dl=sO n):bW l=if Lib.itoa (if neg=true then -(n:Int) else n)=l then sO (if neg=true then -(n:Int) else n) else none:=by
 have hat:Lib.atoi l=sO (if neg=true then -(n:Int) else n):=by
  cases dl with
  |nil=>exact absurd rfl hne
  |cons b r=>
   cases neg with
   |true=>
    simp only[if_true] at hl |-;rw[hl];show (Lib.decNat (b::r)).map (λm:Nat=> -(m:Int))=_;rw[Lib.decNat,if_neg ah,hd];rfl
   |false=>
    simp only[j2,if_false] at hl |-;have hb:48<=b.toNat/\b.toNat<=57:=by
     simp only[Lib.decFrom] at hd;split at hd
     ·rename_i d hdv
      exact SY hdv
     ·cases hd
    have e1:(b==45)=false:=MZ;have e2:(b==43)=false:=MZ;rw[hl];simp only[Lib.atoi,e1,e2,j2,if_false,Lib.decNat,List.isEmpty_cons,hd,Option.map]
 unfold bW;rw[if_pos hlen,hat]
theorem SF {l:List UInt8}(h:¬l.length<=11):bW l=none:=by unfold bW;rw[if_neg h]
end
end Go.Proofs.YtmapdpcfanecdabGreatDoor
