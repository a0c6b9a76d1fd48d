import Derived.Test.YtmapdpcfanecdabGreatDoorR04
import Derived.Lib.SplitLaws
import Derived.Lib.AtoiTie
import Derived.Lib.MinMax
open Bool renaming and_eq_true→j8,false_eq_true→j2,not_eq_false→Q2,not_eq_true'→x0,or_eq_true→x9
open Go.Ending renaming returned→Rt
open Go.IntKind renaming i64→Y
open Go.Obj renaming cells→Cc
open Go.Proofs.Tryz renaming prog→pG
open Go.RowKit.Below renaming heap_setCell→hSe,refl→bR
open Go.Value renaming agg→Ag,bool→Bb,int→I,pointer→Pp,slice→U,slice→j0,tuple→Tu
open Go.World renaming ownsRow→x6,setCell→Q7,size_alloc→zA
open List renaming Pairwise→x8,all_cons→Z9,all_eq_true→Q4,any_eq_false→X4,append_nil→Qa,cons_append→Z2,contains_iff_mem→X1,drop_eq_getElem_cons→z6,drop_eq_nil_of_le→Qc,eq_of_mem_replicate→J5,ext_getElem→Q8,flatMap_cons→J6,foldl_append→Q9,foldl_cons→z7,foldl_nil→Z0,getD→j3,getElem?_eq_getElem→z4,getElem?_eq_none→x5,getElem?_set→X8,getElem_cons_zero→J8,getElem_map→Q0,getElem_mem→gM,getElem_of_mem→J0,getElem_set→Z6,getElem_zipWith→j9,isPrefixOf→J7,length_append→Z7,length_cons→z3,length_eq_zero_iff→X6,length_set→q0,length_zipWith→j4,map_cons→J1,map_set→J9,mem_append→j7,mem_cons→j5,mem_cons_of_mem→x1,mem_flatten→X5,mem_iff_getElem→Z5,mem_map→x2,mem_or_eq_of_mem_set→x7,mem_range→X0,mem_singleton→j6,nil_append→Z1,pairwise_cons→x3,pairwise_lt_range→X2,pairwise_map→Q1,pairwise_singleton→Z8,range→j1,range_succ→X9,replicate→J4,set_cons_succ→Z4,set_cons_zero→Z3,set_getElem_self→z9,set_set→Qb,sum_cons→J2,zipWith→Q3
open Nat renaming le_refl→lR,le_trans→lT,lt_irrefl→X7,lt_of_lt_of_le→lL,mul_le_mul_right→J3,not_lt→x4,zero_add→z5,zero_le→z8
open Option renaming getD_none→Q6,getD_some→Q5,none→nO,some→sO
set_option linter.unusedSimpArgs false
set_option linter.unusedVariables false
set_option maxHeartbeats 4000000
set_option maxRecDepth 100000
namespace Go.Proofs.YtmapdpcfanecdabGreatDoor
section
open Go.RowKit
theorem NM (V F:Int)(s:oA)(len cap:Nat)(tto a b n g:Int)(w:World)(_hV:1<=V)(_hV':V<=8)(_hF:0<=F)(_hF':F<=3)(_hL:len<=60):
  Calls pG 58 #[Ag #[I Y V,I Y F,U s len cap],Ag #[I Y 5,I Y tto,I Y a,I Y b,I Y n,I Y g]] w λe w'=>e=Rt (I Y (bm V F len ⟨5,tto,a,b,n,g⟩))/\bl w w':=by
 have t0:(aK 5).toList.isEmpty=false:=c7;have t1:nTo 5=true:=rfl;have t2:nA 5=true:=rfl;have t3:nB 5=true:=rfl;have t4:nN 5=false:=rfl;have t5:nG 5=false:=rfl;exact bT

theorem N9 (V F:Int)(s:oA)(len cap:Nat)(tto a b n g:Int)(w:World)(_hV:1<=V)(_hV':V<=8)(_hF:0<=F)(_hF':F<=3)(_hL:len<=60):
  Calls pG 58 #[Ag #[I Y V,I Y F,U s len cap],Ag #[I Y 6,I Y tto,I Y a,I Y b,I Y n,I Y g]] w λe w'=>e=Rt (I Y (bm V F len ⟨6,tto,a,b,n,g⟩))/\bl w w':=by
 have t0:(aK 6).toList.isEmpty=false:=c7;have t1:nTo 6=true:=rfl;have t2:nA 6=true:=rfl;have t3:nB 6=true:=rfl;have t4:nN 6=false:=rfl;have t5:nG 6=false:=rfl;exact bT

theorem NU (V F:Int)(s:oA)(len cap:Nat)(tto a b n g:Int)(w:World)(_hV:1<=V)(_hV':V<=8)(_hF:0<=F)(_hF':F<=3)(_hL:len<=60):
  Calls pG 58 #[Ag #[I Y V,I Y F,U s len cap],Ag #[I Y 7,I Y tto,I Y a,I Y b,I Y n,I Y g]] w λe w'=>e=Rt (I Y (bm V F len ⟨7,tto,a,b,n,g⟩))/\bl w w':=by
 have t0:(aK 7).toList.isEmpty=false:=c7;have t1:nTo 7=true:=rfl;have t2:nA 7=true:=rfl;have t3:nB 7=true:=rfl;have t4:nN 7=false:=rfl;have t5:nG 7=false:=rfl;exact bT

theorem Om (V F:Int)(s:oA)(len cap:Nat)(tto a b n g:Int)(w:World)(_hV:1<=V)(_hV':V<=8)(_hF:0<=F)(_hF':F<=3)(_hL:len<=60):
  Calls pG 58 #[Ag #[I Y V,I Y F,U s len cap],Ag #[I Y 8,I Y tto,I Y a,I Y b,I Y n,I Y g]] w λe w'=>e=Rt (I Y (bm V F len ⟨8,tto,a,b,n,g⟩))/\bl w w':=by
 have t0:(aK 8).toList.isEmpty=false:=c7;have t1:nTo 8=true:=rfl;have t2:nA 8=true:=rfl;have t3:nB 8=true:=rfl;have t4:nN 8=false:=rfl;have t5:nG 8=false:=rfl;exact bT

theorem LB (V F:Int)(s:oA)(len cap:Nat)(k tto a b n g:Int)(w:World)(_hV:1<=V)(_hV':V<=8)(_hF:0<=F)(_hF':F<=3)(_hL:len<=60)(hk:btw k 1 19=false):
  Calls pG 58 #[Ag #[I Y V,I Y F,U s len cap],Ag #[I Y k,I Y tto,I Y a,I Y b,I Y n,I Y g]] w λe w'=>e=Rt (I Y (bm V F len ⟨k,tto,a,b,n,g⟩))/\bl w w':=by
 have t0:(aK k).toList.isEmpty=true:=by rw[CV hk,ByteArray.toList_eq];rfl
 exact bT
theorem NH (V F:Int)(s:oA)(len cap:Nat)(tto a b n g:Int)(w:World)(_hV:1<=V)(_hV':V<=8)(_hF:0<=F)(_hF':F<=3)(_hL:len<=60):
  Calls pG 58 #[Ag #[I Y V,I Y F,U s len cap],Ag #[I Y 9,I Y tto,I Y a,I Y b,I Y n,I Y g]] w λe w'=>e=Rt (I Y (bm V F len ⟨9,tto,a,b,n,g⟩))/\bl w w':=by
 have t0:(aK 9).toList.isEmpty=false:=c7;have t1:nTo 9=true:=rfl;have t2:nA 9=true:=rfl;have t3:nB 9=true:=rfl;have t4:nN 9=false:=rfl;have t5:nG 9=false:=rfl;exact bT

theorem LS (V F:Int)(s:oA)(len cap:Nat)(tto a b n g:Int)(w:World)(_hV:1<=V)(_hV':V<=8)(_hF:0<=F)(_hF':F<=3)(_hL:len<=60):
  Calls pG 58 #[Ag #[I Y V,I Y F,U s len cap],Ag #[I Y 10,I Y tto,I Y a,I Y b,I Y n,I Y g]] w λe w'=>e=Rt (I Y (bm V F len ⟨10,tto,a,b,n,g⟩))/\bl w w':=by
 have t0:(aK 10).toList.isEmpty=false:=c7;have t1:nTo 10=true:=rfl;have t2:nA 10=true:=rfl;have t3:nB 10=false:=rfl;have t4:nN 10=false:=rfl;have t5:nG 10=false:=rfl;exact bT

theorem La (V F:Int)(s:oA)(len cap:Nat)(tto a b n g:Int)(w:World)(_hV:1<=V)(_hV':V<=8)(_hF:0<=F)(_hF':F<=3)(_hL:len<=60):
  Calls pG 58 #[Ag #[I Y V,I Y F,U s len cap],Ag #[I Y 11,I Y tto,I Y a,I Y b,I Y n,I Y g]] w λe w'=>e=Rt (I Y (bm V F len ⟨11,tto,a,b,n,g⟩))/\bl w w':=by
 have t0:(aK 11).toList.isEmpty=false:=c7;have t1:nTo 11=true:=rfl;have t2:nA 11=false:=rfl;have t3:nB 11=false:=rfl;have t4:nN 11=false:=rfl;have t5:nG 11=false:=rfl;exact bT

theorem Lt (V F:Int)(s:oA)(len cap:Nat)(tto a b n g:Int)(w:World)(_hV:1<=V)(_hV':V<=8)(_hF:0<=F)(_hF':F<=3)(_hL:len<=60):
  Calls pG 58 #[Ag #[I Y V,I Y F,U s len cap],Ag #[I Y 12,I Y tto,I Y a,I Y b,I Y n,I Y g]] w λe w'=>e=Rt (I Y (bm V F len ⟨12,tto,a,b,n,g⟩))/\bl w w':=by
 have t0:(aK 12).toList.isEmpty=false:=c7;have t1:nTo 12=true:=rfl;have t2:nA 12=true:=rfl;have t3:nB 12=false:=rfl;have t4:nN 12=true:=rfl;have t5:nG 12=false:=rfl;exact bT

theorem Lm (V F:Int)(s:oA)(len cap:Nat)(tto a b n g:Int)(w:World)(_hV:1<=V)(_hV':V<=8)(_hF:0<=F)(_hF':F<=3)(_hL:len<=60):
  Calls pG 58 #[Ag #[I Y V,I Y F,U s len cap],Ag #[I Y 13,I Y tto,I Y a,I Y b,I Y n,I Y g]] w λe w'=>e=Rt (I Y (bm V F len ⟨13,tto,a,b,n,g⟩))/\bl w w':=by
 have t0:(aK 13).toList.isEmpty=false:=c7;have t1:nTo 13=false:=rfl;have t2:nA 13=true:=rfl;have t3:nB 13=true:=rfl;have t4:nN 13=true:=rfl;have t5:nG 13=false:=rfl;exact bT
def kG (n:Int):Prop:= -9223372036854775808<=n/\n<=9223372036854775807
def eI (n:Int):ByteArray:=⟨(Lib.itoa n).toArray⟩
theorem kL (n:Int)(h:kG n):(eI n).size<=21:=Lib.itoa_length_le n h.1 h.2

theorem n8 (z:Int)(w:World)(h:kG z):
  Calls pG 27 #[I Y z] w λe w'=>e=Rt (.string (eI z))/\bl w w':=Po z w h.1 h.2
end
section
def br (c:UInt8):List UInt8->List (List UInt8)
 |[]=>[[]]
 |b::l=>if b=c then []::br c l else match br c l with
  |[]=>[[b]]
  |x::r=>(b::x)::r
def gV (c:UInt8):List (List UInt8)->List UInt8
 |[]=>[]
 |x::r=>x++r.flatMap λy=>c::y

theorem fY (c:UInt8)(l:List UInt8):∃x r,br c l=x::r:=by
 cases l with
 |nil=>exact⟨_,_,rfl⟩
 |cons b l=>
  unfold br;split
  ·exact⟨_,_,rfl⟩
  ·split<;>exact⟨_,_,rfl⟩
theorem lC (c:UInt8):∀l,gV c (br c l)=l
 |[]=>rfl
 |b::l=>by
  have ih:=lC c l;obtain⟨x,r,h⟩:=fY c l;rw[h] at ih;unfold br;split
  ·rename_i e
   rw[h];simp only[gV,J6,Z1] at ih |-;rw[e,Z2,ih]
  ·rw[h]
   simp only[gV] at ih |-;rw[Z2,ih]
theorem oq (c:UInt8):∀l,∀x∈br c l,c∉x
 |[],x,hx=>by simp[br] at hx;simp[hx]
 |b::l,x,hx=>by
  have ih:=oq c l;obtain⟨y,r,h⟩:=fY c l;unfold br at hx;rw[h] at hx ih;split at hx
  ·rcases j5.1 hx with rfl|hx
   ·simp
   ·exact ih x hx
  ·rename_i hne
   rcases j5.1 hx with rfl|hx
   ·intro hm
    rcases j5.1 hm with e|hm
    ·exact hne e.symm
    ·exact ih y (List.mem_cons_self ..) hm
   ·exact ih x (x1 _ hx)
theorem BV (c:UInt8):∀x:List UInt8,c∉x->br c x=[x]
 |[],_=>rfl
 |b::l,h=>by
  have hb:=p6;unfold br;rw[if_neg hb,BV c l (λhm=>h (x1 _ hm))]
theorem At (c:UInt8)(m:List UInt8):∀x:List UInt8,c∉x->br c (x++c::m)=x::br c m
 |[],_=>by show br c (c::m)=_;unfold br;rw[if_pos rfl];cases m<;>rfl
 |b::l,h=>by
  have hb:=p6;show br c (b::(l++c::m))=_;unfold br;rw[if_neg hb,At c m l (λhm=>h (x1 _ hm))];cases m<;>rfl
theorem Be (c:UInt8):∀s:List UInt8,Lib.splitK [c] 0 (Lib.count s [c]) s=br c s
 |[]=>by rw[Lib.count_miss (by simp[Lib.index])];rfl
 |b::l=>by
  have ih:=Be c l;by_cases hb:b=c
  ·subst hb
   have hix:Lib.index (b::l) [b]=((0:Nat):Int):=by rw[Lib.index];simp[J7]
   rw[Lib.count_cons_eq,Nat.add_comm,Lib.splitK,if_neg (by rw[hix];decide),hix];unfold br;rw[if_pos rfl,<-ih];simp
  ·have hp:=Ip
   have hix:Lib.index (b::l) [c]=if Lib.index l [c]== -1 then -1 else Lib.index l [c]+1:=by rw[Lib.index,hp];simp
   rw[Lib.count_cons_ne b c l hb];unfold br;rw[if_neg hb,<-ih];by_cases hm:Lib.index l [c]= -1
   ·rw[Lib.count_miss hm];rfl
   ·have hge:=Lib.index_ge l [c]
    obtain⟨j,hj⟩:∃j:Nat,Lib.index l [c]=j:=⟨(Lib.index l [c]).toNat,aa⟩;have hix':Lib.index (b::l) [c]=((j+1:Nat):Int):=by rw[hix,if_neg (λe=>hm (beq_iff_eq.1 e)),hj];omega
    rw[Lib.count_hit ag hj,Nat.add_comm,Lib.splitK,if_neg (by rw[hix'];intro e;have:=beq_iff_eq.1 e;omega),hix',Lib.splitK,if_neg (by rw[hj];intro e;have:=beq_iff_eq.1 e;omega),hj];simp
theorem IV (c:UInt8):∀x:List UInt8,c∉x->Lib.index x [c]= -1
 |[],_=>by simp[Lib.index]
 |b::l,h=>by
  have hb:=p6;have hp:=Ip;rw[Lib.index,hp];have:=IV c l (λhm=>h (x1 _ hm));simp[this]
theorem EC (c:UInt8)(m:List UInt8):∀x:List UInt8,c∉x->Lib.index (x++c::m) [c]=(x.length:Int)
 |[],_=>by show Lib.index (c::m) [c]=_;rw[Lib.index];simp[J7]
 |b::l,h=>by
  have hb:=p6;have hp:([c]:List UInt8).isPrefixOf (b::(l++c::m))=false:=by simp[J7,Ne.symm hb]
  show Lib.index (b::(l++c::m)) [c]=_;rw[Lib.index,hp];have:=EC c m l (λhm=>h (x1 _ hm));rw[this];have e1:¬((l.length:Int)== -1)=true:=by intro e;have:=beq_iff_eq.1 e;omega
  simp only[j2,if_false];rw[if_neg e1];simp
theorem Tc (c:UInt8)(x:List UInt8)(h:c∉x):Lib.cut x [c]=(x,[],false):=by
 unfold Lib.cut;rw[IV c x h,if_neg ai]
theorem MY (c:UInt8)(x m:List UInt8)(h:c∉x):Lib.cut (x++c::m) [c]=(x,m,true):=by
 unfold Lib.cut;rw[EC c m x h,if_pos aa];simp

def bU (s:List UInt8):Option Int:=if s.length<=11 then(match Lib.atoi s with|some v=>if Lib.itoa v=s then sO v else nO|none=>nO) else nO
theorem OD {s:List UInt8}{v:Int}(h:bU s=sO v):Lib.itoa v=s:=by
 unfold bU at h;split at h
 ·split at h
  ·split at h
   ·cases h;assumption
   ·cases h
  ·cases h
 ·cases h
theorem vM (m:List UInt8):∀(l:List UInt8) (acc:Nat),Lib.decFrom acc (l++m)=(Lib.decFrom acc l).bind λn=>Lib.decFrom n m
 |[],acc=>rfl
 |b::l,acc=>by
  show Lib.decFrom acc (b::(l++m))=_;simp only[Lib.decFrom];cases Lib.digitVal b with
  |none=>rfl
  |some d=>exact vM m l _
theorem He:∀d:Fin 10,(UInt8.ofNat (48+d.val)).toNat=48+d.val:=fN
theorem nV (u:Nat):∀b∈Lib.decDigits u,48<=b.toNat/\b.toNat<=57:=by
 induction u using Nat.strongRecOn with
 |_ u ih=>
  intro b hb;by_cases h:u < 10
  ·rw[Lib.decDigits,dif_pos h] at hb
   have:=He ⟨u,h⟩;simp only at this;simp only[j6] at hb;rw[hb,this];omega
  ·rw[Lib.decDigits,dif_neg h] at hb
   rcases j7.1 hb with hb|hb
   ·exact ih (u / 10) aa b hb
   ·have:=He ⟨u % 10,aa⟩
    simp only at this;simp only[j6] at hb;rw[hb,this];omega
def prt (k:Nat):List Nat:=match k with
 |1=>[0,4]|2=>[0,5]|3=>[0]|4=>[0,1]|5=>[0,1,2]|6=>[0,1,2]|7=>[0,1,2]|8=>[0,1,2]|9=>[0,1,2]|10=>[0,1]
 |11=>[0]|12=>[0,1,7]|13=>[1,7,2]|14=>[0,6]|15=>[1,3]|16=>[3]|17=>[1]|18=>[1]|_=>[]
def mV (q:Nat)(v:Int)(i:Ins):Ins:=match q with
 |0=>⟨i.k,v,i.a,i.b,i.n,i.g⟩
 |1=>⟨i.k,i.tgt,v,i.b,i.n,i.g⟩
 |2=>⟨i.k,i.tgt,i.a,v,i.n,i.g⟩
 |3=>⟨i.k,i.tgt,i.a,i.b,i.n,v⟩
 |_=>⟨i.k,i.tgt,i.a,i.b,v,i.g⟩
def uo:List Nat->List Int->Ins->Ins
 |q::r,v::t,i=>uo r t (mV q v i)
 |_,_,i=>i
def eZ:List (List UInt8)->Option (List Int)
 |[]=>sO []
 |x::r=>match bU x with
  |none=>nO
  |some v=>match eZ r with
   |none=>nO
   |some t=>sO (v::t)
def eX (w:List UInt8)(n k:Nat):Bool:=(aK k).data.toList==w&&(prt k).length==n
def eD (w:List UInt8)(n:Nat):Option Nat:=[1,2,3,4,5,6,7,8,9,10,11,12,13,14,15,16,17,18,19].find? (eX w n)
def eH (l:List UInt8):Option Ins:=match br 32 l with
 |[]=>nO
 |w::ns=>match eD w ns.length with
  |none=>nO
  |some k=>match eZ ns with
   |none=>nO
   |some vs=>sO (uo (prt k) vs ⟨k,0,0,0,0,0⟩)
def nW:List UInt8:=[118,97,114,115]
def mK:List UInt8:=[102,105,101,108,100,115]
def eE (l:List UInt8):Option (Int×Int):=match br 32 l with
 |[a,b,c,d]=>if a=nW/\c=mK then(match bU b with
  |none=>nO
  |some v=>match bU d with
   |none=>nO
   |some f=>sO (v,f)) else nO
 |_=>nO
def eF:Nat->List (List UInt8)->Except Nat (lI)
 |k,[]=>.error k
 |k,[x]=>if x=[] then .ok [] else .error k
 |k,x::y::r=>match eH x with
  |none=>.error k
  |some i=>match eF (k+1) (y::r) with
   |.error e=>.error e
   |.ok c=>.ok (i::c)
def dZ (s:List UInt8):Except Nat (Int×Int×lI):=match br 10 s with
 |h::y::r=>match eE h with
  |none=>.error 1
  |some (V,F)=>match eF 2 (y::r) with
   |.error e=>.error e
   |.ok c=>.ok (V,F,c)
 |_=>.error 1

theorem Pr {w:List UInt8}{n k:Nat}(h:eD w n=sO k):(1<=k/\k<=19)/\(aK k).data.toList=w/\(prt k).length=n:=by
 have h1:=List.find?_some h;have h2:=List.mem_of_find?_eq_some h;unfold eX at h1;rw[j8,beq_iff_eq,beq_iff_eq] at h1;refine⟨?_,h1.1,h1.2⟩;simp at h2;omega
end
section
open Go.RowKit
structure Ro where
  rs:oA
  rc:Nat
  l:List Gc
def roV (r:Ro):Value:=U r.rs r.l.length r.rc
def roG (r:Ro):List Gs:=r.l.map Gc.g
def roB (r:Ro):Option Nat:=(roV r).ownBlock
def RoOwn (w:World)(B:Nat)(r:Ro):Prop:=w.ownsRow B 91 7 (roV r) r.l.length (aR r.l)
theorem ug:∀{l:List Gc} {k j:Nat} {u:Value} {x':Gc} (hk:k < l.length) (_:j < 7) (_:bp x'=(bp l[k]).set j u),aR (l.set k x')=(aR l).set (k * 7+j) u
  |[],k,_,_,_,hk,_,_=>absurd hk ag
  |x::r,0,j,u,x',_,hj,h=>by
    have e:∀y,aR (y::r)=bp y++aR r:=λ_=>rfl;simp only[J8] at h;rw[Z3,e,e,Nat.zero_mul,z5,List.set_append_left _ _ (by rw[fk];exact hj),h]
  |x::r,k+1,j,u,x',hk,hj,h=>by
    have e:∀(y:Gc) (q:List Gc),aR (y::q)=bp y++aR q:=λ_ _=>rfl;simp only[List.getElem_cons_succ] at h;rw[Z4,e,e,ug it hj h,List.set_append_right _ _ (by rw[fk];omega),fk];congr 2;omega
section
variable {w w':World} {B:Nat} {r:Ro}
theorem RoOwn.form (h:RoOwn w B r)(h0:0 < r.l.length):∃b,r.rs=sO ⟨b,0,nO⟩/\roB r=sO b/\B<=b/\b < w.heap.size:=by
  obtain⟨rs,rc,l⟩:=r;rcases h.2 with⟨e,h1⟩|⟨g,cap,cur,e,hb,hg,_⟩
  · simp only at h0 h1;omega
  · simp only[roV,j0.injEq] at e
    exact⟨g,e.1,by unfold roB roV;rw[e.1];rfl,hb,(Array.getElem?_eq_some_iff.1 hg).1⟩
theorem RoOwn.caps (h:RoOwn w B r):r.l.length<=r.rc/\r.rc<=maxLen:=by
  rcases h.2 with⟨e,h1⟩|⟨g,cap,cur,e,hb,hg,k1,k2,_⟩
  · simp only[roV,j0.injEq] at e
    exact⟨aa,by rw[e.2.2];exact z8 _⟩
  · simp only[roV,j0.injEq] at e
    rw[e.2.2];exact⟨k1,k2⟩
theorem RoOwn.same (h:RoOwn w B r)(hs:∀b,roB r=sO b->w'.heap[b]? =w.heap[b]?):RoOwn w' B r:=dw h hs
theorem RoOwn.lt (h:RoOwn w B r){b:Nat}(hb:roB r=sO b):b < w.heap.size/\B<=b:=aQ h hb
theorem RoOwn.put (h:RoOwn w B r){b:Nat}(hb:r.rs=sO ⟨b,0,nO⟩){k j:Nat}{u:Value}{x':Gc}(hk:k < r.l.length)(hj:j < 7)(hx:bp x'=(bp r.l[k]).set j u):RoOwn (w.setCell ⟨b,k * 7+j,nO⟩ u) B ⟨r.rs,r.rc,r.l.set k x'⟩:=by
  obtain⟨rs,rc,l⟩:=r;simp only at hb hk hx;subst hb;have h1:=(x6.stored h (k * 7+j) u).1;unfold RoOwn roV;simp only[q0];rw[ug hk hj hx];exact h1
theorem RoOwn.gets (h:RoOwn w B r){S:Nat->Prop}(hg:∀x∈r.l,bQ S w x):GsIn (λb=>roB r=sO b\/S b) w r.rs (roG r):=by
  intro i hi;have hil:i < r.l.length:=by simpa[roG] using hi
  obtain⟨b,e,eb,hb,hz⟩:=h.form aa;have hx:=hg _ (gM hil);have ei:(roG r)[i]=r.l[i].g:=by simp[roG]
  rw[ei];have h1:w.ownsRow B 91 7 (U (sO ⟨b,0,nO⟩) r.l.length r.rc) r.l.length (aR r.l):=by rw[<-e];exact h
  refine⟨b,0,e,.inl eb,r.l[i].ss,r.l[i].cap,⟨?_,hz⟩,hx.1.mono λq hq _=>.inr hq,hx.2.1,hx.2.2⟩;have hc:∀j,j < 7->w.cell? ⟨b,i * 7+j,nO⟩=(bp r.l[i])[j]? :=λj hj=>by
    rw[<-fB r.l i hil j hj];exact x6.cellAt h1 _ aa
  simp only[z5];exact rT
theorem RoOwn.thaw (h:RoOwn w B r){b:Nat}(hb:r.rs=sO ⟨b,0,nO⟩)(j:Nat):w.frozen? ⟨b,j,nO⟩=false:=by
  have h1:=KT;exact x6.frozenAt h1 j
end
def Off (v:Ro)(fb:Option Nat)(L:List Ro)(b:Nat):Prop:=roB v≠sO b/\fb≠sO b/\∀r∈L,roB r≠sO b
structure PicG (T:Nat->Prop) (B:Nat) (w:World) (v:Ro) (fs:oA) (fc:Nat) (L:List Ro):Prop where
  vq:RoOwn w B v
  fq:w.ownsRow B 25 1 (U fs L.length fc) L.length (L.map roV)
  rows:∀r∈L,RoOwn w B r
  sv:∀g∈v.l,bQ (λb=>T b/\Off v (j0 fs L.length fc).ownBlock L b) w g
  sf:∀r∈L,∀g∈r.l,bQ (λb=>T b/\Off v (j0 fs L.length fc).ownBlock L b) w g
  dv:∀b,roB v=sO b->(j0 fs L.length fc).ownBlock≠sO b/\∀r∈L,roB r≠sO b
  df:∀b,(j0 fs L.length fc).ownBlock=sO b->∀r∈L,roB r≠sO b
  dr:L.Pairwise λr q=>∀b,roB r=sO b->roB q≠sO b
def aU (n:Bool)(v:Ro)(L:List Ro):Pic:=⟨n,roG v,L.map roG⟩
section
variable {T T':Nat->Prop} {B:Nat} {w w':World} {v:Ro} {fs:oA} {fc:Nat} {L:List Ro}
theorem PicG.mono (h:PicG T B w v fs fc L)(hT:∀b,T b->b < w.heap.size->T' b):PicG T' B w v fs fc L:=
  ⟨h.vq,h.fq,h.rows,λg hg=>⟨(h.sv g hg).1.mono λb hb hz=>⟨hT b hb.1 hz,hb.2⟩,(h.sv g hg).2⟩,λr hr g hg=>⟨(h.sf r hr g hg).1.mono λb hb hz=>⟨hT b hb.1 hz,hb.2⟩,(h.sf r hr g hg).2⟩,h.dv,h.df,h.dr⟩
theorem PicG.same (h:PicG T B w v fs fc L)(hs:∀b,T b\/B<=b->b < w.heap.size->w'.heap[b]? =w.heap[b]?)(hz:w.heap.size<=w'.heap.size):PicG T B w' v fs fc L:=
  ⟨h.vq.same λb hb=>hs b (.inr (h.vq.lt hb).2) (h.vq.lt hb).1,dw h.fq λb hb=>hs b (.inr (aQ h.fq hb).2) (aQ h.fq hb).1,λr hr=>(h.rows r hr).same λb hb=>hs b (.inr ((h.rows r hr).lt hb).2) ((h.rows r hr).lt hb).1,
   λg hg=>⟨(h.sv g hg).1.same (λb hb hlt=>hs b (.inl hb.1) hlt) hz,(h.sv g hg).2⟩,λr hr g hg=>⟨(h.sf r hr g hg).1.same (λb hb hlt=>hs b (.inl hb.1) hlt) hz,(h.sf r hr g hg).2⟩,h.dv,h.df,h.dr⟩
theorem PicG.call (h:PicG T B w v fs fc L)(hb:bl w w'):PicG T B w' v fs fc L:=h.same (λb _ hlt=>hb.block b hlt) hb.size
theorem PicG.fcap (h:PicG T B w v fs fc L):L.length<=fc/\fc<=maxLen:=by
  rcases h.fq.2 with⟨e,h1⟩|⟨g,cap,cur,e,hb,hg,k1,k2,_⟩
  · simp only[j0.injEq] at e
    exact⟨aa,by rw[e.2.2];exact z8 _⟩
  · simp only[j0.injEq] at e
    rw[e.2.2];exact⟨k1,k2⟩
theorem PicG.fform (h:PicG T B w v fs fc L)(h0:0 < L.length):∃b,fs=sO ⟨b,0,nO⟩/\B<=b/\b < w.heap.size/\∀k (hk:k < L.length),w.cell? ⟨b,k,nO⟩=sO (roV L[k]):=by
  rcases h.fq.2 with⟨e,h1⟩|⟨g,cap,cur,e,hb,hg,k1,k2,_⟩
  · omega
  · simp only[j0.injEq] at e
    obtain⟨e1,-,e3⟩:=e;subst e1 e3;refine⟨g,rfl,hb,(Array.getElem?_eq_some_iff.1 hg).1,λk hk=> ?_⟩;have:=x6.cellAt h.fq k aa;rw[this];simp[hk]
theorem PicG.at (h:PicG T B w v fs fc L)(n:Bool):PicAt w (aU n v L) v.rs fs:=by
  refine⟨(h.vq.gets h.sv).at,λi hi=> ?_⟩;have hil:i < L.length:=by simpa[aU] using hi
  obtain⟨b,e,hb,hz,hc⟩:=h.fform aa;have ei:(aU n v L).fq[i]=roG L[i]:=by simp[aU]
  rw[ei];have hm:=gM hil;have hcp:=(h.rows _ hm).caps;refine⟨b,0,e,hz,L[i].rs,L[i].rc,?_,by simpa[roG] using hcp.1,hcp.2,((h.rows _ hm).gets (h.sf _ hm)).at⟩;rw[z5,hc i hil];simp[roV,roG]
theorem PicG.on (h:PicG T B w v fs fc L)(n:Bool):PicOn (λb=>T b\/B<=b) w (aU n v L) v.rs fs:=λw2 hs hz=>(h.same hs hz).at n
theorem PicG.vcap (h:PicG T B w v fs fc L)(n:Bool):(aU n v L).vq.length<=v.rc/\v.rc<=maxLen:=by simpa[aU,roG] using h.vq.caps
theorem PicG.fcap' (h:PicG T B w v fs fc L)(n:Bool):(aU n v L).fq.length<=fc/\fc<=maxLen:=by simpa[aU] using h.fcap
theorem Ai {S:Nat->Prop}{x:Gc}{a:Addr}{u:Value}(h:bQ S w x)(hs:∀b,S b->b≠a.block):bQ S (w.setCell a u) x:=⟨h.1.same (λb hb _=>hSe _ _ _ _ (hs b hb)) bG,h.2⟩
theorem PicG.putV (h:PicG T B w v fs fc L){b:Nat}(hb:v.rs=sO ⟨b,0,nO⟩){k j:Nat}{u:Value}{x':Gc}(hk:k < v.l.length)(hj:j < 7)(hx:bp x'=(bp v.l[k]).set j u)(hg:bQ (λb=>T b/\Off v (j0 fs L.length fc).ownBlock L b) w x'):
    PicG T B (w.setCell ⟨b,k * 7+j,nO⟩ u) ⟨v.rs,v.rc,v.l.set k x'⟩ fs fc L:=by
  have eb:roB v=sO b:=mH;have eb':roB ⟨v.rs,v.rc,v.l.set k x'⟩=roB v:=mH;have eO:∀q,Off ⟨v.rs,v.rc,v.l.set k x'⟩ (j0 fs L.length fc).ownBlock L q=Off v (j0 fs L.length fc).ownBlock L q:=λq=>by unfold Off;rw[eb']
  have hd:=h.dv b eb;have hp:∀g,bQ (λb=>T b/\Off v (j0 fs L.length fc).ownBlock L b) w g->bQ (λb=>T b/\Off ⟨v.rs,v.rc,v.l.set k x'⟩ (j0 fs L.length fc).ownBlock L b) (w.setCell ⟨b,k * 7+j,nO⟩ u) g:=λg hg=>by
    simp only[eO];exact Ai hg λq hq e=>hq.2.1 u7
  refine⟨h.vq.put hb hk hj hx,dw h.fq λq hq=>hSe _ _ _ _ λe=>hd.1 (by rw[hq];exact congrArg sO e),λr hr=>(h.rows r hr).same λq hq=>hSe _ _ _ _ λe=>hd.2 r hr (by rw[hq];exact congrArg sO e),λg hgm=>hp g ?_,λr hr g hgm=>hp g (h.sf r hr g hgm),by rw[eb'];exact h.dv,h.df,h.dr⟩;rcases x7 hgm with hgm|rfl
  · exact h.sv g hgm
  · exact hg
theorem PicG.putF (h:PicG T B w v fs fc L){s:Nat}(hs:s < L.length){b:Nat}(hb:L[s].rs=sO ⟨b,0,nO⟩){k j:Nat}{u:Value}{x':Gc}(hk:k < L[s].l.length)(hj:j < 7)(hx:bp x'=(bp L[s].l[k]).set j u)(hg:bQ (λb=>T b/\Off v (j0 fs L.length fc).ownBlock L b) w x'):
    PicG T B (w.setCell ⟨b,k * 7+j,nO⟩ u) v fs fc (L.set s ⟨L[s].rs,L[s].rc,L[s].l.set k x'⟩):=by
  have hm:=gM hs;have eb:roB L[s]=sO b:=mH;have ebn:roB ⟨L[s].rs,L[s].rc,L[s].l.set k x'⟩=roB L[s]:=mH;have evn:roV ⟨L[s].rs,L[s].rc,L[s].l.set k x'⟩=roV L[s]:=by unfold roV;simp
  have eL:(L.set s ⟨L[s].rs,L[s].rc,L[s].l.set k x'⟩).map roB=L.map roB:=by
    rw[J9,ebn,<-Q0 (f:=roB) (h:=by simpa using hs),z9]
  have eV:(L.set s ⟨L[s].rs,L[s].rc,L[s].l.set k x'⟩).map roV=L.map roV:=by
    rw[J9,evn,<-Q0 (f:=roV) (h:=by simpa using hs),z9]
  have allB:∀{M:List Ro} {q:Nat},(∀r∈M,roB r≠sO q)↔∀o∈M.map roB,o≠sO q:=by
    intro M q;simp only[x2,forall_exists_index,and_imp,forall_apply_eq_imp_iff₂]
  have eO:∀q,Off v (j0 fs L.length fc).ownBlock (L.set s ⟨L[s].rs,L[s].rc,L[s].l.set k x'⟩) q↔Off v (j0 fs L.length fc).ownBlock L q:=λq=>by
    unfold Off;rw[allB,allB,eL]
  have hp:∀g,bQ (λb=>T b/\Off v (j0 fs L.length fc).ownBlock L b) w g->bQ (λb=>T b/\Off v (j0 fs (L.set s ⟨L[s].rs,L[s].rc,L[s].l.set k x'⟩).length fc).ownBlock (L.set s ⟨L[s].rs,L[s].rc,L[s].l.set k x'⟩) b) (w.setCell ⟨b,k * 7+j,nO⟩ u) g:=λg hg=>by
    rw[q0];simp only[eO];exact Ai hg λq hq e=>hq.2.2.2 _ hm u7
  have pwB:∀{M:List Ro},M.Pairwise (λr q=>∀b,roB r=sO b->roB q≠sO b)↔(M.map roB).Pairwise λo p=>∀b,o=sO b->p≠sO b:=by
    intro M;rw[Q1]
  refine⟨h.vq.same λq hq=>hSe _ _ _ _ λe=>(h.dv q hq).2 _ hm u7,?_,λr hr=> ?_,λg hgm=>hp g (h.sv g hgm),λr hr g hgm=>hp g ?_,λq hq=> ?_,λq hq=> ?_,?_⟩
  · rw[q0,eV]
    exact dw h.fq λq hq=>hSe _ _ _ _ λe=>h.df q hq _ hm u7
  · rw[Z5] at hr
    obtain⟨i,hi,rfl⟩:=hr;rw[q0] at hi;rw[Z6];split
    · exact(h.rows _ hm).put hb hk hj hx
    · rename_i hne
      refine(h.rows _ (gM hi)).same λq hq=>hSe _ _ _ _ λe=> ?_;simp only at e;subst e;have pw:=List.pairwise_iff_getElem.1 h.dr;rcases Nat.lt_or_gt_of_ne hne with hlt|hlt
      · exact pw s i hs hi hlt q eb hq
      · exact pw i s hi hs hlt q hq eb
  · rw[Z5] at hr
    obtain⟨i,hi,rfl⟩:=hr;rw[q0] at hi;rw[Z6] at hgm;split at hgm
    · rcases x7 hgm with hgm|rfl
      · exact h.sf _ hm g hgm
      · exact hg
    · exact h.sf _ (gM hi) g hgm
  · rw[q0,allB,eL,<-allB]
    exact h.dv q hq
  · rw[q0] at hq
    rw[allB,eL,<-allB];exact h.df q hq
  · rw[pwB,eL,<-pwB]
    exact h.dr
end
def VRow (S:Nat->Prop)(w:World)(B:Nat)(v:Value)(l:List Gc):Prop:=w.ownsRow B 91 7 v l.length (aR l)/\(∀b,v.ownBlock=sO b->S b)/\∀x∈l,bQ (λb=>S b/\v.ownBlock≠sO b) w x
section
variable {S S':Nat->Prop} {w w':World} {B:Nat} {v:Value} {l:List Gc}
theorem VRow.same (h:VRow S w B v l)(hs:∀b,S b->b < w.heap.size->w'.heap[b]? =w.heap[b]?)(hz:w.heap.size<=w'.heap.size):VRow S w' B v l:=⟨dw h.1 λb hb=>hs b (h.2.1 b hb) (aQ h.1 hb).1,h.2.1,λx hx=>⟨(h.2.2 x hx).1.same (λb hb hlt=>hs b hb.1 hlt) hz,(h.2.2 x hx).2⟩⟩
theorem VRow.mono (h:VRow S w B v l)(hs:∀b,S b->b < w.heap.size->S' b):VRow S' w B v l:=⟨h.1,λb hb=>hs b (h.2.1 b hb) (aQ h.1 hb).1,λx hx=>⟨(h.2.2 x hx).1.mono λb hb hlt=>⟨hs b hb.1 hlt,hb.2⟩,(h.2.2 x hx).2⟩⟩
theorem VRow.call (h:VRow S w B v l)(hb:bl w w'):VRow S w' B v l:=h.same (λb _ hlt=>hb.block b hlt) hb.size
theorem eC {e:TypeId}{z n:Nat}{xs:List Value}{C:Nat}(h:w.ownsRow C e z v n xs)(hB:B<=C):w.ownsRow B e z v n xs:=by
 refine⟨h.1,?_⟩;rcases h.2 with h2|⟨g,cap,cur,e1,hb,h3⟩
 ·exact .inl h2
 ·exact .inr ⟨g,cap,cur,e1,lT hB hb,h3⟩
theorem SRow.vrow (h:SRow w B v l):VRow (λb=>B<=b) w B v l:=⟨h.1,λb hb=>(aQ h.1 hb).2,λx hx=>h.2 x hx⟩
theorem VRow.lower (h:VRow S w B v l){C:Nat}(hB:C<=B):VRow S w C v l:=⟨eC h.1 hB,h.2⟩
end
structure FRowS (w:World) (B:Nat) (v:Value) (L:List Ro):Prop where
 own:w.ownsRow B 25 1 v L.length (L.map roV)
 rows:∀r∈L,RoOwn w B r
 sites:∀r∈L,∀g∈r.l,bQ (λb=>B<=b/\v.ownBlock≠sO b/\∀q∈L,roB q≠sO b) w g
 df:∀b,v.ownBlock=sO b->∀r∈L,roB r≠sO b
 dr:L.Pairwise λr q=>∀b,roB r=sO b->roB q≠sO b
section
variable {w w0 w':World} {B:Nat} {v v':Value} {L:List Ro}
theorem FRowS.nil (w:World)(B:Nat):FRowS w B (U nO 0 0) []:=⟨⟨rfl,.inl ⟨rfl,rfl⟩⟩,λr hr=>mG,λr hr=>mG,λb hb r hr=>mG,x8.nil⟩
theorem FRowS.olden (h:FRowS w B v L)(hs:∀b,B<=b->b < w.heap.size->w'.heap[b]? =w.heap[b]?)(hz:w.heap.size<=w'.heap.size):FRowS w' B v L:=
 ⟨dw h.own λb hb=>hs b (aQ h.own hb).2 (aQ h.own hb).1,λr hr=>(h.rows r hr).same λb hb=>hs b ((h.rows r hr).lt hb).2 ((h.rows r hr).lt hb).1,λr hr g hg=>⟨(h.sites r hr g hg).1.same (λb hb hlt=>hs b hb.1 hlt) hz,(h.sites r hr g hg).2⟩,h.df,h.dr⟩
theorem FRowS.call (h:FRowS w B v L)(hb:bl w w'):FRowS w' B v L:=h.olden (λb _ hlt=>hb.block b hlt) hb.size
theorem FRowS.grown (h0:FRowS w0 B v L)(hb:bl w0 w)(hB:B<=w0.heap.size){x:Ro}(hx:VRow (λb=>w0.heap.size<=b) w w0.heap.size (roV x) x.l)(hr:w'.ownsRow B 25 1 v' (L.length+1) (L.map roV++[roV x]))(hg:w.grownBy w' v.ownBlock)(hv:v'.ownBlock=v.ownBlock\/v'.ownBlock=sO w.heap.size):FRowS w' B v' (L++[x]):=by
 have h:=h0.call hb;have hsz:=hb.size;have hxo:RoOwn w w0.heap.size x:=hx.1;have vlt:∀b,v.ownBlock=sO b->b < w0.heap.size:=λb hb=>(aQ h0.own hb).1;have rlt:∀r∈L,∀b,roB r=sO b->b < w0.heap.size:=λr hr b hb=>((h0.rows r hr).lt hb).1;have xge:∀b,roB x=sO b->w0.heap.size<=b/\b < w.heap.size:=λb hb=>⟨(hxo.lt hb).2,(hxo.lt hb).1⟩;have keep:∀b,b < w.heap.size->v.ownBlock≠sO b->w'.heap[b]? =w.heap[b]? :=λb hb hne=>hg.block b hb λe=>hne e.symm;refine⟨by rw[Z7,List.map_append];exact hr,λr hr=> ?_,λr hr g hgm=> ?_,λb hb r hr=> ?_,?_⟩
 ·rcases j7.1 hr with hr|hr
  ·exact(h.rows r hr).same λb hb=>keep b ((h.rows r hr).lt hb).1 λe=>h.df b e r hr hb
  ·rw[j6.1 hr]
   exact RoOwn.same (eC hxo hB) λb hb=>keep b (xge b hb).2 λe=>by have:=vlt b e;have:=(xge b hb).1;omega
 ·rcases j7.1 hr with hr|hr
  ·have h1:bQ (λb=>(B<=b/\v.ownBlock≠sO b/\∀q∈L,roB q≠sO b)/\b < w0.heap.size) w g:=⟨((h0.sites r hr g hgm).1.mono λb hb hlt=>(⟨hb,hlt⟩:_/\b < w0.heap.size)).call hb,(h0.sites r hr g hgm).2⟩
   refine⟨(h1.1.same (λb hb hlt=>keep b hlt hb.1.2.1) hg.size).mono λb hb _=>⟨hb.1.1,?_,λq hq=> ?_⟩,h1.2⟩
   ·rcases hv with e|e
    ·rw[e];exact hb.1.2.1
    ·rw[e];intro e';cases e';have:=hb.2;omega
   ·rcases j7.1 hq with hq|hq
    ·exact hb.1.2.2 q hq
    ·rw[j6.1 hq]
     intro e;have:=(xge b e).1;have:=hb.2;omega
  ·rw[j6.1 hr] at hgm
   have h1:bQ (λb=>(w0.heap.size<=b/\roB x≠sO b)/\b < w.heap.size) w g:=⟨(hx.2.2 g hgm).1.mono λb hb hlt=>⟨hb,hlt⟩,(hx.2.2 g hgm).2⟩;refine⟨(h1.1.same (λb hb hlt=>keep b hlt λe=>by have:=vlt b e;have:=hb.1.1;omega) hg.size).mono λb hb _=>⟨lT hB hb.1.1,?_,λq hq=> ?_⟩,h1.2⟩
   ·rcases hv with e|e
    ·rw[e];intro e';have:=vlt b e';have:=hb.1.1;omega
    ·rw[e];intro e';cases e';have:=hb.2;omega
   ·rcases j7.1 hq with hq|hq
    ·intro e
     have:=rlt q hq b e;have:=hb.1.1;omega
    ·rw[j6.1 hq]
     exact hb.1.2
 ·rcases hv with e|e
  ·rw[e] at hb
   rcases j7.1 hr with hr|hr
   ·exact h0.df b hb r hr
   ·rw[j6.1 hr]
    intro e';have:=vlt b hb;have:=(xge b e').1;omega
  ·rw[e] at hb
   cases hb;rcases j7.1 hr with hr|hr
   ·intro e'
    have:=rlt r hr _ e';omega
   ·rw[j6.1 hr]
    intro e';have:=(xge _ e').2;omega
 ·rw[List.pairwise_append]
  refine⟨h0.dr,Z8 _ _,λr hr q hq b hb e=> ?_⟩;rw[j6.1 hq] at e;have:=rlt r hr b hb;have:=(xge b e).1;omega
theorem FRowS.form (h:FRowS w B v L):∃fs fc,v=U fs L.length fc:=by
 rcases h.own.2 with⟨e,h0⟩|⟨g,cap,cur,e,_⟩
 ·exact⟨nO,0,by rw[e,h0]⟩
 ·exact⟨sO ⟨g,0,nO⟩,cap,e⟩
theorem FRowS.pic {S:Nat->Prop}{C:Nat}{vs fs:oA}{vc fc:Nat}{l:List Gc}(h:FRowS w B (U fs L.length fc) L)(hv:VRow S w C (U vs l.length vc) l)(hS:∀b,S b->C<=b/\b < B)(hC:C<=B):PicG (λb=>C<=b) C w ⟨vs,vc,l⟩ fs fc L:=by
 have vlt:∀b,roB ⟨vs,vc,l⟩=sO b->b < B:=λb hb=>(hS b (hv.2.1 b hb)).2;have fge:∀b,(j0 fs L.length fc).ownBlock=sO b->B<=b:=λb hb=>(aQ h.own hb).2;have rge:∀r∈L,∀b,roB r=sO b->B<=b:=λr hr b hb=>((h.rows r hr).lt hb).2;refine⟨hv.1,eC h.own hC,λr hr=>eC (h.rows r hr) hC,λg hg=>⟨(hv.2.2 g hg).1.mono λb hb _=>⟨(hS b hb.1).1,hb.2,λe=> ?_,λr hr e=> ?_⟩,(hv.2.2 g hg).2⟩,λr hr g hg=>⟨(h.sites r hr g hg).1.mono λb hb _=>⟨lT hC hb.1,λe=> ?_,hb.2.1,hb.2.2⟩,(h.sites r hr g hg).2⟩,λb hb=>⟨λe=> ?_,λr hr e=> ?_⟩,h.df,h.dr⟩
 ·have:=fge b e;have:=(hS b hb.1).2;omega
 ·have:=rge r hr b e;have:=(hS b hb.1).2;omega
 ·have:=vlt b e;have:=hb.1;omega
 ·have:=fge b e;have:=vlt b hb;omega
 ·have:=rge r hr b e;have:=vlt b hb;omega
end
theorem PicG.down {T:Nat->Prop}{B C:Nat}{w:World}{v:Ro}{fs:oA}{fc:Nat}{L:List Ro}(h:PicG T B w v fs fc L)(hC:C<=B):PicG T C w v fs fc L:=⟨eC h.vq hC,eC h.fq hC,λr hr=>eC (h.rows r hr) hC,h.sv,h.sf,h.dv,h.df,h.dr⟩
def PicS (B:Nat)(w':World)(e:Ending)(x:Pic)(er:Int):Prop:=∃v fs fc L,x=aU x.none v L/\e=Rt (Tu #[Ag #[Bb x.none,U v.rs v.l.length v.rc,U fs L.length fc],I Y er])/\PicG (λb=>B<=b) B w' v fs fc L
def Oy (w w':World)(e:Ending)(l:List Gs):Prop:=∃rs rc gl,e=Rt (U rs gl.length rc)/\Hid (gl.map Gc.g=l)/\SRow w' w.heap.size (U rs gl.length rc) gl
theorem Ex (B:Nat)(w:World):PicG (λb=>B<=b) B w ⟨nO,0,[]⟩ nO 0 []:=⟨⟨rfl,.inl ⟨rfl,rfl⟩⟩,⟨rfl,.inl ⟨rfl,rfl⟩⟩,λr hr=>mG,λg hg=>by simp at hg,λr hr=>mG,λb hb=>by simp[roB,roV,Value.ownBlock] at hb,λb hb r hr=>mG,x8.nil⟩
end
section
def Nq:Ins:=⟨0,0,0,0,0,0⟩
def bL (c:lI)(p:Int):Ins:=c.getD p.toNat Nq
section
variable {V F L:Int} {i:Ins}
theorem cl (h:bm V F L i=0):btw i.k 1 19=true/\(nTo i.k=true->0<=i.tgt/\i.tgt < V)/\(nA i.k=true->0<=i.a/\i.a < V)/\(nB i.k=true->0<=i.b/\i.b < V)/\(i.k=12\/i.k=13->0<=i.n/\i.n < F)/\(nG i.k=true->0<=i.g/\i.g<=L)/\(i.k=1-> -2147483648<=i.n/\i.n<=2147483647)/\(i.k=2->i.n=0\/i.n=1)/\(i.k=14->0<=i.n/\i.n<=1000000):=by
 unfold bm at h;split at h
 ·cases h
 rename_i h1;split at h
 ·cases h
 rename_i h2;split at h
 ·cases h
 rename_i h3;simp only[x9,j8,x0,not_or,not_and,Q2,decide_eq_true_eq,btw] at h2 h3;obtain⟨⟨⟨⟨a1,a2⟩,a3⟩,a4⟩,a5⟩:=h2;obtain⟨⟨b1,b2⟩,b3⟩:=h3;refine⟨by simpa using h1,λh=> ?_,λh=> ?_,λh=> ?_,λh=> ?_,λh=> ?_,λh=> ?_,λh=> ?_,λh=> ?_⟩
 ·have:=a1 h;omega
 ·have:=a2 h;omega
 ·have:=a3 h;omega
 ·have:=a4 h;omega
 ·have:=a5 h;omega
 ·have:=b1 h;omega
 ·have:=b2 h;omega
 ·have:=b3 h;omega
end

theorem Sm {V F L:Int}{c:lI}(h:fW V F L c=0):∀i∈c,bm V F L i=0:=by
 induction c with
 |nil=>intro i hi;cases hi
 |cons x r ih=>
  unfold fW at h;split at h
  ·rename_i hx
   intro i hi;rcases j5.1 hi with rfl|hi
   ·exact hx
   ·exact ih h i hi
  ·rename_i hx;exact absurd h hx
structure ProgOk (V F:Int) (c:lI):Prop where
 v1:1<=V
 v8:V<=8
 f0:0<=F
 f3:F<=3
 len:c.length<=60
 each:∀i∈c,bm V F c.length i=0
theorem dB {V F:Int}{c:lI}(h:au V F c=0):ProgOk V F c:=by
 unfold au at h;split at h
 ·cases h
 rename_i h1;split at h
 ·cases h
 rename_i h2;simp[btw] at h1;exact⟨aa,aa,aa,aa,aa,Sm h⟩

theorem Tj {c:lI}{p:Nat}(h:p < c.length):bL c (p:Int)=c[p]:=by
 unfold bL;simp[j3,z4 h]
theorem tA {c:lI}{p:Int}(h0:0<=p)(h:p < c.length):bL c p∈c:=by
 obtain⟨k,rfl⟩:=Int.eq_ofNat_of_zero_le h0;rw[Tj aa];exact gM _

theorem Dd {α:Type}{l:List α}{i:Nat}{v x:α}(h:x∈l.set i v):x=v\/x∈l:=(x7 h).symm
theorem vC {α β:Type}{f:α->β->Bool}{a:List α}{b:List β}:(Q3 f a b).all id=true↔∀i (h1:i < a.length) (h2:i < b.length),f a[i] b[i]=true:=by
 induction a generalizing b with
 |nil=>simp
 |cons x a ih=>
  cases b with
  |nil=>simp
  |cons y b=>
   rw[List.zipWith_cons_cons,Z9,j8,ih];constructor
   ·rintro ⟨h,h'⟩ i h1 h2
    cases i with
    |zero=>exact h
    |succ i=>exact h' i gS lE
   ·intro h
    exact⟨h 0 ag ag,λi h1 h2=>h (i+1) gS lE⟩

theorem mem_siteSet {a b:List Int}{x:Int}:x∈iu a b↔(0<=x/\x < 60)/\(x∈a\/x∈b):=by
 unfold iu;simp only[List.mem_filter,x2,X0,x9,X1];constructor
 ·rintro ⟨⟨n,hn,rfl⟩,h⟩
  exact⟨by omega,h⟩
 ·rintro ⟨⟨h0,h1⟩,h⟩
  exact⟨⟨x.toNat,aa,aa⟩,h⟩
theorem un (a b:List Int):(iu a b).Pairwise (· < ·):=by
 unfold iu;refine x8.filter _ ?_;rw[Q1];exact X2.imp (by intro a b h;omega)
theorem oP:∀{l:List Int},l.Pairwise (· < ·)->dg l=true
 |[],_=>rfl
 |[_],_=>rfl
 |a::b::r,h=>by
  unfold dg;rw[x3] at h;simp[h.1 b ag,oP h.2]
theorem ckGs_iff {c:lI}{g:Gs}:aE c g=0↔g.sp.Ok/\(∀x∈g.s,b9 c x=true)/\dg g.s=true:=by
 unfold aE;by_cases h1:cD g.sp=0
 ·rw[if_neg gS]
  by_cases h2:g.s.all (b9 c)=false
  ·rw[if_pos h2]
   refine⟨(λh=>aT),λh=> ?_⟩;rw[Q4.2 h.2.1] at h2;cases h2
  ·rw[if_neg h2]
   have h2':∀x∈g.s,b9 c x=true:=lE;by_cases h3:dg g.s=false
   ·rw[if_pos h3]
    exact⟨λh=>aT,λh=>(by rw[h.2.2] at h3;cases h3)⟩
   ·rw[if_neg h3]
    exact⟨λ_=>⟨ckSp_ok.1 h1,h2',by simpa using h3⟩,λ_=>rfl⟩
 ·rw[if_pos h1]
  exact⟨λh=>absurd h h1,λh=>absurd (ckSp_ok.2 h.1) h1⟩
theorem dH {c:lI}{x:Int}(h:b9 c x=true):0<=x/\x < c.length:=by
 unfold b9 at h;simp only[j8,decide_eq_true_eq] at h;omega

theorem MO {s:Sp}{a:Int}:s.has a=true↔s.n=false/\s.lo<=a/\a<=s.hi:=by
 unfold Sp.has;simp only[j8,x0,decide_eq_true_eq]
theorem eR {s t:Sp}(h:s.lo<=s.hi):fH s t=true↔s.n=true\/(t.n=false/\t.lo<=s.lo/\s.hi<=t.hi):=by
 unfold fH;rw[x9,j8,MO,MO];constructor
 ·rintro (h|⟨⟨h1,h2,h3⟩,_,h4,h5⟩)
  ·exact .inl h
  ·exact .inr ⟨h1,h2,h5⟩
 ·rintro (h|⟨h1,h2,h3⟩)
  ·exact .inl h
  ·exact .inr ⟨⟨h1,aa,aa⟩,h1,aa,aa⟩
theorem Vk {s t:Sp}(hs:s.Ok)(ht:t.Ok):fH s (bi s t)=true/\fH t (bi s t)=true:=by
 obtain⟨_,_,_,h1⟩:=hs;obtain⟨_,_,_,h2⟩:=ht;rw[eR h1,eR h2];unfold bi;cases hn:s.n with
 |true=>
  simp only[if_true];cases ht':t.n with
  |true=>simp
  |false=>simp
 |false=>
  simp only[j2,if_false];cases ht':t.n with
  |true=>simp[hn]
  |false=>simp;omega
theorem V3 {s t:Sp}(hs:s.Ok)(ht:t.Ok):fH s (bo s t)=true/\fH t (bo s t)=true:=by
 obtain⟨⟨s1,s2⟩,⟨s3,s4⟩,_,h1⟩:=hs;obtain⟨⟨t1,t2⟩,⟨t3,t4⟩,_,h2⟩:=ht;rw[eR h1,eR h2];unfold bo;cases hn:s.n with
 |true=>
  simp only[if_true];cases ht':t.n with
  |true=>simp
  |false=>simp
 |false=>
  simp only[j2,if_false];cases ht':t.n with
  |true=>simp[hn]
  |false=>
   simp only[j2,if_false,false_or,true_and]
   (repeat' split)<;>omega
section
variable {c:lI} {g h:Gs} {w:Bool}
theorem tE (w:Bool)(g h:Gs):(aj w g h).sp=if w then bo g.sp h.sp else bi g.sp h.sp:=rfl
theorem nH (hg:aE c g=0)(hh:aE c h=0):aE c (aj w g h)=0:=by
 rw[ckGs_iff] at hg hh |-;refine⟨?_,λx hx=> ?_,oP (un _ _)⟩
 ·rw[tE]
  cases w
  ·exact UX hg.1 hh.1
  ·exact UL hg.1 hh.1
 ·rcases (mem_siteSet.1 hx).2 with h|h
  ·exact hg.2.1 x h
  ·exact hh.2.1 x h
theorem inGs_iff {g h:Gs}:dp g h=true↔(g.n=true->h.n=true)/\(g.t=true->h.t=true)/\(g.f=true->h.f=true)/\fH g.sp h.sp=true/\∀x∈g.s,x∈h.s:=by
 unfold dp;simp only[j8,x0,Bool.and_eq_false_imp,Bool.not_eq_false',Q4,X1]
theorem uw (h60:c.length<=60)(hg:aE c g=0)(hh:aE c h=0):dp g (aj w g h)=true/\dp h (aj w g h)=true:=by
 rw[ckGs_iff] at hg hh;have hs:fH g.sp (aj w g h).sp=true/\fH h.sp (aj w g h).sp=true:=by
  rw[tE];cases w
  ·exact Vk hg.1 hh.1
  ·exact V3 hg.1 hh.1
 have hm:∀x,x∈g.s\/x∈h.s->x∈(aj w g h).s:=λx hx=>mem_siteSet.2 ⟨by
  rcases hx with hx|hx
  ·have:=dH (hg.2.1 x hx);omega
  ·have:=dH (hh.2.1 x hx);omega,hx⟩
 rw[inGs_iff,inGs_iff];refine⟨⟨λe=> ?_,λe=> ?_,λe=> ?_,hs.1,λx hx=>hm x (.inl hx)⟩,⟨λe=> ?_,λe=> ?_,λe=> ?_,hs.2,λx hx=>hm x (.inr hx)⟩⟩<;>simp[aj,e]
end

theorem oe {c:lI}{p:Gs->Bool}:∀{l:List (List Gs)} {i:Nat},dQ c p i l=false↔∀k (h:k < l.length),b9 c ((i+k:Nat):Int)=true\/∀g∈l[k],p g=false
 |[],i=>by simp[dQ]
 |r::l,i=>by
  unfold dQ;rw[Bool.or_eq_false_iff,oe (l:=l)];constructor
  ·rintro ⟨h,h'⟩ k hk
   cases k with
   |zero=>
    rw[Bool.and_eq_false_iff] at h;rcases h with h|h
    ·exact .inl cq
    ·exact .inr cq
   |succ k=>
    have:=h' k it;rwa [show i+1+k=i+(k+1) by omega] at this
  ·intro h
   refine⟨?_,λk hk=> ?_⟩
   ·rw[Bool.and_eq_false_iff]
    rcases h 0 ag with h|h
    ·exact .inl cq
    ·exact .inr cq
   ·have:=h (k+1) it
    rwa [show i+(k+1)=i+1+k by omega] at this
theorem tR {c:lI}:∀{l:List Gs},b8 c l=0↔∀g∈l,aE c g=0
 |[]=>by simp[b8]
 |g::l=>by
  unfold b8;by_cases h:aE c g=0
  ·rw[if_pos h,tR]
   simp[h]
  ·rw[if_neg h]
   exact⟨λe=>absurd e h,λe=>e g ag⟩
structure PicOk (V F:Int) (c:lI) (x:Pic):Prop where
 none:x.none=false
 vq:(x.vq.length:Int)=V
 fq:x.fq.length=c.length
 row:∀k (h:k < x.fq.length),(x.fq[k].length:Int)=F
 gv:∀g∈x.vq,aE c g=0
 gf:∀k (h:k < x.fq.length),∀g∈x.fq[k],aE c g=0
 stray:∀k (h:k < x.fq.length),b9 c (k:Int)=true\/∀g∈x.fq[k],an g=true
theorem mA {V F:Int}{c:lI}{x:Pic}(hn:x.none=true):aM V F c x=0↔x=nonePic:=by
 obtain⟨n,vq,fq⟩:=x;simp only at hn;subst hn;unfold aM bJ nonePic;simp only[if_true,Pic.mk.injEq,true_and];constructor
 ·intro h
  split at h
  ·cases h
  ·rename_i h1
   simpa using h1
 ·rintro ⟨rfl,rfl⟩
  rfl
theorem El {V F:Int}{c:lI}{x:Pic}(hn:x.none=false):aM V F c x=0↔PicOk V F c x:=by
 obtain⟨n,vq,fq⟩:=x;simp only at hn;subst hn;unfold aM bJ bO;simp only[j2,if_false];constructor
 ·intro h
  split at h
  ·cases h
  rename_i h1;split at h
  ·rename_i h2;exact absurd h h2
  rename_i h2;split at h
  ·cases h
  rename_i h3;simp only[Q2,j8,decide_eq_true_eq,x0,X4,decide_eq_false_iff_not,Decidable.not_not] at h1;simp only[ne_eq,Decidable.not_not] at h2;rw[tR] at h2;rw[Bool.not_eq_true,oe] at h3;refine⟨rfl,h1.1,h1.2.1,λk h=> ?_,λg hg=>h2 g (by simp[hg]),λk h g hg=>h2 g ?_,λk h=> ?_⟩
  ·have:=h1.2.2 _ (gM h)
   simpa using this
  ·rw[j7,X5]
   exact .inr ⟨_,gM h,hg⟩
  ·rcases h3 k h with h3|h3
   ·exact .inl (by simpa using h3)
   ·exact .inr λg hg=>by simpa using h3 g hg
 ·rintro ⟨-,h1,h2,h3,h4,h5,h6⟩
  simp only at h1 h2 h3 h4 h5 h6;rw[if_neg,if_neg,if_neg]
  ·rw[Bool.not_eq_true,oe]
   intro k h;rcases h6 k h with h6|h6
   ·exact .inl (by simpa using h6)
   ·exact .inr λg hg=>by simpa using h6 g hg
  ·rw[ne_eq,Decidable.not_not,tR]
   intro g hg;rw[j7,X5] at hg;rcases hg with hg|⟨r,hr,hg⟩
   ·exact h4 g hg
   ·obtain⟨k,hk,rfl⟩:=J0 hr
    exact h5 k hk g hg
  ·simp only[Q2,j8,decide_eq_true_eq,x0,X4]
   refine⟨h1,h2,λr hr=> ?_⟩;obtain⟨k,hk,rfl⟩:=J0 hr;simpa using h3 k hk
section
variable {V F:Int} {c:lI} {x y:Pic} {w:Bool}
theorem cy (h:aM V F c x=0)(hn:x.none=false):PicOk V F c x:=(El hn).1 h
theorem PicOk.ck (h:PicOk V F c x):aM V F c x=0:=(El h.none).2 h
theorem LY {g:Gs}:an g=true↔g.sp.n=true/\g.n=false/\g.t=false/\g.f=false/\g.s=[]:=by
 unfold an aO;simp only[j8,x0,Bool.or_eq_false_iff,decide_eq_false_iff_not,x4,Nat.le_zero,X6]
theorem Gf {g h:Gs}(hg:an g=true)(hh:an h=true):an (aj w g h)=true:=by
 rw[LY] at hg hh |-;obtain⟨a1,a2,a3,a4,a5⟩:=hg;obtain⟨b1,b2,b3,b4,b5⟩:=hh;refine⟨?_,by simp[aj,a2,b2],by simp[aj,a3,b3],by simp[aj,a4,b4],by simp[aj,iu,a5,b5]⟩;rw[tE];cases w<;>simp[bi,bo,a1,b1]
theorem n7 {j:Gs->Gs->Gs}{a b:List Gs}:(aP j a b).length=min a.length b.length:=j4
theorem om {j:Gs->Gs->Gs}{a b:List Gs}{g:Gs}(h:g∈aP j a b):∃i,∃(h1:i < a.length) (h2:i < b.length),g=j a[i] b[i]:=by
 obtain⟨i,hi,rfl⟩:=J0 h;have hi':=hi;rw[n7] at hi';exact⟨i,aa,aa,by simp[aP]⟩
theorem PicOk.join (hx:PicOk V F c x)(hy:PicOk V F c y):PicOk V F c (aH (aj w) x y):=by
 have e:aH (aj w) x y=⟨false,aP (aj w) x.vq y.vq,Q3 (aP (aj w)) x.fq y.fq⟩:=by
  unfold aH;rw[if_neg (by rw[hx.none];decide),if_neg (by rw[hy.none];decide)]
 rw[e];have l1:=hx.vq;have l2:=hy.vq;have l3:=hx.fq;have l4:=hy.fq;refine⟨rfl,?_,?_,λk h=> ?_,λg hg=> ?_,λk h g hg=> ?_,λk h=> ?_⟩
 ·simp only[n7];omega
 ·simp only[j4];omega
 ·simp only[j4] at h
  have:=hx.row k aa;have:=hy.row k aa;simp only[j9,n7];omega
 ·obtain⟨i,h1,h2,rfl⟩:=om hg
  exact nH (hx.gv _ (gM _)) (hy.gv _ (gM _))
 ·simp only[j4] at h
  simp only[j9] at hg;obtain⟨i,h1,h2,rfl⟩:=om hg;exact nH (hx.gf k aa _ (gM _)) (hy.gf k aa _ (gM _))
 ·simp only[j4] at h
  rcases hx.stray k aa with a|a
  ·exact .inl a
  rcases hy.stray k aa with b|b
  ·exact .inl b
  right;intro g hg;simp only[j9] at hg;obtain⟨i,h1,h2,rfl⟩:=om hg;exact Gf (a _ (gM _)) (b _ (gM _))
theorem Bt (hx:aM V F c x=0)(hy:aM V F c y=0):aM V F c (aH (aj w) x y)=0:=by
 cases hn:x.none with
 |true=>unfold aH;rw[if_pos hn];exact hy
 |false=>
  cases hm:y.none with
  |true=>unfold aH;rw[if_neg uD,if_pos hm];exact hx
  |false=>exact((cy hx hn).join (cy hy hm)).ck
theorem Ek {a b:List Gs}:go a b=true↔∀i (h1:i < a.length) (h2:i < b.length),dp a[i] b[i]=true:=vC
theorem fU (hn:x.none=false)(hm:y.none=false):bI x y=true↔(∀i (h1:i < x.vq.length) (h2:i < y.vq.length),dp x.vq[i] y.vq[i]=true)/\∀k (h1:k < x.fq.length) (h2:k < y.fq.length) i (h3:i < x.fq[k].length) (h4:i < y.fq[k].length),dp x.fq[k][i] y.fq[k][i]=true:=by
 unfold bI;rw[hn,hm];simp only[Bool.false_or,Bool.not_false,Bool.true_and,j8];rw[Ek,vC];simp only[Ek]
theorem oR {g:Gs}(h:aE c g=0):g.sp.lo<=g.sp.hi:=(ckGs_iff.1 h).1.2.2.2
theorem Td {L:List (List Gs)}{k:Nat}(h:k < L.length):L.getD k []=L[k]:=by simp[j3,z4 h]
theorem RC {L:List (List Gs)}{k:Nat}(h:¬k < L.length):L.getD k []=[]:=by simp[j3,x5 (x4.1 h)]
theorem pS (h60:c.length<=60)(hx:aM V F c x=0)(hy:aM V F c y=0):bI x (aH (aj w) x y)=true/\bI y (aH (aj w) x y)=true:=by
 have self:∀{z:Pic},aM V F c z=0->bI z z=true:=by
  intro z hz;cases hn:z.none with
  |true=>simp[bI,hn]
  |false=>
   have kz:=cy hz hn;rw[fU hn hn];have sg:∀{g:Gs},aE c g=0->dp g g=true:=λhg=>inGs_iff.2 ⟨id,id,id,by
    rw[eR (oR hg)];rename_i g;cases e:g.sp.n with
    |true=>exact .inl rfl
    |false=>exact .inr ⟨rfl,aa,aa⟩,λ_ h=>h⟩
   exact⟨λi h1 _=>sg (kz.gv _ (gM _)),λk h1 _ i h3 _=>sg (kz.gf k h1 _ (gM _))⟩
 cases hn:x.none with
 |true=>
  have e:aH (aj w) x y=y:=by unfold aH;rw[if_pos hn]
  rw[e];exact⟨by simp[bI,hn],self hy⟩
 |false=>
  cases hm:y.none with
  |true=>
   have e:aH (aj w) x y=x:=by unfold aH;rw[if_neg (by rw[hn];decide),if_pos hm]
   rw[e];exact⟨self hx,by simp[bI,hm]⟩
  |false=>
   have kx:=cy hx hn;have ky:=cy hy hm;have e:aH (aj w) x y=⟨false,aP (aj w) x.vq y.vq,Q3 (aP (aj w)) x.fq y.fq⟩:=by
    unfold aH;rw[if_neg uD,if_neg (by rw[hm];decide)]
   rw[e,fU hn rfl,fU hm rfl];refine⟨⟨λi h1 h2=> ?_,λk h1 h2 i h3 h4=> ?_⟩,⟨λi h1 h2=> ?_,λk h1 h2 i h3 h4=> ?_⟩⟩
   ·simp only[aP,j4] at h2
    simp only[aP,j9];exact(uw h60 (kx.gv _ (gM _)) (ky.gv _ (gM _))).1
   ·simp only[j4] at h2
    simp only[aP,j9,j4] at h4;simp only[aP,j9];exact(uw h60 (kx.gf k h1 _ (gM _)) (ky.gf k aa _ (gM _))).1
   ·simp only[aP,j4] at h2
    simp only[aP,j9];exact(uw h60 (kx.gv _ (gM _)) (ky.gv _ (gM _))).2
   ·simp only[j4] at h2
    simp only[aP,j9,j4] at h4;simp only[aP,j9];exact(uw h60 (kx.gf k aa _ (gM _)) (ky.gf k h1 _ (gM _))).2
end
structure Edg where
 tgt:Int
 pic:Pic
def gAt (x:Pic)(i:Int):Gs:=x.vq.getD i.toNat noneG
def aX (x:Pic)(i:Int)(g:Gs):Pic:={x with vq:=x.vq.set i.toNat g}
def fAt (x:Pic)(s n:Int):Gs:=(x.fq.getD s.toNat []).getD n.toNat noneG
def tX (x:Pic)(s n:Int)(g:Gs):Pic:={x with fq:=x.fq.modify s.toNat λr=>r.set n.toNat g}
def bY (s:Sp):Sp:=if s.n then⟨true,0,0⟩ else if (if s.hi=0 then -1 else s.hi) < (if s.lo=0 then 1 else s.lo) then⟨true,0,0⟩ else⟨false,if s.lo=0 then 1 else s.lo,if s.hi=0 then -1 else s.hi⟩
def bu (g:Gs):Gs:=⟨false,bY g.sp,g.t,false,g.s⟩
def bZ (g:Gs):Gs:=⟨g.n,if g.sp.has 0 then⟨false,0,0⟩ else⟨true,0,0⟩,false,g.f,[]⟩
def bM (g:Gs):Bool:=g.n||(!g.sp.n||(g.t||g.f))
def fa (x:Pic)(n:Int)(l:List Int):Gs:=l.foldl (λg s=>aj false g (fAt x s n)) noneG
def dn (x:Pic)(n:Int)(b:Gs)(l:List Int):Pic:=l.foldl (λy s=>tX y s n (aj false (fAt y s n) b)) x
def aY (i:Ins)(at_:Int)(x:Pic):Gs×Bool:=
 if i.k=1 then(⟨false,⟨false,i.n,i.n⟩,false,false,[]⟩,false)
 else if i.k=2 then(⟨false,⟨true,0,0⟩,decide (i.n=1),decide (i.n=0),[]⟩,false)
 else if i.k=3 then(dk,false)
 else if i.k=11 then(⟨false,⟨true,0,0⟩,false,false,[at_]⟩,false)
 else if i.k=12 then(fa x i.n (gAt x i.a).s,bM (gAt x i.a))
 else if i.k=14 then(⟨false,⟨false,-i.n,i.n⟩,false,false,[]⟩,false)
 else cI i.k (gAt x i.a) (gAt x i.b)
def gO (at_:Int)(x:Pic):Pic:={x with fq:=x.fq.modify at_.toNat λr=>r.map λg=>{g with n:=true}}
def aA (i:Ins)(at_:Int)(x:Pic):List Edg×Bool×Bool:=
 if x.none then([],false,false)
 else if i.k=19 then([],false,false)
 else if i.k=18 then([⟨at_+1,x⟩],false,false)
 else if i.k=16 then([⟨i.g,x⟩],false,false)
 else if i.k=15 then((if cd (gAt x i.a) then [⟨i.g,aX x i.a (bu (gAt x i.a))⟩] else [])++(if cR (gAt x i.a) then [⟨at_+1,aX x i.a (bZ (gAt x i.a))⟩] else []),false,false)
 else if i.k=17 then((if cd (gAt x i.a) then [⟨at_+1,aX x i.a (bu (gAt x i.a))⟩] else []),false,cR (gAt x i.a))
 else if i.k=13 then(if (gAt x i.a).s.length=0 then([],bM (gAt x i.a),false) else([⟨at_+1,dn x i.n (gAt x i.b) (gAt x i.a).s⟩],bM (gAt x i.a),false))
 else if an (aY i at_ x).1 then([],(aY i at_ x).2,false)
 else([⟨at_+1,aX (if i.k=11 then gO at_ x else x) i.tgt (aY i at_ x).1⟩],(aY i at_ x).2,false)

section
variable {V F:Int} {c:lI} {x:Pic} {g b:Gs}
theorem iL (hx:PicOk V F c x)(i:Int):aE c (gAt x i)=0:=by
 unfold gAt;by_cases h:i.toNat < x.vq.length
 ·simp only[j3,z4 h,Q5]
  exact hx.gv _ (gM h)
 ·simp only[j3,x5 (x4.1 h),Q6]
  rfl
theorem CO (hx:PicOk V F c x)(s n:Int):aE c (fAt x s n)=0:=by
 unfold fAt;by_cases h:s.toNat < x.fq.length
 ·rw[Td h]
  by_cases h2:n.toNat < x.fq[s.toNat].length
  ·simp only[j3,z4 h2,Q5]
   exact hx.gf _ h _ (gM h2)
  ·simp only[j3,x5 (x4.1 h2),Q6]
   rfl
 ·rw[RC h]
  rfl
theorem PicOk.setVar (hx:PicOk V F c x)(i:Int)(hg:aE c g=0):PicOk V F c (aX x i g):=by
 refine⟨hx.none,by simpa[Go.Proofs.YtmapdpcfanecdabGreatDoor.aX] using hx.vq,hx.fq,hx.row,λh hh=> ?_,hx.gf,hx.stray⟩;rcases Dd hh with rfl|hh
 ·exact hg
 ·exact hx.gv h hh
theorem iF {L:List (List Gs)}{s k:Nat}{f:List Gs->List Gs}(h:k < (L.modify s f).length):(L.modify s f)[k]=if s=k then f (L[k]'(by simpa using h)) else L[k]'(by simpa using h):=by
 rw[List.getElem_modify]
theorem PicOk.setFld (hx:PicOk V F c x)(s n:Int)(h0:0<=s)(hs:b9 c s=true)(hg:aE c g=0):PicOk V F c (tX x s n g):=by
 refine⟨hx.none,hx.vq,by simpa[Go.Proofs.YtmapdpcfanecdabGreatDoor.tX] using hx.fq,λk h=> ?_,hx.gv,λk h q hq=> ?_,λk h=> ?_⟩
 ·have h':=yE
  show (((x.fq.modify s.toNat λr=>r.set n.toNat g)[k]'(by simpa using h')).length:Int)=F;rw[iF];split
  ·rw[q0];exact hx.row k h'
  ·exact hx.row k h'
 ·have h':=yE
  have hq':=Ik;rw[iF] at hq';split at hq'
  ·rcases Dd hq' with rfl|hq'
   ·exact hg
   ·exact hx.gf k h' q hq'
  ·exact hx.gf k h' q hq'
 ·have h':=yE
  by_cases e:s.toNat=k
  ·left
   rw[<-e,Int.toNat_of_nonneg h0];exact hs
  ·rcases hx.stray k h' with a|a
   ·exact .inl a
   ·right
    intro q hq;have hq':=Ik;rw[iF,if_neg e] at hq';exact a q hq'
theorem yU (hx:PicOk V F c x)(n:Int)(l:List Int):aE c (fa x n l)=0:=by
 unfold fa;have:∀(l:List Int) (g:Gs),aE c g=0->aE c (l.foldl (λg s=>aj false g (fAt x s n)) g)=0:=by
  intro l;induction l with
  |nil=>exact λg h=>h
  |cons s l ih=>exact λg h=>ih _ (nH h (CO hx s n))
 exact this l _ rfl
theorem tK (hx:PicOk V F c x)(n:Int)(hb:aE c b=0):∀(l:List Int),(∀s∈l,b9 c s=true)->PicOk V F c (dn x n b l):=by
 intro l;unfold dn;induction l generalizing x with
 |nil=>exact λ_=>hx
 |cons s l ih=>
  intro h;have hs:=h s ag;exact ih (hx.setFld s n (dH hs).1 hs (nH (CO hx s n) hb)) λt ht=>h t (by simp[ht])
theorem gR:(⟨true,0,0⟩:Sp).Ok:=⟨by unfold bk;simp only;omega,by unfold bk;simp only;omega,λ_=>⟨rfl,rfl⟩,Int.le_refl _⟩
theorem la {lo hi:Int}(h1: -2147483648<=lo)(h2:hi<=2147483647)(h:lo<=hi):(⟨false,lo,hi⟩:Sp).Ok:=⟨⟨h1,aw⟩,⟨aw,h2⟩,(λh=>aT),h⟩
theorem Rb {s:Sp}(h:s.Ok):(bY s).Ok:=by
 obtain⟨⟨a1,a2⟩,⟨a3,a4⟩,a5,a6⟩:=h;unfold bY;split
 ·exact gR
 generalize e1:(if s.hi=0 then(-1:Int) else s.hi)=hi;generalize e2:(if s.lo=0 then(1:Int) else s.lo)=lo;split
 ·exact gR
 ·have:hi<=2147483647:=by rw[<-e1];split<;>omega
  have: -2147483648<=lo:=by rw[<-e2];split<;>omega
  exact la aa aa aa
theorem Es (h:aE c g=0):aE c (bu g)=0:=by
 rw[ckGs_iff] at h |-;exact⟨Rb h.1,h.2⟩
theorem Ol (h:aE c g=0):aE c (bZ g)=0:=by
 rw[ckGs_iff] at h |-;refine⟨?_,λx hx=>by simp[bZ] at hx,rfl⟩;show (if g.sp.has 0=true then _ else _:Sp).Ok;split
 ·exact la aa aa aa
 ·exact gR
theorem fT {n t f:Bool}{sp:Sp}(h:sp.Ok):aE c ⟨n,sp,t,f,[]⟩=0:=by
 rw[ckGs_iff];exact⟨h,λx hx=>by simp at hx,rfl⟩
theorem U9 {k:Int}{h:Gs}(hg:aE c g=0)(hh:aE c h=0):aE c (cI k g h).1=0:=by
 unfold cI;split
 ·exact hg
 split
 ·exact fT gR
 split
 ·rfl
 split
 ·exact fT gR
 split
 ·exact fT gR
 ·exact fT (WG (ckGs_iff.1 hg).1 (ckGs_iff.1 hh).1)
theorem PicOk.newPic (hx:PicOk V F c x){at_:Int}(h0:0<=at_)(hs:b9 c at_=true):PicOk V F c (gO at_ x):=by
 refine⟨hx.none,hx.vq,by simpa[Go.Proofs.YtmapdpcfanecdabGreatDoor.gO] using hx.fq,λk h=> ?_,hx.gv,λk h q hq=> ?_,λk h=> ?_⟩
 ·have h':=yx
  show (((x.fq.modify at_.toNat λr=>r.map λg=>{g with n:=true})[k]'(by simpa using h')).length:Int)=F;rw[iF];split
  ·rw[List.length_map];exact hx.row k h'
  ·exact hx.row k h'
 ·have h':=yx
  have hq':=IB;rw[iF] at hq';split at hq'
  ·obtain⟨p,hp,rfl⟩:=x2.1 hq'
   have:=hx.gf k h' p hp;rw[ckGs_iff] at this |-;exact this
  ·exact hx.gf k h' q hq'
 ·have h':=yx
  by_cases e:at_.toNat=k
  ·left
   rw[<-e,Int.toNat_of_nonneg h0];exact hs
  ·rcases hx.stray k h' with a|a
   ·exact .inl a
   ·right
    intro q hq;have hq':=IB;rw[iF,if_neg e] at hq';exact a q hq'
theorem Ce {p:Int}(h0:0<=p)(h1:p < c.length)(hk:(bL c p).k=11):b9 c p=true:=by
 unfold b9;unfold bL Nq at hk;rw[hk];simp[h0,h1]
theorem Ck (hp:ProgOk V F c)(hx:PicOk V F c x){p:Int}(h0:0<=p)(h1:p < c.length):aE c (aY (bL c p) p x).1=0:=by
 obtain⟨q1,q2,q3,q4,q5,q6,q7,q8,q9⟩:=cl (hp.each _ (tA h0 h1));unfold aY;split
 ·rename_i h
  have:=q7 h;exact fT (la aa aa aa)
 split
 ·exact fT gR
 split
 ·exact fT gR
 split
 ·rename_i h
  rw[ckGs_iff];refine⟨gR,λy hy=> ?_,rfl⟩;rw[j6.1 hy];exact Ce h0 h1 h
 split
 ·exact yU hx _ _
 split
 ·rename_i h
  have:=q9 h;exact fT (la aa aa aa)
 ·exact U9 (iL hx _) (iL hx _)
theorem NR (hp:ProgOk V F c)(hx:aM V F c x=0){p:Int}(h0:0<=p)(h1:p < c.length):∀e∈(aA (bL c p) p x).1,aM V F c e.pic=0/\e.pic.none=false/\0<=e.tgt/\e.tgt<=c.length:=by
 obtain⟨q1,q2,q3,q4,q5,q6,q7,q8,q9⟩:=cl (hp.each _ (tA h0 h1));intro e he;unfold aA at he;split at he
 ·simp at he
 rename_i hn;have hn':x.none=false:=oO;have kx:=cy hx hn';split at he
 ·simp at he
 split at he
 ·obtain rfl:=kg
  exact⟨hx,hn',aw,aw⟩
 split at he
 ·rename_i h16
  have:=q6 (by simp[nG,h16]);obtain rfl:=kg;exact⟨hx,hn',aw,aw⟩
 split at he
 ·rename_i h15
  have:=q6 (by simp[nG,h15]);simp only[j7] at he;rcases he with he|he
  ·split at he
   ·obtain rfl:=kg
    exact⟨(kx.setVar _ (Es (iL kx _))).ck,hn',aw,aw⟩
   ·simp at he
  ·split at he
   ·obtain rfl:=kg
    exact⟨(kx.setVar _ (Ol (iL kx _))).ck,hn',aw,aw⟩
   ·simp at he
 split at he
 ·simp only at he
  split at he
  ·obtain rfl:=kg
   exact⟨(kx.setVar _ (Es (iL kx _))).ck,hn',aw,aw⟩
  ·simp at he
 split at he
 ·split at he
  ·simp at he
  ·obtain rfl:=kg
   have:=tK kx (bL c p).n (iL kx (bL c p).b) (gAt x (bL c p).a).s ((ckGs_iff.1 (iL kx _)).2.1);exact⟨this.ck,this.none,aw,aw⟩
 split at he
 ·simp at he
 ·obtain rfl:=kg
  have:PicOk V F c (if (bL c p).k=11 then gO p x else x):=by
   split
   ·rename_i h11;exact kx.newPic h0 (Ce h0 h1 h11)
   ·exact kx
  have:=this.setVar (bL c p).tgt (Ck hp kx h0 h1);exact⟨this.ck,this.none,aw,aw⟩
end
end
section
open Go.RowKit
def Cells (w:World)(b:Nat)(cs:List Value):Prop:=(∀(j:Nat) (v:Value),cs[j]? =sO v->w.cell? ⟨b,j,nO⟩=sO v)/\b < w.heap.size/\∀j,w.frozen? ⟨b,j,nO⟩=false
section
variable {w w':World} {b:Nat} {cs:List Value}
theorem Cells.same (h:Cells w b cs)(hb:w'.heap[b]? =w.heap[b]?)(hz:w.heap.size<=w'.heap.size):Cells w' b cs:=⟨λj v hj=>by rw[World.cell?_of_block (a:=⟨b,j,nO⟩) hb];exact h.1 j v hj,lL h.2.1 hz,λj=>by rw[World.frozen?_of_block (a:=⟨b,j,nO⟩) hb];exact h.2.2 j⟩
theorem Cells.call (h:Cells w b cs)(hb:bl w w'):Cells w' b cs:=h.same (hb.block b h.2.1) hb.size
theorem Cells.far (h:Cells w b cs){a:Addr}(ha:b≠a.block)(u:Value):Cells (w.setCell a u) b cs:=h.same (hSe _ _ _ _ ha) bG
theorem Cells.put (h:Cells w b cs)(j:Nat)(hj:j < cs.length)(u:Value):Cells (w.setCell ⟨b,j,nO⟩ u) b (cs.set j u):=by
 refine⟨λk v hk=> ?_,by simpa[Q7] using h.2.1,λk=>by rw[World.frozen?_setCell];exact h.2.2 k⟩;by_cases e:k=j
 ·subst e
  rw[List.getElem?_set_self hj] at hk;cases hk;exact World.cell?_setCell_same _ _ _ (h.1 k cs[k] (z4 hj))
 ·rw[List.getElem?_set_ne (Ne.symm e)] at hk
  rw[World.cell?_setCell_other _ _ _ _ (by intro e';cases e';exact e rfl)];exact h.1 k v hk
theorem Cells.new (w:World)(t:TypeId)(cs:List Value):Cells (w.alloc (Cc cs.toArray t)) w.heap.size cs:=by
 refine⟨λj v hj=> ?_,ag,λj=> ?_⟩
 ·have:(w.alloc (Cc cs.toArray t)).cell? ⟨w.heap.size,j,nO⟩=cs.toArray[j]? :=World.cell?_alloc_mark w cs.toArray t (0,0) j
  rw[this];simpa using hj
 ·have:=World.frozen?_alloc_mark w cs.toArray t 0 0 j
  rw[this];simp
end
def aV (i:Ins)(V F:Int)(s:oA)(c:lI)(cap:Nat)(at_:Int)(x:Pic)(vs:oA)(vc:Nat)(fs:oA)(fc:Nat)(ev:Value)(wr fl:Bool):List Value:=
 [I Y i.k,I Y i.tgt,I Y i.a,I Y i.b,I Y i.n,I Y i.g,I Y V,I Y F,U s c.length cap,I Y at_,Bb x.none,U vs x.vq.length vc,U fs x.fq.length fc,ev,Bb wr,Bb fl]
structure Ed where
 tgt:Int
 pic:Pic
 vs:oA
 vc:Nat
 fs:oA
 fc:Nat
def da (e:Ed):List Value:=[I Y e.tgt,Bb e.pic.none,U e.vs e.pic.vq.length e.vc,U e.fs e.pic.fq.length e.fc]
def edG (e:Ed):Edg:=⟨e.tgt,e.pic⟩
def wV (S:Nat->Prop)(w:World)(e:Ed):Prop:=PicOn S w e.pic e.vs e.fs/\(e.pic.vq.length<=e.vc/\e.vc<=maxLen)/\(e.pic.fq.length<=e.fc/\e.fc<=maxLen)
theorem ot (e:Ed):∀u∈da e,u.oneCell'=true:=by
 intro u hu;simp only[da,j5,List.not_mem_nil,or_false] at hu;rcases hu with rfl|rfl|rfl|rfl<;>rfl
theorem vS:∀(l:List Ed) (i:Nat) (h:i < l.length) (j:Nat) (_:j < 4),(l.flatMap da)[i * 4+j]? =(da l[i])[j]?
 |[],i,h,_,_=>absurd h ag
 |x::r,0,_,j,hj=>by
  rw[J6,Nat.zero_mul,z5,List.getElem?_append_left (by simpa[da] using hj)];rfl
 |x::r,i+1,h,j,hj=>by
  have e4:(da x).length=4:=rfl;rw[J6,List.getElem?_append_right (by rw[e4];omega),e4];have:(i+1) * 4+j - 4=i * 4+j:=aa;rw[this,vS r i cq j hj];rfl
structure ERow (n sb:Nat) (w:World) (v:Value) (L:List Ed):Prop where
 own:w.ownsRow n 45 4 v L.length (L.flatMap da)
 off:v.ownBlock≠sO sb
 pics:∀e∈L,wV (λb=>n<=b/\b≠sb/\v.ownBlock≠sO b) w e
section
variable {n sb:Nat} {w w':World} {v v':Value} {L:List Ed}
theorem ERow.nil (n sb:Nat)(w:World):ERow n sb w (U nO 0 0) []:=⟨⟨rfl,.inl ⟨rfl,rfl⟩⟩,(λh=>aT),λe he=>by simp at he⟩
theorem ERow.same (h:ERow n sb w v L)(hs:∀b,n<=b->b≠sb->b < w.heap.size->w'.heap[b]? =w.heap[b]?)(hz:w.heap.size<=w'.heap.size):ERow n sb w' v L:=
 ⟨dw h.own λb hb=>hs b (aQ h.own hb).2 (λe=>h.off (by rw[hb,e])) (aQ h.own hb).1,h.off,λe he=>⟨((h.pics e he).1.same (λb hb hlt=>hs b hb.1 hb.2.1 hlt) hz).mono λb hb _=>hb.1,(h.pics e he).2⟩⟩
theorem ERow.call (h:ERow n sb w v L)(hb:bl w w'):ERow n sb w' v L:=h.same (λb _ _ hlt=>hb.block b hlt) hb.size
theorem ERow.grown (h:ERow n sb w v L){e:Ed}(he:wV (λb=>n<=b/\b≠sb/\v.ownBlock≠sO b) w e)(hr:w'.ownsRow n 45 4 v' (L.length+1) (L.flatMap da++da e))(hg:w.grownBy w' v.ownBlock)(hv:v'.ownBlock=v.ownBlock\/v'.ownBlock=sO w.heap.size)(hsb:sb < w.heap.size):ERow n sb w' v' (L++[e]):=by
 refine⟨by rw[Z7,List.flatMap_append];simpa using hr,λe'=> ?_,λq hq=> ?_⟩
 ·rcases hv with hv|hv
  ·rw[hv] at e';exact h.off e'
  ·rw[hv] at e';cases e';exact absurd hsb (X7 _)
 ·have hq':wV (λb=>n<=b/\b≠sb/\v.ownBlock≠sO b) w q:=by
   rcases j7.1 hq with hq|hq
   ·exact h.pics q hq
   ·rw[j6.1 hq];exact he
  refine⟨(hq'.1.same (λb hb hlt=>hg.block b hlt λe=>hb.2.2 e.symm) hg.size).mono λb hb _=>⟨hb.1.1,hb.1.2.1,?_⟩,hq'.2⟩;rcases hv with hv|hv
  ·rw[hv];exact hb.1.2.2
  ·rw[hv];intro e;cases e;exact absurd hb.2 (X7 _)
theorem ERow.form (h:ERow n sb w v L):∃es ec,v=U es L.length ec/\L.length<=ec/\ec<=maxLen:=by
 rcases h.own.2 with⟨e,h0⟩|⟨g,cap,cur,e,_,_,k1,k2,_⟩
 ·exact⟨nO,0,by rw[e,h0],aa,z8 _⟩
 ·exact⟨sO ⟨g,0,nO⟩,cap,e,k1,k2⟩
end
def ClT (n sb:Nat)(eb:Option Nat)(xb b:Nat):Prop:=n<=b/\b≠sb/\b≠xb/\eb≠sO b
def nK (n sb:Nat)(eb:Option Nat)(H:Nat)(w:World)(xb:Nat)(v:Ro)(gs:oA)(gc:Nat)(L:List Ro)(x:Pic):Prop:=
 H<=xb/\Cells w xb [Bb false,U v.rs v.l.length v.rc,U gs L.length gc]/\PicG (ClT n sb eb xb) H w v gs gc L/\Off v (j0 gs L.length gc).ownBlock L xb/\aU false v L=x
section
variable {w w':World} {B m:Nat} {s:St} {vv tv lv:Value} {fv:List Value}

theorem G8 {e:TypeId}{z:Nat}{v:Value}{n:Nat}{xs:List Value}{B':Nat}(h:w.ownsRow B e z v n xs)(hB:B'<=B):w.ownsRow B' e z v n xs:=by
 obtain⟨h1,h2⟩:=h;refine⟨h1,?_⟩;rcases h2 with h2|⟨g,cap,cur,hv,hb,r⟩
 ·exact .inl h2
 ·exact .inr ⟨g,cap,cur,hv,lT hB hb,r⟩
end
def bC (w:World)(b:Nat):Nat->List Value->World
 |_,[]=>w
 |i,y::ys=>bC (w.setCell ⟨b,i,nO⟩ y) b (i+1) ys
theorem IM (b k:Nat)(hk:k≠b):∀(ys:List Value) (i:Nat) (w:World),(bC w b i ys).heap[k]? =w.heap[k]?
 |[],_,_=>rfl
 |y::ys,i,w=>by
  show (bC (w.setCell ⟨b,i,nO⟩ y) b (i+1) ys).heap[k]? =_;rw[IM b k hk ys (i+1) _,hSe _ _ _ _ hk]
theorem Eo (b:Nat):∀(ys:List Value) (i:Nat) (w:World),(bC w b i ys).heap.size=w.heap.size
 |[],_,_=>rfl
 |y::ys,i,w=>by
  show (bC (w.setCell ⟨b,i,nO⟩ y) b (i+1) ys).heap.size=_;rw[Eo b ys (i+1) _];simp[Q7]
theorem Ca {B:Nat}{a:World}(b:Nat)(hB:B<=b):∀(ys:List Value) (i:Nat) (w:World),Below B a w->Below B a (bC w b i ys)
 |[],_,_,h=>h
 |y::ys,i,w,h=>Ca b hB ys (i+1) _ (h.setCell (p:=⟨b,i,nO⟩) hB y)
def lJ:List Value->Nat->List Value->List Value
 |cs,_,[]=>cs
 |cs,o,y::ys=>lJ (cs.set o y) (o+1) ys
structure Put (b:Nat) (w w':World) (cs:List Value):Prop where
 cells:Cells w' b cs
 far:∀q,q≠b->w'.heap[q]? =w.heap[q]?
 size:w.heap.size<=w'.heap.size
 low:∀{B:Nat} {a:World},B<=b->Below B a w->Below B a w'
section
variable {b:Nat} {w w':World} {cs:List Value}
theorem Bh:∀(ys:List Value) (o:Nat) (w:World) (cs:List Value),Cells w b cs->o+ys.length<=cs.length->Cells (bC w b o ys) b (lJ cs o ys)
 |[],_,_,_,h,_=>h
 |y::ys,o,w,cs,h,hl=>Bh ys (o+1) _ _ (h.put o (by simp at hl;omega) y) (by simp at hl |-;omega)
theorem bN (h:Cells w b cs)(o:Nat)(ys:List Value)(e:w'=bC w b o ys)(hl:o+ys.length<=cs.length:=by simp):Put b w w' (lJ cs o ys):=by
 subst e;exact⟨Bh ys o w cs h hl,λq hq=>IM b q hq ys o w,by rw[Eo];exact Nat.le_refl _,λhB hb=>Ca b hB ys o w hb⟩
theorem Put.refl (h:Cells w b cs):Put b w w cs:=⟨h,λ_ _=>rfl,lR _,λ_ hb=>hb⟩
theorem Put.trans {w2:World}{ds:List Value}(p:Put b w w' cs)(q:Put b w' w2 ds):Put b w w2 ds:=⟨q.cells,λk hk=>(q.far k hk).trans (p.far k hk),lT p.size q.size,λhB hb=>q.low hB (p.low hB hb)⟩
theorem Put.keep (p:Put b w w' cs){q:Nat}{ds:List Value}(h:Cells w q ds)(hq:q≠b:=by omega):Cells w' q ds:=h.same (p.far q hq) p.size
theorem Put.ints (p:Put b w w' cs){S:Nat->Prop}{ss:oA}{l:List Int}(h:IntsIn S w ss l)(hS:∀q,S q->q≠b):IntsIn S w' ss l:=h.same (λq hq _=>p.far q (hS q hq)) p.size
end
theorem AX {p:Prop}(h:p:=by
 have n0:=bx;go_enter Tryz.func224,Tryz.ntmps224;go_wp2;go_ret;exact⟨bD (by rw[HR.out];simp[h11,hk]),Below.refl _ _⟩):p:=h
theorem Ki (x:Int)(q:Nat)(V F:Int)(s:oA)(c:lI)(cap:Nat)(w:World)(hp:PrAt w q V F s c cap)(hc:CodeAt w s c)(hl:c.length<=60):
  Calls pG 224 #[I Y x,Pp (sO ⟨q,0,nO⟩)] w λe w'=>e=Rt (Bb (!b9 c x))/\bl w w':=by
 obtain⟨⟨p0,p1,p2⟩,p3⟩:=hp;have hl':(c.length:Int)<=60:=aa;by_cases h0:x < 0
 ·have HR:Hid (b9 c x=false):=by show _=_;unfold b9;rw[decide_eq_false aa];rfl
  go_enter Tryz.func224,Tryz.ntmps224;go_wp2;go_ret;exact⟨bD oM,bR _ _⟩
 by_cases h1:x < (c.length:Int)
 ·obtain⟨k,rfl⟩:=Int.eq_ofNat_of_zero_le (show 0<=x by omega)
  have hk:k < c.length:=aa;obtain⟨b,off,rfl,hb,hi⟩:=hc.get k hk;obtain⟨i0,-,-,-,-,-⟩:=hi k hk;have HR:Hid (b9 c k=decide (c[k].k=11)):=by
   show _=_;unfold b9;rw[decide_eq_true (show (0:Int)<=(k:Int) by omega),decide_eq_true h1,Int.toNat_natCast,show c.getD k ⟨0,0,0,0,0,0⟩=c[k] by simp[j3,z4 hk]];simp
  clear hi hc;by_cases h11:c[k].k=11
  ·have e11:(c[k].k !=11)=false:=by simp[h11]
   exact AX
  ·have e11:(c[k].k !=11)=true:=by simpa using h11
   exact AX
 ·have HR:Hid (b9 c x=false):=by show _=_;unfold b9;rw[decide_eq_false h1];simp
  go_enter Tryz.func224,Tryz.ntmps224;go_wp2;go_ret;exact⟨bD oM,bR _ _⟩

theorem vD (l:List Int)(p:Int->Bool):(l.any λx=> !p x)= !l.all p:=by
 induction l with
 |nil=>rfl
 |cons a r ih=>simp only[List.any_cons,Z9,ih,Bool.not_and]

theorem AU (l:List Int):dg l=true↔∀k (h:k+1 < l.length),l[k] < l[k+1]:=by
 induction l with
 |nil=>simp[dg]
 |cons a r ih=>
  cases r with
  |nil=>simp[dg]
  |cons b t=>
   simp only[dg,j8,decide_eq_true_eq,ih];constructor
   ·rintro ⟨h1,h2⟩ k hk
    cases k with
    |zero=>exact h1
    |succ k=>exact h2 k it
   ·intro h
    exact⟨h 0 ag,λk hk=>h (k+1) it⟩

abbrev pgW (w:World)(V F:Int)(s:oA)(c:lI)(cap:Nat)(g:Gs)(ss:oA)(gc:Nat):World:=
 (w.alloc (Cc #[I Y V,I Y F,U s c.length cap] 24)).alloc (Cc #[Bb g.n,Bb g.sp.n,I Y g.sp.lo,I Y g.sp.hi,Bb g.t,Bb g.f,U ss g.s.length gc] 91)

theorem DX (V F:Int)(s:oA)(c:lI)(cap:Nat)(g:Gs)(ss:oA)(gc:Nat)(w:World)(hc:CodeAt w s c)(hl:c.length<=60)(hs:IntsAt w ss g.s)(hgl:g.s.length<=9223372036854775807):
  Calls pG 194 #[pv V F s c cap,gv g ss gc] w λe w'=>e=Rt (I Y (aE c g))/\bl w w':=by
 have P0:PrAt (pgW w V F s c cap g ss gc) w.heap.size V F s c cap:=(PrAt.new w V F s c cap).alloc _;have G0:GuAt (pgW w V F s c cap g ss gc) (w.heap.size+1) 0 g ss gc:=by
  have:=GuAt.new (w.alloc (Cc #[I Y V,I Y F,U s c.length cap] 24)) g ss gc;simpa using this
 have C0:CodeAt (pgW w V F s c cap g ss gc) s c:=(hc.alloc _).alloc _;have I0:IntsAt (pgW w V F s c cap g ss gc) ss g.s:=(hs.alloc _).alloc _;have B0:Below w.heap.size w (pgW w V F s c cap g ss gc):=am;have HR:Hid (aE c g=if cD g.sp≠0 then cD g.sp else if g.s.all (b9 c)=false then 5 else if dg g.s=false then 4 else 0):=rfl;go_enter Tryz.func194,Tryz.ntmps194;go_wp2_with fail;refine(kl g.sp _).mono ?_;rintro e w1 ⟨rfl,hb1⟩;have P1:=fX;have G1:=G0.call hb1;have C1:=C0.call hb1;have I1:=I0.call hb1;have B1:bl w w1:=B0.trans (hb1.mono ap);clear hb1 P0 G0 C0 I0 B0 hc hs;by_cases hsp:cD g.sp=0
 ·obtain⟨⟨g0,g1,g2,g3,g4,g5,g6⟩,gz⟩:=id G1
  rw[hsp];go_wp2_with fail;refine(vr w.heap.size (λx=> !b9 c x) ss gc g.s _ hgl I1 λx wx hbx=>Ki x w.heap.size V F s c cap wx (P1.call hbx) (C1.call hbx) hl).mono ?_;rintro e w2 ⟨rfl,hb2⟩;rw[vD];have G2:=G1.call hb2;have I2:=I1.call hb2;have B2:bl w w2:=B1.trans (hb2.mono B1.size);clear hb2 P1 G1 C1 I1 B1 g0 g1 g2 g3 g4 g5 g6 gz;obtain⟨⟨g0,g1,g2,g3,g4,g5,g6⟩,gz⟩:=id G2;cases hA:g.s.all (b9 c) with
  |false=>
   have HF:Hid (aE c g=5):=by show _=_;rw[HR.out,if_neg (by simpa using hsp),if_pos hA]
   clear HR;go_wp2;go_ret;exact⟨bP HF.out.symm,B2⟩
  |true=>
   have HF:Hid (aE c g=if dg g.s=false then 4 else 0):=by show _=_;rw[HR.out,if_neg (by simpa using hsp),if_neg (by simp[hA])]
   have HQ:=ah (AU g.s);clear HR;go_wp2;go_loopw [7] (λi wr=>∃k:Nat,1<=k/\i=I Y k/\k<=g.s.length+1/\wr.cell? ⟨w.heap.size+1,6,nO⟩=sO (U ss g.s.length gc)/\IntsAt wr ss g.s/\bl w wr/\Hid (∀j (h:j+1 < g.s.length),j+1 < k->g.s[j] < g.s[j+1])) (λi _=>g.s.length+1 - (intOf i).toNat)
   case atStart=>exact⟨1,lR _,rfl,aa,g6,I2,B2,λj h h'=>aa⟩
   case round=>
    obtain⟨k,hk1,rfl,hk2,r6,IR,BR,HK⟩:=hrel;by_cases hlt:k < g.s.length
    ·obtain⟨b,off,rfl,hb,hcell⟩:=IR.get k hlt
     have c0:=hcell (k - 1) aa;have c1:=hcell k hlt;have t1:((k:Int) - 1).toNat=k - 1:=aa;have n0:(0:Int)<=(k:Int) - 1:=aa;have n1:(k:Int) - 1 < (g.s.length:Int):=aa;have n2:=bx;have n3:(k:Int) < (g.s.length:Int):=aa;clear hcell;by_cases hr:g.s[k - 1] < g.s[k]
     ·go_wp2
      go_quiet (fail)
      go_wp2;go_roundw
      case rel=>
       refine⟨k+1,aa,aF,aa,?_,IR.drewN _,below_drewN BR _,λj h h'=> ?_⟩
       ·rw[<-r6];exact(below_drewN (bR (wr.heap.size+(w.heap.size+2)) wr) _).cell ap
       ·by_cases e:j+1=k
        ·subst e;exact hr
        ·exact HK.out j h aa
      case measure=>simp[intOf];omega
     ·have HG:Hid (dg g.s=false):=by
       show _=_;rw[Bool.eq_false_iff];intro hx;have:=HQ.out.1 hx (k - 1) aa;have e:k - 1+1=k:=aa;simp only[e] at this;exact hr this
      clear HQ;go_wp2
      go_quiet (fail)
      go_wp2;go_ret;exact⟨bP (by rw[HF.out,if_pos HG.out]),below_drewN BR _⟩
    ·go_wp2
     go_ret;refine⟨bP ?_,BR⟩;rw[HF.out,if_neg];have:dg g.s=true:=HQ.out.2 λj h=>HK.out j h aa;simp[this]
 ·have HF:Hid (aE c g=cD g.sp):=by show _=_;rw[HR.out,if_pos hsp]
  have hne:(cD g.sp !=0)=true:=by simpa using hsp
  clear HR;go_wp2;go_ret;exact⟨bP HF.out.symm,B1⟩
theorem Ar (s t:Sp)(b:Bool)(w:World)(h:(s.n||t.n)=true):
  Calls pG 167 #[sv s,sv t,Bb b] w λe w'=>e=Rt (sv (bi s t))/\bl w w':=by
 obtain⟨n,lo,hi⟩:=s;obtain⟨n',lo',hi'⟩:=t;cases n with
 |true=>
  go_enter Tryz.func167,Tryz.ntmps167;go_wp2
  go_returns
  exact cY
 |false=>
  cases n' with
  |true=>
   go_enter Tryz.func167,Tryz.ntmps167;go_wp2
   go_returns
   exact cY
  |false=>exact absurd h ag

theorem V1 {lo hi lo' hi' a b:Int}(ha:a=if lo' < lo then -2147483648 else lo)(hb:b=if hi < hi' then 2147483647 else hi):bo ⟨false,lo,hi⟩ ⟨false,lo',hi'⟩=⟨false,a,b⟩:=by
 subst ha hb;rfl
abbrev fI (e:Int)(r:Sp):Sp:=if e=0 then r else dh

theorem Uf (s t:Sp)(w:World):
  Calls pG 181 #[sv s,sv t,.func (.func 182) #[] #[]] w λe w'=>e=Rt (Tu #[sv (fI (bw s t) (bi s t)),I Y (bw s t)])/\bl w w':=by
 by_cases h:bw s t=0
 ·rw[h];exact E4 s t w h
 ·unfold fI;rw[if_neg h];exact nf _ s t w h

theorem rY {p:Prop}(h:p:=by
 exact((H1.setCell ap _).setCell ap _).setCell ap _):p:=h
theorem R8 (s t:Sp)(w:World):
  Calls pG 124 #[sv s,sv t] w λe w'=>e=Rt (Tu #[sv (fI (bw s t) (bi s t)),I Y (bw s t)])/\bl w w':=by
 have hT:=Uf s t;generalize fI (bw s t) (bi s t)=r at hT |-;generalize bw s t=c at hT |-;obtain⟨n,lo,hi⟩:=s;obtain⟨n',lo',hi'⟩:=t;obtain⟨rn,rlo,rhi⟩:=r;go_enter Tryz.func124,Tryz.ntmps124;go_wp2_with fail;refine(hT _).mono ?_;rintro e w1 ⟨rfl,hb1⟩;obtain⟨-,-,⟨r0,r1,r2⟩,⟨f0,f1,f2⟩,z0,z1,z2⟩:=fD;have H1:=fw;simp only[dh] at r0 r1 r2;clear hb1 hT;go_wp2;refine bodyPost_ret (v:=Tu #[sv ⟨rn,rlo,rhi⟩,I Y c]) (by simp[results,Tryz.results124,go_sem,r0,r1,r2]) rfl ⟨rfl,?_⟩;exact rY

theorem TJ (s t:Sp)(w:World):
  Calls pG 181 #[sv s,sv t,.func (.func 197) #[] #[]] w λe w'=>e=Rt (Tu #[sv (fI (bw s t) (aL s t)),I Y (bw s t)])/\bl w w':=by
 by_cases h:bw s t=0
 ·rw[h];exact Fy s t w h
 ·unfold fI;rw[if_neg h];exact nf _ s t w h

theorem lU (s t:Sp)(w:World):
  Calls pG 159 #[sv s,sv t] w λe w'=>e=Rt (Tu #[sv (fI (bw s t) (aL s t)),I Y (bw s t)])/\bl w w':=by
 have hT:=TJ s t;generalize fI (bw s t) (aL s t)=r at hT |-;generalize bw s t=c at hT |-;obtain⟨n,lo,hi⟩:=s;obtain⟨n',lo',hi'⟩:=t;obtain⟨rn,rlo,rhi⟩:=r;go_enter Tryz.func159,Tryz.ntmps159;go_wp2_with fail;refine(hT _).mono ?_;rintro e w1 ⟨rfl,hb1⟩;obtain⟨-,-,⟨r0,r1,r2⟩,⟨f0,f1,f2⟩,z0,z1,z2⟩:=fD;have H1:=fw;simp only[dh] at r0 r1 r2;clear hb1 hT;go_wp2;refine bodyPost_ret (v:=Tu #[sv ⟨rn,rlo,rhi⟩,I Y c]) (by simp[results,Tryz.results159,go_sem,r0,r1,r2]) rfl ⟨rfl,?_⟩;exact rY

theorem Ss (s t:Sp)(w:World):
  Calls pG 181 #[sv s,sv t,.func (.func 183) #[] #[]] w λe w'=>e=Rt (Tu #[sv (fI (bw s t) (bo s t)),I Y (bw s t)])/\bl w w':=by
 by_cases h:bw s t=0
 ·rw[h];exact DM s t w h
 ·unfold fI;rw[if_neg h];exact nf _ s t w h

theorem NI (s t:Sp)(w:World):
  Calls pG 125 #[sv s,sv t] w λe w'=>e=Rt (Tu #[sv (fI (bw s t) (bo s t)),I Y (bw s t)])/\bl w w':=by
 have hT:=Ss s t;generalize fI (bw s t) (bo s t)=r at hT |-;generalize bw s t=c at hT |-;obtain⟨n,lo,hi⟩:=s;obtain⟨n',lo',hi'⟩:=t;obtain⟨rn,rlo,rhi⟩:=r;go_enter Tryz.func125,Tryz.ntmps125;go_wp2_with fail;refine(hT _).mono ?_;rintro e w1 ⟨rfl,hb1⟩;obtain⟨-,-,⟨r0,r1,r2⟩,⟨f0,f1,f2⟩,z0,z1,z2⟩:=fD;have H1:=fw;simp only[dh] at r0 r1 r2;clear hb1 hT;go_wp2;refine bodyPost_ret (v:=Tu #[sv ⟨rn,rlo,rhi⟩,I Y c]) (by simp[results,Tryz.results125,go_sem,r0,r1,r2]) rfl ⟨rfl,?_⟩;exact rY

theorem NN (s t:Sp)(w:World)(h:bw s t≠0):
  Calls pG 201 #[sv s,sv t] w λe w'=>e=Rt (Tu #[Bb false,I Y (bw s t)])/\bl w w':=by
 have hT:=lU s t;have h':(bw s t==0)=false:=cq;generalize fI (bw s t) (aL s t)=r at hT;generalize bw s t=c at hT h h' |-;obtain⟨n,lo,hi⟩:=s;obtain⟨n',lo',hi'⟩:=t;obtain⟨rn,rlo,rhi⟩:=r;have h0:=Hw;go_enter Tryz.func201,Tryz.ntmps201;go_wp2_with fail;refine(hT _).mono ?_;rintro e w1 ⟨rfl,hb1⟩;obtain⟨c0,c1,c2,d0,d1,d2⟩:=tt hb1 ag;have H1:bl w w1:=h0.trans (hb1.mono ap);have z0:w.heap.size < w1.heap.size:=mM;clear hb1 hT;go_wp2
 go_ret2
 exact⟨rfl,H1.alloc aa _⟩

theorem UG (r:Sp)(s:Sp):decide (r=s)=(r.n==s.n&&(r.lo==s.lo&&r.hi==s.hi)):=by
 obtain⟨n,lo,hi⟩:=r;obtain⟨n',lo',hi'⟩:=s;rw[Bool.eq_iff_iff];simp

theorem Rr (s t:Sp)(w:World)(h:bw s t=0):
  Calls pG 201 #[sv s,sv t] w λe w'=>e=Rt (Tu #[Bb (decide (aL s t=s)),I Y 0])/\bl w w':=by
 have hT:=lU s t;rw[h] at hT;have e0:fI 0 (aL s t)=aL s t:=rfl;rw[e0] at hT;rw[UG];clear e0 h;generalize aL s t=r at hT |-;obtain⟨n,lo,hi⟩:=s;obtain⟨n',lo',hi'⟩:=t;obtain⟨rn,rlo,rhi⟩:=r;have h0:=Hw;go_enter Tryz.func201,Tryz.ntmps201;go_wp2_with fail;refine(hT _).mono ?_;rintro e w1 ⟨rfl,hb1⟩;obtain⟨c0,c1,c2,d0,d1,d2⟩:=tt hb1 ag;have H1:bl w w1:=h0.trans (hb1.mono ap);have z0:w.heap.size < w1.heap.size:=mM;clear hb1 hT;go_wp2;all_goals go_ret2
 all_goals exact⟨My (by simp_all),H1.alloc aa _⟩

theorem Oe (s t:Sp)(w:World):
  Calls pG 201 #[sv s,sv t] w λe w'=>e=Rt (Tu #[Bb (decide (bw s t=0)&&decide (aL s t=s)),I Y (bw s t)])/\bl w w':=by
 by_cases h:bw s t=0
 ·have:=Rr s t w h
  rw[h];simpa using this
 ·have:=NN s t w h
  simpa[h] using this
@[go_sem] theorem run_min4 {P:Program} (w:World) (ts:Array TypeId) (t:TypeId) (a b c d:Int):
  (Builtin.min_ ts t #[I Y a,I Y b,I Y c,I Y d]).run P w=.ok (I Y (dR a b c d)) w:=by
 have e:∀x y:Int,(if y < x then y else x)=min x y:=λx y=>uq;simp[Builtin.min_,Builtin.min2,e,dR]

@[go_sem] theorem run_max4 {P:Program} (w:World) (ts:Array TypeId) (t:TypeId) (a b c d:Int):
  (Builtin.max_ ts t #[I Y a,I Y b,I Y c,I Y d]).run P w=.ok (I Y (dU a b c d)) w:=by
 have e:∀x y:Int,(if x < y then y else x)=max x y:=λx y=>uq;simp[Builtin.max_,Builtin.max2,e,dU]

theorem Bo {p:Prop}(h:p:=by
 go_enter Tryz.func228,Tryz.ntmps228;go_wp2_with (go_at_call 226;refine(DZ _).mono ?_;rintro e w1 ⟨rfl,rfl⟩)
 go_returns
 exact⟨rfl,am⟩):p:=h
theorem nY (F:Nat)(s t:Sp)(w:World)(h:(s.n||t.n)=true):
  Calls pG 228 #[sv s,sv t,.func (.func F) #[] #[]] w λe w'=>e=Rt (sv ⟨true,0,0⟩)/\bl w w':=by
 obtain⟨n,lo,hi⟩:=s;obtain⟨n',lo',hi'⟩:=t;cases n with
 |true=>
  exact Bo
 |false=>
  cases n' with
  |true=>
   exact Bo
  |false=>simp at h

theorem MW {a b c d:Int}(h1:bk (dR a b c d))(h2:bk (dU a b c d)):gU a b c d=⟨false,dR a b c d,dU a b c d⟩:=if_pos ⟨h1,h2⟩
theorem VR {a b c d:Int}(h1:¬bk (dR a b c d)):gU a b c d=⟨false,-2147483648,2147483647⟩:=if_neg (λh=>h1 h.1)
theorem Vb {a b c d:Int}(h1:¬bk (dU a b c d)):gU a b c d=⟨false,-2147483648,2147483647⟩:=if_neg (λh=>h1 h.2)
theorem pd {p:Prop}(h:p:=by
 clear h1 h2 h3 h4;go_enter Tryz.func228,Tryz.ntmps228;go_wp2
 go_quiet (first|exact Calls.quiet_of (k1 _)|exact Calls.quiet_of (k2 _)|exact Calls.quiet_of (k3 _)|exact Calls.quiet_of (k4 _))
 clear k1 k2 k3 k4;by_cases h1:bk (dR a b c d)
 ·have e1:decide (bk (dR a b c d))=true:=decide_eq_true h1
  by_cases h2:bk (dU a b c d)
  ·have e2:decide (bk (dU a b c d))=true:=decide_eq_true h2
   go_wp2_with (go_at_call 225;refine(iB _ _).mono ?_;rintro e w' ⟨rfl,rfl⟩)
   go_returns
   exact⟨g8 (MW h1 h2),uQ⟩
  ·have e2:decide (bk (dU a b c d))=false:=decide_eq_false h2
   go_wp2_with (first|(go_at_call 225;refine(iB _ _).mono ?_;rintro e w' ⟨rfl,rfl⟩)|(go_at_call 245;refine(RN _).mono ?_;rintro e w' ⟨rfl,rfl⟩))
   go_returns
   exact⟨g8 (Vb h2),uQ⟩
 ·have e1:decide (bk (dR a b c d))=false:=decide_eq_false h1
  go_wp2_with (first|(go_at_call 225;refine(iB _ _).mono ?_;rintro e w' ⟨rfl,rfl⟩)|(go_at_call 245;refine(RN _).mono ?_;rintro e w' ⟨rfl,rfl⟩))
  go_returns
  exact⟨g8 (VR h1),uQ⟩):p:=h
theorem NO (lo hi lo' hi':Int)(w:World)(h1:wrap64 (lo+lo')=lo+lo')(h2:wrap64 (lo+hi')=lo+hi')(h3:wrap64 (hi+lo')=hi+lo')(h4:wrap64 (hi+hi')=hi+hi'):
  Calls pG 228 #[sv ⟨false,lo,hi⟩,sv ⟨false,lo',hi'⟩,.func (.func 229) #[] #[]] w λe w'=>e=Rt (sv (gU (lo+lo') (lo+hi') (hi+lo') (hi+hi')))/\bl w w':=by
 have k1:∀w:World,Calls pG 229 #[I Y lo,I Y lo'] w λe w'=>e=Rt (I Y (lo+lo'))/\∃n,w'=w.drewN n:=λw=>(u9 lo lo' w h1).mono fM;have k2:∀w:World,Calls pG 229 #[I Y lo,I Y hi'] w λe w'=>e=Rt (I Y (lo+hi'))/\∃n,w'=w.drewN n:=λw=>(u9 lo hi' w h2).mono fM;have k3:∀w:World,Calls pG 229 #[I Y hi,I Y lo'] w λe w'=>e=Rt (I Y (hi+lo'))/\∃n,w'=w.drewN n:=λw=>(u9 hi lo' w h3).mono fM;have k4:∀w:World,Calls pG 229 #[I Y hi,I Y hi'] w λe w'=>e=Rt (I Y (hi+hi'))/\∃n,w'=w.drewN n:=λw=>(u9 hi hi' w h4).mono fM;generalize lo+lo'=a at k1 |-;generalize lo+hi'=b at k2 |-;generalize hi+lo'=c at k3 |-;generalize hi+hi'=d at k4 |-;exact pd
theorem NW (lo hi lo' hi':Int)(w:World)(h1:wrap64 (lo - lo')=lo - lo')(h2:wrap64 (lo - hi')=lo - hi')(h3:wrap64 (hi - lo')=hi - lo')(h4:wrap64 (hi - hi')=hi - hi'):
  Calls pG 228 #[sv ⟨false,lo,hi⟩,sv ⟨false,lo',hi'⟩,.func (.func 230) #[] #[]] w λe w'=>e=Rt (sv (gU (lo - lo') (lo - hi') (hi - lo') (hi - hi')))/\bl w w':=by
 have k1:∀w:World,Calls pG 230 #[I Y lo,I Y lo'] w λe w'=>e=Rt (I Y (lo - lo'))/\∃n,w'=w.drewN n:=λw=>(uW lo lo' w h1).mono fM;have k2:∀w:World,Calls pG 230 #[I Y lo,I Y hi'] w λe w'=>e=Rt (I Y (lo - hi'))/\∃n,w'=w.drewN n:=λw=>(uW lo hi' w h2).mono fM;have k3:∀w:World,Calls pG 230 #[I Y hi,I Y lo'] w λe w'=>e=Rt (I Y (hi - lo'))/\∃n,w'=w.drewN n:=λw=>(uW hi lo' w h3).mono fM;have k4:∀w:World,Calls pG 230 #[I Y hi,I Y hi'] w λe w'=>e=Rt (I Y (hi - hi'))/\∃n,w'=w.drewN n:=λw=>(uW hi hi' w h4).mono fM;generalize lo - lo'=a at k1 |-;generalize lo - hi'=b at k2 |-;generalize hi - lo'=c at k3 |-;generalize hi - hi'=d at k4 |-;exact pd
theorem OI (lo hi lo' hi':Int)(w:World)(h1:wrap64 (lo * lo')=lo * lo')(h2:wrap64 (lo * hi')=lo * hi')(h3:wrap64 (hi * lo')=hi * lo')(h4:wrap64 (hi * hi')=hi * hi'):
  Calls pG 228 #[sv ⟨false,lo,hi⟩,sv ⟨false,lo',hi'⟩,.func (.func 231) #[] #[]] w λe w'=>e=Rt (sv (gU (lo * lo') (lo * hi') (hi * lo') (hi * hi')))/\bl w w':=by
 have k1:∀w:World,Calls pG 231 #[I Y lo,I Y lo'] w λe w'=>e=Rt (I Y (lo * lo'))/\∃n,w'=w.drewN n:=λw=>(uZ lo lo' w h1).mono fM;have k2:∀w:World,Calls pG 231 #[I Y lo,I Y hi'] w λe w'=>e=Rt (I Y (lo * hi'))/\∃n,w'=w.drewN n:=λw=>(uZ lo hi' w h2).mono fM;have k3:∀w:World,Calls pG 231 #[I Y hi,I Y lo'] w λe w'=>e=Rt (I Y (hi * lo'))/\∃n,w'=w.drewN n:=λw=>(uZ hi lo' w h3).mono fM;have k4:∀w:World,Calls pG 231 #[I Y hi,I Y hi'] w λe w'=>e=Rt (I Y (hi * hi'))/\∃n,w'=w.drewN n:=λw=>(uZ hi hi' w h4).mono fM;generalize lo * lo'=a at k1 |-;generalize lo * hi'=b at k2 |-;generalize hi * lo'=c at k3 |-;generalize hi * hi'=d at k4 |-;exact pd
theorem mR {a b c d:Bool}(h:a=c)(h':b=d):Ending.returned (Tu #[Bb a,Bb b])=Rt (Tu #[Bb c,Bb d]):=by rw[h,h']

theorem AC {p:Prop}(h:p:=by
 go_wp2;refine wp_region_quiet_lit ae ae ?_;repeat (any_goals (first|go_big_quiet_step (fail)|quiet_step (fail)|(refine wpQuiet_step (λK hK=> ?_);go_simp;split<;>(refine hK _ ?_;clear hK K))))
 all_goals (refine wpQuiet_nil ?_;intro _ hw';obtain⟨nq,hw''⟩:=hw';subst hw'')
 all_goals go_wp2
 all_goals go_ret2
 all_goals exact⟨mR oI (by rw[HN.out];simp_all),below_drewN B1 _⟩):p:=h
theorem Cf {p:Prop}(h:p:=by
 clear hz HZ;go_wp2;refine wp_region_quiet_lit ae ae ?_;repeat (any_goals (first|go_big_quiet_step (fail)|quiet_step (fail)|(refine wpQuiet_step (λK hK=> ?_);go_simp;split<;>(refine hK _ ?_;clear hK K))))
 all_goals (refine wpQuiet_nil ?_;intro _ hw';obtain⟨nq,hw''⟩:=hw';subst hw'')
 all_goals go_wp2
 all_goals go_ret2
 all_goals exact⟨mR rfl (by rw[HN.out];simp_all),below_drewN B1 _⟩):p:=h
theorem Bw (g:Gs)(ss:oA)(gc:Nat)(w:World)(hsp:cD g.sp=0):
  Calls pG 198 #[gv g ss gc] w λe w'=>e=Rt (Tu #[Bb (cd g),Bb (cR g)])/\bl w w':=by
 have hH:=λw=>VN g.sp 0 w;rw[hsp,show (decide ((0:Int)=0)&&g.sp.has 0)=g.sp.has 0 from rfl] at hH;have HY:=Gp;have HN:Hid (cR g=(g.sp.has 0||(g.n||g.f))):=rfl;generalize cd g=yy at *;generalize cR g=nn at *;generalize g.sp.has 0=z at *;obtain⟨n,⟨sn,lo,hi⟩,t,f,s⟩:=g;have G0:=GuAt.new w ⟨n,⟨sn,lo,hi⟩,t,f,s⟩ ss gc;go_enter Tryz.func198,Tryz.ntmps198;go_wp2_with fail;refine(hH _).mono ?_;rintro e w1 ⟨rfl,hb1⟩;have G1:=G0.call hb1;have B1:Below w.heap.size w w1:=Below.trans am (hb1.mono ag);obtain⟨⟨g0,g1,g2,g3,g4,g5,g6⟩,gz⟩:=id G1;simp only[z5] at g0 g1 g2 g3 g4 g5 g6;clear G0 G1 hb1 hH hsp;cases sn with
 |true=>
  exact AC
 |false=>
  by_cases hz:lo=0/\hi=0
  ·obtain⟨rfl,rfl⟩:=hz
   exact AC
  ·have HZ:Hid (decide (lo=0/\hi=0)=false):=by show _=_;simpa using hz
   have hm:yy=true:=by rw[HY.out,HZ.out];rfl
   subst hm;clear HY;by_cases h1:lo=0
   ·subst h1
    have h2:(hi==0)=false:=by simp only[beq_eq_false_iff_ne];intro h;exact hz ⟨rfl,h⟩
    exact Cf
   ·have h2:(lo==0)=false:=by simpa using h1
    exact Cf

theorem CH {p:Prop}(h:p:=by
 go_wp2_with fail;refine(E6 x ss gc h.s _ hl hs).mono ?_;rintro e w1 ⟨rfl,rfl⟩;go_wp2;go_ret;exact⟨bD ag,Below.refl _ _⟩):p:=h
theorem ie (x:Int)(q:Nat)(h:Gs)(ss:oA)(gc:Nat)(w:World)(hg:GuAt w q 0 h ss gc)(hs:IntsAt w ss h.s)(hl:h.s.length<=9223372036854775807):
  Calls pG 199 #[I Y x,Pp (sO ⟨q,0,nO⟩)] w λe w'=>e=Rt (Bb (!h.s.contains x))/\bl w w':=by
 obtain⟨⟨g0,g1,g2,g3,g4,g5,g6⟩,gz⟩:=id hg;simp only[z5] at g6;go_enter Tryz.func199,Tryz.ntmps199;exact CH

theorem fR (x:Int)(q:Nat)(h:Gs)(ss:oA)(gc:Nat)(w:World)(hg:GuAt w q 0 h ss gc)(hs:IntsAt w ss h.s)(hl:h.s.length<=9223372036854775807):
  Calls pG 234 #[I Y x,Pp (sO ⟨q,0,nO⟩)] w λe w'=>e=Rt (Bb (h.s.contains x))/\bl w w':=by
 obtain⟨⟨g0,g1,g2,g3,g4,g5,g6⟩,gz⟩:=id hg;simp only[z5] at g6;go_enter Tryz.func234,Tryz.ntmps234;exact CH
theorem Ec (l:List Gs)(p:Gs->Bool)(k:Nat)(h:k < l.length):(l.drop k).any p=(p l[k]||(l.drop (k+1)).any p):=by
 rw[z6 h];rfl

theorem Fo (g:Gs)(ss:oA)(gc:Nat)(w:World):
  Calls pG 246 #[gv g ss gc] w λe w'=>e=Rt (Bb (aO g))/\bl w w':=by
 have HO:Hid (aO g=(g.n||(g.t||(g.f||decide (0 < g.s.length))))):=rfl;generalize aO g=o at *;obtain⟨n,⟨sn,lo,hi⟩,t,f,s⟩:=g;cases n;all_goals cases t
 all_goals cases f
 all_goals
  go_enter Tryz.func246,Tryz.ntmps246;go_wp2;go_ret;exact⟨bD (by rw[HO.out];simp),am⟩

theorem Ct {p:Prop}(h:p:=by
 refine(HF.out L[k] ss gc _).mono ?_;rintro e w1 ⟨rfl,hb1⟩;cases hp:p L[k] with
 |true=>
  have HT:Hid (L.any p=true):=kq;clear HN HA;go_wp2;go_ret;exact lD
 |false=>
  have HT:Hid (L.any p=(L.drop (k+1)).any p):=kq;have hR':=hR.call hb1;clear HN HA;go_wp2;go_roundw
  case rel=>exact⟨k+1,aa,aF,hR',hbr.trans (hb1.mono s0),HT⟩
  case measure=>simp[intOf];omega):p:=h
theorem Ak (p:Gs->Bool)(ls:oA)(L:List Gs)(lc:Nat)(w:World)(hl:L.length<=9223372036854775807)(hL:GhAt w ls L)
  (hF:∀g ss gc wx,Calls pG 246 #[gv g ss gc] wx λe w'=>e=Rt (Bb (p g))/\bl wx w'):
  Calls pG 193 #[U ls L.length lc,.func (.func 246) #[] #[]] w λe w'=>∃n:Int,e=Rt (I Y n)/\decide (0<=n)=L.any p/\bl w w':=by
 have HF:=ah hF;clear hF;go_enter Tryz.func193,Tryz.ntmps193;go_wp2;go_loopw [8] (λi wr=>∃k:Nat,k<=L.length/\i=I Y k/\GhAt wr ls L/\bl w wr/\Hid (L.any p=(L.drop k).any p)) (λi _=>L.length - (intOf i).toNat)
 case atStart=>exact⟨0,z8 _,rfl,hL,bR _ _,rfl⟩
 case round=>
  obtain⟨k,hk,rfl,hR,hbr,HA⟩:=hrel;by_cases hlt:k < L.length
  ·obtain⟨b,off,rfl,ss,gc,hG⟩:=hR k hlt
   obtain⟨⟨g0,g1,g2,g3,g4,g5,g6⟩,gz⟩:=id hG;have n0:=bx;have n1:=gJ;have s0:=hbr.size;have HN:=Gn;go_wp2_with fail;exact Ct
  ·go_wp2
   go_ret;exact ij

theorem s9 (p:Gs->Bool)(ls:oA)(L:List Gs)(lc:Nat)(w:World)(hl:L.length<=9223372036854775807)(hL:GhAt w ls L)
  (hF:∀g ss gc wx,Calls pG 246 #[gv g ss gc] wx λe w'=>e=Rt (Bb (p g))/\bl wx w'):
  Calls pG 141 #[U ls L.length lc,.func (.func 246) #[] #[]] w λe w'=>e=Rt (Bb (L.any p))/\bl w w':=by
 have HF:=ah hF;clear hF;go_enter Tryz.func141,Tryz.ntmps141;go_wp2_with fail;refine(Ak p ls L lc _ hl hL HF.out).mono ?_;rintro e w1 ⟨n,rfl,hn,hb1⟩;go_wp2;go_ret;exact fA

theorem tY (ls:oA)(L:List Gs)(lc:Nat)(w:World)(hl:L.length<=9223372036854775807)(hL:GhAt w ls L):
  Calls pG 232 #[U ls L.length lc] w λe w'=>e=Rt (Bb (L.any aO))/\bl w w':=by
 go_enter Tryz.func232,Tryz.ntmps232;go_wp2_with fail;refine(s9 aO ls L lc _ hl hL λg ss gc wx=>Fo g ss gc wx).mono ?_;rintro e w1 ⟨rfl,hb1⟩;go_wp2;go_ret;exact fA

theorem Cn (g:Gs)(ss:oA)(gc:Nat)(w:World):
  Calls pG 247 #[gv g ss gc] w λe w'=>e=Rt (Bb (an g))/\bl w w':=by
 have HO:Hid (an g=(g.sp.n&& !aO g)):=rfl;have hA:=tY (sO ⟨w.heap.size+1,0,nO⟩) [g] 1;have G0:=GhAt.new1 (w.alloc (Cc #[Bb g.n,Bb g.sp.n,I Y g.sp.lo,I Y g.sp.hi,Bb g.t,Bb g.f,U ss g.s.length gc] 91)) g ss gc;rw[zA] at G0;rw[show [g].any aO=aO g by simp] at hA;have HA:=ah hA;clear hA;generalize aO g=oo at *;generalize an g=o at *;obtain⟨n,⟨sn,lo,hi⟩,t,f,s⟩:=g;cases sn with
 |true=>
  go_enter Tryz.func247,Tryz.ntmps247;go_wp2_with fail;refine(HA.out _ ag G0).mono ?_;rintro e w1 ⟨rfl,hb1⟩;go_wp2;go_ret;exact⟨bD (by rw[HO.out];simp),Below.trans am (hb1.mono ap)⟩
 |false=>
  go_enter Tryz.func247,Tryz.ntmps247;go_wp2;go_ret;exact⟨bD (by rw[HO.out];rfl),am⟩

theorem tu (p:Gs->Bool)(ls:oA)(L:List Gs)(lc:Nat)(w:World)(hl:L.length<=9223372036854775807)(hL:GhAt w ls L)
  (hF:∀g ss gc wx,Calls pG 247 #[gv g ss gc] wx λe w'=>e=Rt (Bb (p g))/\bl wx w'):
  Calls pG 193 #[U ls L.length lc,.func (.func 247) #[] #[]] w λe w'=>∃n:Int,e=Rt (I Y n)/\decide (0<=n)=L.any p/\bl w w':=by
 have HF:=ah hF;clear hF;go_enter Tryz.func193,Tryz.ntmps193;go_wp2;go_loopw [8] (λi wr=>∃k:Nat,k<=L.length/\i=I Y k/\GhAt wr ls L/\bl w wr/\Hid (L.any p=(L.drop k).any p)) (λi _=>L.length - (intOf i).toNat)
 case atStart=>exact⟨0,z8 _,rfl,hL,bR _ _,rfl⟩
 case round=>
  obtain⟨k,hk,rfl,hR,hbr,HA⟩:=hrel;by_cases hlt:k < L.length
  ·obtain⟨b,off,rfl,ss,gc,hG⟩:=hR k hlt
   obtain⟨⟨g0,g1,g2,g3,g4,g5,g6⟩,gz⟩:=id hG;have n0:=bx;have n1:=gJ;have s0:=hbr.size;have HN:=Gn;go_wp2_with fail;exact Ct
  ·go_wp2
   go_ret;exact ij

theorem oK (p:Gs->Bool)(ls:oA)(L:List Gs)(lc:Nat)(w:World)(hl:L.length<=9223372036854775807)(hL:GhAt w ls L)
  (hF:∀g ss gc wx,Calls pG 247 #[gv g ss gc] wx λe w'=>e=Rt (Bb (p g))/\bl wx w'):
  Calls pG 141 #[U ls L.length lc,.func (.func 247) #[] #[]] w λe w'=>e=Rt (Bb (L.any p))/\bl w w':=by
 have HF:=ah hF;clear hF;go_enter Tryz.func141,Tryz.ntmps141;go_wp2_with fail;refine(tu p ls L lc _ hl hL HF.out).mono ?_;rintro e w1 ⟨n,rfl,hn,hb1⟩;go_wp2;go_ret;exact fA

theorem oV (ls:oA)(L:List Gs)(lc:Nat)(w:World)(hl:L.length<=9223372036854775807)(hL:GhAt w ls L):
  Calls pG 233 #[U ls L.length lc] w λe w'=>e=Rt (Bb (L.any an))/\bl w w':=by
 go_enter Tryz.func233,Tryz.ntmps233;go_wp2_with fail;refine(oK an ls L lc _ hl hL λg ss gc wx=>Cn g ss gc wx).mono ?_;rintro e w1 ⟨rfl,hb1⟩;go_wp2;go_ret;exact fA

theorem vQ (ls:oA)(L:List Gs)(lc:Nat)(w:World)(hl:L.length<=9223372036854775807)(hL:GhAt w ls L):
  Calls pG 203 #[U ls L.length lc] w λe w'=>e=Rt (Bb (L.any aO&& !L.any an))/\bl w w':=by
 have H1:=ah (tY ls L lc w hl hL);cases ho:L.any aO with
 |true=>
  rw[ho] at H1;go_enter Tryz.func203,Tryz.ntmps203;go_wp2_with fail;refine H1.out.mono ?_;rintro e w1 ⟨rfl,hb1⟩;go_wp2_with fail;refine(oV ls L lc _ hl (hL.call hb1)).mono ?_;rintro e w2 ⟨rfl,hb2⟩;go_wp2;go_ret;exact⟨rfl,hb1.trans (hb2.mono hb1.size)⟩
 |false=>
  rw[ho] at H1;go_enter Tryz.func203,Tryz.ntmps203;go_wp2_with fail;refine H1.out.mono ?_;rintro e w1 ⟨rfl,hb1⟩;go_wp2;go_ret;exact fA

theorem Uj (s t:Sp)(w:World):
  Calls pG 205 #[sv s,sv t] w λe w'=>e=Rt (Tu #[Bb (!(s.n||t.n)&&decide (s.lo < t.hi)),Bb (!(s.n||t.n)&&decide (t.lo<=s.hi))])/\bl w w':=by
 obtain⟨sn,lo,hi⟩:=s;obtain⟨tn,lo',hi'⟩:=t;cases sn with
 |true=>
  go_enter Tryz.func205,Tryz.ntmps205;go_wp2
  go_ret2
  exact cY
 |false=>
  cases tn with
  |true=>
   go_enter Tryz.func205,Tryz.ntmps205;go_wp2
   go_ret2
   exact cY
  |false=>
   go_enter Tryz.func205,Tryz.ntmps205;go_wp2
   go_quiet (fail)
   go_wp2
   go_ret2
   exact⟨mR ag ag,below_drewN am _⟩

theorem mi (y n:Bool)(w:World):
  Calls pG 204 #[Bb y,Bb n] w λe w'=>e=Rt (gv ⟨false,⟨true,0,0⟩,y,n,[]⟩ nO 0)/\bl w w':=by
 go_enter Tryz.func204,Tryz.ntmps204;go_wp2
 go_returns
 exact cY
end
section
theorem oF:∀{l:List Int},dg l=true->l.Pairwise (· < ·)
 |[],_=>x8.nil
 |[a],_=>Z8 _ _
 |a::b::r,h=>by
  unfold dg at h;rw[j8,decide_eq_true_eq] at h;have ih:=oF h.2;rw[x3];refine⟨λx hx=> ?_,ih⟩;rcases j5.1 hx with rfl|hx
  ·exact h.1
  ·have:=(x3.1 ih).1 x hx
   omega
theorem ix:∀{a b:List Int},a.Pairwise (· < ·)->b.Pairwise (· < ·)->(∀x∈a,x∈b)->a.length<=b.length/\(a.length=b.length->a=b)
 |[],b,_,_,_=>⟨z8 _,λh=>(X6.1 h.symm).symm⟩
 |x::r,[],_,_,h=>absurd (h x ag) ag
 |x::r,y::q,ha,hb,h=>by
  obtain⟨a1,a2⟩:=x3.1 ha;obtain⟨b1,b2⟩:=x3.1 hb;by_cases e:x=y
  ·subst e
   have hs:∀z∈r,z∈q:=λz hz=>by
    rcases j5.1 (h z (by simp[hz])) with rfl|hq
    ·exact absurd (a1 z hz) aa
    ·exact hq
   obtain⟨h1,h2⟩:=ix a2 b2 hs;refine⟨by simp only[z3];omega,λhl=> ?_⟩;rw[h2 (by simpa using hl)]
  ·have hyx:y < x:=by
    rcases j5.1 (h x ag) with rfl|hq
    ·exact absurd rfl e
    ·exact b1 x hq
   have hs:∀z∈x::r,z∈q:=λz hz=>by
    rcases j5.1 (h z hz) with rfl|hq
    ·rcases j5.1 hz with rfl|hz
     ·exact absurd rfl e
     ·exact absurd (a1 z hz) aa
    ·exact hq
   obtain⟨h1,h2⟩:=ix ha b2 hs;simp only[z3] at h1 |-;exact⟨aa,λhl=>aa⟩
theorem LK {a b:List Int}(ha:a.Pairwise (· < ·))(hb:b.Pairwise (· < ·))(h:∀x,x∈a↔x∈b):a=b:=by
 obtain⟨h1,h2⟩:=ix ha hb λx hx=>(h x).1 hx;obtain⟨h3,_⟩:=ix hb ha λx hx=>(h x).2 hx;exact h2 aa
theorem R9 {s t:Sp}(hs:s.Ok)(ht:t.Ok)(h:fH t s=true):bi s t=s:=by
 obtain⟨_,_,s5,s6⟩:=hs;obtain⟨_,_,t5,t6⟩:=ht;rw[eR t6] at h;unfold bi;obtain⟨sn,slo,shi⟩:=s;obtain⟨tn,tlo,thi⟩:=t;simp only at h s5 t5 s6 t6 |-;rcases h with h|⟨h1,h2,h3⟩
 ·subst h
  obtain⟨rfl,rfl⟩:=t5 rfl;cases sn with
  |true=>obtain⟨rfl,rfl⟩:=s5 rfl;rfl
  |false=>rfl
 ·subst h1
  cases tn with
  |true=>rfl
  |false=>
   simp only[j2,if_false,Sp.mk.injEq,true_and];omega
theorem Ps {s t:Sp}(hs:s.Ok)(ht:t.Ok)(h:fH t s=true):bo s t=s:=by
 obtain⟨_,_,s5,s6⟩:=hs;obtain⟨_,_,t5,t6⟩:=ht;rw[eR t6] at h;unfold bo;obtain⟨sn,slo,shi⟩:=s;obtain⟨tn,tlo,thi⟩:=t;simp only at h s5 t5 s6 t6 |-;rcases h with h|⟨h1,h2,h3⟩
 ·subst h
  obtain⟨rfl,rfl⟩:=t5 rfl;cases sn with
  |true=>obtain⟨rfl,rfl⟩:=s5 rfl;rfl
  |false=>rfl
 ·subst h1
  cases tn with
  |true=>rfl
  |false=>
   simp only[j2,if_false,Sp.mk.injEq,true_and];rw[if_neg aa,if_neg aa];exact ia
section
variable {c:lI} {g h k:Gs} {w:Bool}
theorem nQ (hg:aE c g=0):g.s.Pairwise (· < ·):=oF (ckGs_iff.1 hg).2.2
theorem BH (hg:aE c g=0):dp g g=true:=by
 rw[inGs_iff,eR (oR hg)];refine⟨id,id,id,?_,λ_ h=>h⟩;cases g.sp.n
 ·exact .inr ⟨rfl,aa,aa⟩
 ·exact .inl rfl
theorem AF (hg:aE c g=0)(hh:aE c h=0)(h1:dp g h=true)(h2:dp h k=true):dp g k=true:=by
 rw[inGs_iff,eR (oR hg)] at h1;rw[inGs_iff,eR (oR hh)] at h2;rw[inGs_iff,eR (oR hg)];obtain⟨a1,a2,a3,a4,a5⟩:=h1;obtain⟨b1,b2,b3,b4,b5⟩:=h2;refine⟨λe=>b1 (a1 e),λe=>b2 (a2 e),λe=>b3 (a3 e),?_,λx hx=>b5 x (a5 x hx)⟩;rcases a4 with a4|⟨a4,a6,a7⟩
 ·exact .inl a4
 ·rcases b4 with b4|⟨b4,b6,b7⟩
  ·rw[a4] at b4;cases b4
  ·exact .inr ⟨b4,aa,aa⟩
theorem vJ (h60:c.length<=60)(hg:aE c g=0)(hh:aE c h=0)(hi:dp h g=true):aj w g h=g:=by
 obtain⟨a1,a2,a3,a4,a5⟩:=inGs_iff.1 hi;have og:=(ckGs_iff.1 hg).1;have oh:=(ckGs_iff.1 hh).1;have e1:(if w then bo g.sp h.sp else bi g.sp h.sp)=g.sp:=by
  cases w
  ·exact R9 og oh a4
  ·exact Ps og oh a4
 have e2:iu g.s h.s=g.s:=by
  refine LK (un _ _) (nQ hg) λx=> ?_;rw[mem_siteSet];constructor
  ·rintro ⟨_,hx|hx⟩
   ·exact hx
   ·exact a5 x hx
  ·intro hx
   have:=dH ((ckGs_iff.1 hg).2.1 x hx);exact⟨⟨this.1,aa⟩,.inl hx⟩
 unfold aj;rw[e1,e2];obtain⟨gn,gsp,gt,gf,gs⟩:=g;obtain⟨hn,hsp,ht,hf,hs⟩:=h;simp only at a1 a2 a3 |-;cases gn<;>cases hn<;>cases gt<;>cases ht<;>cases gf<;>cases hf<;>simp_all
end
def tW (s:Sp):Nat:=if s.n then 8589934592 else(s.lo+2147483648).toNat+(2147483647 - s.hi).toNat
def ma (g:Gs):Nat:=b2n (!g.n)+b2n (!g.t)+b2n (!g.f)+(60 - g.s.length)+tW g.sp
def tT (l:List Gs):Nat:=(l.map ma).sum
def SQ (l:List (List Gs)):Nat:=(l.map tT).sum
def iJ (x:Pic):Nat:=if x.none then 2000000000000 else tT x.vq+SQ x.fq
def iR (l:List Pic):Nat:=(l.map iJ).sum
theorem VS {s t:Sp}(hs:s.Ok)(ht:t.Ok)(h:fH s t=true):tW t<=tW s/\(tW t=tW s->s=t):=by
 obtain⟨⟨s1,s2⟩,⟨s3,s4⟩,s5,s6⟩:=hs;obtain⟨⟨t1,t2⟩,⟨t3,t4⟩,t5,t6⟩:=ht;rw[eR s6] at h;unfold tW;obtain⟨sn,slo,shi⟩:=s;obtain⟨tn,tlo,thi⟩:=t;simp only at h s1 s2 s3 s4 s5 s6 t1 t2 t3 t4 t5 t6 |-;rcases h with h|⟨h1,h2,h3⟩
 ·subst h
  obtain⟨rfl,rfl⟩:=s5 rfl;cases tn with
  |true=>obtain⟨rfl,rfl⟩:=t5 rfl;simp
  |false=>
   simp only[j2,if_false,if_true];exact⟨aa,λe=>aa⟩
 ·subst h1
  cases sn with
  |true=>
   simp only[j2,if_false,if_true];exact⟨aa,λe=>aa⟩
  |false=>
   simp only[j2,if_false,Sp.mk.injEq,true_and];exact⟨aa,λe=>aa⟩
theorem DT {a b:Bool}(h:a=true->b=true):b2n (!b)<=b2n (!a)/\(b2n (!b)=b2n (!a)->a=b):=by
 cases a<;>cases b<;>simp_all[b2n]
theorem Ng {c:lI}{g h:Gs}(h60:c.length<=60)(hg:aE c g=0)(hh:aE c h=0)(hi:dp g h=true):ma h<=ma g/\(ma h=ma g->g=h):=by
 obtain⟨a1,a2,a3,a4,a5⟩:=inGs_iff.1 hi;obtain⟨b1,b1'⟩:=DT a1;obtain⟨b2,b2'⟩:=DT a2;obtain⟨b3,b3'⟩:=DT a3;obtain⟨b4,b4'⟩:=VS (ckGs_iff.1 hg).1 (ckGs_iff.1 hh).1 a4;obtain⟨b5,b5'⟩:=ix (nQ hg) (nQ hh) a5;have h6:h.s.length<=60:=by
  have hp:=nQ hh;have hr:∀x∈h.s,x∈((j1 60).map λn:Nat=>(n:Int)):=λx hx=>by
   have:=dH ((ckGs_iff.1 hh).2.1 x hx);rw[x2];exact⟨x.toNat,by rw[X0];omega,aa⟩
  have h7:=(ix hp (b:=(j1 60).map λn:Nat=>(n:Int)) (by rw[Q1];exact X2.imp λh=>by omega) hr).1;simpa using h7
 unfold ma;refine⟨by omega,λe=> ?_⟩;have e1:=b1' aa;have e2:=b2' aa;have e3:=b3' aa;have e4:=b4' aa;have e5:=b5' aa;obtain⟨gn,gsp,gt,gf,gs⟩:=g;obtain⟨hn,hsp,ht,hf,hs⟩:=h;simp only at e1 e2 e3 e4 e5;rw[e1,e2,e3,e4,e5]
theorem BO {α:Type}(f:α->Nat):∀{a b:List α},a.length=b.length->(∀i (h1:i < a.length) (h2:i < b.length),f b[i]<=f a[i]/\(f b[i]=f a[i]->a[i]=b[i]))->(b.map f).sum<=(a.map f).sum/\((b.map f).sum=(a.map f).sum->a=b)
 |[],[],_,_=>⟨lR _,λ_=>rfl⟩
 |[],_::_,h,_=>by simp at h
 |_::_,[],h,_=>by simp at h
 |x::a,y::b,hl,h=>by
  obtain⟨h1,h2⟩:=BO f (a:=a) (b:=b) (by simpa using hl) λi k1 k2=>by
   have:=h (i+1) ap ap;simpa using this
  have h0:=h 0 ag ag;simp only[J8] at h0;simp only[J1,J2];refine⟨by omega,λe=> ?_⟩;rw[h0.2 aa,h2 aa]
theorem ub {α:Type}(f:α->Nat)(m:Nat):∀{a:List α},(∀x∈a,f x<=m)->(a.map f).sum<=a.length * m
 |[],_=>ag
 |x::a,h=>by
  have:=ub f m (a:=a) λy hy=>h y (by simp[hy]);have:=h x ag;simp only[J1,J2,z3,Nat.add_mul];omega
theorem Nt {α:Type}(f:α->Nat):∀{a:List α} {k:Nat} {y:α} (hk:k < a.length),f y < f a[k]->((a.set k y).map f).sum < (a.map f).sum
 |[],_,_,hk,_=>absurd hk ag
 |x::a,0,y,_,h=>by simp only[J8] at h;simp only[Z3,J1,J2];omega
 |x::a,k+1,y,hk,h=>by
  have:=Nt f (a:=a) (k:=k) (y:=y) it cq;simp only[Z4,J1,J2];omega
theorem UT {s:Sp}(h:s.Ok):tW s<=8589934592:=by
 obtain⟨⟨s1,s2⟩,⟨s3,s4⟩,s5,s6⟩:=h;unfold tW;split<;>omega
theorem H8 (b:Bool):b2n b<=1:=by cases b<;>decide
theorem Np {c:lI}{g:Gs}(h:aE c g=0):ma g<=8600000000:=by
 have:=UT (ckGs_iff.1 h).1;have:=H8 (!g.n);have:=H8 (!g.t);have:=H8 (!g.f);unfold ma;omega
section
variable {V F:Int} {c:lI} {x y z:Pic} {w:Bool}
theorem EK (h0:au V F c=0)(hx:PicOk V F c x):iJ x < 2000000000000:=by
 have hp:=dB h0;have h1:=hp.v8;have h2:=hp.f3;have h3:=hp.len;have a1:=hx.vq;have a2:=hx.fq;obtain⟨G,hG⟩:∃G:Nat,G=8600000000:=⟨_,rfl⟩;have b1:tT x.vq<=x.vq.length * G:=ub ma G λg hg=>by rw[hG];exact Np (hx.gv g hg)
 have b2:∀r∈x.fq,tT r<=3 * G:=λr hr=>by
  obtain⟨k,hk,rfl⟩:=J0 hr;have q:tT x.fq[k]<=x.fq[k].length * G:=ub ma G λg hg=>by rw[hG];exact Np (hx.gf k hk g hg)
  have:=hx.row k hk;have h8:x.fq[k].length<=3:=aa;exact lT q (J3 _ h8)
 have b3:SQ x.fq<=x.fq.length * (3 * G):=ub tT _ b2;have h4:x.vq.length<=8:=aa;have h5:x.fq.length<=60:=aa;have h6:x.vq.length * G<=8 * G:=J3 _ h4;have h7:x.fq.length * (3 * G)<=60 * (3 * G):=J3 _ h5;unfold iJ;rw[if_neg (by rw[hx.none];decide)];omega
theorem Mx (h0:au V F c=0)(hx:aM V F c x=0):iJ x<=2000000000000:=by
 cases hn:x.none with
 |true=>unfold iJ;rw[if_pos hn];exact lR _
 |false=>exact Nat.le_of_lt (EK h0 (cy hx hn))
theorem By (hx:aM V F c x=0):bI x x=true:=by
 cases hn:x.none with
 |true=>simp[bI,hn]
 |false=>
  have kx:=cy hx hn;rw[fU hn hn];exact⟨λi h1 _=>BH (kx.gv _ (gM _)),λk h1 _ i h3 _=>BH (kx.gf k h1 _ (gM _))⟩
theorem mu {x y:Pic}(h:bI x y=true)(hn:x.none=false):y.none=false:=by
 cases e:y.none with
 |false=>rfl
 |true=>simp[bI,e,hn] at h
theorem lN (hx:aM V F c x=0)(hy:aM V F c y=0)(hz:aM V F c z=0)(h1:bI x y=true)(h2:bI y z=true):bI x z=true:=by
 cases hn:x.none with
 |true=>simp[bI,hn]
 |false=>
  have hm:=mu h1 hn;have ho:=mu h2 hm;have kx:=cy hx hn;have ky:=cy hy hm;have kz:=cy hz ho;have:=kx.vq;have:=ky.vq;have:=kz.vq;have:=kx.fq;have:=ky.fq;have:=kz.fq;obtain⟨a1,a2⟩:=(fU hn hm).1 h1;obtain⟨b1,b2⟩:=(fU hm ho).1 h2;rw[fU hn ho];refine⟨λi p q=> ?_,λk p q i r s=> ?_⟩
  ·have hy':i < y.vq.length:=by omega
   exact AF (kx.gv _ (gM p)) (ky.gv _ (gM hy')) (a1 i p hy') (b1 i hy' q)
  ·have hy':k < y.fq.length:=by omega
   have:=kx.row k p;have:=ky.row k hy';have hi':i < y.fq[k].length:=aa;exact AF (kx.gf k p _ (gM r)) (ky.gf k hy' _ (gM hi')) (a2 k p hy' i r hi') (b2 k hy' q i hi' s)
theorem Kt (h0:au V F c=0)(hx:aM V F c x=0)(hy:aM V F c y=0)(hi:bI y x=true):aH (aj w) x y=x:=by
 have h60:c.length<=60:=(dB h0).len;unfold aH;cases hm:y.none with
 |true=>
  have ey:=(mA hm).1 hy;subst ey;cases hn:x.none with
  |true=>rw[(mA hn).1 hx];rfl
  |false=>rfl
 |false=>
  have hn:=mu hi hm;rw[hn];simp only[j2,if_false];have kx:=cy hx hn;have ky:=cy hy hm;have:=kx.vq;have:=ky.vq;have:=kx.fq;have:=ky.fq;obtain⟨a1,a2⟩:=(fU hm hn).1 hi;have v1:=kx.vq;have v2:=kx.fq;obtain⟨xn,xv,xf⟩:=x;simp only at hn v1 v2;subst hn;simp only[Pic.mk.injEq,true_and];constructor
  ·refine Q8 (by simp only[aP,j4];omega) λi p q=> ?_
   simp only[aP,j9];exact vJ h60 (kx.gv _ (gM _)) (ky.gv _ (gM _)) (a1 i _ _)
  ·refine Q8 (by simp only[j4];omega) λk p q=> ?_
   have hk:k < y.fq.length:=aa;have r1:=kx.row k q;have r2:=ky.row k hk;simp only[j9];refine Q8 (by simp only[aP,j4];simp only at r1;omega) λi r s=> ?_;simp only[aP,j9];exact vJ h60 (kx.gf k q _ (gM _)) (ky.gf k hk _ (gM _)) (a2 k hk q i _ _)
theorem oa (h0:au V F c=0)(hx:aM V F c x=0)(hy:aM V F c y=0):aH (aj w) x y=x↔bI y x=true:=by
 constructor
 ·intro h
  have:=(pS (w:=w) (dB h0).len hx hy).2;rw[h] at this;exact this
 ·exact Kt h0 hx hy
theorem VY (h0:au V F c=0)(hx:aM V F c x=0)(hy:aM V F c y=0)(hi:bI x y=true):iJ y<=iJ x/\(iJ y=iJ x->x=y):=by
 have h60:c.length<=60:=(dB h0).len;cases hn:x.none with
 |true=>
  have ex:=(mA hn).1 hx;refine⟨by have:=Mx h0 hy;unfold iJ at this |-;rw[if_pos hn];exact this,λe=> ?_⟩;cases hm:y.none with
  |true=>rw[ex,(mA hm).1 hy]
  |false=>
   have:=EK h0 (cy hy hm);rw[e] at this;unfold iJ at this;rw[if_pos hn] at this;omega
 |false=>
  have hm:=mu hi hn;have kx:=cy hx hn;have ky:=cy hy hm;have:=kx.vq;have:=ky.vq;have:=kx.fq;have:=ky.fq;obtain⟨a1,a2⟩:=(fU hn hm).1 hi;have b1:=BO ma (a:=x.vq) (b:=y.vq) aa λi p q=>Ng h60 (kx.gv _ (gM _)) (ky.gv _ (gM _)) (a1 i p q);have b2:=BO tT (a:=x.fq) (b:=y.fq) aa λk p q=>by
   have:=kx.row k p;have:=ky.row k q;exact BO ma aa λi r s=>Ng h60 (kx.gf k p _ (gM _)) (ky.gf k q _ (gM _)) (a2 k p q i r s)
  unfold iJ tT SQ;rw[if_neg (by rw[hm];decide),if_neg uD];refine⟨by omega,λe=> ?_⟩;have e1:=b1.2 aa;have e2:=b2.2 aa;obtain⟨xn,xv,xf⟩:=x;obtain⟨yn,yv,yf⟩:=y;simp only at hn hm e1 e2;rw[hn,hm,e1,e2]
theorem Sn (h0:au V F c=0)(hx:aM V F c x=0)(hy:aM V F c y=0)(hi:bI y x=false):iJ (aH (aj w) x y) < iJ x:=by
 have hj:=Bt (w:=w) hx hy;have h1:=VY h0 hx hj (pS (w:=w) (dB h0).len hx hy).1;have h2:aH (aj w) x y≠x:=λe=>by rw[(oa h0 hx hy).1 e] at hi;cases hi
 rcases Nat.lt_or_eq_of_le h1.1 with h|h
 ·exact h
 ·exact absurd (h1.2 h).symm h2
end
def bj (l:List Pic)(p:Int):Pic:=l.getD p.toNat nonePic
def du (n i tto:Int):Bool:=decide (4<=n)&&decide (tto<=i)
def bV (n i:Int)(s:List Pic×Bool)(e:Edg):List Pic×Bool:=
 if bI e.pic (bj s.1 e.tgt) then s else(s.1.set e.tgt.toNat (aH (aj (du n i e.tgt)) (bj s.1 e.tgt) e.pic),true)
def cW (c:lI)(i:Nat)(x:Pic):List Edg:=(aA (bL c i) i x).1
def dF (c:lI)(n:Int)(s:List Pic×Bool)(i:Nat):List Pic×Bool:=(cW c i (bj s.1 i)).foldl (bV n i) s
def dt (c:lI)(n:Int)(l:List Pic):List Pic×Bool:=(j1 c.length).foldl (dF c n) (l,false)
def cM (n i:Int)(s:List Pic×List Int×Bool)(e:Edg):List Pic×List Int×Bool:=
 if bI e.pic (bj s.1 e.tgt) then s else(s.1.set e.tgt.toNat (aH (aj (du n i e.tgt)) (bj s.1 e.tgt) e.pic),s.2.1.set e.tgt.toNat (if i < e.tgt then n else n+1),true)
def iA (c:lI)(n:Int)(s:List Pic×List Int×Bool)(i:Nat):List Pic×List Int×Bool:=if s.2.1.getD i 0=n then(cW c i (bj s.1 i)).foldl (cM n i) s else s
def fQ (c:lI)(n:Int)(s:List Pic×List Int):List Pic×List Int×Bool:=(j1 c.length).foldl (iA c n) (s.1,s.2,false)

structure XsOk (V F:Int) (c:lI) (l:List Pic):Prop where
 len:l.length=c.length+1
 ck:∀x∈l,aM V F c x=0
def gx (c:lI)(l:List Pic)(i:Nat):Prop:=∀e∈cW c i (bj l i),bI e.pic (bj l e.tgt)=true
def LeX (l l':List Pic):Prop:=l'.length=l.length/\∀p:Int,bI (bj l p) (bj l' p)=true
section
variable {V F:Int} {c:lI} {l l' l2:List Pic} {n:Int}
theorem il {k:Nat}(h:k < l.length):bj l (k:Int)=l[k]:=by unfold bj;simp[j3,h]
theorem XsOk.at (h:XsOk V F c l)(p:Int):aM V F c (bj l p)=0:=by
 unfold bj;by_cases hp:p.toNat < l.length
 ·simp only[j3,z4 hp,Q5]
  exact h.ck _ (gM hp)
 ·simp only[j3,x5 (x4.1 hp),Q6]
  rfl
theorem LeX.refl (h:XsOk V F c l):LeX l l:=⟨rfl,λp=>By (h.at p)⟩
theorem LeX.trans (h:XsOk V F c l)(h':XsOk V F c l')(h2:XsOk V F c l2)(a:LeX l l')(b:LeX l' l2):LeX l l2:=⟨by rw[b.1,a.1],λp=>lN (h.at p) (h'.at p) (h2.at p) (a.2 p) (b.2 p)⟩
theorem nS {p:Int}{q:Nat}{y:Pic}:bj (l.set q y) p=if q=p.toNat/\q < l.length then y else bj l p:=by
 unfold bj;simp only[j3,X8];by_cases h:q=p.toNat
 ·by_cases hq:q < l.length
  ·rw[if_pos h,if_pos hq,if_pos ⟨h,hq⟩];rfl
  ·have hq':¬p.toNat < l.length:=by omega
   rw[if_pos h,if_neg hq,if_neg aa,x5 aa]
 ·rw[if_neg h,if_neg aa]
def iQ (V F:Int)(c:lI)(e:Edg):Prop:=aM V F c e.pic=0/\0<=e.tgt/\e.tgt<=c.length
theorem kJ (h0:au V F c=0){x:Pic}(hx:aM V F c x=0){i:Nat}(hi:i < c.length):∀e∈cW c i x,iQ V F c e:=λe he=>by
 have:=NR (dB h0) hx (p:=(i:Int)) aa aa e he;exact⟨this.1,this.2.2.1,this.2.2.2⟩
theorem XsOk.put (h:XsOk V F c l){y:Pic}(hy:aM V F c y=0)(q:Nat):XsOk V F c (l.set q y):=⟨by rw[q0];exact h.len,λx hx=>by
 rcases x7 hx with hx|rfl
 ·exact h.ck x hx
 ·exact hy⟩
theorem rH (h0:au V F c=0){s:List Pic×Bool}{i:Int}{e:Edg}(h:XsOk V F c s.1)(he:iQ V F c e):
  XsOk V F c (bV n i s e).1/\LeX s.1 (bV n i s e).1/\bI e.pic (bj (bV n i s e).1 e.tgt)=true/\((bV n i s e).2=false->s.2=false/\(bV n i s e).1=s.1)/\((bV n i s e).1=s.1/\(bV n i s e).2=s.2\/(bV n i s e).2=true/\iR (bV n i s e).1 < iR s.1):=by
 unfold bV;by_cases hi:bI e.pic (bj s.1 e.tgt)=true
 ·rw[if_pos hi]
  exact⟨h,LeX.refl h,hi,λhf=>⟨hf,rfl⟩,.inl ⟨rfl,rfl⟩⟩
 ·rw[if_neg hi]
  have hi':bI e.pic (bj s.1 e.tgt)=false:=fK;have hc:=h.at e.tgt;have hj:=Bt (w:=du n i e.tgt) hc he.1;have hin:=pS (w:=du n i e.tgt) (dB h0).len hc he.1;have hl:=h.len;have hq:e.tgt.toNat < s.1.length:=by have:=he.2;omega
  refine⟨h.put hj _,⟨ag,λp=> ?_⟩,?_,(λhf=>by cases hf),.inr ⟨rfl,?_⟩⟩
  ·rw[nS]
   split
   ·rename_i hp
    have:bj s.1 p=bj s.1 e.tgt:=by unfold bj;rw[hp.1]
    rw[this];exact hin.1
   ·exact By (h.at p)
  ·rw[nS,if_pos ⟨rfl,hq⟩]
   exact hin.2
  ·have hp:=Sn (w:=du n i e.tgt) h0 hc he.1 hi'
   have e1:bj s.1 e.tgt=s.1[e.tgt.toNat]:=by unfold bj;simp[j3,hq]
   refine Nt iJ hq ?_;rw[e1] at hp |-;exact hp
theorem Gd (h0:au V F c=0)(h:XsOk V F c l)(h':XsOk V F c l')(hl:LeX l l'){i:Nat}(hi:i < c.length)(hs:gx c l i)(e:bj l' i=bj l i):gx c l' i:=by
 intro q hq;rw[e] at hq;exact lN (kJ h0 (h.at _) hi q hq).1 (h.at _) (h'.at _) (hs q hq) (hl.2 _)
theorem ud (h0:au V F c=0){i:Int}:∀{E:List Edg} {s:List Pic×Bool},XsOk V F c s.1->(∀e∈E,iQ V F c e)->
  XsOk V F c (E.foldl (bV n i) s).1/\LeX s.1 (E.foldl (bV n i) s).1/\(∀e∈E,bI e.pic (bj (E.foldl (bV n i) s).1 e.tgt)=true)/\((E.foldl (bV n i) s).2=false->s.2=false/\(E.foldl (bV n i) s).1=s.1)/\((E.foldl (bV n i) s).1=s.1/\(E.foldl (bV n i) s).2=s.2\/(E.foldl (bV n i) s).2=true/\iR (E.foldl (bV n i) s).1 < iR s.1)
 |[],s,h,_=>⟨h,LeX.refl h,λe he=>by simp at he,λhf=>⟨hf,rfl⟩,.inl ⟨rfl,rfl⟩⟩
 |e::E,s,h,hE=>by
  have he:=hE e ag;obtain⟨a1,a2,a3,a4,a5⟩:=rH (n:=n) (i:=i) h0 h he;obtain⟨b1,b2,b3,b4,b5⟩:=ud h0 (i:=i) (E:=E) a1 λq hq=>hE q (by simp[hq]);rw[z7];refine⟨b1,LeX.trans h a1 b1 a2 b2,λq hq=> ?_,λhf=> ?_,?_⟩
  ·rcases j5.1 hq with rfl|hq
   ·exact lN he.1 (a1.at _) (b1.at _) a3 (b2.2 _)
   ·exact b3 q hq
  ·obtain⟨c1,c2⟩:=b4 hf
   obtain⟨d1,d2⟩:=a4 c1;exact⟨d1,by rw[c2,d2]⟩
  ·rcases b5 with⟨c1,c2⟩|⟨c1,c2⟩
   ·rcases a5 with⟨d1,d2⟩|⟨d1,d2⟩
    ·exact .inl ⟨by rw[c1,d1],by rw[c2,d2]⟩
    ·exact .inr ⟨by rw[c2,d1],by rw[c1];exact d2⟩
   ·rcases a5 with⟨d1,d2⟩|⟨d1,d2⟩
    ·exact .inr ⟨c1,by rw[<-d1];exact c2⟩
    ·exact .inr ⟨c1,Nat.lt_trans c2 d2⟩
theorem Oa (h0:au V F c=0){s:List Pic×Bool}(h:XsOk V F c s.1){i:Nat}(hi:i < c.length):
  XsOk V F c (dF c n s i).1/\LeX s.1 (dF c n s i).1/\((dF c n s i).2=false->s.2=false/\(dF c n s i).1=s.1/\gx c s.1 i)/\((dF c n s i).1=s.1/\(dF c n s i).2=s.2\/(dF c n s i).2=true/\iR (dF c n s i).1 < iR s.1):=by
 obtain⟨a1,a2,a3,a4,a5⟩:=ud (n:=n) (i:=(i:Int)) h0 h (kJ h0 (h.at _) hi);refine⟨a1,a2,λhf=> ?_,a5⟩;obtain⟨b1,b2⟩:=a4 hf;exact⟨b1,b2,λe he=>by have:=a3 e he;rw[b2] at this;exact this⟩
theorem tm (h0:au V F c=0):∀{k:Nat},k<=c.length->∀{s:List Pic×Bool},XsOk V F c s.1->
  XsOk V F c ((j1 k).foldl (dF c n) s).1/\LeX s.1 ((j1 k).foldl (dF c n) s).1/\(((j1 k).foldl (dF c n) s).2=false->s.2=false/\((j1 k).foldl (dF c n) s).1=s.1/\∀i,i < k->gx c s.1 i)/\(((j1 k).foldl (dF c n) s).1=s.1/\((j1 k).foldl (dF c n) s).2=s.2\/((j1 k).foldl (dF c n) s).2=true/\iR ((j1 k).foldl (dF c n) s).1 < iR s.1)
 |0,_,s,h=>⟨h,LeX.refl h,λhf=>⟨hf,rfl,λi hi=>absurd hi aa⟩,.inl ⟨rfl,rfl⟩⟩
 |k+1,hk,s,h=>by
  rw[X9,Q9,z7,Z0];obtain⟨a1,a2,a3,a4⟩:=tm h0 (k:=k) aa h;obtain⟨b1,b2,b3,b4⟩:=Oa (n:=n) h0 a1 (i:=k) aa;refine⟨b1,LeX.trans h a1 b1 a2 b2,λhf=> ?_,?_⟩
  ·obtain⟨c1,c2,c3⟩:=b3 hf
   obtain⟨d1,d2,d3⟩:=a3 c1;refine⟨d1,by rw[c2,d2],λi hi=> ?_⟩;by_cases e:i=k
   ·rw[e];rw[d2] at c3;exact c3
   ·exact d3 i aa
  ·rcases b4 with⟨c1,c2⟩|⟨c1,c2⟩
   ·rcases a4 with⟨d1,d2⟩|⟨d1,d2⟩
    ·exact .inl ⟨by rw[c1,d1],by rw[c2,d2]⟩
    ·exact .inr ⟨by rw[c2,d1],by rw[c1];exact d2⟩
   ·rcases a4 with⟨d1,d2⟩|⟨d1,d2⟩
    ·exact .inr ⟨c1,by rw[<-d1];exact c2⟩
    ·exact .inr ⟨c1,Nat.lt_trans c2 d2⟩
theorem lM (h0:au V F c=0)(h:XsOk V F c l):
  XsOk V F c (dt c n l).1/\LeX l (dt c n l).1/\((dt c n l).2=false->(dt c n l).1=l/\∀i,i < c.length->gx c l i)/\((dt c n l).2=true->iR (dt c n l).1 < iR l):=by
 obtain⟨a1,a2,a3,a4⟩:=tm (n:=n) h0 (lR c.length) (s:=(l,false)) h;refine⟨a1,a2,λhf=>(a3 hf).2,λht=> ?_⟩;rcases a4 with⟨_,b⟩|⟨_,b⟩
 ·unfold dt at ht
  rw[b] at ht;cases ht
 ·exact b

structure Due (V F:Int) (c:lI) (n:Int) (i:Nat) (l:List Pic) (d:List Int):Prop where
 ok:XsOk V F c l
 len:d.length=c.length+1
 set:∀k,k < c.length->(if k < i then d.getD k 0≠n+1 else d.getD k 0≠n)->gx c l k
theorem EI {d:List Int}{q k:Nat}{y:Int}(hq:q < d.length):(d.set q y).getD k 0=if q=k then y else d.getD k 0:=by
 simp only[j3,X8];by_cases h:q=k
 ·rw[if_pos h,if_pos hq,if_pos h];rfl
 ·rw[if_neg h,if_neg h]
structure DueIn (V F:Int) (c:lI) (n:Int) (i:Nat) (x:Pic) (P:List Edg) (s:List Pic×List Int×Bool):Prop where
 ok:XsOk V F c s.1
 len:s.2.1.length=c.length+1
 set:∀k,k < c.length->k≠i->(if k < i then s.2.1.getD k 0≠n+1 else s.2.1.getD k 0≠n)->gx c s.1 k
 own:s.2.1.getD i 0=n+1\/bj s.1 i=x
 past:∀e∈P,bI e.pic (bj s.1 e.tgt)=true
theorem rS {i:Int}{s:List Pic×List Int×Bool}{e:Edg}:((cM n i s e).1,(cM n i s e).2.2)=bV n i (s.1,s.2.2) e:=by
 unfold cM bV;split<;>rfl
theorem vL {i:Int}:∀{E:List Edg} {s:List Pic×List Int×Bool},((E.foldl (cM n i) s).1,(E.foldl (cM n i) s).2.2)=E.foldl (bV n i) (s.1,s.2.2)
 |[],_=>rfl
 |e::E,s=>by rw[z7,z7,vL,rS]
theorem DueIn.step (h0:au V F c=0){i:Nat}(hi:i < c.length){x:Pic}{P:List Edg}{s:List Pic×List Int×Bool}(h:DueIn V F c n i x P s)(hP:∀e∈P,iQ V F c e){e:Edg}(he:iQ V F c e):DueIn V F c n i x (P++[e]) (cM n i s e):=by
 obtain⟨b1,b2,b3,-,-⟩:=rH (n:=n) (i:=(i:Int)) (s:=(s.1,s.2.2)) h0 h.ok he;have e1:(bV n i (s.1,s.2.2) e).1=(cM n i s e).1:=by rw[<-rS]
 rw[e1] at b1 b2 b3;have hpast:∀q∈P++[e],bI q.pic (bj (cM n i s e).1 q.tgt)=true:=λq hq=>by
  rcases j7.1 hq with hq|hq
  ·exact lN (hP q hq).1 (h.ok.at _) (b1.at _) (h.past q hq) (b2.2 _)
  ·rw[j6.1 hq];exact b3
 by_cases hin:bI e.pic (bj s.1 e.tgt)=true
 ·have es:cM n i s e=s:=by unfold cM;rw[if_pos hin]
  rw[es] at hpast |-;exact⟨h.ok,h.len,h.set,h.own,hpast⟩
 ·have es:cM n i s e=(s.1.set e.tgt.toNat (aH (aj (du n i e.tgt)) (bj s.1 e.tgt) e.pic),s.2.1.set e.tgt.toNat (if (i:Int) < e.tgt then n else n+1),true):=by unfold cM;rw[if_neg hin]
  have hl:=h.len;have hq:e.tgt.toNat < s.2.1.length:=by have:=he.2;omega
  have hto:=he.2;rw[es] at b1 b2 hpast |-;refine⟨b1,by simpa using h.len,λk hk hne hd=> ?_,?_,hpast⟩
  ·simp only at hd |-
   rw[EI hq] at hd;by_cases ek:e.tgt.toNat=k
   ·rw[if_pos ek] at hd
    exfalso;by_cases hki:k < i
    ·rw[if_pos hki,if_neg aa] at hd
     exact hd rfl
    ·rw[if_neg hki,if_pos aa] at hd
     exact hd rfl
   ·rw[if_neg ek] at hd
    refine Gd h0 h.ok b1 b2 hk (h.set k hk hne hd) ?_;rw[nS,if_neg aa]
  ·simp only
   rw[EI hq];by_cases ek:e.tgt.toNat=i
   ·left
    rw[if_pos ek,if_neg aa]
   ·rw[if_neg ek,nS,if_neg aa]
    exact h.own
theorem DueIn.steps (h0:au V F c=0){i:Nat}(hi:i < c.length){x:Pic}:∀{E P:List Edg} {s:List Pic×List Int×Bool},DueIn V F c n i x P s->(∀e∈P,iQ V F c e)->(∀e∈E,iQ V F c e)->DueIn V F c n i x (P++E) (E.foldl (cM n i) s)
 |[],P,s,h,_,_=>by rw[Qa];exact h
 |e::E,P,s,h,hP,hE=>by
  have h1:=h.step h0 hi hP (hE e ag);have h2:=DueIn.steps h0 hi (E:=E) h1 (λq hq=>by
   rcases j7.1 hq with hq|hq
   ·exact hP q hq
   ·rw[j6.1 hq];exact hE e ag) λq hq=>hE q (by simp[hq])
  rw[List.append_assoc] at h2;exact h2
theorem KJ {s:List Pic×Bool}{i:Nat}(h:gx c s.1 i):dF c n s i=s:=by
 unfold dF;have:∀(E:List Edg),(∀e∈E,bI e.pic (bj s.1 e.tgt)=true)->E.foldl (bV n i) s=s:=by
  intro E;induction E with
  |nil=>exact λ_=>rfl
  |cons e E ih=>
   intro hE;rw[z7];have:bV n i s e=s:=by unfold bV;rw[if_pos (hE e (by simp))]
   rw[this];exact ih λq hq=>hE q (by simp[hq])
 exact this _ h
theorem CX {p:Prop}(h:p:=by
 by_cases hki:k < i
 ·rw[if_pos hki];rw[if_pos aa] at hh;exact hh
 ·rw[if_neg hki];rw[if_neg aa] at hh;exact hh):p:=h
theorem Pn (h0:au V F c=0){i:Nat}(hi:i < c.length){s:List Pic×List Int×Bool}(h:Due V F c n i s.1 s.2.1):Due V F c n (i+1) (iA c n s i).1 (iA c n s i).2.1/\((iA c n s i).1,(iA c n s i).2.2)=dF c n (s.1,s.2.2) i:=by
 unfold iA;by_cases hd:s.2.1.getD i 0=n
 ·rw[if_pos hd]
  refine⟨?_,vL⟩;have hE:=kJ h0 (h.ok.at (i:Int)) hi;have h1:DueIn V F c n i (bj s.1 i) [] s:=⟨h.ok,h.len,λk hk _ hh=>h.set k hk hh,.inr rfl,λe he=>by simp at he⟩;have h2:=h1.steps h0 hi (λe he=>by simp at he) hE;rw[Z1] at h2;refine⟨h2.ok,h2.len,λk hk hh=> ?_⟩;by_cases ek:k=i
  ·subst ek
   rw[if_pos aa] at hh;rcases h2.own with ho|ho
   ·exact absurd ho hh
   ·intro e he
    rw[ho] at he;exact h2.past e he
  ·refine h2.set k hk ek ?_
   exact CX
 ·rw[if_neg hd]
  have hs:gx c s.1 i:=h.set i hi (by rw[if_neg (by omega)];exact hd);refine⟨⟨h.ok,h.len,λk hk hh=> ?_⟩,(KJ hs).symm⟩;by_cases ek:k=i
  ·rw[ek];exact hs
  ·refine h.set k hk ?_
   exact CX
theorem vt (h0:au V F c=0):∀{k:Nat},k<=c.length->∀{s:List Pic×List Int×Bool},Due V F c n 0 s.1 s.2.1->Due V F c n k ((j1 k).foldl (iA c n) s).1 ((j1 k).foldl (iA c n) s).2.1/\(((j1 k).foldl (iA c n) s).1,((j1 k).foldl (iA c n) s).2.2)=(j1 k).foldl (dF c n) (s.1,s.2.2)
 |0,_,s,h=>⟨h,rfl⟩
 |k+1,hk,s,h=>by
  rw[X9,Q9,z7,Z0,Q9,z7,Z0];obtain⟨a1,a2⟩:=vt h0 (k:=k) aa h;obtain⟨b1,b2⟩:=Pn h0 (i:=k) aa a1;exact⟨b1,by rw[b2,a2]⟩
theorem vY (h0:au V F c=0){d:List Int}(h:Due V F c n 0 l d):Due V F c (n+1) 0 (fQ c n (l,d)).1 (fQ c n (l,d)).2.1/\(fQ c n (l,d)).1=(dt c n l).1/\(fQ c n (l,d)).2.2=(dt c n l).2:=by
 obtain⟨a1,a2⟩:=vt h0 (lR c.length) (s:=(l,d,false)) h;refine⟨⟨a1.ok,a1.len,λk hk hh=> ?_⟩,congrArg Prod.fst a2,congrArg Prod.snd a2⟩;rw[if_neg aa] at hh;exact a1.set k hk (by rw[if_pos hk];exact hh)

def lS (V F:Int)(c:lI):List Pic:=bK V F c::J4 c.length nonePic
def aI (V F:Int)(c:lI):Nat->List Pic
 |0=>lS V F c
 |m+1=>(dt c ((m+1:Nat):Int) (aI V F c m)).1
def SolvedAt (V F:Int)(c:lI)(m:Nat):Prop:=(∀k,k < m->(dt c ((k+1:Nat):Int) (aI V F c k)).2=true)/\(dt c ((m+1:Nat):Int) (aI V F c m)).2=false
theorem SolvedAt.one {m m':Nat}(h:SolvedAt V F c m)(h':SolvedAt V F c m'):m=m':=by
 rcases Nat.lt_trichotomy m m' with e|e|e
 ·have:=h'.1 m e;rw[h.2] at this;cases this
 ·exact e
 ·have:=h.1 m' e;rw[h'.2] at this;cases this
theorem Lr (h0:au V F c=0):PicOk V F c (bK V F c):=by
 have hp:=dB h0;have h1:=hp.v1;have h2:=hp.f0;refine⟨rfl,by simp[bK];omega,by simp[bK],λk h=> ?_,λg hg=> ?_,λk h g hg=> ?_,λk h=>.inr λg hg=> ?_⟩
 ·simp[bK];omega
 ·rw[J5 hg];rfl
 ·have hg':g∈J4 F.toNat noneG:=by simpa[bK] using hg
  rw[J5 hg'];rfl
 ·have hg':g∈J4 F.toNat noneG:=by simpa[bK] using hg
  rw[J5 hg'];rfl
theorem lV (h0:au V F c=0):XsOk V F c (lS V F c):=⟨by simp[lS],λx hx=>by
 rcases j5.1 hx with rfl|hx
 ·exact(Lr h0).ck
 ·rw[J5 hx];rfl⟩
theorem d8 (h0:au V F c=0):∀m,XsOk V F c (aI V F c m)
 |0=>lV h0
 |m+1=>(lM h0 (d8 h0 m)).1
theorem tj (h0:au V F c=0):∀m,LeX (lS V F c) (aI V F c m)
 |0=>LeX.refl (lV h0)
 |m+1=>LeX.trans (lV h0) (d8 h0 m) (d8 h0 (m+1)) (tj h0 m) (lM h0 (d8 h0 m)).2.1
theorem VK (h0:au V F c=0)(h:XsOk V F c l):iR l<=200000000000000:=by
 obtain⟨G,hG⟩:∃G:Nat,G=2000000000000:=⟨_,rfl⟩;have h1:iR l<=l.length * G:=ub iJ G λx hx=>by rw[hG];exact Mx h0 (h.ck x hx)
 have h2:=h.len;have h3:=(dB h0).len;have h4:l.length<=61:=aa;have h5:l.length * G<=61 * G:=J3 _ h4;omega
theorem kH (h0:au V F c=0):∀{m:Nat},(∀k,k < m->(dt c ((k+1:Nat):Int) (aI V F c k)).2=true)->m+iR (aI V F c m)<=200000000000000
 |0,_=>by have:=VK h0 (lV h0);simp only[aI];omega
 |m+1,h=>by
  have h1:=kH h0 (m:=m) λk hk=>h k aa;have h2:=(lM (n:=((m+1:Nat):Int)) h0 (d8 h0 m)).2.2.2 (h m aa);have h3:iR (aI V F c (m+1)) < iR (aI V F c m):=h2;omega
def Sc (c:lI):List Int:=1::J4 c.length 0
theorem Nx (h0:au V F c=0):Due V F c 1 0 (lS V F c) (Sc c):=by
 refine⟨lV h0,by simp[Sc],λk hk hd=> ?_⟩;rw[if_neg aa] at hd;cases k with
 |zero=>exact absurd rfl hd
 |succ k=>
  intro e he;have:bj (lS V F c) ((k+1:Nat):Int)=nonePic:=by
   rw[il (by simp[lS];omega)];simp[lS]
  rw[this] at he;simp[cW,aA,nonePic] at he
def Nw (V F:Int)(c:lI)(l:List Pic):Bool:=bI (bK V F c) (bj l 0)&&(j1 c.length).all λi=>(cW c i (bj l i)).all λe=>bI e.pic (bj l e.tgt)
theorem fitsX_iff:Nw V F c l=true↔bI (bK V F c) (bj l 0)=true/\∀i,i < c.length->gx c l i:=by
 unfold Nw gx;simp[Q4]
theorem vG (h0:au V F c=0){m:Nat}(h:SolvedAt V F c m):aI V F c (m+1)=aI V F c m/\Nw V F c (aI V F c m)=true:=by
 have h1:=(lM (n:=((m+1:Nat):Int)) h0 (d8 h0 m)).2.2.1 h.2;refine⟨h1.1,fitsX_iff.2 ⟨?_,h1.2⟩⟩;have:=(tj h0 m).2 0;exact this
end
theorem vR (i:Ins)(at_:Int)(x:Pic):(aA i at_ x).1.length<=2:=by
 unfold aA;repeat' split
 all_goals simp
 all_goals (repeat' split)
 all_goals simp
end
section
open Go.RowKit
attribute [local go_sem ↓] Go.wp_at_zero Go.wp_at_succ
theorem kX (sb:Nat)(at_:Int)(cs:List Value)(w:World)(h:Cells w sb cs)(h9:cs[9]? =sO (I Y at_))(h0:0<=at_)(h1:at_<=1000):
  Calls pG 92 #[Pp (sO ⟨sb,0,nO⟩)] w λe w'=>e=Rt (I Y (at_+1))/\w'=w:=by
 have c9:=h.1 9 _ h9;clear h h9;go_enter Tryz.func92,Tryz.ntmps92;go_wp2;go_ret;exact⟨bP aF,rfl⟩
theorem Lc {s:Sp}(hs:s.Ok):bY s=(if (if s.lo=0 then aL s ⟨false,1,2147483647⟩ else s).hi=0 then aL (if s.lo=0 then aL s ⟨false,1,2147483647⟩ else s) ⟨false,-2147483648,-1⟩ else(if s.lo=0 then aL s ⟨false,1,2147483647⟩ else s)):=by
 obtain⟨⟨a1,a2⟩,⟨a3,a4⟩,a5,a6⟩:=hs;obtain⟨n,lo,hi⟩:=s;simp only at a1 a2 a3 a4 a5 a6;cases n with
 |true=>
  obtain⟨rfl,rfl⟩:=a5 rfl;rfl
 |false=>
  by_cases h1:lo=0
  ·subst h1
   by_cases h2:hi=0
   ·subst h2;rfl
   ·have e1:min hi 2147483647=hi:=by omega
    have e2:max (0:Int) 1=1:=aa;have e3:¬hi < 1:=aa;simp[bY,aL,h2,e1,e2,e3]
  ·by_cases h2:hi=0
   ·subst h2
    have e1:min (0:Int) (-1)= -1:=aa;have e2:max lo (-2147483648)=lo:=aa;have e3:¬ -1 < lo:=aa;simp[bY,aL,h1,e1,e2,e3]
   ·have e3:¬hi < lo:=by omega
    simp[bY,h1,h2,e3]
theorem UN {s t:Sp}(hs:s.Ok)(ht:t.Ok):(aL s t).Ok:=by
 obtain⟨⟨a1,a2⟩,⟨a3,a4⟩,a5,a6⟩:=hs;obtain⟨⟨b1,b2⟩,⟨b3,b4⟩,b5,b6⟩:=ht;unfold aL;split
 ·exact gR
 ·rename_i h
  simp only[x9,decide_eq_true_eq,not_or] at h;exact la aa aa aa
theorem Pj {s t:Sp}(hs:s.Ok)(ht:t.Ok):bw s t=0:=ckSps_ok.2 ⟨hs,ht⟩
theorem CI (s:Sp)(w:World)(hs:s.Ok):
  Calls pG 157 #[sv s] w λe w'=>e=Rt (sv (bY s))/\bl w w':=by
 rw[Lc hs];have HM:Hid (∀(a b:Sp) wx,a.Ok->b.Ok->Calls pG 159 #[sv a,sv b] wx λe w'=>e=Rt (Tu #[sv (aL a b),I Y 0])/\bl wx w'):=λa b wx ha hb=>by
  have:=lU a b wx;rw[Pj ha hb] at this;exact this
 have B0:Below w.heap.size w ((w.alloc (Cc #[Bb s.n,I Y s.lo,I Y s.hi] 89)).alloc (Cc #[Bb false,I Y 0,I Y 0] 89)):=am;have A0:Cells ((w.alloc (Cc #[Bb s.n,I Y s.lo,I Y s.hi] 89)).alloc (Cc #[Bb false,I Y 0,I Y 0] 89)) w.heap.size [Bb s.n,I Y s.lo,I Y s.hi]:=(Cells.new w 89 [Bb s.n,I Y s.lo,I Y s.hi]).call am;have R0:Cells ((w.alloc (Cc #[Bb s.n,I Y s.lo,I Y s.hi] 89)).alloc (Cc #[Bb false,I Y 0,I Y 0] 89)) (w.heap.size+1) [Bb false,I Y 0,I Y 0]:=by
  have:=Cells.new (w.alloc (Cc #[Bb s.n,I Y s.lo,I Y s.hi] 89)) 89 [Bb false,I Y 0,I Y 0];rw[zA] at this;exact this
 have HK1:Hid ((⟨false,1,2147483647⟩:Sp).Ok):=la aa aa aa;have HK2:Hid ((⟨false,-2147483648,-1⟩:Sp).Ok):=la aa aa aa;obtain⟨m1,hm1⟩:∃q,q=(if s.lo=0 then aL s ⟨false,1,2147483647⟩ else s):=⟨_,rfl⟩;rw[<-hm1];have HO1:Hid (m1.Ok):=by
  show m1.Ok;rw[hm1];split
  ·exact UN hs HK1.out
  ·exact hs
 have HM1:=ah hm1;clear hm1;obtain⟨m2,hm2⟩:∃q,q=(if m1.hi=0 then aL m1 ⟨false,-2147483648,-1⟩ else m1):=⟨_,rfl⟩;rw[<-hm2];have HM2:=ah hm2;have HS:=ah hs;clear hm2 hs;go_enter Tryz.func157,Tryz.ntmps157;go_upto_if 5 with fail
 generalize ((w.alloc (Cc #[Bb s.n,I Y s.lo,I Y s.hi] 89)).alloc (Cc #[Bb false,I Y 0,I Y 0] 89))=w0 at *;go_cut [] (λwy=>Cells wy w.heap.size [Bb m1.n,I Y m1.lo,I Y m1.hi]/\Cells wy (w.heap.size+1) [Bb false,I Y 0,I Y 0]/\bl w wy)
 case first=>
  have a0:=A0.1 0 _ rfl;have a1:=A0.1 1 _ rfl;have a2:=A0.1 2 _ rfl;by_cases e:s.lo=0
  ·have e1:=HM1.out
   rw[if_pos e] at e1;have E1:=ah e1;have eb:(s.lo==0)=true:=lw;clear e1 e;have HC:=ah (HM.out s ⟨false,1,2147483647⟩ w0 HS.out HK1.out);rw[<-E1.out] at HC;go_wp2_with fail;refine HC.out.mono ?_;rintro e w1 ⟨rfl,hb1⟩;have A1:=A0.call hb1;have R1:=R0.call hb1;have B1:=gA;clear a0 a1 a2 hb1 A0 R0 B0 HC;have b0:=A1.1 0 _ rfl;have b1:=A1.1 1 _ rfl;have b2:=A1.1 2 _ rfl;have f0:=A1.2.2 0;have f1:=A1.2.2 1;have f2:=A1.2.2 2;go_wp2_with fail;go_meet;exact⟨((A1.put 0 ag _).put 1 ag _).put 2 ag _,((R1.far aw _).far aw _).far aw _,((B1.setCell (lR _) _).setCell (lR _) _).setCell (lR _) _⟩
  ·have e1:=HM1.out
   rw[if_neg e] at e1;have eb:(s.lo==0)=false:=lw;clear e;subst e1;go_wp2_with fail;go_meet;exact⟨A0,R0,B0⟩
 obtain⟨A1,R1,B1⟩:=hcut;clear A0 R0 B0;generalize wc=w1 at *;clear wc;have a0:=A1.1 0 _ rfl;have a1:=A1.1 1 _ rfl;have a2:=A1.1 2 _ rfl;go_upto_if 14 with fail
 go_cut [] (λwy=>Cells wy w.heap.size [Bb m2.n,I Y m2.lo,I Y m2.hi]/\Cells wy (w.heap.size+1) [Bb false,I Y 0,I Y 0]/\bl w wy)
 case first=>
  by_cases e:m1.hi=0
  ·have e1:=HM2.out
   rw[if_pos e] at e1;have E1:=ah e1;have eb:(m1.hi==0)=true:=lw;clear e1 e;have HC:=ah (HM.out m1 ⟨false,-2147483648,-1⟩ w1 HO1.out HK2.out);rw[<-E1.out] at HC;go_wp2_with fail;refine HC.out.mono ?_;rintro e w2 ⟨rfl,hb2⟩;have A2:=A1.call hb2;have R2:=R1.call hb2;have B2:=gD;clear a0 a1 a2 hb2 A1 R1 B1 HC;have b0:=A2.1 0 _ rfl;have b1:=A2.1 1 _ rfl;have b2:=A2.1 2 _ rfl;have f0:=A2.2.2 0;have f1:=A2.2.2 1;have f2:=A2.2.2 2;go_wp2_with fail;go_meet;exact⟨((A2.put 0 ag _).put 1 ag _).put 2 ag _,((R2.far aw _).far aw _).far aw _,((B2.setCell (lR _) _).setCell (lR _) _).setCell (lR _) _⟩
  ·have e1:=HM2.out
   rw[if_neg e] at e1;have eb:(m1.hi==0)=false:=lw;clear e;subst e1;go_wp2_with fail;go_meet;exact⟨A1,R1,B1⟩
 obtain⟨A2,R2,B2⟩:=hcut;clear A1 R1 B1 a0 a1 a2;generalize wc=w2 at *;clear wc;have b0:=A2.1 0 _ rfl;have b1:=A2.1 1 _ rfl;have b2:=A2.1 2 _ rfl;have d0:=R2.1 0 _ rfl;have d1:=R2.1 1 _ rfl;have d2:=R2.1 2 _ rfl;have f0:=R2.2.2 0;have f1:=R2.2.2 1;have f2:=R2.2.2 2;go_wp2;refine bodyPost_ret (v:=sv m2) (by simp[results,Tryz.results157,go_sem,d0,d1,d2]) rfl ⟨rfl,?_⟩;exact((B2.setCell aw _).setCell aw _).setCell aw _
end
section
open Go.RowKit
def cj (w:World)(b k:Nat)(x':Gc):World:=(((((((w.setCell ⟨b,k * 7,nO⟩ (Bb x'.g.n)).setCell ⟨b,k * 7+1,nO⟩ (Bb x'.g.sp.n)).setCell ⟨b,k * 7+2,nO⟩ (I Y x'.g.sp.lo)).setCell ⟨b,k * 7+3,nO⟩ (I Y x'.g.sp.hi)).setCell ⟨b,k * 7+4,nO⟩ (Bb x'.g.t)).setCell ⟨b,k * 7+5,nO⟩ (Bb x'.g.f)).setCell ⟨b,k * 7+6,nO⟩ (U x'.ss x'.g.s.length x'.cap))
section
variable {T:Nat->Prop} {B:Nat} {w w':World} {v:Ro} {fs:oA} {fc:Nat} {L:List Ro}
theorem Off.same {v v':Ro}{fb:Option Nat}{L:List Ro}{b:Nat}(hv:roB v'=roB v):Off v' fb L b↔Off v fb L b:=by unfold Off;rw[hv]
theorem iC {v:Ro}{l:List Gc}(h:l.length=v.l.length):roB ⟨v.rs,v.rc,l⟩=roB v:=by unfold roB roV;rw[h]
theorem PicG.cellV (h:PicG T B w v fs fc L){b:Nat}(hb:v.rs=sO ⟨b,0,nO⟩){k:Nat}(hk:k < v.l.length){y z:Gc}(hy:PicG T B w' ⟨v.rs,v.rc,v.l.set k y⟩ fs fc L){j:Nat}{u:Value}(hj:j < 7)(hx:bp z=(bp y).set j u)(hg:bQ (λb=>T b/\Off v (j0 fs L.length fc).ownBlock L b) w' z):
  PicG T B (w'.setCell ⟨b,k * 7+j,nO⟩ u) ⟨v.rs,v.rc,v.l.set k z⟩ fs fc L:=by
 have h1:=PicG.putV hy hb (k:=k) (j:=j) (u:=u) (x':=z) it hj (by simpa using hx) ⟨hg.1.mono λq hq _=>⟨hq.1,(Off.same (iC ag)).2 hq.2⟩,hg.2⟩;simpa[Qb] using h1
theorem aJ {S:Nat->Prop}{x:Gc}{b:Nat}{o:Nat}{u:Value}(h:bQ S w x)(hs:¬S b):bQ S (w.setCell ⟨b,o,nO⟩ u) x:=Ai h λq hq e=>hs (by have e':q=b:=e;rw[<-e'];exact hq)
theorem PicG.setV (h:PicG T B w v fs fc L){b:Nat}(hb:v.rs=sO ⟨b,0,nO⟩){k:Nat}(hk:k < v.l.length){x':Gc}(hg:bQ (λb=>T b/\Off v (j0 fs L.length fc).ownBlock L b) w x'):PicG T B (cj w b k x') ⟨v.rs,v.rc,v.l.set k x'⟩ fs fc L:=by
 have eb:roB v=sO b:=mH;have nb:¬(λq=>T q/\Off v (j0 fs L.length fc).ownBlock L q) b:=λq=>q.2.1 eb;obtain⟨y,ey⟩:∃y,y=v.l[k]:=⟨_,rfl⟩;have gy:bQ (λb=>T b/\Off v (j0 fs L.length fc).ownBlock L b) w y:=by rw[ey];exact h.sv _ (gM hk)
 have h0:PicG T B w ⟨v.rs,v.rc,v.l.set k y⟩ fs fc L:=by rw[ey,z9];exact h
 unfold cj;have h1:=h.cellV hb hk h0 (j:=0) (u:=Bb x'.g.n) (z:=⟨⟨x'.g.n,y.g.sp,y.g.t,y.g.f,y.g.s⟩,y.ss,y.cap⟩) aa bt gy;have h2:=h.cellV hb hk h1 (j:=1) (u:=Bb x'.g.sp.n) (z:=⟨⟨x'.g.n,⟨x'.g.sp.n,y.g.sp.lo,y.g.sp.hi⟩,y.g.t,y.g.f,y.g.s⟩,y.ss,y.cap⟩) aa bt (aJ gy nb);have h3:=h.cellV hb hk h2 (j:=2) (u:=I Y x'.g.sp.lo) (z:=⟨⟨x'.g.n,⟨x'.g.sp.n,x'.g.sp.lo,y.g.sp.hi⟩,y.g.t,y.g.f,y.g.s⟩,y.ss,y.cap⟩) aa bt (aJ (aJ gy nb) nb);have h4:=h.cellV hb hk h3 (j:=3) (u:=I Y x'.g.sp.hi) (z:=⟨⟨x'.g.n,⟨x'.g.sp.n,x'.g.sp.lo,x'.g.sp.hi⟩,y.g.t,y.g.f,y.g.s⟩,y.ss,y.cap⟩) aa bt (aJ (aJ (aJ gy nb) nb) nb);have h5:=h.cellV hb hk h4 (j:=4) (u:=Bb x'.g.t) (z:=⟨⟨x'.g.n,⟨x'.g.sp.n,x'.g.sp.lo,x'.g.sp.hi⟩,x'.g.t,y.g.f,y.g.s⟩,y.ss,y.cap⟩) aa bt (aJ (aJ (aJ (aJ gy nb) nb) nb) nb);have h6:=h.cellV hb hk h5 (j:=5) (u:=Bb x'.g.f) (z:=⟨⟨x'.g.n,⟨x'.g.sp.n,x'.g.sp.lo,x'.g.sp.hi⟩,x'.g.t,x'.g.f,y.g.s⟩,y.ss,y.cap⟩) aa bt (aJ (aJ (aJ (aJ (aJ gy nb) nb) nb) nb) nb);have h7:=h.cellV hb hk h6 (j:=6) (u:=U x'.ss x'.g.s.length x'.cap) (z:=x') aa bt (aJ (aJ (aJ (aJ (aJ (aJ hg nb) nb) nb) nb) nb) nb);exact h7
theorem PicG.cellF (h:PicG T B w v fs fc L){s:Nat}(hs:s < L.length){b:Nat}(hb:L[s].rs=sO ⟨b,0,nO⟩){k:Nat}(hk:k < L[s].l.length){y z:Gc}(hy:PicG T B w' v fs fc (L.set s ⟨L[s].rs,L[s].rc,L[s].l.set k y⟩)){j:Nat}{u:Value}(hj:j < 7)(hx:bp z=(bp y).set j u)(hg:bQ (λb=>T b/\Off v (j0 fs L.length fc).ownBlock L b) w' z):
  PicG T B (w'.setCell ⟨b,k * 7+j,nO⟩ u) v fs fc (L.set s ⟨L[s].rs,L[s].rc,L[s].l.set k z⟩):=by
 have eL:∀q,(∀r∈L.set s ⟨L[s].rs,L[s].rc,L[s].l.set k y⟩,roB r≠sO q)↔∀r∈L,roB r≠sO q:=λq=>by
  have e1:(L.set s ⟨L[s].rs,L[s].rc,L[s].l.set k y⟩).map roB=L.map roB:=by
   rw[J9,iC (v:=L[s]) ag,<-Q0 (f:=roB) (h:=by simpa using hs),z9]
  have e2:∀M:List Ro,(∀r∈M,roB r≠sO q)↔∀o∈M.map roB,o≠sO q:=λM=>by simp only[x2,forall_exists_index,and_imp,forall_apply_eq_imp_iff₂]
  rw[e2,e1,<-e2]
 have h1:=PicG.putF hy (s:=s) (by simpa using hs) (b:=b) (by simpa using hb) (k:=k) (j:=j) (u:=u) (x':=z) it hj (by simpa using hx) ⟨hg.1.mono λq hq _=>⟨hq.1,hq.2.1,by rw[q0];exact hq.2.2.1,(eL q).2 hq.2.2.2⟩,hg.2⟩;simpa[Qb] using h1
theorem PicG.setF (h:PicG T B w v fs fc L){s:Nat}(hs:s < L.length){b:Nat}(hb:L[s].rs=sO ⟨b,0,nO⟩){k:Nat}(hk:k < L[s].l.length){x':Gc}(hg:bQ (λb=>T b/\Off v (j0 fs L.length fc).ownBlock L b) w x'):PicG T B (cj w b k x') v fs fc (L.set s ⟨L[s].rs,L[s].rc,L[s].l.set k x'⟩):=by
 have hm:=gM hs;have eb:roB L[s]=sO b:=mH;have nb:¬(λq=>T q/\Off v (j0 fs L.length fc).ownBlock L q) b:=λq=>q.2.2.2 _ hm eb;obtain⟨y,ey⟩:∃y,y=L[s].l[k]:=⟨_,rfl⟩;have gy:bQ (λb=>T b/\Off v (j0 fs L.length fc).ownBlock L b) w y:=by rw[ey];exact h.sf _ hm _ (gM hk)
 have h0:PicG T B w v fs fc (L.set s ⟨L[s].rs,L[s].rc,L[s].l.set k y⟩):=by
  rw[ey,z9];have:(⟨L[s].rs,L[s].rc,L[s].l⟩:Ro)=L[s]:=rfl;rw[this,z9];exact h
 unfold cj;have h1:=h.cellF hs hb hk h0 (j:=0) (u:=Bb x'.g.n) (z:=⟨⟨x'.g.n,y.g.sp,y.g.t,y.g.f,y.g.s⟩,y.ss,y.cap⟩) aa bt gy;have h2:=h.cellF hs hb hk h1 (j:=1) (u:=Bb x'.g.sp.n) (z:=⟨⟨x'.g.n,⟨x'.g.sp.n,y.g.sp.lo,y.g.sp.hi⟩,y.g.t,y.g.f,y.g.s⟩,y.ss,y.cap⟩) aa bt (aJ gy nb);have h3:=h.cellF hs hb hk h2 (j:=2) (u:=I Y x'.g.sp.lo) (z:=⟨⟨x'.g.n,⟨x'.g.sp.n,x'.g.sp.lo,y.g.sp.hi⟩,y.g.t,y.g.f,y.g.s⟩,y.ss,y.cap⟩) aa bt (aJ (aJ gy nb) nb);have h4:=h.cellF hs hb hk h3 (j:=3) (u:=I Y x'.g.sp.hi) (z:=⟨⟨x'.g.n,⟨x'.g.sp.n,x'.g.sp.lo,x'.g.sp.hi⟩,y.g.t,y.g.f,y.g.s⟩,y.ss,y.cap⟩) aa bt (aJ (aJ (aJ gy nb) nb) nb);have h5:=h.cellF hs hb hk h4 (j:=4) (u:=Bb x'.g.t) (z:=⟨⟨x'.g.n,⟨x'.g.sp.n,x'.g.sp.lo,x'.g.sp.hi⟩,x'.g.t,y.g.f,y.g.s⟩,y.ss,y.cap⟩) aa bt (aJ (aJ (aJ (aJ gy nb) nb) nb) nb);have h6:=h.cellF hs hb hk h5 (j:=5) (u:=Bb x'.g.f) (z:=⟨⟨x'.g.n,⟨x'.g.sp.n,x'.g.sp.lo,x'.g.sp.hi⟩,x'.g.t,x'.g.f,y.g.s⟩,y.ss,y.cap⟩) aa bt (aJ (aJ (aJ (aJ (aJ gy nb) nb) nb) nb) nb);have h7:=h.cellF hs hb hk h6 (j:=6) (u:=U x'.ss x'.g.s.length x'.cap) (z:=x') aa bt (aJ (aJ (aJ (aJ (aJ (aJ hg nb) nb) nb) nb) nb) nb);exact h7
theorem dM {b k q:Nat}{x':Gc}(h:q≠b):(cj w b k x').heap[q]? =w.heap[q]? :=by
 unfold cj;rw[hSe _ _ _ _ h,hSe _ _ _ _ h,hSe _ _ _ _ h,hSe _ _ _ _ h,hSe _ _ _ _ h,hSe _ _ _ _ h,hSe _ _ _ _ h]
theorem kh {b k:Nat}{x':Gc}:(cj w b k x').heap.size=w.heap.size:=by simp[cj,Q7]
theorem e8 {A:Nat}{w0:World}{b k:Nat}{x':Gc}(h:Below A w0 w)(hb:A<=b):Below A w0 (cj w b k x'):=by
 unfold cj;exact((((((h.setCell hb _).setCell hb _).setCell hb _).setCell hb _).setCell hb _).setCell hb _).setCell hb _
end
end
section
theorem kF (c:UInt8):∀l,(br c l).length<=l.length+1
 |[]=>by simp[br]
 |b::l=>by
  have ih:=kF c l;obtain⟨x,r,h⟩:=fY c l;unfold br;rw[h] at ih |-;simp only[z3] at ih |-;split<;>simp only[z3]<;>omega
theorem ke (c:UInt8)(x y:List UInt8)(r:List (List UInt8)):gV c (x::y::r)=x++c::gV c (y::r):=by simp[gV]
theorem iU (c:UInt8):∀(ls:List (List UInt8)) (x:List UInt8),x∈ls->x.length<=(gV c ls).length
 |[],x,h=>aT
 |[y],x,h=>by simp at h;subst h;simp[gV]
 |y::z::r,x,h=>by
  rw[ke];rcases j5.1 h with rfl|h
  ·simp
  ·have:=iU c (z::r) x h
   simp;omega
theorem tP (c:UInt8):∀(ls:List (List UInt8)) (k:Nat),(gV c (ls.drop k)).length<=(gV c ls).length
 |ls,0=>ag
 |[],k+1=>ag
 |[y],k+1=>by simp[gV]
 |y::z::r,k+1=>by
  have:=tP c (z::r) k;rw[List.drop_succ_cons,ke];simp at this |-;omega
def txB (ls:List (List UInt8))(k:Nat):ByteArray:=⟨(gV 10 (ls.drop k)).toArray⟩
def lnB (ls:List (List UInt8))(k:Nat):ByteArray:=⟨(ls.getD k []).toArray⟩
theorem fZ (ls:List (List UInt8))(k:Nat):(txB ls k).data.toList=gV 10 (ls.drop k):=by simp[txB]
theorem eP (ls:List (List UInt8))(k:Nat):(lnB ls k).data.toList=ls.getD k []:=by simp[lnB]
theorem lB {ls:List (List UInt8)}{k:Nat}(h:k < ls.length):ls.getD k []=ls[k]:=by simp[j3,z4 h]
theorem Cd {ls:List (List UInt8)}{k:Nat}(h:k+1 < ls.length)(hf:∀x∈ls,(10:UInt8)∉x):Lib.cut (txB ls k).data.toList [10]=((lnB ls k).data.toList,(txB ls (k+1)).data.toList,true):=by
 rw[fZ,fZ,eP,lB (by omega:k < ls.length),z6 (by omega:k < ls.length),z6 h,ke];exact MY 10 _ _ (hf _ (gM _))
theorem MZ {ls:List (List UInt8)}{k:Nat}(h:k+1=ls.length)(hf:∀x∈ls,(10:UInt8)∉x):Lib.cut (txB ls k).data.toList [10]=((lnB ls k).data.toList,(⟨#[]⟩:ByteArray).data.toList,false):=by
 rw[fZ,eP,lB (by omega:k < ls.length),z6 (by omega:k < ls.length),Qc aa];simp only[gV,List.flatMap_nil,Qa];exact Tc 10 _ (hf _ (gM _))
theorem Oq {ls:List (List UInt8)}{k:Nat}(h:k+1 < ls.length):txB ls k≠⟨#[]⟩:=by
 intro e;have h2:(txB ls k).data.toList=[]:=by rw[e]
 rw[fZ,z6 (by omega:k < ls.length),z6 h,ke] at h2;simp at h2
theorem Pz {ls:List (List UInt8)}{k:Nat}(h:k+1=ls.length):(txB ls k).data.toList=ls.getD k []:=by
 rw[fZ,lB (by omega:k < ls.length),z6 (by omega:k < ls.length),Qc aa];simp[gV]
theorem Mo:∀{ls:List (List UInt8)} {m:Nat} {c:lI},eF m ls=.ok c->ls.length=c.length+1/\ls.getD c.length []=[]/\∀k (h:k < c.length),eH (ls.getD k [])=sO c[k]
 |[],_,_,h=>aT
 |[x],m,c,h=>by
  unfold eF at h;split at h
  ·rename_i e
   cases h;exact⟨rfl,by rw[e];rfl,λk h=>aT⟩
  ·cases h
 |x::y::r,m,c,h=>by
  unfold eF at h;split at h
  ·cases h
  ·rename_i i hi
   split at h
   ·cases h
   ·rename_i c' hc
    cases h;obtain⟨h1,h2,h3⟩:=Mo hc;refine⟨by simp only[z3] at h1 |-;omega,?_,?_⟩
    ·simpa using h2
    ·intro k hk
     cases k with
     |zero=>simpa using hi
     |succ k=>simpa using h3 k it
theorem KI:∀{ls:List (List UInt8)} {m e:Nat},ls≠[]->eF m ls=.error e->∃n,e=m+n/\n < ls.length/\(∀k,k < n->∃i,eH (ls.getD k [])=sO i)/\((n+1=ls.length/\ls.getD n []≠[])\/(n+1 < ls.length/\eH (ls.getD n [])=nO))
 |[],_,_,hn,_=>absurd rfl hn
 |[x],m,e,_,h=>by
  unfold eF at h;split at h
  ·cases h
  ·rename_i hx
   cases h;exact⟨0,rfl,ag,λk hk=>aa,.inl ⟨rfl,by simpa using hx⟩⟩
 |x::y::r,m,e,_,h=>by
  unfold eF at h;split at h
  ·rename_i hi
   cases h;exact⟨0,rfl,ag,λk hk=>aa,.inr ⟨ag,fK⟩⟩
  ·rename_i i hi
   split at h
   ·rename_i e' hc
    cases h;obtain⟨n,h1,h2,h3,h4⟩:=KI ag hc;refine⟨n+1,aa,by simp only[z3] at h2 |-;omega,?_,?_⟩
    ·intro k hk
     cases k with
     |zero=>exact⟨i,fK⟩
     |succ k=>simpa using h3 k aa
    ·rcases h4 with⟨h5,h6⟩|⟨h5,h6⟩
     ·exact .inl ⟨by simp only[z3] at h5 |-;omega,by simpa using h6⟩
     ·exact .inr ⟨by simp only[z3] at h5 |-;omega,by simpa using h6⟩
   ·cases h
theorem RI (v:Int):(v < 0/\Lib.itoa v=45::Lib.decDigits v.natAbs)\/(0<=v/\Lib.itoa v=Lib.decDigits v.toNat):=by
 unfold Lib.itoa;by_cases h:v < 0
 ·exact .inl ⟨h,if_pos h⟩
 ·exact .inr ⟨by omega,if_neg h⟩
theorem NP {l dl:List UInt8}{neg:Bool}{v:Int}(hl:l=if neg=true then 45::dl else dl)(hn:neg=false->dl.head?≠sO 45)(h:bU l=sO v):∀b∈dl,48<=b.toNat/\b.toNat<=57:=by
 have hi:=OD h;rcases RI v with⟨_,h2⟩|⟨_,h2⟩
 ·rw[h2] at hi
  cases neg with
  |true=>
   simp only[if_true] at hl;rw[hl] at hi;obtain⟨-,rfl⟩:=List.cons.inj hi;exact nV _
  |false=>
   simp only[j2,if_false] at hl;rw[hl] at hi;exact absurd (by rw[<-hi];rfl) (hn rfl)
 ·rw[h2] at hi
  have hd:=nV v.toNat;rw[hi] at hd;cases neg with
  |true=>
   simp only[if_true] at hl;rw[hl] at hd;exact absurd (hd 45 ag) ai
  |false=>
   simp only[j2,if_false] at hl;rw[hl] at hd;exact hd
theorem MB {l dl:List UInt8}{neg:Bool}{k:Nat}{b:UInt8}(hl:l=if neg=true then 45::dl else dl)(hn:neg=false->dl.head?≠sO 45)(hk:dl[k]? =sO b)(hb:¬(48<=b.toNat/\b.toNat<=57)):bU l=none:=by
 cases h:bU l with
 |none=>rfl
 |some v=>exact absurd (NP hl hn h b (List.mem_of_getElem? hk)) hb
theorem Rl {l:List UInt8}{neg:Bool}(hl:l=if neg=true then [45] else []):bU l=none:=by
 cases neg<;>(simp at hl;subst hl;decide)
theorem SG {b:UInt8}{d:Nat}(h:Lib.digitVal b=sO d):48<=b.toNat/\b.toNat<=57:=by
 unfold Lib.digitVal at h;split at h
 ·assumption
 ·cases h
theorem TB {dl:List UInt8}{k n:Nat}{b:UInt8}(h:Lib.decFrom 0 (dl.take k)=sO n)(hk:dl[k]? =sO b)(hb:48<=b.toNat/\b.toNat<=57):Lib.decFrom 0 (dl.take (k+1))=sO (n * 10+(b.toNat - 48)):=by
 rw[List.take_add_one,hk,vM,h];simp only[Option.toList,Option.bind,Lib.decFrom,Lib.digitVal,if_pos hb]
theorem ST {l dl:List UInt8}{neg:Bool}{n:Nat}(hl:l=if neg=true then 45::dl else dl)(hne:dl≠[])(hlen:l.length<=11)(hd:Lib.decFrom 0 dl=sO n):bU l=if Lib.itoa (if neg=true then -(n:Int) else n)=l then sO (if neg=true then -(n:Int) else n) else none:=by
 have hat:Lib.atoi l=sO (if neg=true then -(n:Int) else n):=by
  cases dl with
  |nil=>exact absurd rfl hne
  |cons b r=>
   cases neg with
   |true=>
    simp only[if_true] at hl |-;rw[hl];show (Lib.decNat (b::r)).map (λm:Nat=> -(m:Int))=_;rw[Lib.decNat,if_neg ag,hd];rfl
   |false=>
    simp only[j2,if_false] at hl |-;have hb:48<=b.toNat/\b.toNat<=57:=by
     simp only[Lib.decFrom] at hd;split at hd
     ·rename_i d hdv
      exact SG hdv
     ·cases hd
    have e1:(b==45)=false:=Na;have e2:(b==43)=false:=Na;rw[hl];simp only[Lib.atoi,e1,e2,j2,if_false,Lib.decNat,List.isEmpty_cons,hd,Option.map]
 unfold bU;rw[if_pos hlen,hat]
theorem Tk {l:List UInt8}(h:¬l.length<=11):bU l=none:=by unfold bU;rw[if_neg h]
end
end Go.Proofs.YtmapdpcfanecdabGreatDoor
