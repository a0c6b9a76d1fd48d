import Derived.Test.YtmapdpcfanecdabGreatDoorR04
import Derived.Lib.SplitLaws
import Derived.Lib.AtoiTie
import Derived.Lib.MinMax
open Bool renaming and_eq_true→j6,false_eq_true→j1,not_eq_false→J1,not_eq_true'→z5,or_eq_true→x1
open Go.Ending renaming returned→Rt
open Go.IntKind renaming i64→Y
open Go.Obj renaming cells→Cc
open Go.Proofs.Tryz renaming prog→pG
open Go.RowKit.Below renaming heap_setCell→hSe,refl→bR
open Go.Value renaming bool→Bb,int→I,pointer→Pp,slice→U,tuple→Tu
open Go.World renaming setCell→Z2,size_alloc→zA
open List renaming Pairwise→Q5,all_eq_true→J4,any_eq_false→Q8,append_nil→Z7,cons_append→Q1,contains_iff_mem→Q4,drop_eq_getElem_cons→z3,drop_eq_nil_of_le→Z8,eq_of_mem_replicate→x9,ext_getElem→J7,flatMap_cons→J0,foldl_append→J8,foldl_cons→z4,foldl_nil→J9,getD→j2,getElem?_eq_getElem→q0,getElem?_eq_none→x0,getElem?_set→Z5,getElem_cons_zero→Z4,getElem_mem→gM,getElem_of_mem→x2,getElem_zipWith→j7,isPrefixOf→z7,length_cons→j8,length_eq_zero_iff→Z0,length_set→Z1,length_zipWith→j3,map_cons→x5,mem_append→j9,mem_cons→j4,mem_cons_of_mem→z6,mem_flatten→Q9,mem_map→J3,mem_or_eq_of_mem_set→Q2,mem_range→Q3,mem_singleton→j5,nil_append→Q0,pairwise_cons→z8,pairwise_lt_range→Q7,pairwise_map→Q6,range→j0,range_succ→Z6,replicate→x8,sum_cons→x6,zipWith→J2
open Nat renaming le_refl→lR,le_trans→lT,lt_irrefl→Z3,lt_of_lt_of_le→lL,mul_le_mul_right→x7,not_lt→z9,zero_add→x3,zero_le→x4
open Option renaming getD_none→J6,getD_some→J5,none→nO,some→sO
set_option linter.unusedSimpArgs false
set_option linter.unusedVariables false
set_option maxHeartbeats 4000000
set_option maxRecDepth 100000
namespace Go.Proofs.YtmapdpcfanecdabGreatDoor
section
def bw (c:UInt8):List UInt8->List (List UInt8)
 |[]=>[[]]
 |b::l=>if b=c then []::bw c l else match bw c l with
  |[]=>[[b]]
  |x::r=>(b::x)::r
def gk (c:UInt8):List (List UInt8)->List UInt8
 |[]=>[]
 |x::r=>x++r.flatMap λy=>c::y

theorem fG (c:UInt8)(l:List UInt8):∃x r,bw c l=x::r:=by
 cases l with
 |nil=>exact⟨_,_,rfl⟩
 |cons b l=>
  unfold bw;split
  ·exact⟨_,_,rfl⟩
  ·split<;>exact⟨_,_,rfl⟩
theorem iT (c:UInt8):∀l,gk c (bw c l)=l
 |[]=>rfl
 |b::l=>by
  have ih:=iT c l;obtain⟨x,r,h⟩:=fG c l;rw[h] at ih;unfold bw;split
  ·rename_i e
   rw[h];simp only[gk,J0,Q0] at ih |-;rw[e,Q1,ih]
  ·rw[h]
   simp only[gk] at ih |-;rw[Q1,ih]
theorem mk (c:UInt8):∀l,∀x∈bw c l,c∉x
 |[],x,hx=>by simp[bw] at hx;simp[hx]
 |b::l,x,hx=>by
  have ih:=mk c l;obtain⟨y,r,h⟩:=fG c l;unfold bw at hx;rw[h] at hx ih;split at hx
  ·rcases j4.1 hx with rfl|hx
   ·simp
   ·exact ih x hx
  ·rename_i hne
   rcases j4.1 hx with rfl|hx
   ·intro hm
    rcases j4.1 hm with e|hm
    ·exact hne e.symm
    ·exact ih y (List.mem_cons_self ..) hm
   ·exact ih x (z6 _ hx)
theorem vY (c:UInt8):∀x:List UInt8,c∉x->bw c x=[x]
 |[],_=>rfl
 |b::l,h=>by
  have hb:¬b=c:=λe=>h (by simp[e]);unfold bw;rw[if_neg hb,vY c l (λhm=>h (z6 _ hm))]
theorem wF (c:UInt8)(m:List UInt8):∀x:List UInt8,c∉x->bw c (x++c::m)=x::bw c m
 |[],_=>by show bw c (c::m)=_;unfold bw;rw[if_pos rfl];cases m<;>rfl
 |b::l,h=>by
  have hb:¬b=c:=λe=>h (by simp[e]);show bw c (b::(l++c::m))=_;unfold bw;rw[if_neg hb,wF c m l (λhm=>h (z6 _ hm))];cases m<;>rfl
theorem u9 (c:UInt8):∀s:List UInt8,Lib.splitK [c] 0 (Lib.count s [c]) s=bw c s
 |[]=>by rw[Lib.count_miss (by simp[Lib.index])];rfl
 |b::l=>by
  have ih:=u9 c l;by_cases hb:b=c
  ·subst hb
   have hix:Lib.index (b::l) [b]=((0:Nat):Int):=by rw[Lib.index];simp[z7]
   rw[Lib.count_cons_eq,Nat.add_comm,Lib.splitK,if_neg (by rw[hix];decide),hix];unfold bw;rw[if_pos rfl,<-ih];simp
  ·have hp:([c]:List UInt8).isPrefixOf (b::l)=false:=by simp[z7,Ne.symm hb]
   have hix:Lib.index (b::l) [c]=if Lib.index l [c]== -1 then -1 else Lib.index l [c]+1:=by rw[Lib.index,hp];simp
   rw[Lib.count_cons_ne b c l hb];unfold bw;rw[if_neg hb,<-ih];by_cases hm:Lib.index l [c]= -1
   ·rw[Lib.count_miss hm];rfl
   ·have hge:=Lib.index_ge l [c]
    obtain⟨j,hj⟩:∃j:Nat,Lib.index l [c]=j:=⟨(Lib.index l [c]).toNat,aa⟩;have hix':Lib.index (b::l) [c]=((j+1:Nat):Int):=by rw[hix,if_neg (λe=>hm (beq_iff_eq.1 e)),hj];omega
    rw[Lib.count_hit ah hj,Nat.add_comm,Lib.splitK,if_neg (by rw[hix'];intro e;have:=beq_iff_eq.1 e;omega),hix',Lib.splitK,if_neg (by rw[hj];intro e;have:=beq_iff_eq.1 e;omega),hj];simp
theorem Cm (c:UInt8):∀x:List UInt8,c∉x->Lib.index x [c]= -1
 |[],_=>by simp[Lib.index]
 |b::l,h=>by
  have hb:¬b=c:=λe=>h (by simp[e]);have hp:([c]:List UInt8).isPrefixOf (b::l)=false:=by simp[z7,Ne.symm hb]
  rw[Lib.index,hp];have:=Cm c l (λhm=>h (z6 _ hm));simp[this]
theorem Ab (c:UInt8)(m:List UInt8):∀x:List UInt8,c∉x->Lib.index (x++c::m) [c]=(x.length:Int)
 |[],_=>by show Lib.index (c::m) [c]=_;rw[Lib.index];simp[z7]
 |b::l,h=>by
  have hb:¬b=c:=λe=>h (by simp[e]);have hp:([c]:List UInt8).isPrefixOf (b::(l++c::m))=false:=by simp[z7,Ne.symm hb]
  show Lib.index (b::(l++c::m)) [c]=_;rw[Lib.index,hp];have:=Ab c m l (λhm=>h (z6 _ hm));rw[this];have e1:¬((l.length:Int)== -1)=true:=by intro e;have:=beq_iff_eq.1 e;omega
  simp only[j1,if_false];rw[if_neg e1];simp
theorem Mu (c:UInt8)(x:List UInt8)(h:c∉x):Lib.cut x [c]=(x,[],false):=by
 unfold Lib.cut;rw[Cm c x h,if_neg aj]
theorem Eo (c:UInt8)(x m:List UInt8)(h:c∉x):Lib.cut (x++c::m) [c]=(x,m,true):=by
 unfold Lib.cut;rw[Ab c m x h,if_pos aa];simp

def bY (s:List UInt8):Option Int:=if s.length<=11 then(match Lib.atoi s with|some v=>if Lib.itoa v=s then sO v else nO|none=>nO) else nO
theorem FU {s:List UInt8}{v:Int}(h:bY s=sO v):Lib.itoa v=s:=by
 unfold bY at h;split at h
 ·split at h
  ·split at h
   ·cases h;assumption
   ·cases h
  ·cases h
 ·cases h
theorem rZ (m:List UInt8):∀(l:List UInt8) (acc:Nat),Lib.decFrom acc (l++m)=(Lib.decFrom acc l).bind λn=>Lib.decFrom n m
 |[],acc=>rfl
 |b::l,acc=>by
  show Lib.decFrom acc (b::(l++m))=_;simp only[Lib.decFrom];cases Lib.digitVal b with
  |none=>rfl
  |some d=>exact rZ m l _
theorem Cw:∀d:Fin 10,(UInt8.ofNat (48+d.val)).toNat=48+d.val:=fe
theorem lZ (u:Nat):∀b∈Lib.decDigits u,48<=b.toNat/\b.toNat<=57:=by
 induction u using Nat.strongRecOn with
 |_ u ih=>
  intro b hb;by_cases h:u < 10
  ·rw[Lib.decDigits,dif_pos h] at hb
   have:=Cw ⟨u,h⟩;simp only at this;simp only[j5] at hb;rw[hb,this];omega
  ·rw[Lib.decDigits,dif_neg h] at hb
   rcases j9.1 hb with hb|hb
   ·exact ih (u / 10) aa b hb
   ·have:=Cw ⟨u % 10,aa⟩
    simp only at this;simp only[j5] at hb;rw[hb,this];omega
def prt (k:Nat):List Nat:=match k with
 |1=>[0,4]|2=>[0,5]|3=>[0]|4=>[0,1]|5=>[0,1,2]|6=>[0,1,2]|7=>[0,1,2]|8=>[0,1,2]|9=>[0,1,2]|10=>[0,1]
 |11=>[0]|12=>[0,1,7]|13=>[1,7,2]|14=>[0,6]|15=>[1,3]|16=>[3]|17=>[1]|18=>[1]|_=>[]
def lE (q:Nat)(v:Int)(i:Ins):Ins:=match q with
 |0=>⟨i.k,v,i.a,i.b,i.n,i.g⟩
 |1=>⟨i.k,i.tgt,v,i.b,i.n,i.g⟩
 |2=>⟨i.k,i.tgt,i.a,v,i.n,i.g⟩
 |3=>⟨i.k,i.tgt,i.a,i.b,i.n,v⟩
 |_=>⟨i.k,i.tgt,i.a,i.b,v,i.g⟩
def oR:List Nat->List Int->Ins->Ins
 |q::r,v::t,i=>oR r t (lE q v i)
 |_,_,i=>i
def eE:List (List UInt8)->Option (List Int)
 |[]=>sO []
 |x::r=>match bY x with
  |none=>nO
  |some v=>match eE r with
   |none=>nO
   |some t=>sO (v::t)
def eD (w:List UInt8)(n k:Nat):Bool:=(aL k).data.toList==w&&(prt k).length==n
def dV (w:List UInt8)(n:Nat):Option Nat:=[1,2,3,4,5,6,7,8,9,10,11,12,13,14,15,16,17,18,19].find? (eD w n)
def d7 (l:List UInt8):Option Ins:=match bw 32 l with
 |[]=>nO
 |w::ns=>match dV w ns.length with
  |none=>nO
  |some k=>match eE ns with
   |none=>nO
   |some vs=>sO (oR (prt k) vs ⟨k,0,0,0,0,0⟩)
def lS:List UInt8:=[118,97,114,115]
def lh:List UInt8:=[102,105,101,108,100,115]
def dS (l:List UInt8):Option (Int×Int):=match bw 32 l with
 |[a,b,c,d]=>if a=lS/\c=lh then(match bY b with
  |none=>nO
  |some v=>match bY d with
   |none=>nO
   |some f=>sO (v,f)) else nO
 |_=>nO
def dW:Nat->List (List UInt8)->Except Nat (List Ins)
 |k,[]=>.error k
 |k,[x]=>if x=[] then .ok [] else .error k
 |k,x::y::r=>match d7 x with
  |none=>.error k
  |some i=>match dW (k+1) (y::r) with
   |.error e=>.error e
   |.ok c=>.ok (i::c)
def dJ (s:List UInt8):Except Nat (Int×Int×List Ins):=match bw 10 s with
 |h::y::r=>match dS h with
  |none=>.error 1
  |some (V,F)=>match dW 2 (y::r) with
   |.error e=>.error e
   |.ok c=>.ok (V,F,c)
 |_=>.error 1

theorem Gw {w:List UInt8}{n k:Nat}(h:dV w n=sO k):(1<=k/\k<=19)/\(aL k).data.toList=w/\(prt k).length=n:=by
 have h1:=List.find?_some h;have h2:=List.mem_of_find?_eq_some h;unfold eD at h1;rw[j6,beq_iff_eq,beq_iff_eq] at h1;refine⟨?_,h1.1,h1.2⟩;simp at h2;omega
def Ef:Ins:=⟨0,0,0,0,0,0⟩
def bL (c:List Ins)(p:Int):Ins:=c.getD p.toNat Ef
section
variable {V F L:Int} {i:Ins}
theorem cu (h:bn V F L i=0):btw i.k 1 19=true/\(nTo i.k=true->0<=i.tgt/\i.tgt < V)/\(nA i.k=true->0<=i.a/\i.a < V)/\(nB i.k=true->0<=i.b/\i.b < V)/\(i.k=12\/i.k=13->0<=i.n/\i.n < F)/\(nG i.k=true->0<=i.g/\i.g<=L)/\(i.k=1-> -2147483648<=i.n/\i.n<=2147483647)/\(i.k=2->i.n=0\/i.n=1)/\(i.k=14->0<=i.n/\i.n<=1000000):=by
 unfold bn at h;split at h
 ·cases h
 rename_i h1;split at h
 ·cases h
 rename_i h2;split at h
 ·cases h
 rename_i h3;simp only[x1,j6,z5,not_or,not_and,J1,decide_eq_true_eq,btw] at h2 h3;obtain⟨⟨⟨⟨a1,a2⟩,a3⟩,a4⟩,a5⟩:=h2;obtain⟨⟨b1,b2⟩,b3⟩:=h3;refine⟨by simpa using h1,λh=> ?_,λh=> ?_,λh=> ?_,λh=> ?_,λh=> ?_,λh=> ?_,λh=> ?_,λh=> ?_⟩
 ·have:=a1 h;omega
 ·have:=a2 h;omega
 ·have:=a3 h;omega
 ·have:=a4 h;omega
 ·have:=a5 h;omega
 ·have:=b1 h;omega
 ·have:=b2 h;omega
 ·have:=b3 h;omega
end

theorem Ie {V F L:Int}{c:List Ins}(h:fm V F L c=0):∀i∈c,bn V F L i=0:=by
 induction c with
 |nil=>intro i hi;cases hi
 |cons x r ih=>
  unfold fm at h;split at h
  ·rename_i hx
   intro i hi;rcases j4.1 hi with rfl|hi
   ·exact hx
   ·exact ih h i hi
  ·rename_i hx;exact absurd h hx
structure ProgOk (V F:Int) (c:List Ins):Prop where
 v1:1<=V
 v8:V<=8
 f0:0<=F
 f3:F<=3
 len:c.length<=60
 each:∀i∈c,bn V F c.length i=0
theorem dB {V F:Int}{c:List Ins}(h:au V F c=0):ProgOk V F c:=by
 unfold au at h;split at h
 ·cases h
 rename_i h1;split at h
 ·cases h
 rename_i h2;simp[btw] at h1;exact⟨aa,aa,aa,aa,aa,Ie h⟩

theorem LZ {c:List Ins}{p:Nat}(h:p < c.length):bL c (p:Int)=c[p]:=by
 unfold bL;simp[j2,q0 h]
theorem pt {c:List Ins}{p:Int}(h0:0<=p)(h:p < c.length):bL c p∈c:=by
 obtain⟨k,rfl⟩:=Int.eq_ofNat_of_zero_le h0;rw[LZ aa];exact gM _

theorem ww {α:Type}{l:List α}{i:Nat}{v x:α}(h:x∈l.set i v):x=v\/x∈l:=(Q2 h).symm
theorem sP {α β:Type}{f:α->β->Bool}{a:List α}{b:List β}:(J2 f a b).all id=true↔∀i (h1:i < a.length) (h2:i < b.length),f a[i] b[i]=true:=by
 induction a generalizing b with
 |nil=>simp
 |cons x a ih=>
  cases b with
  |nil=>simp
  |cons y b=>
   rw[List.zipWith_cons_cons,List.all_cons,j6,ih];constructor
   ·rintro ⟨h,h'⟩ i h1 h2
    cases i with
    |zero=>exact h
    |succ i=>exact h' i ge iY
   ·intro h
    exact⟨h 0 ah ah,λi h1 h2=>h (i+1) ge iY⟩

theorem mem_siteSet {a b:List Int}{x:Int}:x∈gK a b↔(0<=x/\x < 60)/\(x∈a\/x∈b):=by
 unfold gK;simp only[List.mem_filter,J3,Q3,x1,Q4];constructor
 ·rintro ⟨⟨n,hn,rfl⟩,h⟩
  exact⟨by omega,h⟩
 ·rintro ⟨⟨h0,h1⟩,h⟩
  exact⟨⟨x.toNat,aa,aa⟩,h⟩
theorem pa (a b:List Int):(gK a b).Pairwise (· < ·):=by
 unfold gK;refine Q5.filter _ ?_;rw[Q6];exact Q7.imp (by intro a b h;omega)
theorem mR:∀{l:List Int},l.Pairwise (· < ·)->dj l=true
 |[],_=>rfl
 |[_],_=>rfl
 |a::b::r,h=>by
  unfold dj;rw[z8] at h;simp[h.1 b ah,mR h.2]
theorem ckGs_iff {c:List Ins}{g:Gs}:aE c g=0↔g.sp.Ok/\(∀x∈g.s,cn c x=true)/\dj g.s=true:=by
 unfold aE;by_cases h1:cH g.sp=0
 ·rw[if_neg ge]
  by_cases h2:g.s.all (cn c)=false
  ·rw[if_pos h2]
   refine⟨(λh=>aT),λh=> ?_⟩;rw[J4.2 h.2.1] at h2;cases h2
  ·rw[if_neg h2]
   have h2':∀x∈g.s,cn c x=true:=iY;by_cases h3:dj g.s=false
   ·rw[if_pos h3]
    exact⟨λh=>aT,λh=>(by rw[h.2.2] at h3;cases h3)⟩
   ·rw[if_neg h3]
    exact⟨λ_=>⟨ckSp_ok.1 h1,h2',by simpa using h3⟩,λ_=>rfl⟩
 ·rw[if_pos h1]
  exact⟨λh=>absurd h h1,λh=>absurd (ckSp_ok.2 h.1) h1⟩
theorem dF {c:List Ins}{x:Int}(h:cn c x=true):0<=x/\x < c.length:=by
 unfold cn at h;simp only[j6,decide_eq_true_eq] at h;omega

theorem EC {s:Sp}{a:Int}:s.has a=true↔s.n=false/\s.lo<=a/\a<=s.hi:=by
 unfold Sp.has;simp only[j6,z5,decide_eq_true_eq]
theorem eC {s t:Sp}(h:s.lo<=s.hi):eZ s t=true↔s.n=true\/(t.n=false/\t.lo<=s.lo/\s.hi<=t.hi):=by
 unfold eZ;rw[x1,j6,EC,EC];constructor
 ·rintro (h|⟨⟨h1,h2,h3⟩,_,h4,h5⟩)
  ·exact .inl h
  ·exact .inr ⟨h1,h2,h5⟩
 ·rintro (h|⟨h1,h2,h3⟩)
  ·exact .inl h
  ·exact .inr ⟨⟨h1,aa,aa⟩,h1,aa,aa⟩
theorem NI {s t:Sp}(hs:s.Ok)(ht:t.Ok):eZ s (bj s t)=true/\eZ t (bj s t)=true:=by
 obtain⟨_,_,_,h1⟩:=hs;obtain⟨_,_,_,h2⟩:=ht;rw[eC h1,eC h2];unfold bj;cases hn:s.n with
 |true=>
  simp only[if_true];cases ht':t.n with
  |true=>simp
  |false=>simp
 |false=>
  simp only[j1,if_false];cases ht':t.n with
  |true=>simp[hn]
  |false=>simp;omega
theorem NJ {s t:Sp}(hs:s.Ok)(ht:t.Ok):eZ s (br s t)=true/\eZ t (br s t)=true:=by
 obtain⟨⟨s1,s2⟩,⟨s3,s4⟩,_,h1⟩:=hs;obtain⟨⟨t1,t2⟩,⟨t3,t4⟩,_,h2⟩:=ht;rw[eC h1,eC h2];unfold br;cases hn:s.n with
 |true=>
  simp only[if_true];cases ht':t.n with
  |true=>simp
  |false=>simp
 |false=>
  simp only[j1,if_false];cases ht':t.n with
  |true=>simp[hn]
  |false=>
   simp only[j1,if_false,false_or,true_and]
   (repeat' split)<;>omega
section
variable {c:List Ins} {g h:Gs} {w:Bool}
theorem pF (w:Bool)(g h:Gs):(am w g h).sp=if w then br g.sp h.sp else bj g.sp h.sp:=rfl
theorem lY (hg:aE c g=0)(hh:aE c h=0):aE c (am w g h)=0:=by
 rw[ckGs_iff] at hg hh |-;refine⟨?_,λx hx=> ?_,mR (pa _ _)⟩
 ·rw[pF]
  cases w
  ·exact ND hg.1 hh.1
  ·exact NQ hg.1 hh.1
 ·rcases (mem_siteSet.1 hx).2 with h|h
  ·exact hg.2.1 x h
  ·exact hh.2.1 x h
theorem inGs_iff {g h:Gs}:dn g h=true↔(g.n=true->h.n=true)/\(g.t=true->h.t=true)/\(g.f=true->h.f=true)/\eZ g.sp h.sp=true/\∀x∈g.s,x∈h.s:=by
 unfold dn;simp only[j6,z5,Bool.and_eq_false_imp,Bool.not_eq_false',J4,Q4]
theorem p7 (h60:c.length<=60)(hg:aE c g=0)(hh:aE c h=0):dn g (am w g h)=true/\dn h (am w g h)=true:=by
 rw[ckGs_iff] at hg hh;have hs:eZ g.sp (am w g h).sp=true/\eZ h.sp (am w g h).sp=true:=by
  rw[pF];cases w
  ·exact NI hg.1 hh.1
  ·exact NJ hg.1 hh.1
 have hm:∀x,x∈g.s\/x∈h.s->x∈(am w g h).s:=λx hx=>mem_siteSet.2 ⟨by
  rcases hx with hx|hx
  ·have:=dF (hg.2.1 x hx);omega
  ·have:=dF (hh.2.1 x hx);omega,hx⟩
 rw[inGs_iff,inGs_iff];refine⟨⟨λe=> ?_,λe=> ?_,λe=> ?_,hs.1,λx hx=>hm x (.inl hx)⟩,⟨λe=> ?_,λe=> ?_,λe=> ?_,hs.2,λx hx=>hm x (.inr hx)⟩⟩<;>simp[am,e]
end

theorem mv {c:List Ins}{p:Gs->Bool}:∀{l:List (List Gs)} {i:Nat},dM c p i l=false↔∀k (h:k < l.length),cn c ((i+k:Nat):Int)=true\/∀g∈l[k],p g=false
 |[],i=>by simp[dM]
 |r::l,i=>by
  unfold dM;rw[Bool.or_eq_false_iff,mv (l:=l)];constructor
  ·rintro ⟨h,h'⟩ k hk
   cases k with
   |zero=>
    rw[Bool.and_eq_false_iff] at h;rcases h with h|h
    ·exact .inl cA
    ·exact .inr cA
   |succ k=>
    have:=h' k gX;rwa [show i+1+k=i+(k+1) by omega] at this
  ·intro h
   refine⟨?_,λk hk=> ?_⟩
   ·rw[Bool.and_eq_false_iff]
    rcases h 0 ah with h|h
    ·exact .inl cA
    ·exact .inr cA
   ·have:=h (k+1) gX
    rwa [show i+(k+1)=i+1+k by omega] at this
theorem o8 {c:List Ins}:∀{l:List Gs},cl c l=0↔∀g∈l,aE c g=0
 |[]=>by simp[cl]
 |g::l=>by
  unfold cl;by_cases h:aE c g=0
  ·rw[if_pos h,o8]
   simp[h]
  ·rw[if_neg h]
   exact⟨λe=>absurd e h,λe=>e g ah⟩
structure PicOk (V F:Int) (c:List Ins) (x:Pic):Prop where
 none:x.none=false
 vars:(x.vars.length:Int)=V
 flds:x.flds.length=c.length
 row:∀k (h:k < x.flds.length),(x.flds[k].length:Int)=F
 gv:∀g∈x.vars,aE c g=0
 gf:∀k (h:k < x.flds.length),∀g∈x.flds[k],aE c g=0
 stray:∀k (h:k < x.flds.length),cn c (k:Int)=true\/∀g∈x.flds[k],ap g=true
theorem kK {V F:Int}{c:List Ins}{x:Pic}(hn:x.none=true):aN V F c x=0↔x=nonePic:=by
 obtain⟨n,vars,flds⟩:=x;simp only at hn;subst hn;unfold aN bN nonePic;simp only[if_true,Pic.mk.injEq,true_and];constructor
 ·intro h
  split at h
  ·cases h
  ·rename_i h1
   simpa using h1
 ·rintro ⟨rfl,rfl⟩
  rfl
theorem y9 {V F:Int}{c:List Ins}{x:Pic}(hn:x.none=false):aN V F c x=0↔PicOk V F c x:=by
 obtain⟨n,vars,flds⟩:=x;simp only at hn;subst hn;unfold aN bN bT;simp only[j1,if_false];constructor
 ·intro h
  split at h
  ·cases h
  rename_i h1;split at h
  ·rename_i h2;exact absurd h h2
  rename_i h2;split at h
  ·cases h
  rename_i h3;simp only[J1,j6,decide_eq_true_eq,z5,Q8,decide_eq_false_iff_not,Decidable.not_not] at h1;simp only[ne_eq,Decidable.not_not] at h2;rw[o8] at h2;rw[Bool.not_eq_true,mv] at h3;refine⟨rfl,h1.1,h1.2.1,λk h=> ?_,λg hg=>h2 g (by simp[hg]),λk h g hg=>h2 g ?_,λk h=> ?_⟩
  ·have:=h1.2.2 _ (gM h)
   simpa using this
  ·rw[j9,Q9]
   exact .inr ⟨_,gM h,hg⟩
  ·rcases h3 k h with h3|h3
   ·exact .inl (by simpa using h3)
   ·exact .inr λg hg=>by simpa using h3 g hg
 ·rintro ⟨-,h1,h2,h3,h4,h5,h6⟩
  simp only at h1 h2 h3 h4 h5 h6;rw[if_neg,if_neg,if_neg]
  ·rw[Bool.not_eq_true,mv]
   intro k h;rcases h6 k h with h6|h6
   ·exact .inl (by simpa using h6)
   ·exact .inr λg hg=>by simpa using h6 g hg
  ·rw[ne_eq,Decidable.not_not,o8]
   intro g hg;rw[j9,Q9] at hg;rcases hg with hg|⟨r,hr,hg⟩
   ·exact h4 g hg
   ·obtain⟨k,hk,rfl⟩:=x2 hr
    exact h5 k hk g hg
  ·simp only[J1,j6,decide_eq_true_eq,z5,Q8]
   refine⟨h1,h2,λr hr=> ?_⟩;obtain⟨k,hk,rfl⟩:=x2 hr;simpa using h3 k hk
section
variable {V F:Int} {c:List Ins} {x y:Pic} {w:Bool}
theorem cF (h:aN V F c x=0)(hn:x.none=false):PicOk V F c x:=(y9 hn).1 h
theorem PicOk.ck (h:PicOk V F c x):aN V F c x=0:=(y9 h.none).2 h
theorem Dg {g:Gs}:ap g=true↔g.sp.n=true/\g.n=false/\g.t=false/\g.f=false/\g.s=[]:=by
 unfold ap aO;simp only[j6,z5,Bool.or_eq_false_iff,decide_eq_false_iff_not,z9,Nat.le_zero,Z0]
theorem Co {g h:Gs}(hg:ap g=true)(hh:ap h=true):ap (am w g h)=true:=by
 rw[Dg] at hg hh |-;obtain⟨a1,a2,a3,a4,a5⟩:=hg;obtain⟨b1,b2,b3,b4,b5⟩:=hh;refine⟨?_,by simp[am,a2,b2],by simp[am,a3,b3],by simp[am,a4,b4],by simp[am,gK,a5,b5]⟩;rw[pF];cases w<;>simp[bj,br,a1,b1]
theorem mt {j:Gs->Gs->Gs}{a b:List Gs}:(aQ j a b).length=min a.length b.length:=j3
theorem mf {j:Gs->Gs->Gs}{a b:List Gs}{g:Gs}(h:g∈aQ j a b):∃i,∃(h1:i < a.length) (h2:i < b.length),g=j a[i] b[i]:=by
 obtain⟨i,hi,rfl⟩:=x2 h;have hi':=hi;rw[mt] at hi';exact⟨i,aa,aa,by simp[aQ]⟩
theorem PicOk.join (hx:PicOk V F c x)(hy:PicOk V F c y):PicOk V F c (aJ (am w) x y):=by
 have e:aJ (am w) x y=⟨false,aQ (am w) x.vars y.vars,J2 (aQ (am w)) x.flds y.flds⟩:=by
  unfold aJ;rw[if_neg (by rw[hx.none];decide),if_neg (by rw[hy.none];decide)]
 rw[e];have l1:=hx.vars;have l2:=hy.vars;have l3:=hx.flds;have l4:=hy.flds;refine⟨rfl,?_,?_,λk h=> ?_,λg hg=> ?_,λk h g hg=> ?_,λk h=> ?_⟩
 ·simp only[mt];omega
 ·simp only[j3];omega
 ·simp only[j3] at h
  have:=hx.row k aa;have:=hy.row k aa;simp only[j7,mt];omega
 ·obtain⟨i,h1,h2,rfl⟩:=mf hg
  exact lY (hx.gv _ (gM _)) (hy.gv _ (gM _))
 ·simp only[j3] at h
  simp only[j7] at hg;obtain⟨i,h1,h2,rfl⟩:=mf hg;exact lY (hx.gf k aa _ (gM _)) (hy.gf k aa _ (gM _))
 ·simp only[j3] at h
  rcases hx.stray k aa with a|a
  ·exact .inl a
  rcases hy.stray k aa with b|b
  ·exact .inl b
  right;intro g hg;simp only[j7] at hg;obtain⟨i,h1,h2,rfl⟩:=mf hg;exact Co (a _ (gM _)) (b _ (gM _))
theorem vt (hx:aN V F c x=0)(hy:aN V F c y=0):aN V F c (aJ (am w) x y)=0:=by
 cases hn:x.none with
 |true=>unfold aJ;rw[if_pos hn];exact hy
 |false=>
  cases hm:y.none with
  |true=>unfold aJ;rw[if_neg pY,if_pos hm];exact hx
  |false=>exact((cF hx hn).join (cF hy hm)).ck
theorem yW {a b:List Gs}:fI a b=true↔∀i (h1:i < a.length) (h2:i < b.length),dn a[i] b[i]=true:=sP
theorem fq (hn:x.none=false)(hm:y.none=false):bM x y=true↔(∀i (h1:i < x.vars.length) (h2:i < y.vars.length),dn x.vars[i] y.vars[i]=true)/\∀k (h1:k < x.flds.length) (h2:k < y.flds.length) i (h3:i < x.flds[k].length) (h4:i < y.flds[k].length),dn x.flds[k][i] y.flds[k][i]=true:=by
 unfold bM;rw[hn,hm];simp only[Bool.false_or,Bool.not_false,Bool.true_and,j6];rw[yW,sP];simp only[yW]
theorem mZ {g:Gs}(h:aE c g=0):g.sp.lo<=g.sp.hi:=(ckGs_iff.1 h).1.2.2.2
theorem Mp {L:List (List Gs)}{k:Nat}(h:k < L.length):L.getD k []=L[k]:=by simp[j2,q0 h]
theorem Ib {L:List (List Gs)}{k:Nat}(h:¬k < L.length):L.getD k []=[]:=by simp[j2,x0 (z9.1 h)]
theorem nU (h60:c.length<=60)(hx:aN V F c x=0)(hy:aN V F c y=0):bM x (aJ (am w) x y)=true/\bM y (aJ (am w) x y)=true:=by
 have self:∀{z:Pic},aN V F c z=0->bM z z=true:=by
  intro z hz;cases hn:z.none with
  |true=>simp[bM,hn]
  |false=>
   have kz:=cF hz hn;rw[fq hn hn];have sg:∀{g:Gs},aE c g=0->dn g g=true:=λhg=>inGs_iff.2 ⟨id,id,id,by
    rw[eC (mZ hg)];rename_i g;cases e:g.sp.n with
    |true=>exact .inl rfl
    |false=>exact .inr ⟨rfl,aa,aa⟩,λ_ h=>h⟩
   exact⟨λi h1 _=>sg (kz.gv _ (gM _)),λk h1 _ i h3 _=>sg (kz.gf k h1 _ (gM _))⟩
 cases hn:x.none with
 |true=>
  have e:aJ (am w) x y=y:=by unfold aJ;rw[if_pos hn]
  rw[e];exact⟨by simp[bM,hn],self hy⟩
 |false=>
  cases hm:y.none with
  |true=>
   have e:aJ (am w) x y=x:=by unfold aJ;rw[if_neg (by rw[hn];decide),if_pos hm]
   rw[e];exact⟨self hx,by simp[bM,hm]⟩
  |false=>
   have kx:=cF hx hn;have ky:=cF hy hm;have e:aJ (am w) x y=⟨false,aQ (am w) x.vars y.vars,J2 (aQ (am w)) x.flds y.flds⟩:=by
    unfold aJ;rw[if_neg pY,if_neg (by rw[hm];decide)]
   rw[e,fq hn rfl,fq hm rfl];refine⟨⟨λi h1 h2=> ?_,λk h1 h2 i h3 h4=> ?_⟩,⟨λi h1 h2=> ?_,λk h1 h2 i h3 h4=> ?_⟩⟩
   ·simp only[aQ,j3] at h2
    simp only[aQ,j7];exact(p7 h60 (kx.gv _ (gM _)) (ky.gv _ (gM _))).1
   ·simp only[j3] at h2
    simp only[aQ,j7,j3] at h4;simp only[aQ,j7];exact(p7 h60 (kx.gf k h1 _ (gM _)) (ky.gf k aa _ (gM _))).1
   ·simp only[aQ,j3] at h2
    simp only[aQ,j7];exact(p7 h60 (kx.gv _ (gM _)) (ky.gv _ (gM _))).2
   ·simp only[j3] at h2
    simp only[aQ,j7,j3] at h4;simp only[aQ,j7];exact(p7 h60 (kx.gf k aa _ (gM _)) (ky.gf k h1 _ (gM _))).2
end
structure Edg where
 tgt:Int
 pic:Pic
def gAt (x:Pic)(i:Int):Gs:=x.vars.getD i.toNat noneG
def aX (x:Pic)(i:Int)(g:Gs):Pic:={x with vars:=x.vars.set i.toNat g}
def fAt (x:Pic)(s n:Int):Gs:=(x.flds.getD s.toNat []).getD n.toNat noneG
def oY (x:Pic)(s n:Int)(g:Gs):Pic:={x with flds:=x.flds.modify s.toNat λr=>r.set n.toNat g}
def b9 (s:Sp):Sp:=if s.n then⟨true,0,0⟩ else if (if s.hi=0 then -1 else s.hi) < (if s.lo=0 then 1 else s.lo) then⟨true,0,0⟩ else⟨false,if s.lo=0 then 1 else s.lo,if s.hi=0 then -1 else s.hi⟩
def bA (g:Gs):Gs:=⟨false,b9 g.sp,g.t,false,g.s⟩
def cc (g:Gs):Gs:=⟨g.n,if g.sp.has 0 then⟨false,0,0⟩ else⟨true,0,0⟩,false,g.f,[]⟩
def bO (g:Gs):Bool:=g.n||(!g.sp.n||(g.t||g.f))
def eH (x:Pic)(n:Int)(l:List Int):Gs:=l.foldl (λg s=>am false g (fAt x s n)) noneG
def dp (x:Pic)(n:Int)(b:Gs)(l:List Int):Pic:=l.foldl (λy s=>oY y s n (am false (fAt y s n) b)) x
def aY (i:Ins)(at_:Int)(x:Pic):Gs×Bool:=
 if i.k=1 then(⟨false,⟨false,i.n,i.n⟩,false,false,[]⟩,false)
 else if i.k=2 then(⟨false,⟨true,0,0⟩,decide (i.n=1),decide (i.n=0),[]⟩,false)
 else if i.k=3 then(da,false)
 else if i.k=11 then(⟨false,⟨true,0,0⟩,false,false,[at_]⟩,false)
 else if i.k=12 then(eH x i.n (gAt x i.a).s,bO (gAt x i.a))
 else if i.k=14 then(⟨false,⟨false,-i.n,i.n⟩,false,false,[]⟩,false)
 else cN i.k (gAt x i.a) (gAt x i.b)
def fY (at_:Int)(x:Pic):Pic:={x with flds:=x.flds.modify at_.toNat λr=>r.map λg=>{g with n:=true}}
def aA (i:Ins)(at_:Int)(x:Pic):List Edg×Bool×Bool:=
 if x.none then([],false,false)
 else if i.k=19 then([],false,false)
 else if i.k=18 then([⟨at_+1,x⟩],false,false)
 else if i.k=16 then([⟨i.g,x⟩],false,false)
 else if i.k=15 then((if cj (gAt x i.a) then [⟨i.g,aX x i.a (bA (gAt x i.a))⟩] else [])++(if cQ (gAt x i.a) then [⟨at_+1,aX x i.a (cc (gAt x i.a))⟩] else []),false,false)
 else if i.k=17 then((if cj (gAt x i.a) then [⟨at_+1,aX x i.a (bA (gAt x i.a))⟩] else []),false,cQ (gAt x i.a))
 else if i.k=13 then(if (gAt x i.a).s.length=0 then([],bO (gAt x i.a),false) else([⟨at_+1,dp x i.n (gAt x i.b) (gAt x i.a).s⟩],bO (gAt x i.a),false))
 else if ap (aY i at_ x).1 then([],(aY i at_ x).2,false)
 else([⟨at_+1,aX (if i.k=11 then fY at_ x else x) i.tgt (aY i at_ x).1⟩],(aY i at_ x).2,false)

section
variable {V F:Int} {c:List Ins} {x:Pic} {g b:Gs}
theorem hU (hx:PicOk V F c x)(i:Int):aE c (gAt x i)=0:=by
 unfold gAt;by_cases h:i.toNat < x.vars.length
 ·simp only[j2,q0 h,J5]
  exact hx.gv _ (gM h)
 ·simp only[j2,x0 (z9.1 h),J6]
  rfl
theorem uO (hx:PicOk V F c x)(s n:Int):aE c (fAt x s n)=0:=by
 unfold fAt;by_cases h:s.toNat < x.flds.length
 ·rw[Mp h]
  by_cases h2:n.toNat < x.flds[s.toNat].length
  ·simp only[j2,q0 h2,J5]
   exact hx.gf _ h _ (gM h2)
  ·simp only[j2,x0 (z9.1 h2),J6]
   rfl
 ·rw[Ib h]
  rfl
theorem PicOk.setVar (hx:PicOk V F c x)(i:Int)(hg:aE c g=0):PicOk V F c (aX x i g):=by
 refine⟨hx.none,by simpa[Go.Proofs.YtmapdpcfanecdabGreatDoor.aX] using hx.vars,hx.flds,hx.row,λh hh=> ?_,hx.gf,hx.stray⟩;rcases ww hh with rfl|hh
 ·exact hg
 ·exact hx.gv h hh
theorem gG {L:List (List Gs)}{s k:Nat}{f:List Gs->List Gs}(h:k < (L.modify s f).length):(L.modify s f)[k]=if s=k then f (L[k]'(by simpa using h)) else L[k]'(by simpa using h):=by
 rw[List.getElem_modify]
theorem PicOk.setFld (hx:PicOk V F c x)(s n:Int)(h0:0<=s)(hs:cn c s=true)(hg:aE c g=0):PicOk V F c (oY x s n g):=by
 refine⟨hx.none,hx.vars,by simpa[Go.Proofs.YtmapdpcfanecdabGreatDoor.oY] using hx.flds,λk h=> ?_,hx.gv,λk h q hq=> ?_,λk h=> ?_⟩
 ·have h':k < x.flds.length:=by simpa[Go.Proofs.YtmapdpcfanecdabGreatDoor.oY] using h
  show (((x.flds.modify s.toNat λr=>r.set n.toNat g)[k]'(by simpa using h')).length:Int)=F;rw[gG];split
  ·rw[Z1];exact hx.row k h'
  ·exact hx.row k h'
 ·have h':k < x.flds.length:=by simpa[Go.Proofs.YtmapdpcfanecdabGreatDoor.oY] using h
  have hq':q∈(x.flds.modify s.toNat λr=>r.set n.toNat g)[k]'(by simpa using h'):=hq;rw[gG] at hq';split at hq'
  ·rcases ww hq' with rfl|hq'
   ·exact hg
   ·exact hx.gf k h' q hq'
  ·exact hx.gf k h' q hq'
 ·have h':k < x.flds.length:=by simpa[Go.Proofs.YtmapdpcfanecdabGreatDoor.oY] using h
  by_cases e:s.toNat=k
  ·left
   rw[<-e,Int.toNat_of_nonneg h0];exact hs
  ·rcases hx.stray k h' with a|a
   ·exact .inl a
   ·right
    intro q hq;have hq':q∈(x.flds.modify s.toNat λr=>r.set n.toNat g)[k]'(by simpa using h'):=hq;rw[gG,if_neg e] at hq';exact a q hq'
theorem tm (hx:PicOk V F c x)(n:Int)(l:List Int):aE c (eH x n l)=0:=by
 unfold eH;have:∀(l:List Int) (g:Gs),aE c g=0->aE c (l.foldl (λg s=>am false g (fAt x s n)) g)=0:=by
  intro l;induction l with
  |nil=>exact λg h=>h
  |cons s l ih=>exact λg h=>ih _ (lY h (uO hx s n))
 exact this l _ rfl
theorem pN (hx:PicOk V F c x)(n:Int)(hb:aE c b=0):∀(l:List Int),(∀s∈l,cn c s=true)->PicOk V F c (dp x n b l):=by
 intro l;unfold dp;induction l generalizing x with
 |nil=>exact λ_=>hx
 |cons s l ih=>
  intro h;have hs:=h s ah;exact ih (hx.setFld s n (dF hs).1 hs (lY (uO hx s n) hb)) λt ht=>h t (by simp[ht])
theorem gi:(⟨true,0,0⟩:Sp).Ok:=⟨by unfold ba;simp only;omega,by unfold ba;simp only;omega,λ_=>⟨rfl,rfl⟩,Int.le_refl _⟩
theorem iZ {lo hi:Int}(h1: -2147483648<=lo)(h2:hi<=2147483647)(h:lo<=hi):(⟨false,lo,hi⟩:Sp).Ok:=⟨⟨h1,aq⟩,⟨aq,h2⟩,(λh=>aT),h⟩
theorem KK {s:Sp}(h:s.Ok):(b9 s).Ok:=by
 obtain⟨⟨a1,a2⟩,⟨a3,a4⟩,a5,a6⟩:=h;unfold b9;split
 ·exact gi
 generalize e1:(if s.hi=0 then(-1:Int) else s.hi)=hi;generalize e2:(if s.lo=0 then(1:Int) else s.lo)=lo;split
 ·exact gi
 ·have:hi<=2147483647:=by rw[<-e1];split<;>omega
  have: -2147483648<=lo:=by rw[<-e2];split<;>omega
  exact iZ aa aa aa
theorem yT (h:aE c g=0):aE c (bA g)=0:=by
 rw[ckGs_iff] at h |-;exact⟨KK h.1,h.2⟩
theorem Gb (h:aE c g=0):aE c (cc g)=0:=by
 rw[ckGs_iff] at h |-;refine⟨?_,λx hx=>by simp[cc] at hx,rfl⟩;show (if g.sp.has 0=true then _ else _:Sp).Ok;split
 ·exact iZ aa aa aa
 ·exact gi
theorem fu {n t f:Bool}{sp:Sp}(h:sp.Ok):aE c ⟨n,sp,t,f,[]⟩=0:=by
 rw[ckGs_iff];exact⟨h,λx hx=>by simp at hx,rfl⟩
theorem Nu {k:Int}{h:Gs}(hg:aE c g=0)(hh:aE c h=0):aE c (cN k g h).1=0:=by
 unfold cN;split
 ·exact hg
 split
 ·exact fu gi
 split
 ·rfl
 split
 ·exact fu gi
 split
 ·exact fu gi
 ·exact fu (OD (ckGs_iff.1 hg).1 (ckGs_iff.1 hh).1)
theorem PicOk.newPic (hx:PicOk V F c x){at_:Int}(h0:0<=at_)(hs:cn c at_=true):PicOk V F c (fY at_ x):=by
 refine⟨hx.none,hx.vars,by simpa[Go.Proofs.YtmapdpcfanecdabGreatDoor.fY] using hx.flds,λk h=> ?_,hx.gv,λk h q hq=> ?_,λk h=> ?_⟩
 ·have h':k < x.flds.length:=by simpa[Go.Proofs.YtmapdpcfanecdabGreatDoor.fY] using h
  show (((x.flds.modify at_.toNat λr=>r.map λg=>{g with n:=true})[k]'(by simpa using h')).length:Int)=F;rw[gG];split
  ·rw[List.length_map];exact hx.row k h'
  ·exact hx.row k h'
 ·have h':k < x.flds.length:=by simpa[Go.Proofs.YtmapdpcfanecdabGreatDoor.fY] using h
  have hq':q∈(x.flds.modify at_.toNat λr=>r.map λg=>{g with n:=true})[k]'(by simpa using h'):=hq;rw[gG] at hq';split at hq'
  ·obtain⟨p,hp,rfl⟩:=J3.1 hq'
   have:=hx.gf k h' p hp;rw[ckGs_iff] at this |-;exact this
  ·exact hx.gf k h' q hq'
 ·have h':k < x.flds.length:=by simpa[Go.Proofs.YtmapdpcfanecdabGreatDoor.fY] using h
  by_cases e:at_.toNat=k
  ·left
   rw[<-e,Int.toNat_of_nonneg h0];exact hs
  ·rcases hx.stray k h' with a|a
   ·exact .inl a
   ·right
    intro q hq;have hq':q∈(x.flds.modify at_.toNat λr=>r.map λg=>{g with n:=true})[k]'(by simpa using h'):=hq;rw[gG,if_neg e] at hq';exact a q hq'
theorem vF {p:Int}(h0:0<=p)(h1:p < c.length)(hk:(bL c p).k=11):cn c p=true:=by
 unfold cn;unfold bL Ef at hk;rw[hk];simp[h0,h1]
theorem vP (hp:ProgOk V F c)(hx:PicOk V F c x){p:Int}(h0:0<=p)(h1:p < c.length):aE c (aY (bL c p) p x).1=0:=by
 obtain⟨q1,q2,q3,q4,q5,q6,q7,q8,q9⟩:=cu (hp.each _ (pt h0 h1));unfold aY;split
 ·rename_i h
  have:=q7 h;exact fu (iZ aa aa aa)
 split
 ·exact fu gi
 split
 ·exact fu gi
 split
 ·rename_i h
  rw[ckGs_iff];refine⟨gi,λy hy=> ?_,rfl⟩;rw[j5.1 hy];exact vF h0 h1 h
 split
 ·exact tm hx _ _
 split
 ·rename_i h
  have:=q9 h;exact fu (iZ aa aa aa)
 ·exact Nu (hU hx _) (hU hx _)
theorem Hq (hp:ProgOk V F c)(hx:aN V F c x=0){p:Int}(h0:0<=p)(h1:p < c.length):∀e∈(aA (bL c p) p x).1,aN V F c e.pic=0/\e.pic.none=false/\0<=e.tgt/\e.tgt<=c.length:=by
 obtain⟨q1,q2,q3,q4,q5,q6,q7,q8,q9⟩:=cu (hp.each _ (pt h0 h1));intro e he;unfold aA at he;split at he
 ·simp at he
 rename_i hn;have hn':x.none=false:=mQ;have kx:=cF hx hn';split at he
 ·simp at he
 split at he
 ·obtain rfl:=j5.1 he
  exact⟨hx,hn',aq,aq⟩
 split at he
 ·rename_i h16
  have:=q6 (by simp[nG,h16]);obtain rfl:=j5.1 he;exact⟨hx,hn',aq,aq⟩
 split at he
 ·rename_i h15
  have:=q6 (by simp[nG,h15]);simp only[j9] at he;rcases he with he|he
  ·split at he
   ·obtain rfl:=j5.1 he
    exact⟨(kx.setVar _ (yT (hU kx _))).ck,hn',aq,aq⟩
   ·simp at he
  ·split at he
   ·obtain rfl:=j5.1 he
    exact⟨(kx.setVar _ (Gb (hU kx _))).ck,hn',aq,aq⟩
   ·simp at he
 split at he
 ·simp only at he
  split at he
  ·obtain rfl:=j5.1 he
   exact⟨(kx.setVar _ (yT (hU kx _))).ck,hn',aq,aq⟩
  ·simp at he
 split at he
 ·split at he
  ·simp at he
  ·obtain rfl:=j5.1 he
   have:=pN kx (bL c p).n (hU kx (bL c p).b) (gAt x (bL c p).a).s ((ckGs_iff.1 (hU kx _)).2.1);exact⟨this.ck,this.none,aq,aq⟩
 split at he
 ·simp at he
 ·obtain rfl:=j5.1 he
  have:PicOk V F c (if (bL c p).k=11 then fY p x else x):=by
   split
   ·rename_i h11;exact kx.newPic h0 (vF h0 h1 h11)
   ·exact kx
  have:=this.setVar (bL c p).tgt (vP hp kx h0 h1);exact⟨this.ck,this.none,aq,aq⟩
end
end
section
open Go.RowKit
def Cells (w:World)(b:Nat)(cs:List Value):Prop:=(∀(j:Nat) (v:Value),cs[j]? =sO v->w.cell? ⟨b,j,nO⟩=sO v)/\b < w.heap.size/\∀j,w.frozen? ⟨b,j,nO⟩=false
section
variable {w w':World} {b:Nat} {cs:List Value}
theorem Cells.same (h:Cells w b cs)(hb:w'.heap[b]? =w.heap[b]?)(hz:w.heap.size<=w'.heap.size):Cells w' b cs:=⟨λj v hj=>by rw[World.cell?_of_block (a:=⟨b,j,nO⟩) hb];exact h.1 j v hj,lL h.2.1 hz,λj=>by rw[World.frozen?_of_block (a:=⟨b,j,nO⟩) hb];exact h.2.2 j⟩
theorem Cells.call (h:Cells w b cs)(hb:bl w w'):Cells w' b cs:=h.same (hb.block b h.2.1) hb.size
theorem Cells.far (h:Cells w b cs){a:Addr}(ha:b≠a.block)(u:Value):Cells (w.setCell a u) b cs:=h.same (hSe _ _ _ _ ha) bD
theorem Cells.put (h:Cells w b cs)(j:Nat)(hj:j < cs.length)(u:Value):Cells (w.setCell ⟨b,j,nO⟩ u) b (cs.set j u):=by
 refine⟨λk v hk=> ?_,by simpa[Z2] using h.2.1,λk=>by rw[World.frozen?_setCell];exact h.2.2 k⟩;by_cases e:k=j
 ·subst e
  rw[List.getElem?_set_self hj] at hk;cases hk;exact World.cell?_setCell_same _ _ _ (h.1 k cs[k] (q0 hj))
 ·rw[List.getElem?_set_ne (Ne.symm e)] at hk
  rw[World.cell?_setCell_other _ _ _ _ (by intro e';cases e';exact e rfl)];exact h.1 k v hk
theorem Cells.new (w:World)(t:TypeId)(cs:List Value):Cells (w.alloc (Cc cs.toArray t)) w.heap.size cs:=by
 refine⟨λj v hj=> ?_,ah,λj=> ?_⟩
 ·have:(w.alloc (Cc cs.toArray t)).cell? ⟨w.heap.size,j,nO⟩=cs.toArray[j]? :=World.cell?_alloc_mark w cs.toArray t (0,0) j
  rw[this];simpa using hj
 ·have:=World.frozen?_alloc_mark w cs.toArray t 0 0 j
  rw[this];simp
end
def aV (i:Ins)(V F:Int)(s:oA)(c:List Ins)(cap:Nat)(at_:Int)(x:Pic)(vs:oA)(vc:Nat)(fs:oA)(fc:Nat)(ev:Value)(wr fl:Bool):List Value:=
 [I Y i.k,I Y i.tgt,I Y i.a,I Y i.b,I Y i.n,I Y i.g,I Y V,I Y F,U s c.length cap,I Y at_,Bb x.none,U vs x.vars.length vc,U fs x.flds.length fc,ev,Bb wr,Bb fl]
structure Ed where
 tgt:Int
 pic:Pic
 vs:oA
 vc:Nat
 fs:oA
 fc:Nat
def di (e:Ed):List Value:=[I Y e.tgt,Bb e.pic.none,U e.vs e.pic.vars.length e.vc,U e.fs e.pic.flds.length e.fc]
def edG (e:Ed):Edg:=⟨e.tgt,e.pic⟩
def sV (S:Nat->Prop)(w:World)(e:Ed):Prop:=PicOn S w e.pic e.vs e.fs/\(e.pic.vars.length<=e.vc/\e.vc<=maxLen)/\(e.pic.flds.length<=e.fc/\e.fc<=maxLen)
theorem my (e:Ed):∀u∈di e,u.oneCell'=true:=by
 intro u hu;simp only[di,j4,List.not_mem_nil,or_false] at hu;rcases hu with rfl|rfl|rfl|rfl<;>rfl
theorem sd:∀(l:List Ed) (i:Nat) (h:i < l.length) (j:Nat) (_:j < 4),(l.flatMap di)[i * 4+j]? =(di l[i])[j]?
 |[],i,h,_,_=>absurd h ah
 |x::r,0,_,j,hj=>by
  rw[J0,Nat.zero_mul,x3,List.getElem?_append_left (by simpa[di] using hj)];rfl
 |x::r,i+1,h,j,hj=>by
  have e4:(di x).length=4:=rfl;rw[J0,List.getElem?_append_right (by rw[e4];omega),e4];have:(i+1) * 4+j - 4=i * 4+j:=aa;rw[this,sd r i cA j hj];rfl
structure ERow (n sb:Nat) (w:World) (v:Value) (L:List Ed):Prop where
 own:w.ownsRow n 45 4 v L.length (L.flatMap di)
 off:v.ownBlock≠sO sb
 pics:∀e∈L,sV (λb=>n<=b/\b≠sb/\v.ownBlock≠sO b) w e
section
variable {n sb:Nat} {w w':World} {v v':Value} {L:List Ed}
theorem ERow.nil (n sb:Nat)(w:World):ERow n sb w (U nO 0 0) []:=⟨⟨rfl,.inl ⟨rfl,rfl⟩⟩,(λh=>aT),λe he=>by simp at he⟩
theorem ERow.same (h:ERow n sb w v L)(hs:∀b,n<=b->b≠sb->b < w.heap.size->w'.heap[b]? =w.heap[b]?)(hz:w.heap.size<=w'.heap.size):ERow n sb w' v L:=
 ⟨dA h.own λb hb=>hs b (aP h.own hb).2 (λe=>h.off (by rw[hb,e])) (aP h.own hb).1,h.off,λe he=>⟨((h.pics e he).1.same (λb hb hlt=>hs b hb.1 hb.2.1 hlt) hz).mono λb hb _=>hb.1,(h.pics e he).2⟩⟩
theorem ERow.call (h:ERow n sb w v L)(hb:bl w w'):ERow n sb w' v L:=h.same (λb _ _ hlt=>hb.block b hlt) hb.size
theorem ERow.grown (h:ERow n sb w v L){e:Ed}(he:sV (λb=>n<=b/\b≠sb/\v.ownBlock≠sO b) w e)(hr:w'.ownsRow n 45 4 v' (L.length+1) (L.flatMap di++di e))(hg:w.grownBy w' v.ownBlock)(hv:v'.ownBlock=v.ownBlock\/v'.ownBlock=sO w.heap.size)(hsb:sb < w.heap.size):ERow n sb w' v' (L++[e]):=by
 refine⟨by rw[List.length_append,List.flatMap_append];simpa using hr,λe'=> ?_,λq hq=> ?_⟩
 ·rcases hv with hv|hv
  ·rw[hv] at e';exact h.off e'
  ·rw[hv] at e';cases e';exact absurd hsb (Z3 _)
 ·have hq':sV (λb=>n<=b/\b≠sb/\v.ownBlock≠sO b) w q:=by
   rcases j9.1 hq with hq|hq
   ·exact h.pics q hq
   ·rw[j5.1 hq];exact he
  refine⟨(hq'.1.same (λb hb hlt=>hg.block b hlt λe=>hb.2.2 e.symm) hg.size).mono λb hb _=>⟨hb.1.1,hb.1.2.1,?_⟩,hq'.2⟩;rcases hv with hv|hv
  ·rw[hv];exact hb.1.2.2
  ·rw[hv];intro e;cases e;exact absurd hb.2 (Z3 _)
theorem ERow.form (h:ERow n sb w v L):∃es ec,v=U es L.length ec/\L.length<=ec/\ec<=maxLen:=by
 rcases h.own.2 with⟨e,h0⟩|⟨g,cap,cur,e,_,_,k1,k2,_⟩
 ·exact⟨nO,0,by rw[e,h0],aa,x4 _⟩
 ·exact⟨sO ⟨g,0,nO⟩,cap,e,k1,k2⟩
end
def ClT (n sb:Nat)(eb:Option Nat)(xb b:Nat):Prop:=n<=b/\b≠sb/\b≠xb/\eb≠sO b
def l8 (n sb:Nat)(eb:Option Nat)(H:Nat)(w:World)(xb:Nat)(v:Ro)(gs:oA)(gc:Nat)(L:List Ro)(x:Pic):Prop:=
 H<=xb/\Cells w xb [Bb false,U v.rs v.l.length v.rc,U gs L.length gc]/\PicG (ClT n sb eb xb) H w v gs gc L/\Off v (Value.slice gs L.length gc).ownBlock L xb/\aU false v L=x
section
variable {w w':World} {B m:Nat} {s:St} {vv tv lv:Value} {fv:List Value}

theorem AU {e:TypeId}{z:Nat}{v:Value}{n:Nat}{xs:List Value}{B':Nat}(h:w.ownsRow B e z v n xs)(hB:B'<=B):w.ownsRow B' e z v n xs:=by
 obtain⟨h1,h2⟩:=h;refine⟨h1,?_⟩;rcases h2 with h2|⟨g,cap,cur,hv,hb,r⟩
 ·exact .inl h2
 ·exact .inr ⟨g,cap,cur,hv,lT hB hb,r⟩
end
def bC (w:World)(b:Nat):Nat->List Value->World
 |_,[]=>w
 |i,y::ys=>bC (w.setCell ⟨b,i,nO⟩ y) b (i+1) ys
theorem CE (b k:Nat)(hk:k≠b):∀(ys:List Value) (i:Nat) (w:World),(bC w b i ys).heap[k]? =w.heap[k]?
 |[],_,_=>rfl
 |y::ys,i,w=>by
  show (bC (w.setCell ⟨b,i,nO⟩ y) b (i+1) ys).heap[k]? =_;rw[CE b k hk ys (i+1) _,hSe _ _ _ _ hk]
theorem Aa (b:Nat):∀(ys:List Value) (i:Nat) (w:World),(bC w b i ys).heap.size=w.heap.size
 |[],_,_=>rfl
 |y::ys,i,w=>by
  show (bC (w.setCell ⟨b,i,nO⟩ y) b (i+1) ys).heap.size=_;rw[Aa b ys (i+1) _];simp[Z2]
theorem vo {B:Nat}{a:World}(b:Nat)(hB:B<=b):∀(ys:List Value) (i:Nat) (w:World),Below B a w->Below B a (bC w b i ys)
 |[],_,_,h=>h
 |y::ys,i,w,h=>vo b hB ys (i+1) _ (h.setCell (p:=⟨b,i,nO⟩) hB y)
def kn:List Value->Nat->List Value->List Value
 |cs,_,[]=>cs
 |cs,o,y::ys=>kn (cs.set o y) (o+1) ys
structure Put (b:Nat) (w w':World) (cs:List Value):Prop where
 cells:Cells w' b cs
 far:∀q,q≠b->w'.heap[q]? =w.heap[q]?
 size:w.heap.size<=w'.heap.size
 low:∀{B:Nat} {a:World},B<=b->Below B a w->Below B a w'
section
variable {b:Nat} {w w':World} {cs:List Value}
theorem uo:∀(ys:List Value) (o:Nat) (w:World) (cs:List Value),Cells w b cs->o+ys.length<=cs.length->Cells (bC w b o ys) b (kn cs o ys)
 |[],_,_,_,h,_=>h
 |y::ys,o,w,cs,h,hl=>uo ys (o+1) _ _ (h.put o (by simp at hl;omega) y) (by simp at hl |-;omega)
theorem bS (h:Cells w b cs)(o:Nat)(ys:List Value)(e:w'=bC w b o ys)(hl:o+ys.length<=cs.length:=by simp):Put b w w' (kn cs o ys):=by
 subst e;exact⟨uo ys o w cs h hl,λq hq=>CE b q hq ys o w,by rw[Aa];exact Nat.le_refl _,λhB hb=>vo b hB ys o w hb⟩
theorem Put.refl (h:Cells w b cs):Put b w w cs:=⟨h,λ_ _=>rfl,lR _,λ_ hb=>hb⟩
theorem Put.trans {w2:World}{ds:List Value}(p:Put b w w' cs)(q:Put b w' w2 ds):Put b w w2 ds:=⟨q.cells,λk hk=>(q.far k hk).trans (p.far k hk),lT p.size q.size,λhB hb=>q.low hB (p.low hB hb)⟩
theorem Put.keep (p:Put b w w' cs){q:Nat}{ds:List Value}(h:Cells w q ds)(hq:q≠b:=by omega):Cells w' q ds:=h.same (p.far q hq) p.size
theorem Put.ints (p:Put b w w' cs){S:Nat->Prop}{ss:oA}{l:List Int}(h:IntsIn S w ss l)(hS:∀q,S q->q≠b):IntsIn S w' ss l:=h.same (λq hq _=>p.far q (hS q hq)) p.size
end
theorem wf (s t:Sp)(b:Bool)(w:World)(h:(s.n||t.n)=true):
  Calls pG 167 #[sv s,sv t,Bb b] w λe w'=>e=Rt (sv (bj s t))/\bl w w':=by
 obtain⟨n,lo,hi⟩:=s;obtain⟨n',lo',hi'⟩:=t;cases n with
 |true=>
  go_enter Tryz.func167,Tryz.ntmps167;go_wp2
  go_returns
  exact⟨rfl,ai⟩
 |false=>
  cases n' with
  |true=>
   go_enter Tryz.func167,Tryz.ntmps167;go_wp2
   go_returns
   exact⟨rfl,ai⟩
  |false=>exact absurd h ah

theorem MW {lo hi lo' hi' a b:Int}(ha:a=if lo' < lo then -2147483648 else lo)(hb:b=if hi < hi' then 2147483647 else hi):br ⟨false,lo,hi⟩ ⟨false,lo',hi'⟩=⟨false,a,b⟩:=by
 subst ha hb;rfl
abbrev eX (e:Int)(r:Sp):Sp:=if e=0 then r else bH

theorem Lc (s t:Sp)(w:World):
  Calls pG 181 #[sv s,sv t,.func (.func 182) #[] #[]] w λe w'=>e=Rt (Tu #[sv (eX (bB s t) (bj s t)),I Y (bB s t)])/\bl w w':=by
 by_cases h:bB s t=0
 ·rw[h];exact Ai s t w h
 ·unfold eX;rw[if_neg h];exact lI _ s t w h

theorem nw {p:Prop}(h:p:=by
 exact((H1.setCell an _).setCell an _).setCell an _):p:=h
theorem KB (s t:Sp)(w:World):
  Calls pG 124 #[sv s,sv t] w λe w'=>e=Rt (Tu #[sv (eX (bB s t) (bj s t)),I Y (bB s t)])/\bl w w':=by
 have hT:=Lc s t;generalize eX (bB s t) (bj s t)=r at hT |-;generalize bB s t=c at hT |-;obtain⟨n,lo,hi⟩:=s;obtain⟨n',lo',hi'⟩:=t;obtain⟨rn,rlo,rhi⟩:=r;go_enter Tryz.func124,Tryz.ntmps124;go_wp2_with (go_at_call 181;fail);refine(hT _).mono ?_;rintro e w1 ⟨rfl,hb1⟩;obtain⟨-,-,⟨r0,r1,r2⟩,⟨f0,f1,f2⟩,z0,z1,z2⟩:=eU (s:=⟨n,lo,hi⟩) (t:=⟨n',lo',hi'⟩) (r:=bH) hb1 ah;have H1:bl w w1:=(eR ⟨n,lo,hi⟩ ⟨n',lo',hi'⟩ bH w).trans (hb1.mono an);simp only[bH] at r0 r1 r2;clear hb1 hT;go_wp2;refine bodyPost_ret (v:=Tu #[sv ⟨rn,rlo,rhi⟩,I Y c]) (by simp[results,Tryz.results124,go_sem,r0,r1,r2]) rfl ⟨rfl,?_⟩;exact nw

theorem Lu (s t:Sp)(w:World):
  Calls pG 181 #[sv s,sv t,.func (.func 197) #[] #[]] w λe w'=>e=Rt (Tu #[sv (eX (bB s t) (aF s t)),I Y (bB s t)])/\bl w w':=by
 by_cases h:bB s t=0
 ·rw[h];exact AM s t w h
 ·unfold eX;rw[if_neg h];exact lI _ s t w h

theorem kw (s t:Sp)(w:World):
  Calls pG 159 #[sv s,sv t] w λe w'=>e=Rt (Tu #[sv (eX (bB s t) (aF s t)),I Y (bB s t)])/\bl w w':=by
 have hT:=Lu s t;generalize eX (bB s t) (aF s t)=r at hT |-;generalize bB s t=c at hT |-;obtain⟨n,lo,hi⟩:=s;obtain⟨n',lo',hi'⟩:=t;obtain⟨rn,rlo,rhi⟩:=r;go_enter Tryz.func159,Tryz.ntmps159;go_wp2_with (go_at_call 181;fail);refine(hT _).mono ?_;rintro e w1 ⟨rfl,hb1⟩;obtain⟨-,-,⟨r0,r1,r2⟩,⟨f0,f1,f2⟩,z0,z1,z2⟩:=eU (s:=⟨n,lo,hi⟩) (t:=⟨n',lo',hi'⟩) (r:=bH) hb1 ah;have H1:bl w w1:=(eR ⟨n,lo,hi⟩ ⟨n',lo',hi'⟩ bH w).trans (hb1.mono an);simp only[bH] at r0 r1 r2;clear hb1 hT;go_wp2;refine bodyPost_ret (v:=Tu #[sv ⟨rn,rlo,rhi⟩,I Y c]) (by simp[results,Tryz.results159,go_sem,r0,r1,r2]) rfl ⟨rfl,?_⟩;exact nw

theorem Iz (s t:Sp)(w:World):
  Calls pG 181 #[sv s,sv t,.func (.func 183) #[] #[]] w λe w'=>e=Rt (Tu #[sv (eX (bB s t) (br s t)),I Y (bB s t)])/\bl w w':=by
 by_cases h:bB s t=0
 ·rw[h];exact wH s t w h
 ·unfold eX;rw[if_neg h];exact lI _ s t w h

theorem Gf (s t:Sp)(w:World):
  Calls pG 125 #[sv s,sv t] w λe w'=>e=Rt (Tu #[sv (eX (bB s t) (br s t)),I Y (bB s t)])/\bl w w':=by
 have hT:=Iz s t;generalize eX (bB s t) (br s t)=r at hT |-;generalize bB s t=c at hT |-;obtain⟨n,lo,hi⟩:=s;obtain⟨n',lo',hi'⟩:=t;obtain⟨rn,rlo,rhi⟩:=r;go_enter Tryz.func125,Tryz.ntmps125;go_wp2_with (go_at_call 181;fail);refine(hT _).mono ?_;rintro e w1 ⟨rfl,hb1⟩;obtain⟨-,-,⟨r0,r1,r2⟩,⟨f0,f1,f2⟩,z0,z1,z2⟩:=eU (s:=⟨n,lo,hi⟩) (t:=⟨n',lo',hi'⟩) (r:=bH) hb1 ah;have H1:bl w w1:=(eR ⟨n,lo,hi⟩ ⟨n',lo',hi'⟩ bH w).trans (hb1.mono an);simp only[bH] at r0 r1 r2;clear hb1 hT;go_wp2;refine bodyPost_ret (v:=Tu #[sv ⟨rn,rlo,rhi⟩,I Y c]) (by simp[results,Tryz.results125,go_sem,r0,r1,r2]) rfl ⟨rfl,?_⟩;exact nw

theorem Gq (s t:Sp)(w:World)(h:bB s t≠0):
  Calls pG 201 #[sv s,sv t] w λe w'=>e=Rt (Tu #[Bb false,I Y (bB s t)])/\bl w w':=by
 have hT:=kw s t;have h':(bB s t==0)=false:=cA;generalize eX (bB s t) (aF s t)=r at hT;generalize bB s t=c at hT h h' |-;obtain⟨n,lo,hi⟩:=s;obtain⟨n',lo',hi'⟩:=t;obtain⟨rn,rlo,rhi⟩:=r;have h0:Below w.heap.size w ((w.alloc (Cc #[Bb n,I Y lo,I Y hi] 89)).alloc (Cc #[Bb n',I Y lo',I Y hi'] 89)):=ai;go_enter Tryz.func201,Tryz.ntmps201;go_wp2_with (go_at_call 159;fail);refine(hT _).mono ?_;rintro e w1 ⟨rfl,hb1⟩;obtain⟨c0,c1,c2,d0,d1,d2⟩:=oN hb1 ah;have H1:bl w w1:=h0.trans (hb1.mono an);have z0:w.heap.size < w1.heap.size:=lA;clear hb1 hT;go_wp2
 go_ret2
 exact⟨rfl,H1.alloc aa _⟩

theorem MI (r:Sp)(s:Sp):decide (r=s)=(r.n==s.n&&(r.lo==s.lo&&r.hi==s.hi)):=by
 obtain⟨n,lo,hi⟩:=r;obtain⟨n',lo',hi'⟩:=s;rw[Bool.eq_iff_iff];simp

theorem Iw (s t:Sp)(w:World)(h:bB s t=0):
  Calls pG 201 #[sv s,sv t] w λe w'=>e=Rt (Tu #[Bb (decide (aF s t=s)),I Y 0])/\bl w w':=by
 have hT:=kw s t;rw[h] at hT;have e0:eX 0 (aF s t)=aF s t:=rfl;rw[e0] at hT;rw[MI];clear e0 h;generalize aF s t=r at hT |-;obtain⟨n,lo,hi⟩:=s;obtain⟨n',lo',hi'⟩:=t;obtain⟨rn,rlo,rhi⟩:=r;have h0:Below w.heap.size w ((w.alloc (Cc #[Bb n,I Y lo,I Y hi] 89)).alloc (Cc #[Bb n',I Y lo',I Y hi'] 89)):=ai;go_enter Tryz.func201,Tryz.ntmps201;go_wp2_with (go_at_call 159;fail);refine(hT _).mono ?_;rintro e w1 ⟨rfl,hb1⟩;obtain⟨c0,c1,c2,d0,d1,d2⟩:=oN hb1 ah;have H1:bl w w1:=h0.trans (hb1.mono an);have z0:w.heap.size < w1.heap.size:=lA;clear hb1 hT;go_wp2;all_goals go_ret2
 all_goals exact⟨E6 (by simp_all),H1.alloc aa _⟩

theorem GL (s t:Sp)(w:World):
  Calls pG 201 #[sv s,sv t] w λe w'=>e=Rt (Tu #[Bb (decide (bB s t=0)&&decide (aF s t=s)),I Y (bB s t)])/\bl w w':=by
 by_cases h:bB s t=0
 ·have:=Iw s t w h
  rw[h];simpa using this
 ·have:=Gq s t w h
  simpa[h] using this
@[go_sem] theorem run_min4 {P:Program} (w:World) (ts:Array TypeId) (t:TypeId) (a b c d:Int):
  (Builtin.min_ ts t #[I Y a,I Y b,I Y c,I Y d]).run P w=.ok (I Y (dK a b c d)) w:=by
 have e:∀x y:Int,(if y < x then y else x)=min x y:=λx y=>p4;simp[Builtin.min_,Builtin.min2,e,dK]

@[go_sem] theorem run_max4 {P:Program} (w:World) (ts:Array TypeId) (t:TypeId) (a b c d:Int):
  (Builtin.max_ ts t #[I Y a,I Y b,I Y c,I Y d]).run P w=.ok (I Y (dL a b c d)) w:=by
 have e:∀x y:Int,(if x < y then y else x)=max x y:=λx y=>p4;simp[Builtin.max_,Builtin.max2,e,dL]

theorem ur {p:Prop}(h:p:=by
 go_enter Tryz.func228,Tryz.ntmps228;go_wp2_with (go_at_call 226;refine(yx _).mono ?_;rintro e w1 ⟨rfl,rfl⟩)
 go_returns
 exact⟨rfl,ai⟩):p:=h
theorem mu (F:Nat)(s t:Sp)(w:World)(h:(s.n||t.n)=true):
  Calls pG 228 #[sv s,sv t,.func (.func F) #[] #[]] w λe w'=>e=Rt (sv ⟨true,0,0⟩)/\bl w w':=by
 obtain⟨n,lo,hi⟩:=s;obtain⟨n',lo',hi'⟩:=t;cases n with
 |true=>
  exact ur
 |false=>
  cases n' with
  |true=>
   exact ur
  |false=>simp at h

theorem EU {a b c d:Int}(h1:ba (dK a b c d))(h2:ba (dL a b c d)):gj a b c d=⟨false,dK a b c d,dL a b c d⟩:=if_pos ⟨h1,h2⟩
theorem NO {a b c d:Int}(h1:¬ba (dK a b c d)):gj a b c d=⟨false,-2147483648,2147483647⟩:=if_neg (λh=>h1 h.1)
theorem Ns {a b c d:Int}(h1:¬ba (dL a b c d)):gj a b c d=⟨false,-2147483648,2147483647⟩:=if_neg (λh=>h1 h.2)
theorem nD {p:Prop}(h:p:=by
 clear h1 h2 h3 h4;go_enter Tryz.func228,Tryz.ntmps228;go_wp2
 go_quiet (first|exact Calls.quiet_of (k1 _)|exact Calls.quiet_of (k2 _)|exact Calls.quiet_of (k3 _)|exact Calls.quiet_of (k4 _))
 clear k1 k2 k3 k4;by_cases h1:ba (dK a b c d)
 ·have e1:decide (ba (dK a b c d))=true:=decide_eq_true h1
  by_cases h2:ba (dL a b c d)
  ·have e2:decide (ba (dL a b c d))=true:=decide_eq_true h2
   go_wp2_with (go_at_call 225;refine(gL _ _).mono ?_;rintro e w' ⟨rfl,rfl⟩)
   go_returns
   exact⟨gB (EU h1 h2),rv⟩
  ·have e2:decide (ba (dL a b c d))=false:=decide_eq_false h2
   go_wp2_with (first|(go_at_call 225;refine(gL _ _).mono ?_;rintro e w' ⟨rfl,rfl⟩)|(go_at_call 245;refine(Kh _).mono ?_;rintro e w' ⟨rfl,rfl⟩))
   go_returns
   exact⟨gB (Ns h2),rv⟩
 ·have e1:decide (ba (dK a b c d))=false:=decide_eq_false h1
  go_wp2_with (first|(go_at_call 225;refine(gL _ _).mono ?_;rintro e w' ⟨rfl,rfl⟩)|(go_at_call 245;refine(Kh _).mono ?_;rintro e w' ⟨rfl,rfl⟩))
  go_returns
  exact⟨gB (NO h1),rv⟩):p:=h
theorem Gx (lo hi lo' hi':Int)(w:World)(h1:wrap64 (lo+lo')=lo+lo')(h2:wrap64 (lo+hi')=lo+hi')(h3:wrap64 (hi+lo')=hi+lo')(h4:wrap64 (hi+hi')=hi+hi'):
  Calls pG 228 #[sv ⟨false,lo,hi⟩,sv ⟨false,lo',hi'⟩,.func (.func 229) #[] #[]] w λe w'=>e=Rt (sv (gj (lo+lo') (lo+hi') (hi+lo') (hi+hi')))/\bl w w':=by
 have k1:∀w:World,Calls pG 229 #[I Y lo,I Y lo'] w λe w'=>e=Rt (I Y (lo+lo'))/\∃n,w'=w.drewN n:=λw=>(rJ lo lo' w h1).mono fj;have k2:∀w:World,Calls pG 229 #[I Y lo,I Y hi'] w λe w'=>e=Rt (I Y (lo+hi'))/\∃n,w'=w.drewN n:=λw=>(rJ lo hi' w h2).mono fj;have k3:∀w:World,Calls pG 229 #[I Y hi,I Y lo'] w λe w'=>e=Rt (I Y (hi+lo'))/\∃n,w'=w.drewN n:=λw=>(rJ hi lo' w h3).mono fj;have k4:∀w:World,Calls pG 229 #[I Y hi,I Y hi'] w λe w'=>e=Rt (I Y (hi+hi'))/\∃n,w'=w.drewN n:=λw=>(rJ hi hi' w h4).mono fj;generalize lo+lo'=a at k1 |-;generalize lo+hi'=b at k2 |-;generalize hi+lo'=c at k3 |-;generalize hi+hi'=d at k4 |-;exact nD
theorem Ge (lo hi lo' hi':Int)(w:World)(h1:wrap64 (lo - lo')=lo - lo')(h2:wrap64 (lo - hi')=lo - hi')(h3:wrap64 (hi - lo')=hi - lo')(h4:wrap64 (hi - hi')=hi - hi'):
  Calls pG 228 #[sv ⟨false,lo,hi⟩,sv ⟨false,lo',hi'⟩,.func (.func 230) #[] #[]] w λe w'=>e=Rt (sv (gj (lo - lo') (lo - hi') (hi - lo') (hi - hi')))/\bl w w':=by
 have k1:∀w:World,Calls pG 230 #[I Y lo,I Y lo'] w λe w'=>e=Rt (I Y (lo - lo'))/\∃n,w'=w.drewN n:=λw=>(pU lo lo' w h1).mono fj;have k2:∀w:World,Calls pG 230 #[I Y lo,I Y hi'] w λe w'=>e=Rt (I Y (lo - hi'))/\∃n,w'=w.drewN n:=λw=>(pU lo hi' w h2).mono fj;have k3:∀w:World,Calls pG 230 #[I Y hi,I Y lo'] w λe w'=>e=Rt (I Y (hi - lo'))/\∃n,w'=w.drewN n:=λw=>(pU hi lo' w h3).mono fj;have k4:∀w:World,Calls pG 230 #[I Y hi,I Y hi'] w λe w'=>e=Rt (I Y (hi - hi'))/\∃n,w'=w.drewN n:=λw=>(pU hi hi' w h4).mono fj;generalize lo - lo'=a at k1 |-;generalize lo - hi'=b at k2 |-;generalize hi - lo'=c at k3 |-;generalize hi - hi'=d at k4 |-;exact nD
theorem Hw (lo hi lo' hi':Int)(w:World)(h1:wrap64 (lo * lo')=lo * lo')(h2:wrap64 (lo * hi')=lo * hi')(h3:wrap64 (hi * lo')=hi * lo')(h4:wrap64 (hi * hi')=hi * hi'):
  Calls pG 228 #[sv ⟨false,lo,hi⟩,sv ⟨false,lo',hi'⟩,.func (.func 231) #[] #[]] w λe w'=>e=Rt (sv (gj (lo * lo') (lo * hi') (hi * lo') (hi * hi')))/\bl w w':=by
 have k1:∀w:World,Calls pG 231 #[I Y lo,I Y lo'] w λe w'=>e=Rt (I Y (lo * lo'))/\∃n,w'=w.drewN n:=λw=>(pX lo lo' w h1).mono fj;have k2:∀w:World,Calls pG 231 #[I Y lo,I Y hi'] w λe w'=>e=Rt (I Y (lo * hi'))/\∃n,w'=w.drewN n:=λw=>(pX lo hi' w h2).mono fj;have k3:∀w:World,Calls pG 231 #[I Y hi,I Y lo'] w λe w'=>e=Rt (I Y (hi * lo'))/\∃n,w'=w.drewN n:=λw=>(pX hi lo' w h3).mono fj;have k4:∀w:World,Calls pG 231 #[I Y hi,I Y hi'] w λe w'=>e=Rt (I Y (hi * hi'))/\∃n,w'=w.drewN n:=λw=>(pX hi hi' w h4).mono fj;generalize lo * lo'=a at k1 |-;generalize lo * hi'=b at k2 |-;generalize hi * lo'=c at k3 |-;generalize hi * hi'=d at k4 |-;exact nD
theorem lN {a b c d:Bool}(h:a=c)(h':b=d):Ending.returned (Tu #[Bb a,Bb b])=Rt (Tu #[Bb c,Bb d]):=by rw[h,h']

theorem vi {p:Prop}(h:p:=by
 go_wp2;refine wp_region_quiet_lit ag ag ?_;repeat (any_goals (first|go_big_quiet_step (fail)|quiet_step (fail)|(refine wpQuiet_step (λK hK=> ?_);go_simp;split<;>(refine hK _ ?_;clear hK K))))
 all_goals (refine wpQuiet_nil ?_;intro _ hw';obtain⟨nq,hw''⟩:=hw';subst hw'')
 all_goals go_wp2
 all_goals go_ret2
 all_goals exact⟨lN mC (by rw[HN.out];simp_all),below_drewN B1 _⟩):p:=h
theorem uZ {p:Prop}(h:p:=by
 clear hz HZ;go_wp2;refine wp_region_quiet_lit ag ag ?_;repeat (any_goals (first|go_big_quiet_step (fail)|quiet_step (fail)|(refine wpQuiet_step (λK hK=> ?_);go_simp;split<;>(refine hK _ ?_;clear hK K))))
 all_goals (refine wpQuiet_nil ?_;intro _ hw';obtain⟨nq,hw''⟩:=hw';subst hw'')
 all_goals go_wp2
 all_goals go_ret2
 all_goals exact⟨lN rfl (by rw[HN.out];simp_all),below_drewN B1 _⟩):p:=h
theorem vD (g:Gs)(ss:oA)(gc:Nat)(w:World)(hsp:cH g.sp=0):
  Calls pG 198 #[gv g ss gc] w λe w'=>e=Rt (Tu #[Bb (cj g),Bb (cQ g)])/\bl w w':=by
 have hH:=λw=>Nb g.sp 0 w;rw[hsp,show (decide ((0:Int)=0)&&g.sp.has 0)=g.sp.has 0 from rfl] at hH;have HY:Hid (cj g=((!g.sp.n&& !decide (g.sp.lo=0/\g.sp.hi=0))||(g.t||decide (0 < g.s.length)))):=rfl;have HN:Hid (cQ g=(g.sp.has 0||(g.n||g.f))):=rfl;generalize cj g=yy at *;generalize cQ g=nn at *;generalize g.sp.has 0=z at *;obtain⟨n,⟨sn,lo,hi⟩,t,f,s⟩:=g;have G0:=GuAt.new w ⟨n,⟨sn,lo,hi⟩,t,f,s⟩ ss gc;go_enter Tryz.func198,Tryz.ntmps198;go_wp2_with (go_at_call 143;fail);refine(hH _).mono ?_;rintro e w1 ⟨rfl,hb1⟩;have G1:=G0.call hb1;have B1:Below w.heap.size w w1:=Below.trans ai (hb1.mono ah);obtain⟨⟨g0,g1,g2,g3,g4,g5,g6⟩,gz⟩:=id G1;simp only[x3] at g0 g1 g2 g3 g4 g5 g6;clear G0 G1 hb1 hH hsp;cases sn with
 |true=>
  exact vi
 |false=>
  by_cases hz:lo=0/\hi=0
  ·obtain⟨rfl,rfl⟩:=hz
   exact vi
  ·have HZ:Hid (decide (lo=0/\hi=0)=false):=by show _=_;simpa using hz
   have hm:yy=true:=by rw[HY.out,HZ.out];rfl
   subst hm;clear HY;by_cases h1:lo=0
   ·subst h1
    have h2:(hi==0)=false:=by simp only[beq_eq_false_iff_ne];intro h;exact hz ⟨rfl,h⟩
    exact uZ
   ·have h2:(lo==0)=false:=by simpa using h1
    exact uZ

theorem tR {p:Prop}(h:p:=by
 go_wp2_with (go_at_call 144;fail);refine(AK x ss gc h.s _ hl hs).mono ?_;rintro e w1 ⟨rfl,rfl⟩;go_wp2;go_ret;exact⟨bm ah,Below.refl _ _⟩):p:=h
theorem gA (x:Int)(q:Nat)(h:Gs)(ss:oA)(gc:Nat)(w:World)(hg:GuAt w q 0 h ss gc)(hs:IntsAt w ss h.s)(hl:h.s.length<=9223372036854775807):
  Calls pG 199 #[I Y x,Pp (sO ⟨q,0,nO⟩)] w λe w'=>e=Rt (Bb (!h.s.contains x))/\bl w w':=by
 obtain⟨⟨g0,g1,g2,g3,g4,g5,g6⟩,gz⟩:=id hg;simp only[x3] at g6;go_enter Tryz.func199,Tryz.ntmps199;exact tR

theorem fD (x:Int)(q:Nat)(h:Gs)(ss:oA)(gc:Nat)(w:World)(hg:GuAt w q 0 h ss gc)(hs:IntsAt w ss h.s)(hl:h.s.length<=9223372036854775807):
  Calls pG 234 #[I Y x,Pp (sO ⟨q,0,nO⟩)] w λe w'=>e=Rt (Bb (h.s.contains x))/\bl w w':=by
 obtain⟨⟨g0,g1,g2,g3,g4,g5,g6⟩,gz⟩:=id hg;simp only[x3] at g6;go_enter Tryz.func234,Tryz.ntmps234;exact tR
theorem m8 (l:List Gs)(p:Gs->Bool)(k:Nat)(h:k < l.length):(l.drop k).any p=(p l[k]||(l.drop (k+1)).any p):=by
 rw[z3 h];rfl

theorem AI (g:Gs)(ss:oA)(gc:Nat)(w:World):
  Calls pG 246 #[gv g ss gc] w λe w'=>e=Rt (Bb (aO g))/\bl w w':=by
 have HO:Hid (aO g=(g.n||(g.t||(g.f||decide (0 < g.s.length))))):=rfl;generalize aO g=o at *;obtain⟨n,⟨sn,lo,hi⟩,t,f,s⟩:=g;cases n;all_goals cases t
 all_goals cases f
 all_goals
  go_enter Tryz.func246,Tryz.ntmps246;go_wp2;go_ret;exact⟨bm (by rw[HO.out];simp),ai⟩

theorem wu {p:Prop}(h:p:=by
 refine(HF.out L[k] ss gc _).mono ?_;rintro e w1 ⟨rfl,hb1⟩;cases hp:p L[k] with
 |true=>
  have HT:Hid (L.any p=true):=fZ;clear HN HA;go_wp2;go_ret;exact⟨_,rfl,i6,hbr.trans (hb1.mono s0)⟩
 |false=>
  have HT:Hid (L.any p=(L.drop (k+1)).any p):=fZ;have hR':=hR.call hb1;clear HN HA;go_wp2;go_roundw
  case rel=>exact⟨k+1,aa,aG,hR',hbr.trans (hb1.mono s0),HT⟩
  case measure=>simp[intOf];omega):p:=h
theorem tE (p:Gs->Bool)(ls:oA)(L:List Gs)(lc:Nat)(w:World)(hl:L.length<=9223372036854775807)(hL:GhAt w ls L)
  (hF:∀g ss gc wx,Calls pG 246 #[gv g ss gc] wx λe w'=>e=Rt (Bb (p g))/\bl wx w'):
  Calls pG 193 #[U ls L.length lc,.func (.func 246) #[] #[]] w λe w'=>∃n:Int,e=Rt (I Y n)/\decide (0<=n)=L.any p/\bl w w':=by
 have HF:=ae hF;clear hF;go_enter Tryz.func193,Tryz.ntmps193;go_wp2;go_loopw [8] (λi wr=>∃k:Nat,k<=L.length/\i=I Y k/\GhAt wr ls L/\bl w wr/\Hid (L.any p=(L.drop k).any p)) (λi _=>L.length - (intOf i).toNat)
 case atStart=>exact⟨0,x4 _,rfl,hL,bR _ _,rfl⟩
 case round=>
  obtain⟨k,hk,rfl,hR,hbr,HA⟩:=hrel;by_cases hlt:k < L.length
  ·obtain⟨b,off,rfl,ss,gc,hG⟩:=hR k hlt
   obtain⟨⟨g0,g1,g2,g3,g4,g5,g6⟩,gz⟩:=id hG;have n0:(0:Int)<=(k:Int):=aa;have n1:(k:Int) < (L.length:Int):=aa;have s0:=hbr.size;have HN:Hid ((L.drop k).any p=(p L[k]||(L.drop (k+1)).any p)):=m8 L p k hlt;go_wp2_with (go_at_call 246;fail);exact wu
  ·go_wp2
   go_ret;exact⟨_,rfl,iA,hbr⟩

theorem oM (p:Gs->Bool)(ls:oA)(L:List Gs)(lc:Nat)(w:World)(hl:L.length<=9223372036854775807)(hL:GhAt w ls L)
  (hF:∀g ss gc wx,Calls pG 246 #[gv g ss gc] wx λe w'=>e=Rt (Bb (p g))/\bl wx w'):
  Calls pG 141 #[U ls L.length lc,.func (.func 246) #[] #[]] w λe w'=>e=Rt (Bb (L.any p))/\bl w w':=by
 have HF:=ae hF;clear hF;go_enter Tryz.func141,Tryz.ntmps141;go_wp2_with (go_at_call 193;fail);refine(tE p ls L lc _ hl hL HF.out).mono ?_;rintro e w1 ⟨n,rfl,hn,hb1⟩;go_wp2;go_ret;exact⟨rfl,hb1⟩

theorem pC (ls:oA)(L:List Gs)(lc:Nat)(w:World)(hl:L.length<=9223372036854775807)(hL:GhAt w ls L):
  Calls pG 232 #[U ls L.length lc] w λe w'=>e=Rt (Bb (L.any aO))/\bl w w':=by
 go_enter Tryz.func232,Tryz.ntmps232;go_wp2_with (go_at_call 141;fail);refine(oM aO ls L lc _ hl hL λg ss gc wx=>AI g ss gc wx).mono ?_;rintro e w1 ⟨rfl,hb1⟩;go_wp2;go_ret;exact⟨rfl,hb1⟩

theorem uw (g:Gs)(ss:oA)(gc:Nat)(w:World):
  Calls pG 247 #[gv g ss gc] w λe w'=>e=Rt (Bb (ap g))/\bl w w':=by
 have HO:Hid (ap g=(g.sp.n&& !aO g)):=rfl;have hA:=pC (sO ⟨w.heap.size+1,0,nO⟩) [g] 1;have G0:=GhAt.new1 (w.alloc (Cc #[Bb g.n,Bb g.sp.n,I Y g.sp.lo,I Y g.sp.hi,Bb g.t,Bb g.f,U ss g.s.length gc] 91)) g ss gc;rw[zA] at G0;rw[show [g].any aO=aO g by simp] at hA;have HA:=ae hA;clear hA;generalize aO g=oo at *;generalize ap g=o at *;obtain⟨n,⟨sn,lo,hi⟩,t,f,s⟩:=g;cases sn with
 |true=>
  go_enter Tryz.func247,Tryz.ntmps247;go_wp2_with (go_at_call 232;fail);refine(HA.out _ ah G0).mono ?_;rintro e w1 ⟨rfl,hb1⟩;go_wp2;go_ret;exact⟨bm (by rw[HO.out];simp),Below.trans ai (hb1.mono an)⟩
 |false=>
  go_enter Tryz.func247,Tryz.ntmps247;go_wp2;go_ret;exact⟨bm (by rw[HO.out];rfl),ai⟩

theorem pq (p:Gs->Bool)(ls:oA)(L:List Gs)(lc:Nat)(w:World)(hl:L.length<=9223372036854775807)(hL:GhAt w ls L)
  (hF:∀g ss gc wx,Calls pG 247 #[gv g ss gc] wx λe w'=>e=Rt (Bb (p g))/\bl wx w'):
  Calls pG 193 #[U ls L.length lc,.func (.func 247) #[] #[]] w λe w'=>∃n:Int,e=Rt (I Y n)/\decide (0<=n)=L.any p/\bl w w':=by
 have HF:=ae hF;clear hF;go_enter Tryz.func193,Tryz.ntmps193;go_wp2;go_loopw [8] (λi wr=>∃k:Nat,k<=L.length/\i=I Y k/\GhAt wr ls L/\bl w wr/\Hid (L.any p=(L.drop k).any p)) (λi _=>L.length - (intOf i).toNat)
 case atStart=>exact⟨0,x4 _,rfl,hL,bR _ _,rfl⟩
 case round=>
  obtain⟨k,hk,rfl,hR,hbr,HA⟩:=hrel;by_cases hlt:k < L.length
  ·obtain⟨b,off,rfl,ss,gc,hG⟩:=hR k hlt
   obtain⟨⟨g0,g1,g2,g3,g4,g5,g6⟩,gz⟩:=id hG;have n0:(0:Int)<=(k:Int):=aa;have n1:(k:Int) < (L.length:Int):=aa;have s0:=hbr.size;have HN:Hid ((L.drop k).any p=(p L[k]||(L.drop (k+1)).any p)):=m8 L p k hlt;go_wp2_with (go_at_call 247;fail);exact wu
  ·go_wp2
   go_ret;exact⟨_,rfl,iA,hbr⟩

theorem mJ (p:Gs->Bool)(ls:oA)(L:List Gs)(lc:Nat)(w:World)(hl:L.length<=9223372036854775807)(hL:GhAt w ls L)
  (hF:∀g ss gc wx,Calls pG 247 #[gv g ss gc] wx λe w'=>e=Rt (Bb (p g))/\bl wx w'):
  Calls pG 141 #[U ls L.length lc,.func (.func 247) #[] #[]] w λe w'=>e=Rt (Bb (L.any p))/\bl w w':=by
 have HF:=ae hF;clear hF;go_enter Tryz.func141,Tryz.ntmps141;go_wp2_with (go_at_call 193;fail);refine(pq p ls L lc _ hl hL HF.out).mono ?_;rintro e w1 ⟨n,rfl,hn,hb1⟩;go_wp2;go_ret;exact⟨rfl,hb1⟩

theorem ke (ls:oA)(L:List Gs)(lc:Nat)(w:World)(hl:L.length<=9223372036854775807)(hL:GhAt w ls L):
  Calls pG 233 #[U ls L.length lc] w λe w'=>e=Rt (Bb (L.any ap))/\bl w w':=by
 go_enter Tryz.func233,Tryz.ntmps233;go_wp2_with (go_at_call 141;fail);refine(mJ ap ls L lc _ hl hL λg ss gc wx=>uw g ss gc wx).mono ?_;rintro e w1 ⟨rfl,hb1⟩;go_wp2;go_ret;exact⟨rfl,hb1⟩

theorem sL (ls:oA)(L:List Gs)(lc:Nat)(w:World)(hl:L.length<=9223372036854775807)(hL:GhAt w ls L):
  Calls pG 203 #[U ls L.length lc] w λe w'=>e=Rt (Bb (L.any aO&& !L.any ap))/\bl w w':=by
 have H1:=ae (pC ls L lc w hl hL);cases ho:L.any aO with
 |true=>
  rw[ho] at H1;go_enter Tryz.func203,Tryz.ntmps203;go_wp2_with (go_at_call 232;fail);refine H1.out.mono ?_;rintro e w1 ⟨rfl,hb1⟩;go_wp2_with (go_at_call 233;fail);refine(ke ls L lc _ hl (hL.call hb1)).mono ?_;rintro e w2 ⟨rfl,hb2⟩;go_wp2;go_ret;exact⟨rfl,hb1.trans (hb2.mono hb1.size)⟩
 |false=>
  rw[ho] at H1;go_enter Tryz.func203,Tryz.ntmps203;go_wp2_with (go_at_call 232;fail);refine H1.out.mono ?_;rintro e w1 ⟨rfl,hb1⟩;go_wp2;go_ret;exact⟨rfl,hb1⟩

theorem K7 (s t:Sp)(w:World):
  Calls pG 205 #[sv s,sv t] w λe w'=>e=Rt (Tu #[Bb (!(s.n||t.n)&&decide (s.lo < t.hi)),Bb (!(s.n||t.n)&&decide (t.lo<=s.hi))])/\bl w w':=by
 obtain⟨sn,lo,hi⟩:=s;obtain⟨tn,lo',hi'⟩:=t;cases sn with
 |true=>
  go_enter Tryz.func205,Tryz.ntmps205;go_wp2
  go_ret2
  exact⟨rfl,ai⟩
 |false=>
  cases tn with
  |true=>
   go_enter Tryz.func205,Tryz.ntmps205;go_wp2
   go_ret2
   exact⟨rfl,ai⟩
  |false=>
   go_enter Tryz.func205,Tryz.ntmps205;go_wp2
   go_quiet (fail)
   go_wp2
   go_ret2
   exact⟨lN ah ah,below_drewN ai _⟩

theorem kL (y n:Bool)(w:World):
  Calls pG 204 #[Bb y,Bb n] w λe w'=>e=Rt (gv ⟨false,⟨true,0,0⟩,y,n,[]⟩ nO 0)/\bl w w':=by
 go_enter Tryz.func204,Tryz.ntmps204;go_wp2
 go_returns
 exact⟨rfl,ai⟩
end
section
theorem ni:∀{l:List Int},dj l=true->l.Pairwise (· < ·)
 |[],_=>Q5.nil
 |[a],_=>List.pairwise_singleton _ _
 |a::b::r,h=>by
  unfold dj at h;rw[j6,decide_eq_true_eq] at h;have ih:=ni h.2;rw[z8];refine⟨λx hx=> ?_,ih⟩;rcases j4.1 hx with rfl|hx
  ·exact h.1
  ·have:=(z8.1 ih).1 x hx
   omega
theorem gS:∀{a b:List Int},a.Pairwise (· < ·)->b.Pairwise (· < ·)->(∀x∈a,x∈b)->a.length<=b.length/\(a.length=b.length->a=b)
 |[],b,_,_,_=>⟨x4 _,λh=>(Z0.1 h.symm).symm⟩
 |x::r,[],_,_,h=>absurd (h x ah) ah
 |x::r,y::q,ha,hb,h=>by
  obtain⟨a1,a2⟩:=z8.1 ha;obtain⟨b1,b2⟩:=z8.1 hb;by_cases e:x=y
  ·subst e
   have hs:∀z∈r,z∈q:=λz hz=>by
    rcases j4.1 (h z (by simp[hz])) with rfl|hq
    ·exact absurd (a1 z hz) aa
    ·exact hq
   obtain⟨h1,h2⟩:=gS a2 b2 hs;refine⟨by simp only[j8];omega,λhl=> ?_⟩;rw[h2 (by simpa using hl)]
  ·have hyx:y < x:=by
    rcases j4.1 (h x ah) with rfl|hq
    ·exact absurd rfl e
    ·exact b1 x hq
   have hs:∀z∈x::r,z∈q:=λz hz=>by
    rcases j4.1 (h z hz) with rfl|hq
    ·rcases j4.1 hz with rfl|hz
     ·exact absurd rfl e
     ·exact absurd (a1 z hz) aa
    ·exact hq
   obtain⟨h1,h2⟩:=gS ha b2 hs;simp only[j8] at h1 |-;exact⟨aa,λhl=>aa⟩
theorem CX {a b:List Int}(ha:a.Pairwise (· < ·))(hb:b.Pairwise (· < ·))(h:∀x,x∈a↔x∈b):a=b:=by
 obtain⟨h1,h2⟩:=gS ha hb λx hx=>(h x).1 hx;obtain⟨h3,_⟩:=gS hb ha λx hx=>(h x).2 hx;exact h2 aa
theorem Ih {s t:Sp}(hs:s.Ok)(ht:t.Ok)(h:eZ t s=true):bj s t=s:=by
 obtain⟨_,_,s5,s6⟩:=hs;obtain⟨_,_,t5,t6⟩:=ht;rw[eC t6] at h;unfold bj;obtain⟨sn,slo,shi⟩:=s;obtain⟨tn,tlo,thi⟩:=t;simp only at h s5 t5 s6 t6 |-;rcases h with h|⟨h1,h2,h3⟩
 ·subst h
  obtain⟨rfl,rfl⟩:=t5 rfl;cases sn with
  |true=>obtain⟨rfl,rfl⟩:=s5 rfl;rfl
  |false=>rfl
 ·subst h1
  cases tn with
  |true=>rfl
  |false=>
   simp only[j1,if_false,Sp.mk.injEq,true_and];omega
theorem It {s t:Sp}(hs:s.Ok)(ht:t.Ok)(h:eZ t s=true):br s t=s:=by
 obtain⟨_,_,s5,s6⟩:=hs;obtain⟨_,_,t5,t6⟩:=ht;rw[eC t6] at h;unfold br;obtain⟨sn,slo,shi⟩:=s;obtain⟨tn,tlo,thi⟩:=t;simp only at h s5 t5 s6 t6 |-;rcases h with h|⟨h1,h2,h3⟩
 ·subst h
  obtain⟨rfl,rfl⟩:=t5 rfl;cases sn with
  |true=>obtain⟨rfl,rfl⟩:=s5 rfl;rfl
  |false=>rfl
 ·subst h1
  cases tn with
  |true=>rfl
  |false=>
   simp only[j1,if_false,Sp.mk.injEq,true_and];rw[if_neg aa,if_neg aa];exact⟨rfl,rfl⟩
section
variable {c:List Ins} {g h k:Gs} {w:Bool}
theorem l9 (hg:aE c g=0):g.s.Pairwise (· < ·):=ni (ckGs_iff.1 hg).2.2
theorem tO (hg:aE c g=0):dn g g=true:=by
 rw[inGs_iff,eC (mZ hg)];refine⟨id,id,id,?_,λ_ h=>h⟩;cases g.sp.n
 ·exact .inr ⟨rfl,aa,aa⟩
 ·exact .inl rfl
theorem tN (hg:aE c g=0)(hh:aE c h=0)(h1:dn g h=true)(h2:dn h k=true):dn g k=true:=by
 rw[inGs_iff,eC (mZ hg)] at h1;rw[inGs_iff,eC (mZ hh)] at h2;rw[inGs_iff,eC (mZ hg)];obtain⟨a1,a2,a3,a4,a5⟩:=h1;obtain⟨b1,b2,b3,b4,b5⟩:=h2;refine⟨λe=>b1 (a1 e),λe=>b2 (a2 e),λe=>b3 (a3 e),?_,λx hx=>b5 x (a5 x hx)⟩;rcases a4 with a4|⟨a4,a6,a7⟩
 ·exact .inl a4
 ·rcases b4 with b4|⟨b4,b6,b7⟩
  ·rw[a4] at b4;cases b4
  ·exact .inr ⟨b4,aa,aa⟩
theorem sk (h60:c.length<=60)(hg:aE c g=0)(hh:aE c h=0)(hi:dn h g=true):am w g h=g:=by
 obtain⟨a1,a2,a3,a4,a5⟩:=inGs_iff.1 hi;have og:=(ckGs_iff.1 hg).1;have oh:=(ckGs_iff.1 hh).1;have e1:(if w then br g.sp h.sp else bj g.sp h.sp)=g.sp:=by
  cases w
  ·exact Ih og oh a4
  ·exact It og oh a4
 have e2:gK g.s h.s=g.s:=by
  refine CX (pa _ _) (l9 hg) λx=> ?_;rw[mem_siteSet];constructor
  ·rintro ⟨_,hx|hx⟩
   ·exact hx
   ·exact a5 x hx
  ·intro hx
   have:=dF ((ckGs_iff.1 hg).2.1 x hx);exact⟨⟨this.1,aa⟩,.inl hx⟩
 unfold am;rw[e1,e2];obtain⟨gn,gsp,gt,gf,gs⟩:=g;obtain⟨hn,hsp,ht,hf,hs⟩:=h;simp only at a1 a2 a3 |-;cases gn<;>cases hn<;>cases gt<;>cases ht<;>cases gf<;>cases hf<;>simp_all
end
def oV (s:Sp):Nat:=if s.n then 8589934592 else(s.lo+2147483648).toNat+(2147483647 - s.hi).toNat
def kD (g:Gs):Nat:=b2n (!g.n)+b2n (!g.t)+b2n (!g.f)+(60 - g.s.length)+oV g.sp
def oW (l:List Gs):Nat:=(l.map kD).sum
def LS (l:List (List Gs)):Nat:=(l.map oW).sum
def g9 (x:Pic):Nat:=if x.none then 2000000000000 else oW x.vars+LS x.flds
def iq (l:List Pic):Nat:=(l.map g9).sum
theorem Ny {s t:Sp}(hs:s.Ok)(ht:t.Ok)(h:eZ s t=true):oV t<=oV s/\(oV t=oV s->s=t):=by
 obtain⟨⟨s1,s2⟩,⟨s3,s4⟩,s5,s6⟩:=hs;obtain⟨⟨t1,t2⟩,⟨t3,t4⟩,t5,t6⟩:=ht;rw[eC s6] at h;unfold oV;obtain⟨sn,slo,shi⟩:=s;obtain⟨tn,tlo,thi⟩:=t;simp only at h s1 s2 s3 s4 s5 s6 t1 t2 t3 t4 t5 t6 |-;rcases h with h|⟨h1,h2,h3⟩
 ·subst h
  obtain⟨rfl,rfl⟩:=s5 rfl;cases tn with
  |true=>obtain⟨rfl,rfl⟩:=t5 rfl;simp
  |false=>
   simp only[j1,if_false,if_true];exact⟨aa,λe=>aa⟩
 ·subst h1
  cases sn with
  |true=>
   simp only[j1,if_false,if_true];exact⟨aa,λe=>aa⟩
  |false=>
   simp only[j1,if_false,Sp.mk.injEq,true_and];exact⟨aa,λe=>aa⟩
theorem yt {a b:Bool}(h:a=true->b=true):b2n (!b)<=b2n (!a)/\(b2n (!b)=b2n (!a)->a=b):=by
 cases a<;>cases b<;>simp_all[b2n]
theorem DS {c:List Ins}{g h:Gs}(h60:c.length<=60)(hg:aE c g=0)(hh:aE c h=0)(hi:dn g h=true):kD h<=kD g/\(kD h=kD g->g=h):=by
 obtain⟨a1,a2,a3,a4,a5⟩:=inGs_iff.1 hi;obtain⟨b1,b1'⟩:=yt a1;obtain⟨b2,b2'⟩:=yt a2;obtain⟨b3,b3'⟩:=yt a3;obtain⟨b4,b4'⟩:=Ny (ckGs_iff.1 hg).1 (ckGs_iff.1 hh).1 a4;obtain⟨b5,b5'⟩:=gS (l9 hg) (l9 hh) a5;have h6:h.s.length<=60:=by
  have hp:=l9 hh;have hr:∀x∈h.s,x∈((j0 60).map λn:Nat=>(n:Int)):=λx hx=>by
   have:=dF ((ckGs_iff.1 hh).2.1 x hx);rw[J3];exact⟨x.toNat,by rw[Q3];omega,aa⟩
  have h7:=(gS hp (b:=(j0 60).map λn:Nat=>(n:Int)) (by rw[Q6];exact Q7.imp λh=>by omega) hr).1;simpa using h7
 unfold kD;refine⟨by omega,λe=> ?_⟩;have e1:=b1' aa;have e2:=b2' aa;have e3:=b3' aa;have e4:=b4' aa;have e5:=b5' aa;obtain⟨gn,gsp,gt,gf,gs⟩:=g;obtain⟨hn,hsp,ht,hf,hs⟩:=h;simp only at e1 e2 e3 e4 e5;rw[e1,e2,e3,e4,e5]
theorem uj {α:Type}(f:α->Nat):∀{a b:List α},a.length=b.length->(∀i (h1:i < a.length) (h2:i < b.length),f b[i]<=f a[i]/\(f b[i]=f a[i]->a[i]=b[i]))->(b.map f).sum<=(a.map f).sum/\((b.map f).sum=(a.map f).sum->a=b)
 |[],[],_,_=>⟨lR _,λ_=>rfl⟩
 |[],_::_,h,_=>by simp at h
 |_::_,[],h,_=>by simp at h
 |x::a,y::b,hl,h=>by
  obtain⟨h1,h2⟩:=uj f (a:=a) (b:=b) (by simpa using hl) λi k1 k2=>by
   have:=h (i+1) an an;simpa using this
  have h0:=h 0 ah ah;simp only[Z4] at h0;simp only[x5,x6];refine⟨by omega,λe=> ?_⟩;rw[h0.2 aa,h2 aa]
theorem oP {α:Type}(f:α->Nat)(m:Nat):∀{a:List α},(∀x∈a,f x<=m)->(a.map f).sum<=a.length * m
 |[],_=>ah
 |x::a,h=>by
  have:=oP f m (a:=a) λy hy=>h y (by simp[hy]);have:=h x ah;simp only[x5,x6,j8,Nat.add_mul];omega
theorem DK {α:Type}(f:α->Nat):∀{a:List α} {k:Nat} {y:α} (hk:k < a.length),f y < f a[k]->((a.set k y).map f).sum < (a.map f).sum
 |[],_,_,hk,_=>absurd hk ah
 |x::a,0,y,_,h=>by simp only[Z4] at h;simp only[List.set_cons_zero,x5,x6];omega
 |x::a,k+1,y,hk,h=>by
  have:=DK f (a:=a) (k:=k) (y:=y) gX cA;simp only[List.set_cons_succ,x5,x6];omega
theorem MS {s:Sp}(h:s.Ok):oV s<=8589934592:=by
 obtain⟨⟨s1,s2⟩,⟨s3,s4⟩,s5,s6⟩:=h;unfold oV;split<;>omega
theorem BH (b:Bool):b2n b<=1:=by cases b<;>decide
theorem DV {c:List Ins}{g:Gs}(h:aE c g=0):kD g<=8600000000:=by
 have:=MS (ckGs_iff.1 h).1;have:=BH (!g.n);have:=BH (!g.t);have:=BH (!g.f);unfold kD;omega
section
variable {V F:Int} {c:List Ins} {x y z:Pic} {w:Bool}
theorem yU (h0:au V F c=0)(hx:PicOk V F c x):g9 x < 2000000000000:=by
 have hp:=dB h0;have h1:=hp.v8;have h2:=hp.f3;have h3:=hp.len;have a1:=hx.vars;have a2:=hx.flds;obtain⟨G,hG⟩:∃G:Nat,G=8600000000:=⟨_,rfl⟩;have b1:oW x.vars<=x.vars.length * G:=oP kD G λg hg=>by rw[hG];exact DV (hx.gv g hg)
 have b2:∀r∈x.flds,oW r<=3 * G:=λr hr=>by
  obtain⟨k,hk,rfl⟩:=x2 hr;have q:oW x.flds[k]<=x.flds[k].length * G:=oP kD G λg hg=>by rw[hG];exact DV (hx.gf k hk g hg)
  have:=hx.row k hk;have h8:x.flds[k].length<=3:=aa;exact lT q (x7 _ h8)
 have b3:LS x.flds<=x.flds.length * (3 * G):=oP oW _ b2;have h4:x.vars.length<=8:=aa;have h5:x.flds.length<=60:=aa;have h6:x.vars.length * G<=8 * G:=x7 _ h4;have h7:x.flds.length * (3 * G)<=60 * (3 * G):=x7 _ h5;unfold g9;rw[if_neg (by rw[hx.none];decide)];omega
theorem Fl (h0:au V F c=0)(hx:aN V F c x=0):g9 x<=2000000000000:=by
 cases hn:x.none with
 |true=>unfold g9;rw[if_pos hn];exact lR _
 |false=>exact Nat.le_of_lt (yU h0 (cF hx hn))
theorem uh (hx:aN V F c x=0):bM x x=true:=by
 cases hn:x.none with
 |true=>simp[bM,hn]
 |false=>
  have kx:=cF hx hn;rw[fq hn hn];exact⟨λi h1 _=>tO (kx.gv _ (gM _)),λk h1 _ i h3 _=>tO (kx.gf k h1 _ (gM _))⟩
theorem kY {x y:Pic}(h:bM x y=true)(hn:x.none=false):y.none=false:=by
 cases e:y.none with
 |false=>rfl
 |true=>simp[bM,e,hn] at h
theorem kk (hx:aN V F c x=0)(hy:aN V F c y=0)(hz:aN V F c z=0)(h1:bM x y=true)(h2:bM y z=true):bM x z=true:=by
 cases hn:x.none with
 |true=>simp[bM,hn]
 |false=>
  have hm:=kY h1 hn;have ho:=kY h2 hm;have kx:=cF hx hn;have ky:=cF hy hm;have kz:=cF hz ho;have:=kx.vars;have:=ky.vars;have:=kz.vars;have:=kx.flds;have:=ky.flds;have:=kz.flds;obtain⟨a1,a2⟩:=(fq hn hm).1 h1;obtain⟨b1,b2⟩:=(fq hm ho).1 h2;rw[fq hn ho];refine⟨λi p q=> ?_,λk p q i r s=> ?_⟩
  ·have hy':i < y.vars.length:=by omega
   exact tN (kx.gv _ (gM p)) (ky.gv _ (gM hy')) (a1 i p hy') (b1 i hy' q)
  ·have hy':k < y.flds.length:=by omega
   have:=kx.row k p;have:=ky.row k hy';have hi':i < y.flds[k].length:=aa;exact tN (kx.gf k p _ (gM r)) (ky.gf k hy' _ (gM hi')) (a2 k p hy' i r hi') (b2 k hy' q i hi' s)
theorem Bi (h0:au V F c=0)(hx:aN V F c x=0)(hy:aN V F c y=0)(hi:bM y x=true):aJ (am w) x y=x:=by
 have h60:c.length<=60:=(dB h0).len;unfold aJ;cases hm:y.none with
 |true=>
  have ey:=(kK hm).1 hy;subst ey;cases hn:x.none with
  |true=>rw[(kK hn).1 hx];rfl
  |false=>rfl
 |false=>
  have hn:=kY hi hm;rw[hn];simp only[j1,if_false];have kx:=cF hx hn;have ky:=cF hy hm;have:=kx.vars;have:=ky.vars;have:=kx.flds;have:=ky.flds;obtain⟨a1,a2⟩:=(fq hm hn).1 hi;have v1:=kx.vars;have v2:=kx.flds;obtain⟨xn,xv,xf⟩:=x;simp only at hn v1 v2;subst hn;simp only[Pic.mk.injEq,true_and];constructor
  ·refine J7 (by simp only[aQ,j3];omega) λi p q=> ?_
   simp only[aQ,j7];exact sk h60 (kx.gv _ (gM _)) (ky.gv _ (gM _)) (a1 i _ _)
  ·refine J7 (by simp only[j3];omega) λk p q=> ?_
   have hk:k < y.flds.length:=aa;have r1:=kx.row k q;have r2:=ky.row k hk;simp only[j7];refine J7 (by simp only[aQ,j3];simp only at r1;omega) λi r s=> ?_;simp only[aQ,j7];exact sk h60 (kx.gf k q _ (gM _)) (ky.gf k hk _ (gM _)) (a2 k hk q i _ _)
theorem mr (h0:au V F c=0)(hx:aN V F c x=0)(hy:aN V F c y=0):aJ (am w) x y=x↔bM y x=true:=by
 constructor
 ·intro h
  have:=(nU (w:=w) (dB h0).len hx hy).2;rw[h] at this;exact this
 ·exact Bi h0 hx hy
theorem ML (h0:au V F c=0)(hx:aN V F c x=0)(hy:aN V F c y=0)(hi:bM x y=true):g9 y<=g9 x/\(g9 y=g9 x->x=y):=by
 have h60:c.length<=60:=(dB h0).len;cases hn:x.none with
 |true=>
  have ex:=(kK hn).1 hx;refine⟨by have:=Fl h0 hy;unfold g9 at this |-;rw[if_pos hn];exact this,λe=> ?_⟩;cases hm:y.none with
  |true=>rw[ex,(kK hm).1 hy]
  |false=>
   have:=yU h0 (cF hy hm);rw[e] at this;unfold g9 at this;rw[if_pos hn] at this;omega
 |false=>
  have hm:=kY hi hn;have kx:=cF hx hn;have ky:=cF hy hm;have:=kx.vars;have:=ky.vars;have:=kx.flds;have:=ky.flds;obtain⟨a1,a2⟩:=(fq hn hm).1 hi;have b1:=uj kD (a:=x.vars) (b:=y.vars) aa λi p q=>DS h60 (kx.gv _ (gM _)) (ky.gv _ (gM _)) (a1 i p q);have b2:=uj oW (a:=x.flds) (b:=y.flds) aa λk p q=>by
   have:=kx.row k p;have:=ky.row k q;exact uj kD aa λi r s=>DS h60 (kx.gf k p _ (gM _)) (ky.gf k q _ (gM _)) (a2 k p q i r s)
  unfold g9 oW LS;rw[if_neg (by rw[hm];decide),if_neg pY];refine⟨by omega,λe=> ?_⟩;have e1:=b1.2 aa;have e2:=b2.2 aa;obtain⟨xn,xv,xf⟩:=x;obtain⟨yn,yv,yf⟩:=y;simp only at hn hm e1 e2;rw[hn,hm,e1,e2]
theorem If (h0:au V F c=0)(hx:aN V F c x=0)(hy:aN V F c y=0)(hi:bM y x=false):g9 (aJ (am w) x y) < g9 x:=by
 have hj:=vt (w:=w) hx hy;have h1:=ML h0 hx hj (nU (w:=w) (dB h0).len hx hy).1;have h2:aJ (am w) x y≠x:=λe=>by rw[(mr h0 hx hy).1 e] at hi;cases hi
 rcases Nat.lt_or_eq_of_le h1.1 with h|h
 ·exact h
 ·exact absurd (h1.2 h).symm h2
end
def bk (l:List Pic)(p:Int):Pic:=l.getD p.toNat nonePic
def dw (n i tto:Int):Bool:=decide (4<=n)&&decide (tto<=i)
def bX (n i:Int)(s:List Pic×Bool)(e:Edg):List Pic×Bool:=
 if bM e.pic (bk s.1 e.tgt) then s else(s.1.set e.tgt.toNat (aJ (am (dw n i e.tgt)) (bk s.1 e.tgt) e.pic),true)
def cZ (c:List Ins)(i:Nat)(x:Pic):List Edg:=(aA (bL c i) i x).1
def dE (c:List Ins)(n:Int)(s:List Pic×Bool)(i:Nat):List Pic×Bool:=(cZ c i (bk s.1 i)).foldl (bX n i) s
def dt (c:List Ins)(n:Int)(l:List Pic):List Pic×Bool:=(j0 c.length).foldl (dE c n) (l,false)
def cR (n i:Int)(s:List Pic×List Int×Bool)(e:Edg):List Pic×List Int×Bool:=
 if bM e.pic (bk s.1 e.tgt) then s else(s.1.set e.tgt.toNat (aJ (am (dw n i e.tgt)) (bk s.1 e.tgt) e.pic),s.2.1.set e.tgt.toNat (if i < e.tgt then n else n+1),true)
def gT (c:List Ins)(n:Int)(s:List Pic×List Int×Bool)(i:Nat):List Pic×List Int×Bool:=if s.2.1.getD i 0=n then(cZ c i (bk s.1 i)).foldl (cR n i) s else s
def fE (c:List Ins)(n:Int)(s:List Pic×List Int):List Pic×List Int×Bool:=(j0 c.length).foldl (gT c n) (s.1,s.2,false)

structure XsOk (V F:Int) (c:List Ins) (l:List Pic):Prop where
 len:l.length=c.length+1
 ck:∀x∈l,aN V F c x=0
def fL (c:List Ins)(l:List Pic)(i:Nat):Prop:=∀e∈cZ c i (bk l i),bM e.pic (bk l e.tgt)=true
def LeX (l l':List Pic):Prop:=l'.length=l.length/\∀p:Int,bM (bk l p) (bk l' p)=true
section
variable {V F:Int} {c:List Ins} {l l' l2:List Pic} {n:Int}
theorem gq {k:Nat}(h:k < l.length):bk l (k:Int)=l[k]:=by unfold bk;simp[j2,h]
theorem XsOk.at (h:XsOk V F c l)(p:Int):aN V F c (bk l p)=0:=by
 unfold bk;by_cases hp:p.toNat < l.length
 ·simp only[j2,q0 hp,J5]
  exact h.ck _ (gM hp)
 ·simp only[j2,x0 (z9.1 hp),J6]
  rfl
theorem LeX.refl (h:XsOk V F c l):LeX l l:=⟨rfl,λp=>uh (h.at p)⟩
theorem LeX.trans (h:XsOk V F c l)(h':XsOk V F c l')(h2:XsOk V F c l2)(a:LeX l l')(b:LeX l' l2):LeX l l2:=⟨by rw[b.1,a.1],λp=>kk (h.at p) (h'.at p) (h2.at p) (a.2 p) (b.2 p)⟩
theorem lX {p:Int}{q:Nat}{y:Pic}:bk (l.set q y) p=if q=p.toNat/\q < l.length then y else bk l p:=by
 unfold bk;simp only[j2,Z5];by_cases h:q=p.toNat
 ·by_cases hq:q < l.length
  ·rw[if_pos h,if_pos hq,if_pos ⟨h,hq⟩];rfl
  ·have hq':¬p.toNat < l.length:=by omega
   rw[if_pos h,if_neg hq,if_neg aa,x0 aa]
 ·rw[if_neg h,if_neg aa]
def ig (V F:Int)(c:List Ins)(e:Edg):Prop:=aN V F c e.pic=0/\0<=e.tgt/\e.tgt<=c.length
theorem iJ (h0:au V F c=0){x:Pic}(hx:aN V F c x=0){i:Nat}(hi:i < c.length):∀e∈cZ c i x,ig V F c e:=λe he=>by
 have:=Hq (dB h0) hx (p:=(i:Int)) aa aa e he;exact⟨this.1,this.2.2.1,this.2.2.2⟩
theorem XsOk.put (h:XsOk V F c l){y:Pic}(hy:aN V F c y=0)(q:Nat):XsOk V F c (l.set q y):=⟨by rw[Z1];exact h.len,λx hx=>by
 rcases Q2 hx with hx|rfl
 ·exact h.ck x hx
 ·exact hy⟩
theorem oe (h0:au V F c=0){s:List Pic×Bool}{i:Int}{e:Edg}(h:XsOk V F c s.1)(he:ig V F c e):
  XsOk V F c (bX n i s e).1/\LeX s.1 (bX n i s e).1/\bM e.pic (bk (bX n i s e).1 e.tgt)=true/\((bX n i s e).2=false->s.2=false/\(bX n i s e).1=s.1)/\((bX n i s e).1=s.1/\(bX n i s e).2=s.2\/(bX n i s e).2=true/\iq (bX n i s e).1 < iq s.1):=by
 unfold bX;by_cases hi:bM e.pic (bk s.1 e.tgt)=true
 ·rw[if_pos hi]
  exact⟨h,LeX.refl h,hi,λhf=>⟨hf,rfl⟩,.inl ⟨rfl,rfl⟩⟩
 ·rw[if_neg hi]
  have hi':bM e.pic (bk s.1 e.tgt)=false:=fa;have hc:=h.at e.tgt;have hj:=vt (w:=dw n i e.tgt) hc he.1;have hin:=nU (w:=dw n i e.tgt) (dB h0).len hc he.1;have hl:=h.len;have hq:e.tgt.toNat < s.1.length:=by have:=he.2;omega
  refine⟨h.put hj _,⟨ah,λp=> ?_⟩,?_,(λhf=>by cases hf),.inr ⟨rfl,?_⟩⟩
  ·rw[lX]
   split
   ·rename_i hp
    have:bk s.1 p=bk s.1 e.tgt:=by unfold bk;rw[hp.1]
    rw[this];exact hin.1
   ·exact uh (h.at p)
  ·rw[lX,if_pos ⟨rfl,hq⟩]
   exact hin.2
  ·have hp:=If (w:=dw n i e.tgt) h0 hc he.1 hi'
   have e1:bk s.1 e.tgt=s.1[e.tgt.toNat]:=by unfold bk;simp[j2,hq]
   refine DK g9 hq ?_;rw[e1] at hp |-;exact hp
theorem BU (h0:au V F c=0)(h:XsOk V F c l)(h':XsOk V F c l')(hl:LeX l l'){i:Nat}(hi:i < c.length)(hs:fL c l i)(e:bk l' i=bk l i):fL c l' i:=by
 intro q hq;rw[e] at hq;exact kk (iJ h0 (h.at _) hi q hq).1 (h.at _) (h'.at _) (hs q hq) (hl.2 _)
theorem pH (h0:au V F c=0){i:Int}:∀{E:List Edg} {s:List Pic×Bool},XsOk V F c s.1->(∀e∈E,ig V F c e)->
  XsOk V F c (E.foldl (bX n i) s).1/\LeX s.1 (E.foldl (bX n i) s).1/\(∀e∈E,bM e.pic (bk (E.foldl (bX n i) s).1 e.tgt)=true)/\((E.foldl (bX n i) s).2=false->s.2=false/\(E.foldl (bX n i) s).1=s.1)/\((E.foldl (bX n i) s).1=s.1/\(E.foldl (bX n i) s).2=s.2\/(E.foldl (bX n i) s).2=true/\iq (E.foldl (bX n i) s).1 < iq s.1)
 |[],s,h,_=>⟨h,LeX.refl h,λe he=>by simp at he,λhf=>⟨hf,rfl⟩,.inl ⟨rfl,rfl⟩⟩
 |e::E,s,h,hE=>by
  have he:=hE e ah;obtain⟨a1,a2,a3,a4,a5⟩:=oe (n:=n) (i:=i) h0 h he;obtain⟨b1,b2,b3,b4,b5⟩:=pH h0 (i:=i) (E:=E) a1 λq hq=>hE q (by simp[hq]);rw[z4];refine⟨b1,LeX.trans h a1 b1 a2 b2,λq hq=> ?_,λhf=> ?_,?_⟩
  ·rcases j4.1 hq with rfl|hq
   ·exact kk he.1 (a1.at _) (b1.at _) a3 (b2.2 _)
   ·exact b3 q hq
  ·obtain⟨c1,c2⟩:=b4 hf
   obtain⟨d1,d2⟩:=a4 c1;exact⟨d1,by rw[c2,d2]⟩
  ·rcases b5 with⟨c1,c2⟩|⟨c1,c2⟩
   ·rcases a5 with⟨d1,d2⟩|⟨d1,d2⟩
    ·exact .inl ⟨by rw[c1,d1],by rw[c2,d2]⟩
    ·exact .inr ⟨by rw[c2,d1],by rw[c1];exact d2⟩
   ·rcases a5 with⟨d1,d2⟩|⟨d1,d2⟩
    ·exact .inr ⟨c1,by rw[<-d1];exact c2⟩
    ·exact .inr ⟨c1,Nat.lt_trans c2 d2⟩
theorem GO (h0:au V F c=0){s:List Pic×Bool}(h:XsOk V F c s.1){i:Nat}(hi:i < c.length):
  XsOk V F c (dE c n s i).1/\LeX s.1 (dE c n s i).1/\((dE c n s i).2=false->s.2=false/\(dE c n s i).1=s.1/\fL c s.1 i)/\((dE c n s i).1=s.1/\(dE c n s i).2=s.2\/(dE c n s i).2=true/\iq (dE c n s i).1 < iq s.1):=by
 obtain⟨a1,a2,a3,a4,a5⟩:=pH (n:=n) (i:=(i:Int)) h0 h (iJ h0 (h.at _) hi);refine⟨a1,a2,λhf=> ?_,a5⟩;obtain⟨b1,b2⟩:=a4 hf;exact⟨b1,b2,λe he=>by have:=a3 e he;rw[b2] at this;exact this⟩
theorem pR (h0:au V F c=0):∀{k:Nat},k<=c.length->∀{s:List Pic×Bool},XsOk V F c s.1->
  XsOk V F c ((j0 k).foldl (dE c n) s).1/\LeX s.1 ((j0 k).foldl (dE c n) s).1/\(((j0 k).foldl (dE c n) s).2=false->s.2=false/\((j0 k).foldl (dE c n) s).1=s.1/\∀i,i < k->fL c s.1 i)/\(((j0 k).foldl (dE c n) s).1=s.1/\((j0 k).foldl (dE c n) s).2=s.2\/((j0 k).foldl (dE c n) s).2=true/\iq ((j0 k).foldl (dE c n) s).1 < iq s.1)
 |0,_,s,h=>⟨h,LeX.refl h,λhf=>⟨hf,rfl,λi hi=>absurd hi aa⟩,.inl ⟨rfl,rfl⟩⟩
 |k+1,hk,s,h=>by
  rw[Z6,J8,z4,J9];obtain⟨a1,a2,a3,a4⟩:=pR h0 (k:=k) aa h;obtain⟨b1,b2,b3,b4⟩:=GO (n:=n) h0 a1 (i:=k) aa;refine⟨b1,LeX.trans h a1 b1 a2 b2,λhf=> ?_,?_⟩
  ·obtain⟨c1,c2,c3⟩:=b3 hf
   obtain⟨d1,d2,d3⟩:=a3 c1;refine⟨d1,by rw[c2,d2],λi hi=> ?_⟩;by_cases e:i=k
   ·rw[e];rw[d2] at c3;exact c3
   ·exact d3 i aa
  ·rcases b4 with⟨c1,c2⟩|⟨c1,c2⟩
   ·rcases a4 with⟨d1,d2⟩|⟨d1,d2⟩
    ·exact .inl ⟨by rw[c1,d1],by rw[c2,d2]⟩
    ·exact .inr ⟨by rw[c2,d1],by rw[c1];exact d2⟩
   ·rcases a4 with⟨d1,d2⟩|⟨d1,d2⟩
    ·exact .inr ⟨c1,by rw[<-d1];exact c2⟩
    ·exact .inr ⟨c1,Nat.lt_trans c2 d2⟩
theorem kq (h0:au V F c=0)(h:XsOk V F c l):
  XsOk V F c (dt c n l).1/\LeX l (dt c n l).1/\((dt c n l).2=false->(dt c n l).1=l/\∀i,i < c.length->fL c l i)/\((dt c n l).2=true->iq (dt c n l).1 < iq l):=by
 obtain⟨a1,a2,a3,a4⟩:=pR (n:=n) h0 (lR c.length) (s:=(l,false)) h;refine⟨a1,a2,λhf=>(a3 hf).2,λht=> ?_⟩;rcases a4 with⟨_,b⟩|⟨_,b⟩
 ·unfold dt at ht
  rw[b] at ht;cases ht
 ·exact b

structure Due (V F:Int) (c:List Ins) (n:Int) (i:Nat) (l:List Pic) (d:List Int):Prop where
 ok:XsOk V F c l
 len:d.length=c.length+1
 set:∀k,k < c.length->(if k < i then d.getD k 0≠n+1 else d.getD k 0≠n)->fL c l k
theorem Ae {d:List Int}{q k:Nat}{y:Int}(hq:q < d.length):(d.set q y).getD k 0=if q=k then y else d.getD k 0:=by
 simp only[j2,Z5];by_cases h:q=k
 ·rw[if_pos h,if_pos hq,if_pos h];rfl
 ·rw[if_neg h,if_neg h]
structure DueIn (V F:Int) (c:List Ins) (n:Int) (i:Nat) (x:Pic) (P:List Edg) (s:List Pic×List Int×Bool):Prop where
 ok:XsOk V F c s.1
 len:s.2.1.length=c.length+1
 set:∀k,k < c.length->k≠i->(if k < i then s.2.1.getD k 0≠n+1 else s.2.1.getD k 0≠n)->fL c s.1 k
 own:s.2.1.getD i 0=n+1\/bk s.1 i=x
 past:∀e∈P,bM e.pic (bk s.1 e.tgt)=true
theorem oC {i:Int}{s:List Pic×List Int×Bool}{e:Edg}:((cR n i s e).1,(cR n i s e).2.2)=bX n i (s.1,s.2.2) e:=by
 unfold cR bX;split<;>rfl
theorem so {i:Int}:∀{E:List Edg} {s:List Pic×List Int×Bool},((E.foldl (cR n i) s).1,(E.foldl (cR n i) s).2.2)=E.foldl (bX n i) (s.1,s.2.2)
 |[],_=>rfl
 |e::E,s=>by rw[z4,z4,so,oC]
theorem DueIn.step (h0:au V F c=0){i:Nat}(hi:i < c.length){x:Pic}{P:List Edg}{s:List Pic×List Int×Bool}(h:DueIn V F c n i x P s)(hP:∀e∈P,ig V F c e){e:Edg}(he:ig V F c e):DueIn V F c n i x (P++[e]) (cR n i s e):=by
 obtain⟨b1,b2,b3,-,-⟩:=oe (n:=n) (i:=(i:Int)) (s:=(s.1,s.2.2)) h0 h.ok he;have e1:(bX n i (s.1,s.2.2) e).1=(cR n i s e).1:=by rw[<-oC]
 rw[e1] at b1 b2 b3;have hpast:∀q∈P++[e],bM q.pic (bk (cR n i s e).1 q.tgt)=true:=λq hq=>by
  rcases j9.1 hq with hq|hq
  ·exact kk (hP q hq).1 (h.ok.at _) (b1.at _) (h.past q hq) (b2.2 _)
  ·rw[j5.1 hq];exact b3
 by_cases hin:bM e.pic (bk s.1 e.tgt)=true
 ·have es:cR n i s e=s:=by unfold cR;rw[if_pos hin]
  rw[es] at hpast |-;exact⟨h.ok,h.len,h.set,h.own,hpast⟩
 ·have es:cR n i s e=(s.1.set e.tgt.toNat (aJ (am (dw n i e.tgt)) (bk s.1 e.tgt) e.pic),s.2.1.set e.tgt.toNat (if (i:Int) < e.tgt then n else n+1),true):=by unfold cR;rw[if_neg hin]
  have hl:=h.len;have hq:e.tgt.toNat < s.2.1.length:=by have:=he.2;omega
  have hto:=he.2;rw[es] at b1 b2 hpast |-;refine⟨b1,by simpa using h.len,λk hk hne hd=> ?_,?_,hpast⟩
  ·simp only at hd |-
   rw[Ae hq] at hd;by_cases ek:e.tgt.toNat=k
   ·rw[if_pos ek] at hd
    exfalso;by_cases hki:k < i
    ·rw[if_pos hki,if_neg aa] at hd
     exact hd rfl
    ·rw[if_neg hki,if_pos aa] at hd
     exact hd rfl
   ·rw[if_neg ek] at hd
    refine BU h0 h.ok b1 b2 hk (h.set k hk hne hd) ?_;rw[lX,if_neg aa]
  ·simp only
   rw[Ae hq];by_cases ek:e.tgt.toNat=i
   ·left
    rw[if_pos ek,if_neg aa]
   ·rw[if_neg ek,lX,if_neg aa]
    exact h.own
theorem DueIn.steps (h0:au V F c=0){i:Nat}(hi:i < c.length){x:Pic}:∀{E P:List Edg} {s:List Pic×List Int×Bool},DueIn V F c n i x P s->(∀e∈P,ig V F c e)->(∀e∈E,ig V F c e)->DueIn V F c n i x (P++E) (E.foldl (cR n i) s)
 |[],P,s,h,_,_=>by rw[Z7];exact h
 |e::E,P,s,h,hP,hE=>by
  have h1:=h.step h0 hi hP (hE e ah);have h2:=DueIn.steps h0 hi (E:=E) h1 (λq hq=>by
   rcases j9.1 hq with hq|hq
   ·exact hP q hq
   ·rw[j5.1 hq];exact hE e ah) λq hq=>hE q (by simp[hq])
  rw[List.append_assoc] at h2;exact h2
theorem AX {s:List Pic×Bool}{i:Nat}(h:fL c s.1 i):dE c n s i=s:=by
 unfold dE;have:∀(E:List Edg),(∀e∈E,bM e.pic (bk s.1 e.tgt)=true)->E.foldl (bX n i) s=s:=by
  intro E;induction E with
  |nil=>exact λ_=>rfl
  |cons e E ih=>
   intro hE;rw[z4];have:bX n i s e=s:=by unfold bX;rw[if_pos (hE e (by simp))]
   rw[this];exact ih λq hq=>hE q (by simp[hq])
 exact this _ h
theorem GE (h0:au V F c=0){i:Nat}(hi:i < c.length){s:List Pic×List Int×Bool}(h:Due V F c n i s.1 s.2.1):Due V F c n (i+1) (gT c n s i).1 (gT c n s i).2.1/\((gT c n s i).1,(gT c n s i).2.2)=dE c n (s.1,s.2.2) i:=by
 unfold gT;by_cases hd:s.2.1.getD i 0=n
 ·rw[if_pos hd]
  refine⟨?_,so⟩;have hE:=iJ h0 (h.ok.at (i:Int)) hi;have h1:DueIn V F c n i (bk s.1 i) [] s:=⟨h.ok,h.len,λk hk _ hh=>h.set k hk hh,.inr rfl,λe he=>by simp at he⟩;have h2:=h1.steps h0 hi (λe he=>by simp at he) hE;rw[Q0] at h2;refine⟨h2.ok,h2.len,λk hk hh=> ?_⟩;by_cases ek:k=i
  ·subst ek
   rw[if_pos aa] at hh;rcases h2.own with ho|ho
   ·exact absurd ho hh
   ·intro e he
    rw[ho] at he;exact h2.past e he
  ·refine h2.set k hk ek ?_
   by_cases hki:k < i
   ·rw[if_pos hki];rw[if_pos aa] at hh;exact hh
   ·rw[if_neg hki];rw[if_neg aa] at hh;exact hh
 ·rw[if_neg hd]
  have hs:fL c s.1 i:=h.set i hi (by rw[if_neg (by omega)];exact hd);refine⟨⟨h.ok,h.len,λk hk hh=> ?_⟩,(AX hs).symm⟩;by_cases ek:k=i
  ·rw[ek];exact hs
  ·refine h.set k hk ?_
   by_cases hki:k < i
   ·rw[if_pos hki];rw[if_pos aa] at hh;exact hh
   ·rw[if_neg hki];rw[if_neg aa] at hh;exact hh
theorem sS (h0:au V F c=0):∀{k:Nat},k<=c.length->∀{s:List Pic×List Int×Bool},Due V F c n 0 s.1 s.2.1->Due V F c n k ((j0 k).foldl (gT c n) s).1 ((j0 k).foldl (gT c n) s).2.1/\(((j0 k).foldl (gT c n) s).1,((j0 k).foldl (gT c n) s).2.2)=(j0 k).foldl (dE c n) (s.1,s.2.2)
 |0,_,s,h=>⟨h,rfl⟩
 |k+1,hk,s,h=>by
  rw[Z6,J8,z4,J9,J8,z4,J9];obtain⟨a1,a2⟩:=sS h0 (k:=k) aa h;obtain⟨b1,b2⟩:=GE h0 (i:=k) aa a1;exact⟨b1,by rw[b2,a2]⟩
theorem sC (h0:au V F c=0){d:List Int}(h:Due V F c n 0 l d):Due V F c (n+1) 0 (fE c n (l,d)).1 (fE c n (l,d)).2.1/\(fE c n (l,d)).1=(dt c n l).1/\(fE c n (l,d)).2.2=(dt c n l).2:=by
 obtain⟨a1,a2⟩:=sS h0 (lR c.length) (s:=(l,d,false)) h;refine⟨⟨a1.ok,a1.len,λk hk hh=> ?_⟩,congrArg Prod.fst a2,congrArg Prod.snd a2⟩;rw[if_neg aa] at hh;exact a1.set k hk (by rw[if_pos hk];exact hh)

def kB (V F:Int)(c:List Ins):List Pic:=bI V F c::x8 c.length nonePic
def aI (V F:Int)(c:List Ins):Nat->List Pic
 |0=>kB V F c
 |m+1=>(dt c ((m+1:Nat):Int) (aI V F c m)).1
def SolvedAt (V F:Int)(c:List Ins)(m:Nat):Prop:=(∀k,k < m->(dt c ((k+1:Nat):Int) (aI V F c k)).2=true)/\(dt c ((m+1:Nat):Int) (aI V F c m)).2=false
theorem SolvedAt.one {m m':Nat}(h:SolvedAt V F c m)(h':SolvedAt V F c m'):m=m':=by
 rcases Nat.lt_trichotomy m m' with e|e|e
 ·have:=h'.1 m e;rw[h.2] at this;cases this
 ·exact e
 ·have:=h.1 m' e;rw[h'.2] at this;cases this
theorem Dq (h0:au V F c=0):PicOk V F c (bI V F c):=by
 have hp:=dB h0;have h1:=hp.v1;have h2:=hp.f0;refine⟨rfl,by simp[bI];omega,by simp[bI],λk h=> ?_,λg hg=> ?_,λk h g hg=> ?_,λk h=>.inr λg hg=> ?_⟩
 ·simp[bI];omega
 ·rw[x9 hg];rfl
 ·have hg':g∈x8 F.toNat noneG:=by simpa[bI] using hg
  rw[x9 hg'];rfl
 ·have hg':g∈x8 F.toNat noneG:=by simpa[bI] using hg
  rw[x9 hg'];rfl
theorem ku (h0:au V F c=0):XsOk V F c (kB V F c):=⟨by simp[kB],λx hx=>by
 rcases j4.1 hx with rfl|hx
 ·exact(Dq h0).ck
 ·rw[x9 hx];rfl⟩
theorem dQ (h0:au V F c=0):∀m,XsOk V F c (aI V F c m)
 |0=>ku h0
 |m+1=>(kq h0 (dQ h0 m)).1
theorem pm (h0:au V F c=0):∀m,LeX (kB V F c) (aI V F c m)
 |0=>LeX.refl (ku h0)
 |m+1=>LeX.trans (ku h0) (dQ h0 m) (dQ h0 (m+1)) (pm h0 m) (kq h0 (dQ h0 m)).2.1
theorem MZ (h0:au V F c=0)(h:XsOk V F c l):iq l<=200000000000000:=by
 obtain⟨G,hG⟩:∃G:Nat,G=2000000000000:=⟨_,rfl⟩;have h1:iq l<=l.length * G:=oP g9 G λx hx=>by rw[hG];exact Fl h0 (h.ck x hx)
 have h2:=h.len;have h3:=(dB h0).len;have h4:l.length<=61:=aa;have h5:l.length * G<=61 * G:=x7 _ h4;omega
theorem iL (h0:au V F c=0):∀{m:Nat},(∀k,k < m->(dt c ((k+1:Nat):Int) (aI V F c k)).2=true)->m+iq (aI V F c m)<=200000000000000
 |0,_=>by have:=MZ h0 (ku h0);simp only[aI];omega
 |m+1,h=>by
  have h1:=iL h0 (m:=m) λk hk=>h k aa;have h2:=(kq (n:=((m+1:Nat):Int)) h0 (dQ h0 m)).2.2.2 (h m aa);have h3:iq (aI V F c (m+1)) < iq (aI V F c m):=h2;omega
def Ki (c:List Ins):List Int:=1::x8 c.length 0
theorem Gy (h0:au V F c=0):Due V F c 1 0 (kB V F c) (Ki c):=by
 refine⟨ku h0,by simp[Ki],λk hk hd=> ?_⟩;rw[if_neg aa] at hd;cases k with
 |zero=>exact absurd rfl hd
 |succ k=>
  intro e he;have:bk (kB V F c) ((k+1:Nat):Int)=nonePic:=by
   rw[gq (by simp[kB];omega)];simp[kB]
  rw[this] at he;simp[cZ,aA,nonePic] at he
def FI (V F:Int)(c:List Ins)(l:List Pic):Bool:=bM (bI V F c) (bk l 0)&&(j0 c.length).all λi=>(cZ c i (bk l i)).all λe=>bM e.pic (bk l e.tgt)
theorem fitsX_iff:FI V F c l=true↔bM (bI V F c) (bk l 0)=true/\∀i,i < c.length->fL c l i:=by
 unfold FI fL;simp[J4]
theorem sQ (h0:au V F c=0){m:Nat}(h:SolvedAt V F c m):aI V F c (m+1)=aI V F c m/\FI V F c (aI V F c m)=true:=by
 have h1:=(kq (n:=((m+1:Nat):Int)) h0 (dQ h0 m)).2.2.1 h.2;refine⟨h1.1,fitsX_iff.2 ⟨?_,h1.2⟩⟩;have:=(pm h0 m).2 0;exact this
end
theorem sE (i:Ins)(at_:Int)(x:Pic):(aA i at_ x).1.length<=2:=by
 unfold aA;repeat' split
 all_goals simp
 all_goals (repeat' split)
 all_goals simp
end
section
open Go.RowKit
attribute [local go_sem ↓] Go.wp_at_zero Go.wp_at_succ
theorem kg (sb:Nat)(at_:Int)(cs:List Value)(w:World)(h:Cells w sb cs)(h9:cs[9]? =sO (I Y at_))(h0:0<=at_)(h1:at_<=1000):
  Calls pG 92 #[Pp (sO ⟨sb,0,nO⟩)] w λe w'=>e=Rt (I Y (at_+1))/\w'=w:=by
 have c9:=h.1 9 _ h9;clear h h9;go_enter Tryz.func92,Tryz.ntmps92;go_wp2;go_ret;exact⟨bU aG,rfl⟩
theorem Du {s:Sp}(hs:s.Ok):b9 s=(if (if s.lo=0 then aF s ⟨false,1,2147483647⟩ else s).hi=0 then aF (if s.lo=0 then aF s ⟨false,1,2147483647⟩ else s) ⟨false,-2147483648,-1⟩ else(if s.lo=0 then aF s ⟨false,1,2147483647⟩ else s)):=by
 obtain⟨⟨a1,a2⟩,⟨a3,a4⟩,a5,a6⟩:=hs;obtain⟨n,lo,hi⟩:=s;simp only at a1 a2 a3 a4 a5 a6;cases n with
 |true=>
  obtain⟨rfl,rfl⟩:=a5 rfl;rfl
 |false=>
  by_cases h1:lo=0
  ·subst h1
   by_cases h2:hi=0
   ·subst h2;rfl
   ·have e1:min hi 2147483647=hi:=by omega
    have e2:max (0:Int) 1=1:=aa;have e3:¬hi < 1:=aa;simp[b9,aF,h2,e1,e2,e3]
  ·by_cases h2:hi=0
   ·subst h2
    have e1:min (0:Int) (-1)= -1:=aa;have e2:max lo (-2147483648)=lo:=aa;have e3:¬ -1 < lo:=aa;simp[b9,aF,h1,e1,e2,e3]
   ·have e3:¬hi < lo:=by omega
    simp[b9,h1,h2,e3]
theorem NF {s t:Sp}(hs:s.Ok)(ht:t.Ok):(aF s t).Ok:=by
 obtain⟨⟨a1,a2⟩,⟨a3,a4⟩,a5,a6⟩:=hs;obtain⟨⟨b1,b2⟩,⟨b3,b4⟩,b5,b6⟩:=ht;unfold aF;split
 ·exact gi
 ·rename_i h
  simp only[x1,decide_eq_true_eq,not_or] at h;exact iZ aa aa aa
theorem GG {s t:Sp}(hs:s.Ok)(ht:t.Ok):bB s t=0:=ckSps_ok.2 ⟨hs,ht⟩
theorem vW (s:Sp)(w:World)(hs:s.Ok):
  Calls pG 157 #[sv s] w λe w'=>e=Rt (sv (b9 s))/\bl w w':=by
 rw[Du hs];have HM:Hid (∀(a b:Sp) wx,a.Ok->b.Ok->Calls pG 159 #[sv a,sv b] wx λe w'=>e=Rt (Tu #[sv (aF a b),I Y 0])/\bl wx w'):=λa b wx ha hb=>by
  have:=kw a b wx;rw[GG ha hb] at this;exact this
 have B0:Below w.heap.size w ((w.alloc (Cc #[Bb s.n,I Y s.lo,I Y s.hi] 89)).alloc (Cc #[Bb false,I Y 0,I Y 0] 89)):=ai;have A0:Cells ((w.alloc (Cc #[Bb s.n,I Y s.lo,I Y s.hi] 89)).alloc (Cc #[Bb false,I Y 0,I Y 0] 89)) w.heap.size [Bb s.n,I Y s.lo,I Y s.hi]:=(Cells.new w 89 [Bb s.n,I Y s.lo,I Y s.hi]).call ai;have R0:Cells ((w.alloc (Cc #[Bb s.n,I Y s.lo,I Y s.hi] 89)).alloc (Cc #[Bb false,I Y 0,I Y 0] 89)) (w.heap.size+1) [Bb false,I Y 0,I Y 0]:=by
  have:=Cells.new (w.alloc (Cc #[Bb s.n,I Y s.lo,I Y s.hi] 89)) 89 [Bb false,I Y 0,I Y 0];rw[zA] at this;exact this
 have HK1:Hid ((⟨false,1,2147483647⟩:Sp).Ok):=iZ aa aa aa;have HK2:Hid ((⟨false,-2147483648,-1⟩:Sp).Ok):=iZ aa aa aa;obtain⟨m1,hm1⟩:∃q,q=(if s.lo=0 then aF s ⟨false,1,2147483647⟩ else s):=⟨_,rfl⟩;rw[<-hm1];have HO1:Hid (m1.Ok):=by
  show m1.Ok;rw[hm1];split
  ·exact NF hs HK1.out
  ·exact hs
 have HM1:=ae hm1;clear hm1;obtain⟨m2,hm2⟩:∃q,q=(if m1.hi=0 then aF m1 ⟨false,-2147483648,-1⟩ else m1):=⟨_,rfl⟩;rw[<-hm2];have HM2:=ae hm2;have HS:=ae hs;clear hm2 hs;go_enter Tryz.func157,Tryz.ntmps157;go_upto_if 5 with fail
 generalize ((w.alloc (Cc #[Bb s.n,I Y s.lo,I Y s.hi] 89)).alloc (Cc #[Bb false,I Y 0,I Y 0] 89))=w0 at *;go_cut [] (λwy=>Cells wy w.heap.size [Bb m1.n,I Y m1.lo,I Y m1.hi]/\Cells wy (w.heap.size+1) [Bb false,I Y 0,I Y 0]/\bl w wy)
 case first=>
  have a0:=A0.1 0 _ rfl;have a1:=A0.1 1 _ rfl;have a2:=A0.1 2 _ rfl;by_cases e:s.lo=0
  ·have e1:=HM1.out
   rw[if_pos e] at e1;have E1:=ae e1;have eb:(s.lo==0)=true:=iS;clear e1 e;have HC:=ae (HM.out s ⟨false,1,2147483647⟩ w0 HS.out HK1.out);rw[<-E1.out] at HC;go_wp2_with (go_at_call 159;fail);refine HC.out.mono ?_;rintro e w1 ⟨rfl,hb1⟩;have A1:=A0.call hb1;have R1:=R0.call hb1;have B1:=B0.trans (hb1.mono B0.size);clear a0 a1 a2 hb1 A0 R0 B0 HC;have b0:=A1.1 0 _ rfl;have b1:=A1.1 1 _ rfl;have b2:=A1.1 2 _ rfl;have f0:=A1.2.2 0;have f1:=A1.2.2 1;have f2:=A1.2.2 2;go_wp2_with fail;go_meet;exact⟨((A1.put 0 ah _).put 1 ah _).put 2 ah _,((R1.far aq _).far aq _).far aq _,((B1.setCell (lR _) _).setCell (lR _) _).setCell (lR _) _⟩
  ·have e1:=HM1.out
   rw[if_neg e] at e1;have eb:(s.lo==0)=false:=iS;clear e;subst e1;go_wp2_with fail;go_meet;exact⟨A0,R0,B0⟩
 obtain⟨A1,R1,B1⟩:=hcut;clear A0 R0 B0;generalize wc=w1 at *;clear wc;have a0:=A1.1 0 _ rfl;have a1:=A1.1 1 _ rfl;have a2:=A1.1 2 _ rfl;go_upto_if 14 with fail
 go_cut [] (λwy=>Cells wy w.heap.size [Bb m2.n,I Y m2.lo,I Y m2.hi]/\Cells wy (w.heap.size+1) [Bb false,I Y 0,I Y 0]/\bl w wy)
 case first=>
  by_cases e:m1.hi=0
  ·have e1:=HM2.out
   rw[if_pos e] at e1;have E1:=ae e1;have eb:(m1.hi==0)=true:=iS;clear e1 e;have HC:=ae (HM.out m1 ⟨false,-2147483648,-1⟩ w1 HO1.out HK2.out);rw[<-E1.out] at HC;go_wp2_with (go_at_call 159;fail);refine HC.out.mono ?_;rintro e w2 ⟨rfl,hb2⟩;have A2:=A1.call hb2;have R2:=R1.call hb2;have B2:=B1.trans (hb2.mono B1.size);clear a0 a1 a2 hb2 A1 R1 B1 HC;have b0:=A2.1 0 _ rfl;have b1:=A2.1 1 _ rfl;have b2:=A2.1 2 _ rfl;have f0:=A2.2.2 0;have f1:=A2.2.2 1;have f2:=A2.2.2 2;go_wp2_with fail;go_meet;exact⟨((A2.put 0 ah _).put 1 ah _).put 2 ah _,((R2.far aq _).far aq _).far aq _,((B2.setCell (lR _) _).setCell (lR _) _).setCell (lR _) _⟩
  ·have e1:=HM2.out
   rw[if_neg e] at e1;have eb:(m1.hi==0)=false:=iS;clear e;subst e1;go_wp2_with fail;go_meet;exact⟨A1,R1,B1⟩
 obtain⟨A2,R2,B2⟩:=hcut;clear A1 R1 B1 a0 a1 a2;generalize wc=w2 at *;clear wc;have b0:=A2.1 0 _ rfl;have b1:=A2.1 1 _ rfl;have b2:=A2.1 2 _ rfl;have d0:=R2.1 0 _ rfl;have d1:=R2.1 1 _ rfl;have d2:=R2.1 2 _ rfl;have f0:=R2.2.2 0;have f1:=R2.2.2 1;have f2:=R2.2.2 2;go_wp2;refine bodyPost_ret (v:=sv m2) (by simp[results,Tryz.results157,go_sem,d0,d1,d2]) rfl ⟨rfl,?_⟩;exact((B2.setCell aq _).setCell aq _).setCell aq _
end
section
theorem iF (c:UInt8):∀l,(bw c l).length<=l.length+1
 |[]=>by simp[bw]
 |b::l=>by
  have ih:=iF c l;obtain⟨x,r,h⟩:=fG c l;unfold bw;rw[h] at ih |-;simp only[j8] at ih |-;split<;>simp only[j8]<;>omega
theorem ip (c:UInt8)(x y:List UInt8)(r:List (List UInt8)):gk c (x::y::r)=x++c::gk c (y::r):=by simp[gk]
theorem im (c:UInt8):∀(ls:List (List UInt8)) (x:List UInt8),x∈ls->x.length<=(gk c ls).length
 |[],x,h=>aT
 |[y],x,h=>by simp at h;subst h;simp[gk]
 |y::z::r,x,h=>by
  rw[ip];rcases j4.1 h with rfl|h
  ·simp
  ·have:=im c (z::r) x h
   simp;omega
theorem pL (c:UInt8):∀(ls:List (List UInt8)) (k:Nat),(gk c (ls.drop k)).length<=(gk c ls).length
 |ls,0=>ah
 |[],k+1=>ah
 |[y],k+1=>by simp[gk]
 |y::z::r,k+1=>by
  have:=pL c (z::r) k;rw[List.drop_succ_cons,ip];simp at this |-;omega
def txB (ls:List (List UInt8))(k:Nat):ByteArray:=⟨(gk 10 (ls.drop k)).toArray⟩
def lnB (ls:List (List UInt8))(k:Nat):ByteArray:=⟨(ls.getD k []).toArray⟩
theorem fF (ls:List (List UInt8))(k:Nat):(txB ls k).data.toList=gk 10 (ls.drop k):=by simp[txB]
theorem eh (ls:List (List UInt8))(k:Nat):(lnB ls k).data.toList=ls.getD k []:=by simp[lnB]
theorem iX {ls:List (List UInt8)}{k:Nat}(h:k < ls.length):ls.getD k []=ls[k]:=by simp[j2,q0 h]
theorem vM {ls:List (List UInt8)}{k:Nat}(h:k+1 < ls.length)(hf:∀x∈ls,(10:UInt8)∉x):Lib.cut (txB ls k).data.toList [10]=((lnB ls k).data.toList,(txB ls (k+1)).data.toList,true):=by
 rw[fF,fF,eh,iX (by omega:k < ls.length),z3 (by omega:k < ls.length),z3 h,ip];exact Eo 10 _ _ (hf _ (gM _))
theorem Fi {ls:List (List UInt8)}{k:Nat}(h:k+1=ls.length)(hf:∀x∈ls,(10:UInt8)∉x):Lib.cut (txB ls k).data.toList [10]=((lnB ls k).data.toList,(⟨#[]⟩:ByteArray).data.toList,false):=by
 rw[fF,eh,iX (by omega:k < ls.length),z3 (by omega:k < ls.length),Z8 aa];simp only[gk,List.flatMap_nil,Z7];exact Mu 10 _ (hf _ (gM _))
theorem FM {ls:List (List UInt8)}{k:Nat}(h:k+1 < ls.length):txB ls k≠⟨#[]⟩:=by
 intro e;have h2:(txB ls k).data.toList=[]:=by rw[e]
 rw[fF,z3 (by omega:k < ls.length),z3 h,ip] at h2;simp at h2
theorem Ku {ls:List (List UInt8)}{k:Nat}(h:k+1=ls.length):(txB ls k).data.toList=ls.getD k []:=by
 rw[fF,iX (by omega:k < ls.length),z3 (by omega:k < ls.length),Z8 aa];simp[gk]
theorem DM:∀{ls:List (List UInt8)} {m:Nat} {c:List Ins},dW m ls=.ok c->ls.length=c.length+1/\ls.getD c.length []=[]/\∀k (h:k < c.length),d7 (ls.getD k [])=sO c[k]
 |[],_,_,h=>aT
 |[x],m,c,h=>by
  unfold dW at h;split at h
  ·rename_i e
   cases h;exact⟨rfl,by rw[e];rfl,λk h=>aT⟩
  ·cases h
 |x::y::r,m,c,h=>by
  unfold dW at h;split at h
  ·cases h
  ·rename_i i hi
   split at h
   ·cases h
   ·rename_i c' hc
    cases h;obtain⟨h1,h2,h3⟩:=DM hc;refine⟨by simp only[j8] at h1 |-;omega,?_,?_⟩
    ·simpa using h2
    ·intro k hk
     cases k with
     |zero=>simpa using hi
     |succ k=>simpa using h3 k gX
theorem Bv:∀{ls:List (List UInt8)} {m e:Nat},ls≠[]->dW m ls=.error e->∃n,e=m+n/\n < ls.length/\(∀k,k < n->∃i,d7 (ls.getD k [])=sO i)/\((n+1=ls.length/\ls.getD n []≠[])\/(n+1 < ls.length/\d7 (ls.getD n [])=nO))
 |[],_,_,hn,_=>absurd rfl hn
 |[x],m,e,_,h=>by
  unfold dW at h;split at h
  ·cases h
  ·rename_i hx
   cases h;exact⟨0,rfl,ah,λk hk=>aa,.inl ⟨rfl,by simpa using hx⟩⟩
 |x::y::r,m,e,_,h=>by
  unfold dW at h;split at h
  ·rename_i hi
   cases h;exact⟨0,rfl,ah,λk hk=>aa,.inr ⟨ah,fa⟩⟩
  ·rename_i i hi
   split at h
   ·rename_i e' hc
    cases h;obtain⟨n,h1,h2,h3,h4⟩:=Bv ah hc;refine⟨n+1,aa,by simp only[j8] at h2 |-;omega,?_,?_⟩
    ·intro k hk
     cases k with
     |zero=>exact⟨i,fa⟩
     |succ k=>simpa using h3 k aa
    ·rcases h4 with⟨h5,h6⟩|⟨h5,h6⟩
     ·exact .inl ⟨by simp only[j8] at h5 |-;omega,by simpa using h6⟩
     ·exact .inr ⟨by simp only[j8] at h5 |-;omega,by simpa using h6⟩
   ·cases h
theorem Im (v:Int):(v < 0/\Lib.itoa v=45::Lib.decDigits v.natAbs)\/(0<=v/\Lib.itoa v=Lib.decDigits v.toNat):=by
 unfold Lib.itoa;by_cases h:v < 0
 ·exact .inl ⟨h,if_pos h⟩
 ·exact .inr ⟨by omega,if_neg h⟩
theorem Gv {l dl:List UInt8}{neg:Bool}{v:Int}(hl:l=if neg=true then 45::dl else dl)(hn:neg=false->dl.head?≠sO 45)(h:bY l=sO v):∀b∈dl,48<=b.toNat/\b.toNat<=57:=by
 have hi:=FU h;rcases Im v with⟨_,h2⟩|⟨_,h2⟩
 ·rw[h2] at hi
  cases neg with
  |true=>
   simp only[if_true] at hl;rw[hl] at hi;obtain⟨-,rfl⟩:=List.cons.inj hi;exact lZ _
  |false=>
   simp only[j1,if_false] at hl;rw[hl] at hi;exact absurd (by rw[<-hi];rfl) (hn rfl)
 ·rw[h2] at hi
  have hd:=lZ v.toNat;rw[hi] at hd;cases neg with
  |true=>
   simp only[if_true] at hl;rw[hl] at hd;exact absurd (hd 45 ah) aj
  |false=>
   simp only[j1,if_false] at hl;rw[hl] at hd;exact hd
theorem Eg {l dl:List UInt8}{neg:Bool}{k:Nat}{b:UInt8}(hl:l=if neg=true then 45::dl else dl)(hn:neg=false->dl.head?≠sO 45)(hk:dl[k]? =sO b)(hb:¬(48<=b.toNat/\b.toNat<=57)):bY l=none:=by
 cases h:bY l with
 |none=>rfl
 |some v=>exact absurd (Gv hl hn h b (List.mem_of_getElem? hk)) hb
theorem Id {l:List UInt8}{neg:Bool}(hl:l=if neg=true then [45] else []):bY l=none:=by
 cases neg<;>(simp at hl;subst hl;decide)
theorem L8 {b:UInt8}{d:Nat}(h:Lib.digitVal b=sO d):48<=b.toNat/\b.toNat<=57:=by
 unfold Lib.digitVal at h;split at h
 ·assumption
 ·cases h
theorem Ml {dl:List UInt8}{k n:Nat}{b:UInt8}(h:Lib.decFrom 0 (dl.take k)=sO n)(hk:dl[k]? =sO b)(hb:48<=b.toNat/\b.toNat<=57):Lib.decFrom 0 (dl.take (k+1))=sO (n * 10+(b.toNat - 48)):=by
 rw[List.take_add_one,hk,rZ,h];simp only[Option.toList,Option.bind,Lib.decFrom,Lib.digitVal,if_pos hb]
theorem Mi {l dl:List UInt8}{neg:Bool}{n:Nat}(hl:l=if neg=true then 45::dl else dl)(hne:dl≠[])(hlen:l.length<=11)(hd:Lib.decFrom 0 dl=sO n):bY l=if Lib.itoa (if neg=true then -(n:Int) else n)=l then sO (if neg=true then -(n:Int) else n) else none:=by
 have hat:Lib.atoi l=sO (if neg=true then -(n:Int) else n):=by
  cases dl with
  |nil=>exact absurd rfl hne
  |cons b r=>
   cases neg with
   |true=>
    simp only[if_true] at hl |-;rw[hl];show (Lib.decNat (b::r)).map (λm:Nat=> -(m:Int))=_;rw[Lib.decNat,if_neg ah,hd];rfl
   |false=>
    simp only[j1,if_false] at hl |-;have hb:48<=b.toNat/\b.toNat<=57:=by
     simp only[Lib.decFrom] at hd;split at hd
     ·rename_i d hdv
      exact L8 hdv
     ·cases hd
    have e1:(b==45)=false:=EE;have e2:(b==43)=false:=EE;rw[hl];simp only[Lib.atoi,e1,e2,j1,if_false,Lib.decNat,List.isEmpty_cons,hd,Option.map]
 unfold bY;rw[if_pos hlen,hat]
theorem Lm {l:List UInt8}(h:¬l.length<=11):bY l=none:=by unfold bY;rw[if_neg h]
end
end Go.Proofs.YtmapdpcfanecdabGreatDoor
