import Derived.Test.YtmapdpcfanecdabGreatDoorQ03
import Derived.Lib.ItoaNum
import Derived.Lib.ItoaLen
import Derived.Deep.RegionHeldLaw
import Derived.Lib.SplitLaws
import Derived.Lib.AtoiTie
import Derived.Deep.DeepCutAuto
import Derived.Test.YtmapdpcfanecdabGreatDoorQ05
import Derived.Laws.MakeOwn
import Derived.Laws.CopyOwn
open List renaming length→X,Pairwise→Z4,all_cons→Qd,all_eq_true→Z5,any_eq_false→Qf,contains_iff_mem→Qe,drop_eq_getElem_cons→J3,eq_nil_of_length_eq_zero→Z8,getD→j5,getElem?_append_left→X1,getElem?_eq_getElem→z4,getElem?_eq_none→Z7,getElem?_eq_some_iff→x9,getElem_map→x8,getElem_mem→gM,getElem_modify→Qa,getElem_of_mem→J7,getElem_range→Z1,getElem_replicate→Qp,getElem_set→X9,getElem_zipWith→z6,length_append→x6,length_cons→X0,length_eq_zero_iff→Q0,length_map→X4,length_modify→Qb,length_set→z5,length_zipWith→z3,map_append→X5,map_set→Z3,mem_append→j4,mem_cons→z8,mem_flatMap→X2,mem_flatten→Qg,mem_iff_getElem→X8,mem_map→z9,mem_or_eq_of_mem_set→Z2,mem_replicate→Qc,mem_singleton→j6,pairwise_cons→Q4,pairwise_map→X7,replicate→j1,set→j2,set_cons_succ→X6,set_getElem_self→J0,set_set→Qo,zipWith→Q3
open Array renaming size→R,getElem?_eq_some_iff→z0
open Go.World renaming heap→M,cell?→Q6,cell?_of_block→z7,cell?_setCell_other→Qk,cell?_setCell_same→J4,frozen?_setCell→Q8,ownsRow→Q1,ownsRow_nil→Ql,putObj→Qi,putObj_heap_other→Q7,putObj_heap_same→Qj,setCell→J5,size_alloc→zA
open Bool renaming and_eq_true→j8,false_eq_true→J8,not_eq_false→Q2,not_eq_true'→x7,or_eq_true→J6,false→d,true→W5
open Go.Ending renaming returned→Rt
open Go.IntKind renaming i64→Y
open Go.Obj renaming cells→Cc
open Go.Proofs.Tryz renaming prog→pG,prog→f
open Go.RowKit.Below renaming heap_setCell→hSe,refl→bR
open Go.Value renaming agg→Ag,cells→J9,int→I,pointer→Pp,slice→U,slice→j0,tuple→Tu,bool→O
open Int renaming eq_ofNat_of_zero_le→J2
open Nat renaming le_refl→lR,le_trans→lT,lt_of_lt_of_le→lL,min→j9,min_le_left→Qq,min_le_right→Z9,mod_two_eq_zero_or_one→Qn,not_lt→Q5,zero_add→j3,zero_le→j7,zero_mul→Z0
open Option renaming getD_none→Qh,getD_some→Z6,isSome_iff_exists→Qm,some→Q9,some→sO,none→E,some→G
open Go.RowKit renaming Below→n4
open Go renaming Value→mh,World→kl
set_option linter.all false
open Go.Proofs.Tryz
set_option maxHeartbeats 16000000
set_option maxRecDepth 100000
namespace Go.Proofs.YtmapdpcfanecdabGreatDoor
variable {α:Type}(g:Gs)(l a:List Int)(L:List (List α))(V x F:Int){S:Nat->Prop}(m k q:Nat){P:Program}{w w':kl}(ss s:oA)(c:lI){B:Nat}(ins:List Int)(r:St){e:TypeId}{fs ls:oA}{b T z:Nat}(n:Int)(i:Ins){v:mh}
variable {p:Prop}
section
open Go.RowKit
section
variable (len cap:Nat)(j a b n g:Int)(w:kl)(K:1<=V)(o:V<=8)
def WV(N:0<=F)(q:F<=3)(H:len<=60):
  Calls f 58 #[Ag #[I Y V,I Y F,U s len cap],Ag #[I Y 1,I Y j,I Y a,I Y b,I Y n,I Y g]] w λe w'=>e=Rt (I Y (bo V F len ⟨1,j,a,b,n,g⟩))/\bl w w':=by
 have P:(bi 1).toList.isEmpty=false:=dO;have k:nTo 1=true:=rfl;have Z:nA 1=false:=rfl;have t3:nB 1=false:=rfl;have Q:nN 1=true:=rfl;have t5:nG 1=false:=rfl;exact cy

def Wd(N:0<=F)(q:F<=3)(H:len<=60):
  Calls f 58 #[Ag #[I Y V,I Y F,U s len cap],Ag #[I Y 2,I Y j,I Y a,I Y b,I Y n,I Y g]] w λe w'=>e=Rt (I Y (bo V F len ⟨2,j,a,b,n,g⟩))/\bl w w':=by
 have P:(bi 2).toList.isEmpty=false:=dO;have k:nTo 2=true:=rfl;have Z:nA 2=false:=rfl;have t3:nB 2=false:=rfl;have Q:nN 2=true:=rfl;have t5:nG 2=false:=rfl;exact cy

def VQ(N:0<=F)(q:F<=3)(H:len<=60):
  Calls f 58 #[Ag #[I Y V,I Y F,U s len cap],Ag #[I Y 3,I Y j,I Y a,I Y b,I Y n,I Y g]] w λe w'=>e=Rt (I Y (bo V F len ⟨3,j,a,b,n,g⟩))/\bl w w':=by
 have P:(bi 3).toList.isEmpty=false:=dO;have k:nTo 3=true:=rfl;have Z:nA 3=false:=rfl;have t3:nB 3=false:=rfl;have Q:nN 3=false:=rfl;have t5:nG 3=false:=rfl;exact cy

def Ye(N:0<=F)(q:F<=3)(H:len<=60):
  Calls f 58 #[Ag #[I Y V,I Y F,U s len cap],Ag #[I Y 4,I Y j,I Y a,I Y b,I Y n,I Y g]] w λe w'=>e=Rt (I Y (bo V F len ⟨4,j,a,b,n,g⟩))/\bl w w':=by
 have P:(bi 4).toList.isEmpty=false:=dO;have k:nTo 4=true:=rfl;have Z:nA 4=true:=rfl;have t3:nB 4=false:=rfl;have Q:nN 4=false:=rfl;have t5:nG 4=false:=rfl;exact cy

def Tm(N:0<=F)(q:F<=3)(H:len<=60):
  Calls f 58 #[Ag #[I Y V,I Y F,U s len cap],Ag #[I Y 19,I Y j,I Y a,I Y b,I Y n,I Y g]] w λe w'=>e=Rt (I Y (bo V F len ⟨19,j,a,b,n,g⟩))/\bl w w':=by
 have P:(bi 19).toList.isEmpty=false:=dO;have k:nTo 19=false:=rfl;have Z:nA 19=false:=rfl;have t3:nB 19=false:=rfl;have Q:nN 19=false:=rfl;have t5:nG 19=false:=rfl;exact cy
def V0(N:0<=F)(q:F<=3)(H:len<=60):
  Calls f 58 #[Ag #[I Y V,I Y F,U s len cap],Ag #[I Y 5,I Y j,I Y a,I Y b,I Y n,I Y g]] w λe w'=>e=Rt (I Y (bo V F len ⟨5,j,a,b,n,g⟩))/\bl w w':=by
 have P:(bi 5).toList.isEmpty=false:=dO;have k:nTo 5=true:=rfl;have Z:nA 5=true:=rfl;have t3:nB 5=true:=rfl;have Q:nN 5=false:=rfl;have t5:nG 5=false:=rfl;exact cy

def VU(N:0<=F)(q:F<=3)(H:len<=60):
  Calls f 58 #[Ag #[I Y V,I Y F,U s len cap],Ag #[I Y 6,I Y j,I Y a,I Y b,I Y n,I Y g]] w λe w'=>e=Rt (I Y (bo V F len ⟨6,j,a,b,n,g⟩))/\bl w w':=by
 have P:(bi 6).toList.isEmpty=false:=dO;have k:nTo 6=true:=rfl;have Z:nA 6=true:=rfl;have t3:nB 6=true:=rfl;have Q:nN 6=false:=rfl;have t5:nG 6=false:=rfl;exact cy

def V8(N:0<=F)(q:F<=3)(H:len<=60):
  Calls f 58 #[Ag #[I Y V,I Y F,U s len cap],Ag #[I Y 7,I Y j,I Y a,I Y b,I Y n,I Y g]] w λe w'=>e=Rt (I Y (bo V F len ⟨7,j,a,b,n,g⟩))/\bl w w':=by
 have P:(bi 7).toList.isEmpty=false:=dO;have k:nTo 7=true:=rfl;have Z:nA 7=true:=rfl;have t3:nB 7=true:=rfl;have Q:nN 7=false:=rfl;have t5:nG 7=false:=rfl;exact cy

def Wv(N:0<=F)(q:F<=3)(H:len<=60):
  Calls f 58 #[Ag #[I Y V,I Y F,U s len cap],Ag #[I Y 8,I Y j,I Y a,I Y b,I Y n,I Y g]] w λe w'=>e=Rt (I Y (bo V F len ⟨8,j,a,b,n,g⟩))/\bl w w':=by
 have P:(bi 8).toList.isEmpty=false:=dO;have k:nTo 8=true:=rfl;have Z:nA 8=true:=rfl;have t3:nB 8=true:=rfl;have Q:nN 8=false:=rfl;have t5:nG 8=false:=rfl;exact cy
end
def Ua(len cap:Nat)(k j a b n g:Int)(w:kl)(K:1<=V)(o:V<=8)(N:0<=F)(q:F<=3)(H:len<=60)(Z:btw k 1 19=d):
  Calls f 58 #[Ag #[I Y V,I Y F,U s len cap],Ag #[I Y k,I Y j,I Y a,I Y b,I Y n,I Y g]] w λe w'=>e=Rt (I Y (bo V F len ⟨k,j,a,b,n,g⟩))/\bl w w':=by
 have P:(bi k).toList.isEmpty=true:=by rw[Gz Z,ByteArray.toList_eq];rfl
 exact cy
section
variable (len cap:Nat)(j a b n g:Int)(w:kl)(K:1<=V)(o:V<=8)
def Ya(N:0<=F)(q:F<=3)(H:len<=60):
  Calls f 58 #[Ag #[I Y V,I Y F,U s len cap],Ag #[I Y 9,I Y j,I Y a,I Y b,I Y n,I Y g]] w λe w'=>e=Rt (I Y (bo V F len ⟨9,j,a,b,n,g⟩))/\bl w w':=by
 have P:(bi 9).toList.isEmpty=false:=dO;have k:nTo 9=true:=rfl;have Z:nA 9=true:=rfl;have t3:nB 9=true:=rfl;have Q:nN 9=false:=rfl;have t5:nG 9=false:=rfl;exact cy

def TJ(N:0<=F)(q:F<=3)(H:len<=60):
  Calls f 58 #[Ag #[I Y V,I Y F,U s len cap],Ag #[I Y 10,I Y j,I Y a,I Y b,I Y n,I Y g]] w λe w'=>e=Rt (I Y (bo V F len ⟨10,j,a,b,n,g⟩))/\bl w w':=by
 have P:(bi 10).toList.isEmpty=false:=dO;have k:nTo 10=true:=rfl;have Z:nA 10=true:=rfl;have t3:nB 10=false:=rfl;have Q:nN 10=false:=rfl;have t5:nG 10=false:=rfl;exact cy

def ST(N:0<=F)(q:F<=3)(H:len<=60):
  Calls f 58 #[Ag #[I Y V,I Y F,U s len cap],Ag #[I Y 11,I Y j,I Y a,I Y b,I Y n,I Y g]] w λe w'=>e=Rt (I Y (bo V F len ⟨11,j,a,b,n,g⟩))/\bl w w':=by
 have P:(bi 11).toList.isEmpty=false:=dO;have k:nTo 11=true:=rfl;have Z:nA 11=false:=rfl;have t3:nB 11=false:=rfl;have Q:nN 11=false:=rfl;have t5:nG 11=false:=rfl;exact cy

def Tk(N:0<=F)(q:F<=3)(H:len<=60):
  Calls f 58 #[Ag #[I Y V,I Y F,U s len cap],Ag #[I Y 12,I Y j,I Y a,I Y b,I Y n,I Y g]] w λe w'=>e=Rt (I Y (bo V F len ⟨12,j,a,b,n,g⟩))/\bl w w':=by
 have P:(bi 12).toList.isEmpty=false:=dO;have k:nTo 12=true:=rfl;have Z:nA 12=true:=rfl;have t3:nB 12=false:=rfl;have Q:nN 12=true:=rfl;have t5:nG 12=false:=rfl;exact cy

def TT(N:0<=F)(q:F<=3)(H:len<=60):
  Calls f 58 #[Ag #[I Y V,I Y F,U s len cap],Ag #[I Y 13,I Y j,I Y a,I Y b,I Y n,I Y g]] w λe w'=>e=Rt (I Y (bo V F len ⟨13,j,a,b,n,g⟩))/\bl w w':=by
 have P:(bi 13).toList.isEmpty=false:=dO;have k:nTo 13=false:=rfl;have Z:nA 13=true:=rfl;have t3:nB 13=true:=rfl;have Q:nN 13=true:=rfl;have t5:nG 13=false:=rfl;exact cy
end
def a5A (n:Int):Prop:= -9223372036854775808<=n/\n<=9223372036854775807
def Mt (n:Int):ByteArray:=⟨(Lib.itoa n).toArray⟩
def a7c (S:Nat->Prop)(w:World)(ss:oA)(l:List Int):Prop:=
 l=[]\/∃b off,ss=G ⟨b,off,E⟩/\S b/\(b < R (M w)/\Thw w b)/\∀k (h:k < X l),w.cell? ⟨b,off+k,E⟩=G (I Y l[k])
section
variable {S S':Nat->Prop} {w w':World} {ss:oA} {l:List Int}
section
variable (h:a7c S w ss l)
def a7c.at:yv w ss l:=by
 rcases h with h|⟨b,N,e,-,H,Z⟩
 .exact cA
 .exact .inr ⟨b,N,e,H.1,Z⟩
def a7c.same(hs:∀b,S b->b < R (M w)->w'.heap[b]? =w.heap[b]?)(q:R (M w)<=R (M w')):a7c S w' ss l:=by
 rcases h with h|⟨b,N,e,j,H,o⟩
 .exact cA
 .exact .inr ⟨b,N,e,j,⟨lL H.1 q,H.2.same (hs b j H.1)⟩,λk Z=>by rw[z7 (a:=⟨b,N+k,E⟩) (hs b j H.1)];exact o k Z⟩
def a7c.mono(hs:∀b,S b->b < R (M w)->S' b):a7c S' w ss l:=by
 rcases h with h|⟨b,N,e,j,H,Z⟩
 .exact cA
 .exact .inr ⟨b,N,e,hs b j H.1,H,Z⟩
def a7c.call(H:bl w w'):a7c S w' ss l:=h.same (λb _ o=>H.block b o) H.size
end
end

section
variable {n:Nat}{xs:List mh}(h:w.ownsRow B e z v n xs)
def aU{k:Nat}(Z:v.ownBlock=G k):k < R (M w)/\B<=k:=by
 rcases h.2 with⟨rfl,_⟩|⟨g,o,q,rfl,H,P,_⟩
 .cases Z
 .cases Z
  exact⟨(z0.1 P).1,H⟩
def dZ(H:∀k,v.ownBlock=G k->w'.heap[k]? =w.heap[k]?):w'.ownsRow B e z v n xs:=by
 obtain⟨K,j⟩:=h;rcases j with j|⟨g,o,q,rfl,Q,P,Z⟩
 .exact⟨K,.inl j⟩
 .exact⟨K,.inr ⟨g,o,q,rfl,Q,by rw[H g rfl];exact P,Z⟩⟩
def Gu(H:bl w w'):w'.ownsRow B e z v n xs:=dZ h λk Z=>H.block k (aU h Z).1
end
def a8w (S:Nat->Prop)(w:World)(ss:oA)(l:List Int):Prop:=
 l=[]\/∃b off,ss=G ⟨b,off,E⟩/\S b/\b < R (M w)/\∀k (h:k < X l),w.cell? ⟨b,off+k,E⟩=G (I Y l[k])
section
variable {S S':Nat->Prop} {w w':World} {ss:oA} {l:List Int}
def a8w.at (h:a8w S w ss l):yv w ss l:=by
 rcases h with h|⟨b,N,e,-,H,Z⟩
 .exact cA
 .exact .inr ⟨b,N,e,H,Z⟩
def yv.inAll (h:yv w ss l):a8w (λb=>b < R (M w)) w ss l:=by
 rcases h with h|⟨b,N,e,H,Z⟩
 .exact cA
 .exact .inr ⟨b,N,e,H,H,Z⟩
section
variable (h:a8w S w ss l)
def a8w.same(hs:∀b,S b->b < R (M w)->w'.heap[b]? =w.heap[b]?)(q:R (M w)<=R (M w')):a8w S w' ss l:=by
 rcases h with h|⟨b,N,e,j,H,o⟩
 .exact cA
 .exact .inr ⟨b,N,e,j,lL H q,λk Z=>by rw[z7 (a:=⟨b,N+k,E⟩) (hs b j H)];exact o k Z⟩
def a8w.mono(hs:∀b,S b->b < R (M w)->S' b):a8w S' w ss l:=by
 rcases h with h|⟨b,N,e,j,H,Z⟩
 .exact cA
 .exact .inr ⟨b,N,e,hs b j H,H,Z⟩
def a8w.call(H:bl w w'):a8w S w' ss l:=h.same (λb _ o=>H.block b o) H.size
end
end
structure Gc where
 g:Gs
 ss:oA
 cap:Nat
def bJ (x:Gc):List Value:=[O x.g.n,O x.g.sp.n,I Y x.g.sp.lo,I Y x.g.sp.hi,O x.g.t,O x.g.f,U x.ss (X x.g.s) x.cap]
def aZ (l:List Gc):List Value:=l.flatMap bJ
def cK (S:Nat->Prop)(w:World)(x:Gc):Prop:=a7c S w x.ss x.g.s/\X x.g.s<=x.cap/\x.cap<=maxLen
def GcW (S:Nat->Prop)(w:World)(x:Gc):Prop:=a8w S w x.ss x.g.s/\X x.g.s<=x.cap/\x.cap<=maxLen
def gk (x:Gc):X (bJ x)=7:=rfl
def rh (l:List Gc):X (aZ l)=X l * 7:=by
 induction l with
 |nil=>rfl
 |cons x r ih=>
  have:aZ (x::r)=bJ x++aZ r:=rfl;rw[this,x6,ih,gk,X0];omega
def mo (a b:List Gc):aZ (a++b)=aZ a++aZ b:=by simp[aZ]
def eE (x:Gc):∀u∈bJ x,u.oneCell'=true:=by
 intro u q;simp only[bJ,z8,List.not_mem_nil,or_false] at q;rcases q with rfl|rfl|rfl|rfl|rfl|rfl|rfl<;>rfl
def gE:∀(l:List Gc) (i:Nat) (h:i < X l) (j:Nat) (_:j < 7),(aZ l)[i * 7+j]? =(bJ l[i])[j]?
 |[],i,h,_,_=>absurd h ae
 |x::r,0,_,j,hj=>by
  have e:aZ (x::r)=bJ x++aZ r:=rfl;rw[e,Z0,j3,X1 (by rw[gk];exact hj)];rfl
 |x::r,i+1,h,j,hj=>by
  have e:aZ (x::r)=bJ x++aZ r:=rfl;rw[e,List.getElem?_append_right (by rw[gk];omega),gk];have:(i+1) * 7+j - 7=i * 7+j:=aa;rw[this,gE r i cn j hj];rfl

def a9z (w:World)(B:Nat)(v:Value)(l:List Gc):Prop:=w.ownsRow B 91 7 v (X l) (aZ l)/\∀x∈l,GcW (λb=>v.ownBlock≠G b) w x
section
variable {w w':World} {B:Nat} {v v':Value} {l:List Gc}
def a9z.at (h:a9z w B v l):∃rs Z,v=U rs (X l) Z/\X l<=Z/\Z<=maxLen/\a7r w rs (l.map Gc.g)/\∀a,rs=G a->B<=a.block:=by
 obtain⟨Q,h2⟩:=h;rcases Q.2 with⟨rfl,K⟩|⟨g,o,q,rfl,H,P,k1,k2,k3,k4⟩
 .have:l=[]:=Q0.1 K
  subst this;exact⟨E,0,rfl,lR _,cL,λi hi=>absurd hi ae,λa ha=>kU⟩
 .refine⟨G ⟨g,0,E⟩,o,rfl,k1,k2,λi hi=> ?_,λa ha=>by cases ha;exact H⟩
  have k:i < X l:=gA;have e:(l.map Gc.g)[i]=l[i].g:=ae;rw[e];have N:=h2 l[i] (gM k);refine⟨g,0,rfl,l[i].ss,l[i].cap,⟨?_,(z0.1 P).1⟩,N.1.at,N.2.1,N.2.2⟩;have hc:∀j,j < 7->w.cell? ⟨g,i * 7+j,E⟩=(bJ l[i])[j]? :=λj hj=>by
   have:=Q.cellAt (i * 7+j) aa;rw[<-gE l i k j hj];exact this
  simp only[j3];exact tD
end

def a8m (w:World)(fs:oA)(L:List (List Gs)):Prop:=
 ∀i (h:i < X L),∃b off,fs=G ⟨b,off,E⟩/\b < R (M w)/\∃rs rc,w.cell? ⟨b,off+i,E⟩=G (U rs (X L[i]) rc)/\X L[i]<=rc/\rc<=maxLen/\a7r w rs L[i]
def a8m.below{w w':kl}{fs:oA}{L:List (List Gs)}(h:a8m w fs L)(H:n4 B w w')(j:R (M w)<=B):a8m w' fs L:=by
 intro i hi;obtain⟨b,N,e,q,p,Z,Q,P,K,k⟩:=h i hi;exact⟨b,N,e,lL q H.size,p,Z,by rw[H.cell (by simp;omega)];exact Q,P,K,k.below H j⟩
def a4r (w:World)(x:Pic)(vs fs:oA):Prop:=a7r w vs x.vq/\a8m w fs x.fq
def a4r.below{w w':kl}{x:Pic}{vs fs:oA}(h:a4r w x vs fs)(H:n4 B w w')(j:R (M w)<=B):a4r w' x vs fs:=⟨h.1.below H j,h.2.below H j⟩
def a4r.call{x:Pic}{vs fs:oA}(h:a4r w x vs fs)(H:bl w w'):a4r w' x vs fs:=h.below H (lR _)
abbrev xv (x:Pic)(vs:oA)(vc:Nat)(fs:oA)(fc:Nat):Value:=Ag #[O x.none,U vs x.vq.length vc,U fs x.fq.length fc]
def Aa (x:Pic):Prop:=X x.vq<=maxLen/\X x.fq<=maxLen
def XAt (w:World)(b:Nat)(x:Pic)(vs:oA)(vc:Nat)(fs:oA)(fc:Nat):Prop:=
 (w.cell? ⟨b,0,E⟩=G (O x.none)/\w.cell? ⟨b,1,E⟩=G (U vs (X x.vq) vc)/\w.cell? ⟨b,2,E⟩=G (U fs (X x.fq) fc))/\b < R (M w)/\∀j,w.frozen? ⟨b,j,E⟩=false
section
variable {w w':World} {b:Nat} {x:Pic} {vs fs:oA} {vc fc:Nat}
def Il(h:p:=by
 have hc:=wU;have hf:=Dz;obtain⟨⟨h0,h1,h2⟩,h6,h7⟩:=h;exact⟨⟨(hc _).trans h0,(hc _).trans h1,(hc _).trans h2⟩,lL h6 hz,λj=>(hf j).trans (h7 j)⟩):=h
section
variable (h:XAt w b x vs vc fs fc)
def XAt.same(hb:w'.heap[b]? =w.heap[b]?)(hz:R (M w)<=R (M w')):XAt w' b x vs vc fs fc:=Il
def XAt.call(H:bl w w'):XAt w' b x vs vc fs fc:=h.same (H.block b h.2.1) H.size
end
def XAt.new (w:kl)(x:Pic)(vs:oA)(vc:Nat)(fs:oA)(fc:Nat):XAt (w.alloc (Cc #[O x.none,U vs (X x.vq) vc,U fs (X x.fq) fc] 28)) (R (M w)) x vs vc fs fc:=by
 refine⟨⟨?_,?_,?_⟩,ae,λj=> ?_⟩<;>simp[go_sem]
end
section
variable {w w':World} {B:Nat} {v v':Value} {l l2:List Gc}
def a7r.gcs {ls:oA}{L:List Gs}(h:a7r w ls L):∃l:List Gc,l.map Gc.g=L/\(∀o,ls=G o->∀j u,(aZ l)[j]? =G u->w.cell? (o.add j)=G u)/\(ls=none->l=[])/\∀y∈l,GcW (λb=>b < R (M w)) w y:=by
 have Q:∀i,i < X L->∃x:Gc,∃b ab,ls=G ⟨b,ab,E⟩/\(x.g=L.getD i a4q)/\(∀j,j < 7->w.cell? ⟨b,ab+i * 7+j,E⟩=(bJ x)[j]?)/\GcW (λb=>b < R (M w)) w x:=by
  intro i hi;obtain⟨b,ab,e,ss,ak,⟨⟨c0,c1,c2,c3,c4,c5,c6⟩,q⟩,hI,k1,k⟩:=h i hi;have eg:L.getD i a4q=L[i]:=by simp[j5,hi]
  refine⟨⟨L[i],ss,ak⟩,b,ab,e,eg.symm,λj hj=> ?_,hI.inAll,k1,k⟩
  match j,hj with
  |0,_=>exact c0
  |1,_=>exact c1
  |2,_=>exact c2
  |3,_=>exact c3
  |4,_=>exact c4
  |5,_=>exact c5
  |6,_=>exact c6
  |j+7,hj=>omega
 have P:∃f:Nat->Gc,∀i,i < X L->∃b ab,ls=G ⟨b,ab,E⟩/\((f i).g=L.getD i a4q)/\(∀j,j < 7->w.cell? ⟨b,ab+i * 7+j,E⟩=(bJ (f i))[j]?)/\GcW (λb=>b < R (M w)) w (f i):=by
  refine⟨λi=>if hi:i < X L then Classical.choose (Q i hi) else⟨a4q,E,0⟩,λi hi=> ?_⟩;simp only[dif_pos hi];exact Classical.choose_spec (Q i hi)
 obtain⟨f,hf⟩:=P;refine⟨(List.range (X L)).map f,?_,?_,?_,?_⟩
 .refine List.ext_getElem ae λi al af=> ?_
  obtain⟨_,_,_,e,_⟩:=hf i af;simp only[x8,Z1];rw[e];simp[j5,af]
 .intro o ah j u H
  have hj:j < X L * 7:=by
   have:=(x9.1 H).1;rw[rh] at this;simpa using this
  have e1:j=j / 7 * 7+j % 7:=aa;have hi:j / 7 < X L:=aa;rw[e1] at H;rw[gE _ (j / 7) gA (j % 7) aa] at H;obtain⟨b,ab,e,_,Z,_⟩:=hf (j / 7) hi;rw[ah] at e;cases e;have:=Z (j % 7) aa;rw[Addr.add_lit];have e2:ab+j=ab+j / 7 * 7+j % 7:=aa;rw[e2,this];simpa using H
 .intro K
  cases L with
  |nil=>rfl
  |cons a r=>
   obtain⟨_,_,e,_⟩:=hf 0 ae;rw[K] at e;cases e
 .intro y hy
  rw[z9] at hy;obtain⟨i,hi,rfl⟩:=hy;obtain⟨_,_,_,_,_,N⟩:=hf i gA;exact N

def a9r (w:World)(B:Nat)(v:Value)(l:List Gc):Prop:=w.ownsRow B 91 7 v (X l) (aZ l)/\∀x∈l,GcW (λb=>b < B) w x
def a9r.grown (h:a9r w B v l)(N:∀x∈l2,GcW (λb=>b < B) w x)(Z:w'.ownsRow B 91 7 v' (X l+X l2) (aZ l++aZ l2))(P:w.grownBy w' v.ownBlock):a9r w' B v' (l++l2):=by
 refine⟨by rw[x6,mo];exact Z,λy o=> ?_⟩;have k:GcW (λb=>b < B) w y:=by
  rcases j4.1 o with o|o
  .exact h.2 y o
  .exact N y o
 exact⟨k.1.same (λb j H=>P.block b H (λe=>by have:=(aU h.1 e.symm).2;omega)) P.size,k.2⟩
def a9r.at (h:a9r w B v l):∃rs Z,v=U rs (X l) Z/\X l<=Z/\Z<=maxLen/\a7r w rs (l.map Gc.g)/\∀a,rs=G a->B<=a.block:=by
 refine a9z.at (B:=B) ⟨h.1,λx N=>⟨(h.2 x N).1.mono λb H _ e=> ?_,(h.2 x N).2⟩⟩;have:=(aU h.1 e).2;omega
end
def NU (l:List Gc):∀u∈aZ l,u.oneCell'=true:=by
 intro u q;unfold aZ at q;rw[X2] at q;obtain⟨x,-,N⟩:=q;exact eE x u N
def a7r.gcsTo{L:List Gs}(h:a7r w ls L)(H:bl w w'):∃l:List Gc,l.map Gc.g=L/\(∀o,ls=G o->∀j u,(aZ l)[j]? =G u->w'.cell? (o.add j)=G u)/\(ls=none->X L=0)/\(∀y∈l,GcW (λb=>b < R (M w)) w' y)/\X (aZ l)=X L * 7:=by
 obtain⟨l,e,Q,P,k⟩:=h.gcs;refine⟨l,e,λo q j u p=> ?_,λK=>by rw[<-e,P K];rfl,λy Z=>⟨(k y Z).1.call H,(k y Z).2⟩,by rw[rh,<-e,X4]⟩;have:=Q o q j u p;rw[H.cell (World.block_lt_of_cell? w _ this)];exact this
def Sq(p:Gs->Bool)(L:List (List Gs))(k:Nat)(h:k < X L):fG c p k (L.drop k)=((!cJ c k&&L[k].any p)||fG c p (k+1) (L.drop (k+1))):=by
 rw[J3 h];rfl
def sY(l:List α)(p:α->Bool)(k:Nat)(h:k < X l):(l.drop k).any p=(p l[k]||(l.drop (k+1)).any p):=by
 rw[J3 h];rfl
def Tryz.info_guess:(Tryz.prog.info? 91).map (λi=>(i.zero,i.size,i.bytes))=G (G (Ag #[O d,O d,I Y 0,I Y 0,O d,O d,U E 0 0]),7,64):=ac
def yh{n:Nat}:∀{L:List (List α)},(∀r∈L,X r=n)->X L.flatten=X L * n
 |[],_=>ae
 |r::L,h=>by
  rw[List.flatten_cons,x6,h r List.mem_cons_self,yh λr' e=>h r' (List.mem_cons_of_mem _ e),X0,Nat.add_mul];omega
def Ap(h:k < X L):(L.take (k+1)).flatten=(L.take k).flatten++L[k]:=by
 rw[List.take_succ_eq_append_getElem h,List.flatten_append];simp
def a8b (S:Nat->Prop)(w:World)(ls:oA)(L:List Gs):Prop:=
 ∀i (h:i < X L),∃b off,ls=G ⟨b,off,E⟩/\(S b/\Thw w b)/\∃ss cap,a7b w b (off+i * 7) L[i] ss cap/\a7c S w ss L[i].s/\X L[i].s<=cap/\cap<=maxLen
section
variable {S S':Nat->Prop} {w w':World} {ls:oA} {L:List Gs} {B z:Nat} {v v':Value} {l:List Gc}
def a8b.at (h:a8b S w ls L):a7r w ls L:=by
 intro i hi;obtain⟨b,N,e,_,ss,o,Q,P,K⟩:=h i hi;exact⟨b,N,e,ss,o,Q,P.at,K⟩
def a7b.same {b o:Nat}{g:Gs}{ss:oA}{cap:Nat}(h:a7b w b o g ss cap)(hb:w'.heap[b]? =w.heap[b]?)(q:R (M w)<=R (M w')):a7b w' b o g ss cap:=by
 obtain⟨⟨K,Q,P,h3,H,k,N⟩,e⟩:=h;have Z:=wU;exact⟨⟨(Z _).trans K,(Z _).trans Q,(Z _).trans P,(Z _).trans h3,(Z _).trans H,(Z _).trans k,(Z _).trans N⟩,lL e q⟩
def a7r.kept (h:a7r w ls L)(hs:∀b,b < R (M w)->w'.heap[b]? =w.heap[b]?)(q:R (M w)<=R (M w')):a7r w' ls L:=by
 intro i hi;obtain⟨b,N,e,ss,o,Q,P,K⟩:=h i hi;exact⟨b,N,e,ss,o,Q.same (hs b Q.2) q,(P.inAll.same (λb _ H=>hs b H) q).at,K⟩
section
variable (h:a8b S w ls L)
def a8b.same(hs:∀b,S b->b < R (M w)->w'.heap[b]? =w.heap[b]?)(q:R (M w)<=R (M w')):a8b S w' ls L:=by
 intro i hi;obtain⟨b,N,e,j,ss,o,Q,P,K⟩:=h i hi;exact⟨b,N,e,⟨j.1,j.2.same (hs b j.1 Q.2)⟩,ss,o,Q.same (hs b j.1 Q.2) q,P.same hs q,K⟩
def a8b.mono(hs:∀b,S b->b < R (M w)->S' b):a8b S' w ls L:=by
 intro i hi;obtain⟨b,N,e,j,ss,o,Q,P,K⟩:=h i hi;exact⟨b,N,e,⟨hs b j.1 Q.2,j.2⟩,ss,o,Q,P.mono hs,K⟩
def a8b.call(H:bl w w'):a8b S w' ls L:=h.same (λb _ o=>H.block b o) H.size
end
def a8i (w:World)(B:Nat)(v:Value)(l:List Gc):Prop:=w.ownsRow B 91 7 v (X l) (aZ l)/\∀x∈l,cK (λb=>B<=b/\v.ownBlock≠G b) w x
def a8i.nil (w:kl)(B:Nat):a8i w B (U E 0 0) []:=⟨⟨rfl,.inl ⟨rfl,rfl⟩⟩,λx N=>by simp at N⟩
section
variable (h:a8i w B v l)
def a8i.call(H:bl w w'):a8i w' B v l:=⟨Gu h.1 H,λx N=>⟨(h.2 x N).1.call H,(h.2 x N).2⟩⟩
def a8i.old(hs:∀b,B<=b->w'.heap[b]? =w.heap[b]?)(q:R (M w)<=R (M w')):a8i w' B v l:=⟨dZ h.1 λk Z=>hs k (aU h.1 Z).2,λx N=>⟨(h.2 x N).1.same (λb j _=>hs b j.1) q,(h.2 x N).2⟩⟩
def FJ(h:p:=by
 refine⟨(hm.same (λb hS hb=>hg.block b hb (λe=>hS.1.2 e.symm)) hg.size).mono λb hb _=>⟨hb.1.1,?_⟩,hy'.2⟩;rcases hv with hv|hv
 .rw[hv];exact hb.1.2
 .rw[hv]
  intro e;cases e;exact absurd hb.2 (Nat.lt_irrefl _)):=h
def a8i.grown{x:Gc}(N:cK (λb=>B<=b/\v.ownBlock≠G b) w x)(Z:w'.ownsRow B 91 7 v' (X l+1) (aZ l++bJ x))(hg:w.grownBy w' v.ownBlock)(hv:v'.ownBlock=v.ownBlock\/v'.ownBlock=G (R (M w))):a8i w' B v' (l++[x]):=by
 refine⟨by rw[x6,mo];simpa[aZ] using Z,λy j=> ?_⟩;have hy':cK (λb=>B<=b/\v.ownBlock≠G b) w y:=by
  rcases j4.1 j with j|j
  .exact h.2 y j
  .rw[j6.1 j];exact N
 have hm:a7c (λb=>(B<=b/\v.ownBlock≠G b)/\b < R (M w)) w y.ss y.g.s:=hy'.1.mono λb Q P=>⟨Q,P⟩;exact FJ
def a8i.in:∃rs Z,v=U rs (X l) Z/\X l<=Z/\Z<=maxLen/\a8b (λb=>B<=b) w rs (l.map Gc.g):=by
 obtain⟨Q,h2⟩:=h;rcases Q.2 with⟨rfl,K⟩|⟨g,o,q,rfl,H,P,k1,k2,k3,k4⟩
 .have:l=[]:=Q0.1 K
  subst this;exact⟨E,0,rfl,lR _,cL,λi hi=>absurd hi ae⟩
 .refine⟨G ⟨g,0,E⟩,o,rfl,k1,k2,λi hi=> ?_⟩
  have k:i < X l:=gA;have e:(l.map Gc.g)[i]=l[i].g:=ae;rw[e];have N:=h2 l[i] (gM k);refine⟨g,0,rfl,⟨H,Thw.own Q rfl⟩,l[i].ss,l[i].cap,⟨?_,(z0.1 P).1⟩,N.1.mono λb h _=>h.1,N.2.1,N.2.2⟩;have hc:∀j,j < 7->w.cell? ⟨g,i * 7+j,E⟩=(bJ l[i])[j]? :=λj hj=>by
   have:=Q.cellAt (i * 7+j) aa;rw[<-gE l i k j hj];exact this
  simp only[j3];exact tD
end
end

def a8p (S:Nat->Prop)(w:World)(fs:oA)(L:List (List Gs)):Prop:=
 ∀i (h:i < X L),∃b off,fs=G ⟨b,off,E⟩/\S b/\b < R (M w)/\∃rs rc,w.cell? ⟨b,off+i,E⟩=G (U rs (X L[i]) rc)/\X L[i]<=rc/\rc<=maxLen/\a8b S w rs L[i]
def a8p.at{L:List (List Gs)}(h:a8p S w fs L):a8m w fs L:=by
 intro i hi;obtain⟨b,N,e,_,H,p,Z,Q,P,K,j⟩:=h i hi;exact⟨b,N,e,H,p,Z,Q,P,K,j.at⟩
def a8p.mono{S':Nat->Prop}{w:kl}{fs:oA}{L:List (List Gs)}(h:a8p S w fs L)(hs:∀b,S b->b < R (M w)->S' b):a8p S' w fs L:=by
 intro i hi;obtain⟨b,N,e,j,H,p,Z,Q,P,K,k⟩:=h i hi;exact⟨b,N,e,hs b j H,H,p,Z,Q,P,K,k.mono hs⟩
structure Rw where
 rs:oA
 rc:Nat
 l:List Gs
def rwV (x:Rw):Value:=U x.rs (X x.l) x.rc
def Ai (S:Nat->Prop)(w:World)(x:Rw):Prop:=a8b S w x.rs x.l/\X x.l<=x.rc/\x.rc<=maxLen
def a8t (w:World)(B:Nat)(v:Value)(L:List Rw):Prop:=w.ownsRow B 25 1 v (X L) (L.map rwV)/\∀x∈L,Ai (λb=>B<=b/\v.ownBlock≠G b) w x
section
variable {w w':World} {B:Nat} {v v':Value} {L:List Rw}
def a8t.nil (w:kl)(B:Nat):a8t w B (U E 0 0) []:=⟨⟨rfl,.inl ⟨rfl,rfl⟩⟩,λx N=>by simp at N⟩
section
variable (h:a8t w B v L)
def a8t.call(H:bl w w'):a8t w' B v L:=⟨Gu h.1 H,λx N=>⟨(h.2 x N).1.call H,(h.2 x N).2⟩⟩
def a8t.old(hs:∀b,B<=b->w'.heap[b]? =w.heap[b]?)(q:R (M w)<=R (M w')):a8t w' B v L:=⟨dZ h.1 λk Z=>hs k (aU h.1 Z).2,λx N=>⟨(h.2 x N).1.same (λb j _=>hs b j.1) q,(h.2 x N).2⟩⟩
def a8t.grown{x:Rw}(N:Ai (λb=>B<=b/\v.ownBlock≠G b) w x)(Z:w'.ownsRow B 25 1 v' (X L+1) (L.map rwV++[rwV x]))(hg:w.grownBy w' v.ownBlock)(hv:v'.ownBlock=v.ownBlock\/v'.ownBlock=G (R (M w))):a8t w' B v' (L++[x]):=by
 refine⟨by rw[x6,X5];exact Z,λy j=> ?_⟩;have hy':Ai (λb=>B<=b/\v.ownBlock≠G b) w y:=by
  rcases j4.1 j with j|j
  .exact h.2 y j
  .rw[j6.1 j];exact N
 have hm:a8b (λb=>(B<=b/\v.ownBlock≠G b)/\b < R (M w)) w y.rs y.l:=hy'.1.mono λb Q P=>⟨Q,P⟩;exact FJ
def a8t.rows:∃fs fc,v=U fs (X L) fc/\X L<=fc/\fc<=maxLen/\a8p (λb=>B<=b) w fs (L.map Rw.l):=by
 obtain⟨Q,h2⟩:=h;rcases Q.2 with⟨rfl,K⟩|⟨g,o,q,rfl,H,P,j,k2,k3,Z⟩
 .have:L=[]:=Q0.1 K
  subst this;exact⟨E,0,rfl,lR _,cL,λi hi=>absurd hi ae⟩
 .refine⟨G ⟨g,0,E⟩,o,rfl,j,k2,λi hi=> ?_⟩
  have k:i < X L:=gA;have e:(L.map Rw.l)[i]=L[i].l:=ae;rw[e];have N:=h2 L[i] (gM k);have:=Q.cellAt i aa;refine⟨g,0,rfl,H,(z0.1 P).1,L[i].rs,L[i].rc,?_,N.2.1,N.2.2,N.1.mono λb h _=>h.1⟩;rw[j3,this];simp[k,rwV]
end
end
def X3 (w:World)(b:Nat)(x0 x1 x2:Value):Prop:=(w.cell? ⟨b,0,E⟩=G x0/\w.cell? ⟨b,1,E⟩=G x1/\w.cell? ⟨b,2,E⟩=G x2)/\b < R (M w)/\∀j,w.frozen? ⟨b,j,E⟩=false
section
variable {w w':World} {b:Nat} {x0 x1 x2:Value}
section
variable (h:X3 w b x0 x1 x2)
def X3.same(hb:w'.heap[b]? =w.heap[b]?)(hz:R (M w)<=R (M w')):X3 w' b x0 x1 x2:=Il
def X3.call(H:bl w w'):X3 w' b x0 x1 x2:=h.same (H.block b h.2.1) H.size
def X3.far{a:Addr}(e:b≠a.block)(y:mh):X3 (w.setCell a y) b x0 x1 x2:=h.same (hSe _ _ _ _ e) bI
end
def X3.new (w:kl)(t:TypeId)(x0 x1 x2:mh):X3 (w.alloc (Cc #[x0,x1,x2] t)) (R (M w)) x0 x1 x2:=by
 refine⟨⟨?_,?_,?_⟩,ae,λj=> ?_⟩<;>simp[go_sem]
section
variable (h:X3 w b x0 x1 x2)(y:mh)
def X3.put1:X3 (w.setCell ⟨b,1,E⟩ y) b x0 y x2:=by
 obtain⟨⟨h0,Q,h2⟩,h6,h7⟩:=h;exact⟨⟨Un,J4 _ _ _ Q,Uu⟩,pi,λj=>pk⟩
def X3.put2:X3 (w.setCell ⟨b,2,E⟩ y) b x0 x1 y:=by
 obtain⟨⟨h0,h1,P⟩,h6,h7⟩:=h;exact⟨⟨Un,Kf,J4 _ _ _ P⟩,pi,λj=>pk⟩
end
end
section
variable {V F:Int}{s:oA}{c:lI}{cap:Nat}(h:a7w w b V F s c cap)
def a7w.low(hb:n4 B w w')(hB:b < B):a7w w' b V F s c cap:=by
 obtain⟨⟨h0,h1,h2⟩,hz⟩:=h;exact Nv
def a7w.far{a:Addr}(e:b≠a.block)(y:mh):a7w (w.setCell a y) b V F s c cap:=by
 have Z:∀j,(w.setCell a y).cell? ⟨b,j,E⟩=w.cell? ⟨b,j,E⟩:=λj=>z7 (a:=⟨b,j,E⟩) (hSe _ _ _ _ e);obtain⟨⟨K,Q,P⟩,q⟩:=h;exact⟨⟨(Z _).trans K,(Z _).trans Q,(Z _).trans P⟩,by simpa[J5] using q⟩
end
def rG (w:kl)(x:Gc)(cs:Array mh)(t:TypeId)(k:cs.toList=bJ x):∀o,G (⟨R (M w),0,E⟩:Addr)=G o->∀j u,(bJ x)[j]? =G u->(w.alloc (Cc cs t)).cell? (o.add j)=G u:=by
 intro o e j u K;cases e;rw[Addr.add_lit,j3];rw[<-k] at K;simpa[go_sem] using K
def Hp (w:kl)(x:mh)(t:TypeId):∀o,G (⟨R (M w),0,E⟩:Addr)=G o->∀j u,([x]:List mh)[j]? =G u->(w.alloc (Cc #[x] t)).cell? (o.add j)=G u:=by
 intro o e j u K;cases e;rw[Addr.add_lit,j3];simpa[go_sem] using K
def Tryz.info_row:(Tryz.prog.info? 25).map (λi=>(i.zero,i.size,i.bytes))=G (G (U E 0 0),1,24):=ac
def BU{a:Addr}{B:Nat}(h:a.block < B)(x:mh):(∀b,B<=b->(w.setCell a x).heap[b]? =w.heap[b]?)/\R (M w)<=R (M (w.setCell a x)):=⟨λb H=>hSe _ _ _ _ aa,bI⟩
def a7b.low{o:Nat}{g:Gs}{ss:oA}{cap:Nat}(h:a7b w b o g ss cap)(H:n4 B w w')(j:b < B):a7b w' b o g ss cap:=h.same (H.block b j) H.size
def sD{N:Nat}{L:List Gs}(h:a7r w (G ⟨b,N,E⟩) L)(k:Nat)(Z:k < X L):b < R (M w):=by
 obtain⟨p,j,e,ss,o,Q,_⟩:=h k Z;cases e;exact Q.2
def a6J (w':World)(e:Ending)(x:Pic)(er:Int):Prop:=∃vs vc fs fc,e=Rt (Tu #[Ag #[O x.none,U vs (X x.vq) vc,U fs (X x.fq) fc],I Y er])/\a4r w' x vs fs/\(X x.vq<=vc/\vc<=maxLen)/\(X x.fq<=fc/\fc<=maxLen)
def a8t.olden{L:List Rw}(h:a8t w B v L)(hs:∀b,B<=b->b < R (M w)->w'.heap[b]? =w.heap[b]?)(q:R (M w)<=R (M w')):a8t w' B v L:=⟨dZ h.1 λk Z=>hs k (aU h.1 Z).2 (aU h.1 Z).1,λx N=>⟨(h.2 x N).1.same (λb j o=>hs b j.1 o) q,(h.2 x N).2⟩⟩
def a9s (w:World)(x:Pic)(vs fs:oA):Prop:=a8b (λ_=>True) w vs x.vq/\a8p (λ_=>True) w fs x.fq
def a9s.at{x:Pic}{vs fs:oA}(h:a9s w x vs fs):a4r w x vs fs:=⟨h.1.at,h.2.at⟩
def a7d (S:Nat->Prop)(w:World)(x:Pic)(vs fs:oA):Prop:=∀w2:World,(∀b,S b->b < R (M w)->w2.heap[b]? =w.heap[b]?)->R (M w)<=R (M w2)->a9s w2 x vs fs
section
variable {S S':Nat->Prop} {w w':World} {x:Pic} {vs fs:oA}
section
variable (h:a7d S w x vs fs)
def a7d.at:a4r w x vs fs:=(h w (λ_ _ _=>rfl) (lR _)).at
def a7d.same(hs:∀b,S b->b < R (M w)->w'.heap[b]? =w.heap[b]?)(q:R (M w)<=R (M w')):a7d (λb=>S b/\b < R (M w)) w' x vs fs:=λN P e=>h N (λb H o=>by rw[P b ⟨H,o⟩ (by omega),hs b H o]) (lT q e)
def a7d.mono(hs:∀b,S b->b < R (M w)->S' b):a7d S' w x vs fs:=λN P e=>h N (λb H o=>P b (hs b H o) o) e
def a7d.call(H:bl w w'):a7d S w' x vs fs:=(h.same (λb _ o=>H.block b o) H.size).mono λb H _=>H.1
end
def a4r.same (h:a4r w x vs fs)(hs:∀b,b < R (M w)->w'.heap[b]? =w.heap[b]?)(q:R (M w)<=R (M w')):a4r w' x vs fs:=by
 refine⟨h.1.kept hs q,λi hi=> ?_⟩;obtain⟨b,N,e,H,p,Z,Q,P,K,j⟩:=h.2 i hi;exact⟨b,N,e,lL H q,p,Z,by rw[z7 (a:=⟨b,N+i,E⟩) (hs b H)];exact Q,P,K,j.kept hs q⟩
end
def a3i (B:Nat)(w':World)(e:Ending)(x:Pic):Prop:=∃vs vc fs fc,e=Rt (Ag #[O x.none,U vs (X x.vq) vc,U fs (X x.fq) fc])/\a7d (λb=>B<=b) w' x vs fs/\(X x.vq<=vc/\vc<=maxLen)/\(X x.fq<=fc/\fc<=maxLen)
structure Ro where
  rs:oA
  rc:Nat
  l:List Gc
def roV (r:Ro):Value:=U r.rs (X r.l) r.rc
def roG (r:Ro):List Gs:=r.l.map Gc.g
def roB (r:Ro):Option Nat:=(roV r).ownBlock
def a8d (w:World)(B:Nat)(r:Ro):Prop:=w.ownsRow B 91 7 (roV r) (X r.l) (aZ r.l)
def AG:∀{l:List Gc} {k j:Nat} {u:mh} {x':Gc} (hk:k < X l) (_:j < 7) (_:bJ x'=(bJ l[k]).set j u),aZ (l.set k x')=(aZ l).set (k * 7+j) u
  |[],k,_,_,_,hk,_,_=>absurd hk ae
  |x::r,0,j,u,x',_,hj,h=>by
    have e:∀y,aZ (y::r)=bJ y++aZ r:=λ_=>rfl;simp only[List.getElem_cons_zero] at h;rw[List.set_cons_zero,e,e,Z0,j3,List.set_append_left _ _ (by rw[gk];exact hj),h]
  |x::r,k+1,j,u,x',hk,hj,h=>by
    have e:∀(y:Gc) (q:List Gc),aZ (y::q)=bJ y++aZ q:=λ_ _=>rfl;simp only[List.getElem_cons_succ] at h;rw[X6,e,e,AG gw hj h,List.set_append_right _ _ (by rw[gk];omega),gk];congr 2;omega
section
variable {w w':World} {B:Nat} {r:Ro}
section
variable (h:a8d w B r)
def a8d.form(K:0 < X r.l):∃b,r.rs=G ⟨b,0,E⟩/\roB r=G b/\B<=b/\b < R (M w):=by
  obtain⟨p,Z,l⟩:=r;rcases h.2 with⟨e,Q⟩|⟨g,o,q,e,H,P,_⟩
  . simp only at K Q;omega
  . simp only[roV,j0.injEq] at e
    exact⟨g,e.1,by unfold roB roV;rw[e.1];rfl,H,(z0.1 P).1⟩
def a8d.caps:X r.l<=r.rc/\r.rc<=maxLen:=by
  rcases h.2 with⟨e,Q⟩|⟨g,o,q,e,H,P,j,k,_⟩
  . simp only[roV,j0.injEq] at e
    exact⟨aa,by rw[e.2.2];exact j7 _⟩
  . simp only[roV,j0.injEq] at e
    rw[e.2.2];exact⟨j,k⟩
def a8d.same(hs:∀b,roB r=G b->w'.heap[b]? =w.heap[b]?):a8d w' B r:=dZ h hs
def a8d.lt{b:Nat}(H:roB r=G b):b < R (M w)/\B<=b:=aU h H
def a8d.put{b:Nat}(H:r.rs=G ⟨b,0,E⟩){k j:Nat}{u:mh}{x':Gc}(Z:k < X r.l)(K:j < 7)(N:bJ x'=(bJ r.l[k]).set j u):a8d (w.setCell ⟨b,k * 7+j,E⟩ u) B ⟨r.rs,r.rc,r.l.set k x'⟩:=by
  obtain⟨p,e,l⟩:=r;simp only at H Z N;subst H;have Q:=(Q1.stored h (k * 7+j) u).1;unfold a8d roV;simp only[z5];rw[AG Z K N];exact Q
def a8d.gets{S:Nat->Prop}(P:∀x∈r.l,cK S w x):a8b (λb=>roB r=G b\/S b) w r.rs (roG r):=by
  intro i hi;have k:i < X r.l:=by simpa[roG] using hi
  obtain⟨b,e,o,H,Z⟩:=dC;have N:=P _ (gM k);have ei:(roG r)[i]=r.l[i].g:=by simp[roG]
  rw[ei];have Q:w.ownsRow B 91 7 (U (G ⟨b,0,E⟩) (X r.l) r.rc) (X r.l) (aZ r.l):=by rw[<-e];exact h
  refine⟨b,0,e,⟨.inl o,Thw.own h o⟩,r.l[i].ss,r.l[i].cap,⟨?_,Z⟩,N.1.mono λq hq _=>.inr hq,N.2.1,N.2.2⟩;have hc:∀j,j < 7->w.cell? ⟨b,i * 7+j,E⟩=(bJ r.l[i])[j]? :=λj K=>by
    rw[<-gE r.l i k j K];exact Q1.cellAt Q _ aa
  simp only[j3];exact tD
def a8d.thaw{b:Nat}(hb:r.rs=G ⟨b,0,E⟩)(j:Nat):w.frozen? ⟨b,j,E⟩=false:=by
  have Q:=Pk;exact Q1.frozenAt Q j
end
end
def Off (v:Ro)(fb:Option Nat)(L:List Ro)(b:Nat):Prop:=roB v≠G b/\fb≠G b/\∀r∈L,roB r≠G b
structure a7e (T:Nat->Prop) (B:Nat) (w:World) (v:Ro) (fs:oA) (fc:Nat) (L:List Ro):Prop where
  vq:a8d w B v
  fq:w.ownsRow B 25 1 (U fs L.length fc) L.length (L.map roV)
  rows:∀r∈L,a8d w B r
  sv:∀g∈v.l,cK (λb=>T b/\Off v (j0 fs L.length fc).ownBlock L b) w g
  sf:∀r∈L,∀g∈r.l,cK (λb=>T b/\Off v (j0 fs L.length fc).ownBlock L b) w g
  dv:∀b,roB v=G b->(j0 fs L.length fc).ownBlock≠G b/\∀r∈L,roB r≠G b
  df:∀b,(j0 fs L.length fc).ownBlock=G b->∀r∈L,roB r≠G b
  dr:L.Pairwise λr q=>∀b,roB r=G b->roB q≠G b
def bh (n:Bool)(v:Ro)(L:List Ro):Pic:=⟨n,roG v,L.map roG⟩
section
variable {T T':Nat->Prop} {B:Nat} {w w':World} {v:Ro} {fs:oA} {fc:Nat} {L:List Ro}
section
variable (h:a7e T B w v fs fc L)
def a7e.mono(k:∀b,T b->b < R (M w)->T' b):a7e T' B w v fs fc L:=
  ⟨h.vq,h.fq,h.rows,λg P=>⟨(h.sv g P).1.mono λb H q=>⟨k b H.1 q,H.2⟩,(h.sv g P).2⟩,λr Z g P=>⟨(h.sf r Z g P).1.mono λb H q=>⟨k b H.1 q,H.2⟩,(h.sf r Z g P).2⟩,h.dv,h.df,h.dr⟩
def a7e.same(hs:∀b,T b\/B<=b->b < R (M w)->w'.heap[b]? =w.heap[b]?)(q:R (M w)<=R (M w')):a7e T B w' v fs fc L:=
  ⟨h.vq.same λb H=>hs b (.inr (h.vq.lt H).2) (h.vq.lt H).1,dZ h.fq λb H=>hs b (.inr (aU h.fq H).2) (aU h.fq H).1,λr Z=>(h.rows r Z).same λb H=>hs b (.inr ((h.rows r Z).lt H).2) ((h.rows r Z).lt H).1,
   λg P=>⟨(h.sv g P).1.same (λb H o=>hs b (.inl H.1) o) q,(h.sv g P).2⟩,λr Z g P=>⟨(h.sf r Z g P).1.same (λb H o=>hs b (.inl H.1) o) q,(h.sf r Z g P).2⟩,h.dv,h.df,h.dr⟩
def a7e.call(H:bl w w'):a7e T B w' v fs fc L:=h.same (λb _ o=>H.block b o) H.size
def a7e.fcap:X L<=fc/\fc<=maxLen:=by
  rcases h.fq.2 with⟨e,Q⟩|⟨g,o,q,e,H,P,j,k,_⟩
  . simp only[j0.injEq] at e
    exact⟨aa,by rw[e.2.2];exact j7 _⟩
  . simp only[j0.injEq] at e
    rw[e.2.2];exact⟨j,k⟩
def a7e.fform(K:0 < X L):∃b,fs=G ⟨b,0,E⟩/\B<=b/\b < R (M w)/\∀k (Z:k < X L),w.cell? ⟨b,k,E⟩=G (roV L[k]):=by
  rcases h.fq.2 with⟨e,Q⟩|⟨g,o,q,e,H,P,j,k2,_⟩
  . omega
  . simp only[j0.injEq] at e
    obtain⟨e1,-,N⟩:=e;subst e1 N;refine⟨g,rfl,H,(z0.1 P).1,λk Z=> ?_⟩;have:=Q1.cellAt h.fq k aa;rw[this];simp[Z]
def a7e.t(n:Bool):a9s w (bh n v L) v.rs fs:=by
  refine⟨(h.vq.gets h.sv).mono λ_ _ _=>trivial,λi hi=> ?_⟩;have k:i < X L:=by simpa[bh] using hi
  obtain⟨b,e,H,q,Z⟩:=h.fform aa;have o:(bh n v L).fq[i]=roG L[i]:=by simp[bh]
  rw[o];have K:=gM k;have j:=(h.rows _ K).caps;refine⟨b,0,e,trivial,q,L[i].rs,L[i].rc,?_,by simpa[roG] using j.1,j.2,((h.rows _ K).gets (h.sf _ K)).mono λ_ _ _=>trivial⟩;rw[j3,Z i k];simp[roV,roG]
def a7e.at(n:Bool):a4r w (bh n v L) v.rs fs:=(h.t n).at
def a7e.on(n:Bool):a7d (λb=>T b\/B<=b) w (bh n v L) v.rs fs:=λN hs q=>(h.same hs q).t n
def a7e.vcap(n:Bool):X (bh n v L).vq<=v.rc/\v.rc<=maxLen:=by simpa[bh,roG] using h.vq.caps
def a7e.fcap'(n:Bool):X (bh n v L).fq<=fc/\fc<=maxLen:=by simpa[bh] using h.fcap
end
def EO {S:Nat->Prop}{x:Gc}{a:Addr}{u:mh}(h:cK S w x)(hs:∀b,S b->b≠a.block):cK S (w.setCell a u) x:=⟨h.1.same (λb H _=>hSe _ _ _ _ (hs b H)) bI,h.2⟩
section
variable (h:a7e T B w v fs fc L)
def a7e.putV{b:Nat}(hb:v.rs=G ⟨b,0,E⟩){k j:Nat}{u:mh}{x':Gc}(Z:k < X v.l)(K:j < 7)(N:bJ x'=(bJ v.l[k]).set j u)(P:cK (λb=>T b/\Off v (j0 fs (X L) fc).ownBlock L b) w x'):
    a7e T B (w.setCell ⟨b,k * 7+j,E⟩ u) ⟨v.rs,v.rc,v.l.set k x'⟩ fs fc L:=by
  have eb:roB v=G b:=pF;have o:roB ⟨v.rs,v.rc,v.l.set k x'⟩=roB v:=pF;have Q:∀q,Off ⟨v.rs,v.rc,v.l.set k x'⟩ (j0 fs (X L) fc).ownBlock L q=Off v (j0 fs (X L) fc).ownBlock L q:=λq=>by unfold Off;rw[o]
  have hd:=h.dv b eb;have hp:∀g,cK (λb=>T b/\Off v (j0 fs (X L) fc).ownBlock L b) w g->cK (λb=>T b/\Off ⟨v.rs,v.rc,v.l.set k x'⟩ (j0 fs (X L) fc).ownBlock L b) (w.setCell ⟨b,k * 7+j,E⟩ u) g:=λg P=>by
    simp only[Q];exact EO P λq hq e=>hq.2.1 Cd
  refine⟨h.vq.put hb Z K N,dZ h.fq λq hq=>hSe _ _ _ _ λe=>hd.1 (by rw[hq];exact congrArg G e),λr hr=>(h.rows r hr).same λq hq=>hSe _ _ _ _ λe=>hd.2 r hr (by rw[hq];exact congrArg G e),λg H=>hp g ?_,λr hr g H=>hp g (h.sf r hr g H),by rw[o];exact h.dv,h.df,h.dr⟩;rcases Z2 H with H|rfl
  . exact h.sv g H
  . exact P
def a7e.putF{s:Nat}(hs:s < X L){b:Nat}(hb:L[s].rs=G ⟨b,0,E⟩){k j:Nat}{u:mh}{x':Gc}(Z:k < X L[s].l)(K:j < 7)(N:bJ x'=(bJ L[s].l[k]).set j u)(P:cK (λb=>T b/\Off v (j0 fs (X L) fc).ownBlock L b) w x'):
    a7e T B (w.setCell ⟨b,k * 7+j,E⟩ u) v fs fc (L.set s ⟨L[s].rs,L[s].rc,L[s].l.set k x'⟩):=by
  have hm:=gM hs;have eb:roB L[s]=G b:=pF;have ah:roB ⟨L[s].rs,L[s].rc,L[s].l.set k x'⟩=roB L[s]:=pF;have af:roV ⟨L[s].rs,L[s].rc,L[s].l.set k x'⟩=roV L[s]:=by unfold roV;simp
  have eL:(L.set s ⟨L[s].rs,L[s].rc,L[s].l.set k x'⟩).map roB=L.map roB:=by
    rw[Z3,ah,<-x8 (f:=roB) (h:=by simpa using hs),J0]
  have eV:(L.set s ⟨L[s].rs,L[s].rc,L[s].l.set k x'⟩).map roV=L.map roV:=by
    rw[Z3,af,<-x8 (f:=roV) (h:=by simpa using hs),J0]
  have Q:∀{M:List Ro} {q:Nat},(∀r∈M,roB r≠G q)↔∀o∈M.map roB,o≠G q:=by
    intro M q;simp only[z9,forall_exists_index,and_imp,forall_apply_eq_imp_iff₂]
  have eO:∀q,Off v (j0 fs (X L) fc).ownBlock (L.set s ⟨L[s].rs,L[s].rc,L[s].l.set k x'⟩) q↔Off v (j0 fs (X L) fc).ownBlock L q:=λq=>by
    unfold Off;rw[Q,Q,eL]
  have hp:∀g,cK (λb=>T b/\Off v (j0 fs (X L) fc).ownBlock L b) w g->cK (λb=>T b/\Off v (j0 fs (X (L.set s ⟨L[s].rs,L[s].rc,L[s].l.set k x'⟩)) fc).ownBlock (L.set s ⟨L[s].rs,L[s].rc,L[s].l.set k x'⟩) b) (w.setCell ⟨b,k * 7+j,E⟩ u) g:=λg P=>by
    rw[z5];simp only[eO];exact EO P λq hq e=>hq.2.2.2 _ hm Cd
  have ad:∀{M:List Ro},M.Pairwise (λr q=>∀b,roB r=G b->roB q≠G b)↔(M.map roB).Pairwise λo p=>∀b,o=G b->p≠G b:=by
    intro M;rw[X7]
  refine⟨h.vq.same λq hq=>hSe _ _ _ _ λe=>(h.dv q hq).2 _ hm Cd,?_,λr hr=> ?_,λg H=>hp g (h.sv g H),λr hr g H=>hp g ?_,λq hq=> ?_,λq hq=> ?_,?_⟩
  . rw[z5,eV]
    exact dZ h.fq λq hq=>hSe _ _ _ _ λe=>h.df q hq _ hm Cd
  . rw[X8] at hr
    obtain⟨i,hi,rfl⟩:=hr;rw[z5] at hi;rw[X9];split
    . exact(h.rows _ hm).put hb Z K N
    . rename_i zk
      refine(h.rows _ (gM hi)).same λq hq=>hSe _ _ _ _ λe=> ?_;simp only at e;subst e;have pw:=List.pairwise_iff_getElem.1 h.dr;rcases Nat.lt_or_gt_of_ne zk with ab|ab
      . exact pw s i hs hi ab q eb hq
      . exact pw i s hi hs ab q hq eb
  . rw[X8] at hr
    obtain⟨i,hi,rfl⟩:=hr;rw[z5] at hi;rw[X9] at H;split at H
    . rcases Z2 H with H|rfl
      . exact h.sf _ hm g H
      . exact P
    . exact h.sf _ (gM hi) g H
  . rw[z5,Q,eL,<-Q]
    exact h.dv q hq
  . rw[z5] at hq
    rw[Q,eL,<-Q];exact h.df q hq
  . rw[ad,eL,<-ad]
    exact h.dr
end
end
def a8q (S:Nat->Prop)(w:World)(B:Nat)(v:Value)(l:List Gc):Prop:=w.ownsRow B 91 7 v (X l) (aZ l)/\(∀b,v.ownBlock=G b->S b)/\∀x∈l,cK (λb=>S b/\v.ownBlock≠G b) w x
section
variable {S S':Nat->Prop} {w w':World} {B:Nat} {v:Value} {l:List Gc}
section
variable (h:a8q S w B v l)
def a8q.same(hs:∀b,S b->b < R (M w)->w'.heap[b]? =w.heap[b]?)(q:R (M w)<=R (M w')):a8q S w' B v l:=⟨dZ h.1 λb H=>hs b (h.2.1 b H) (aU h.1 H).1,h.2.1,λx N=>⟨(h.2.2 x N).1.same (λb H o=>hs b H.1 o) q,(h.2.2 x N).2⟩⟩
def a8q.mono(hs:∀b,S b->b < R (M w)->S' b):a8q S' w B v l:=⟨h.1,λb H=>hs b (h.2.1 b H) (aU h.1 H).1,λx N=>⟨(h.2.2 x N).1.mono λb H o=>⟨hs b H.1 o,H.2⟩,(h.2.2 x N).2⟩⟩
def a8q.call(H:bl w w'):a8q S w' B v l:=h.same (λb _ o=>H.block b o) H.size
end
def fP {e:TypeId}{z n:Nat}{xs:List mh}{C:Nat}(h:w.ownsRow C e z v n xs)(j:B<=C):w.ownsRow B e z v n xs:=by
 refine⟨h.1,?_⟩;rcases h.2 with P|⟨g,o,q,Z,H,K⟩
 .exact .inl P
 .exact .inr ⟨g,o,q,Z,lT j H,K⟩
def a8i.vrow (h:a8i w B v l):a8q (λb=>B<=b) w B v l:=⟨h.1,λb H=>(aU h.1 H).2,λx N=>h.2 x N⟩
def a8q.lower (h:a8q S w B v l){C:Nat}(j:C<=B):a8q S w C v l:=⟨fP h.1 j,h.2⟩
end
structure a8j (w:World) (B:Nat) (v:Value) (L:List Ro):Prop where
 own:w.ownsRow B 25 1 v L.length (L.map roV)
 rows:∀r∈L,a8d w B r
 sites:∀r∈L,∀g∈r.l,cK (λb=>B<=b/\v.ownBlock≠G b/\∀q∈L,roB q≠G b) w g
 df:∀b,v.ownBlock=G b->∀r∈L,roB r≠G b
 dr:L.Pairwise λr q=>∀b,roB r=G b->roB q≠G b
section
variable {w w0 w':World} {B:Nat} {v v':Value} {L:List Ro}
def a8j.nil (w:kl)(B:Nat):a8j w B (U E 0 0) []:=⟨⟨rfl,.inl ⟨rfl,rfl⟩⟩,λr hr=>pj,λr hr=>pj,λb H r hr=>pj,Z4.nil⟩
def a8j.olden (h:a8j w B v L)(hs:∀b,B<=b->b < R (M w)->w'.heap[b]? =w.heap[b]?)(q:R (M w)<=R (M w')):a8j w' B v L:=
 ⟨dZ h.own λb H=>hs b (aU h.own H).2 (aU h.own H).1,λr Z=>(h.rows r Z).same λb H=>hs b ((h.rows r Z).lt H).2 ((h.rows r Z).lt H).1,λr Z g P=>⟨(h.sites r Z g P).1.same (λb H o=>hs b H.1 o) q,(h.sites r Z g P).2⟩,h.df,h.dr⟩
def a8j.call (h:a8j w B v L)(H:bl w w'):a8j w' B v L:=h.olden (λb _ o=>H.block b o) H.size
def a8j.grown (K:a8j w0 B v L)(H:bl w0 w)(j:B<=R (M w0)){x:Ro}(N:a8q (λb=>R (M w0)<=b) w (R (M w0)) (roV x) x.l)(Z:w'.ownsRow B 25 1 v' (X L+1) (L.map roV++[roV x]))(P:w.grownBy w' v.ownBlock)(hv:v'.ownBlock=v.ownBlock\/v'.ownBlock=G (R (M w))):a8j w' B v' (L++[x]):=by
 have h:=K.call H;have al:=H.size;have ah:a8d w (R (M w0)) x:=N.1;have p:∀b,v.ownBlock=G b->b < R (M w0):=λb H=>(aU K.own H).1;have af:∀r∈L,∀b,roB r=G b->b < R (M w0):=λr Z b H=>((K.rows r Z).lt H).1;have ab:∀b,roB x=G b->R (M w0)<=b/\b < R (M w):=λb H=>⟨(ah.lt H).2,(ah.lt H).1⟩;have keep:∀b,b < R (M w)->v.ownBlock≠G b->w'.heap[b]? =w.heap[b]? :=λb H ak=>P.block b H λe=>ak e.symm;refine⟨by rw[x6,X5];exact Z,λr Z=> ?_,λr Z g ad=> ?_,λb H r Z=> ?_,?_⟩
 .rcases j4.1 Z with Z|Z
  .exact(h.rows r Z).same λb H=>keep b ((h.rows r Z).lt H).1 λe=>h.df b e r Z H
  .rw[j6.1 Z]
   exact a8d.same (fP ah j) λb H=>keep b (ab b H).2 λe=>by have:=p b e;have:=(ab b H).1;omega
 .rcases j4.1 Z with Z|Z
  .have Q:cK (λb=>(B<=b/\v.ownBlock≠G b/\∀q∈L,roB q≠G b)/\b < R (M w0)) w g:=⟨((K.sites r Z g ad).1.mono λb H o=>(⟨H,o⟩:_/\b < R (M w0))).call H,(K.sites r Z g ad).2⟩
   refine⟨(Q.1.same (λb H o=>keep b o H.1.2.1) P.size).mono λb H _=>⟨H.1.1,?_,λq hq=> ?_⟩,Q.2⟩
   .rcases hv with e|e
    .rw[e];exact H.1.2.1
    .rw[e];intro k;cases k;have:=H.2;omega
   .rcases j4.1 hq with hq|hq
    .exact H.1.2.2 q hq
    .rw[j6.1 hq]
     intro e;have:=(ab b e).1;have:=H.2;omega
  .rw[j6.1 Z] at ad
   have Q:cK (λb=>(R (M w0)<=b/\roB x≠G b)/\b < R (M w)) w g:=⟨(N.2.2 g ad).1.mono λb H o=>⟨H,o⟩,(N.2.2 g ad).2⟩;refine⟨(Q.1.same (λb H o=>keep b o λe=>by have:=p b e;have:=H.1.1;omega) P.size).mono λb H _=>⟨lT j H.1.1,?_,λq hq=> ?_⟩,Q.2⟩
   .rcases hv with e|e
    .rw[e];intro k;have:=p b k;have:=H.1.1;omega
    .rw[e];intro k;cases k;have:=H.2;omega
   .rcases j4.1 hq with hq|hq
    .intro e
     have:=af q hq b e;have:=H.1.1;omega
    .rw[j6.1 hq]
     exact H.1.2
 .rcases hv with e|e
  .rw[e] at H
   rcases j4.1 Z with Z|Z
   .exact K.df b H r Z
   .rw[j6.1 Z]
    intro k;have:=p b H;have:=(ab b k).1;omega
  .rw[e] at H
   cases H;rcases j4.1 Z with Z|Z
   .intro k
    have:=af r Z _ k;omega
   .rw[j6.1 Z]
    intro k;have:=(ab _ k).2;omega
 .rw[List.pairwise_append]
  refine⟨K.dr,List.pairwise_singleton _ _,λr Z q hq b H e=> ?_⟩;rw[j6.1 hq] at e;have:=af r Z b H;have:=(ab b e).1;omega
def a8j.form (h:a8j w B v L):∃fs fc,v=U fs (X L) fc:=by
 rcases h.own.2 with⟨e,K⟩|⟨g,o,q,e,_⟩
 .exact⟨E,0,by rw[e,K]⟩
 .exact⟨G ⟨g,0,E⟩,o,e⟩
def a8j.pic {S:Nat->Prop}{C:Nat}{vs fs:oA}{vc fc:Nat}{l:List Gc}(h:a8j w B (U fs (X L) fc) L)(Q:a8q S w C (U vs (X l) vc) l)(j:∀b,S b->C<=b/\b < B)(k:C<=B):a7e (λb=>C<=b) C w ⟨vs,vc,l⟩ fs fc L:=by
 have p:∀b,roB ⟨vs,vc,l⟩=G b->b < B:=λb H=>(j b (Q.2.1 b H)).2;have q:∀b,(j0 fs (X L) fc).ownBlock=G b->B<=b:=λb H=>(aU h.own H).2;have o:∀r∈L,∀b,roB r=G b->B<=b:=λr Z b H=>((h.rows r Z).lt H).2;refine⟨Q.1,fP h.own k,λr Z=>fP (h.rows r Z) k,λg P=>⟨(Q.2.2 g P).1.mono λb H _=>⟨(j b H.1).1,H.2,λe=> ?_,λr Z e=> ?_⟩,(Q.2.2 g P).2⟩,λr Z g P=>⟨(h.sites r Z g P).1.mono λb H _=>⟨lT k H.1,λe=> ?_,H.2.1,H.2.2⟩,(h.sites r Z g P).2⟩,λb H=>⟨λe=> ?_,λr Z e=> ?_⟩,h.df,h.dr⟩
 .have:=q b e;have:=(j b H.1).2;omega
 .have:=o r Z b e;have:=(j b H.1).2;omega
 .have:=p b e;have:=H.1;omega
 .have:=q b e;have:=p b H;omega
 .have:=o r Z b e;have:=p b H;omega
end
def a7e.down {T:Nat->Prop}{B C:Nat}{w:kl}{v:Ro}{fs:oA}{fc:Nat}{L:List Ro}(h:a7e T B w v fs fc L)(k:C<=B):a7e T C w v fs fc L:=⟨fP h.vq k,fP h.fq k,λr Z=>fP (h.rows r Z) k,h.sv,h.sf,h.dv,h.df,h.dr⟩
def a9w (B:Nat)(w':World)(e:Ending)(x:Pic)(er:Int):Prop:=∃v fs fc L,x=bh x.none v L/\e=Rt (Tu #[Ag #[O x.none,U v.rs (X v.l) v.rc,U fs (X L) fc],I Y er])/\a7e (λb=>B<=b) B w' v fs fc L
def Wg (w w':World)(e:Ending)(l:List Gs):Prop:=∃rs rc gl,e=Rt (U rs (X gl) rc)/\Hid (gl.map Gc.g=l)/\a8i w' (R (M w)) (U rs (X gl) rc) gl
def Lc (B:Nat)(w:kl):a7e (λb=>B<=b) B w ⟨E,0,[]⟩ E 0 []:=⟨⟨rfl,.inl ⟨rfl,rfl⟩⟩,⟨rfl,.inl ⟨rfl,rfl⟩⟩,λr hr=>pj,λg P=>by simp at P,λr hr=>pj,λb H=>by simp[roB,roV,Value.ownBlock] at H,λb H r hr=>pj,Z4.nil⟩
end
section
def w64 (n:Int):Int:=(n+9223372036854775808) % 18446744073709551616 - 9223372036854775808
def a0c {n:Int}(K: -9223372036854775808<=n)(Q:n<=9223372036854775807):w64 n=n:=by unfold w64;omega
def VF:Ins:=⟨0,0,0,0,0,0⟩
def bS (c:lI)(p:Int):Ins:=c.getD p.toNat VF
def nI (v:Val):ByteArray:=
 if v.k=0 then⟨#[110,117,108,108]⟩ else if v.k=1 then Mt v.n
 else if v.k=2 then(if v.n=1 then⟨#[116,114,117,101]⟩ else⟨#[102,97,108,115,101]⟩) else⟨#[116,104,105,110,103]⟩
def fR (T:Nat)(i:Ins)(a b:Val):Int:=
 if i.k=19 then 1
 else if (btw i.k 5 8&&(decide (a.k≠1)||decide (b.k≠1)))||((decide (i.k=12)||decide (i.k=13))&&decide (a.k≠3)) then 2
 else if decide (i.k=17)&& !cnt a then 3
 else if decide (i.k=11)&&decide (T=100) then 5
 else 0
def nC (r:St)(ins:List Int)(i:Ins)(a b:Val):Val:=
 if i.k=1 then⟨1,i.n⟩ else if i.k=2 then⟨2,i.n⟩ else if i.k=4 then a
 else if i.k=5 then⟨1,wr (a.n+b.n)⟩ else if i.k=6 then⟨1,wr (a.n - b.n)⟩ else if i.k=7 then⟨1,wr (a.n * b.n)⟩
 else if i.k=8 then eD (decide (a.n < b.n)) else if i.k=9 then eD (decide (a.k=b.k)&&decide (a.n=b.n)) else if i.k=10 then eD (!cnt a)
 else if i.k=11 then⟨3,X r.things⟩ else if i.k=12 then Bm r a.n i.n
 else if i.k=14 then⟨1,if r.taken < X ins then rO i.n (ins.getD r.taken.toNat 0) else 0⟩
 else⟨0,0⟩
def Mv (F:Int)(ins:List Int)(r:St)(i:Ins)(a b:Val):St:=
 let v:=nC r ins i a b
 let r1:St:=if i.k=11 then {r with things:=r.things++[⟨r.at_,j1 F.toNat ⟨0,0⟩⟩]} else if i.k=13 then gD r a.n i.n b
  else if i.k=14 then {r with taken:=w64 (r.taken+1)} else if i.k=18 then {r with lines:=r.lines++[nI a]} else r
 let r2:St:=if nTo i.k then nL r1 i.tgt v else r1
 {r2 with at_:=if i.k=16\/(i.k=15/\cnt a=true) then i.g else r.at_+1}
def bX (F:Int)(c:lI)(ins:List Int)(r:St):St:=
 if r.fin≠0 then r
 else if r.at_=X c then {r with fin:=1}
 else
  let i:=bS c r.at_
  let a:=if nA i.k then rE r i.a else⟨0,0⟩
  let b:=if nB i.k then rE r i.b else⟨0,0⟩
  if fR (X r.things) i a b≠0 then {r with fin:=fR (X r.things) i a b} else Mv F ins r i a b
def bQ (V:Int):St:=⟨0,j1 V.toNat ⟨0,0⟩,[],0,[],0⟩
def a8g (F:Int)(c:lI)(ins:List Int):Nat->St->St×Nat
 |0,r=>(r,0)
 |n+1,r=>if r.fin≠0 then(r,0) else((a8g F c ins n (bX F c ins r)).1,(a8g F c ins n (bX F c ins r)).2+1)
def fB (V F:Int)(c:lI)(ins:List Int)(zC:Nat):St×Nat:=
 let q:=a8g F c ins zC (bQ V)
 (if q.1.fin=0 then {q.1 with fin:=4} else q.1,q.2)
def bZ (T:Nat)(v:Val):Bool:=(decide (v.k=0)&&decide (v.n=0))||((decide (v.k=1)&&btw v.n (-2147483648) 2147483647)||((decide (v.k=2)&&btw v.n 0 1)||(decide (v.k=3)&&btw v.n 0 ((T:Int) - 1))))
def iR (c:lI)(x:Int):Bool:=btw x 0 ((X c:Int) - 1)&&decide ((bS c x).k=11)
def lA (V F:Int)(c:lI)(r:St):Int:=
 if (!btw r.at_ 0 (X c)||decide (r.taken < 0))|| !btw r.fin 0 5 then 3
 else if (X r.vq:Int)≠V then 1
 else if 100 < X r.things then 2
 else if r.things.all (λt=>iR c t.site)=false then 5
 else if r.things.all (λt=>decide ((X t.fs:Int)=F))=false then 1
 else if (r.vq.all (bZ (X r.things))&&r.things.all λt=>t.fs.all (bZ (X r.things)))=false then 4
 else 0
def okValB_iff{v:Val}:bZ T v=W5↔cS T v:=by
 unfold bZ cS btw;simp only[J6,j8,decide_eq_true_eq];constructor
 .rintro (h|h|h|h)
  .exact cA
  .exact .inr (.inl ⟨h.1,h.2⟩)
  .exact .inr (.inr (.inl ⟨h.1,aa⟩))
  .exact .inr (.inr (.inr ⟨h.1,aa,aa⟩))
 .rintro (h|h|h|h)
  .exact cA
  .exact .inr (.inl ⟨h.1,h.2⟩)
  .exact .inr (.inr (.inl ⟨h.1,aa⟩))
  .exact .inr (.inr (.inr ⟨h.1,aa,aa⟩))

structure a8h (V F:Int) (c:lI) (r:St):Prop where
 at0:0<=r.at_
 at1:r.at_<=c.length
 tk:0<=r.taken
 fin0:0<=r.fin
 fin5:r.fin<=5
 vq:(r.vq.length:Int)=V
 things:r.things.length<=100
 sites:∀t∈r.things,iR c t.site=true
 fields:∀t∈r.things,(t.fs.length:Int)=F
 vals:∀v∈r.vq,cS r.things.length v
 fvals:∀t∈r.things,∀v∈t.fs,cS r.things.length v

def OH {V F:Int}{c:lI}{r:St}(h:lA V F c r=0):a8h V F c r:=by
 unfold lA at h;split at h
 .cases h
 rename_i h1;split at h
 .cases h
 rename_i h2;split at h
 .cases h
 rename_i h3;split at h
 .cases h
 rename_i h4;split at h
 .cases h
 rename_i h5;split at h
 .cases h
 rename_i h6;simp only[btw,J6,x7,decide_eq_false_iff_not,decide_eq_true_eq,not_or,Decidable.not_not] at h1;simp only[ne_eq,Decidable.not_not] at h2;simp only[Q2,Z5,decide_eq_true_eq,j8] at h4 h5 h6;exact⟨aa,aa,aa,aa,aa,h2,aa,h4,h5,λv Q=>okValB_iff.1 (h6.1 v Q),λt N v Q=>okValB_iff.1 (h6.2 t N v Q)⟩

section
variable {V F L:Int} {i:Ins}
def b9 (h:bo V F L i=0):btw i.k 1 19=W5/\(nTo i.k=W5->0<=i.tgt/\i.tgt < V)/\(nA i.k=W5->0<=i.a/\i.a < V)/\(nB i.k=W5->0<=i.b/\i.b < V)/\(i.k=12\/i.k=13->0<=i.n/\i.n < F)/\(nG i.k=W5->0<=i.g/\i.g<=L)/\(i.k=1-> -2147483648<=i.n/\i.n<=2147483647)/\(i.k=2->i.n=0\/i.n=1)/\(i.k=14->0<=i.n/\i.n<=1000000):=by
 unfold bo at h;split at h
 .cases h
 rename_i h1;split at h
 .cases h
 rename_i h2;split at h
 .cases h
 rename_i h3;simp only[J6,j8,x7,not_or,not_and,Q2,decide_eq_true_eq,btw] at h2 h3;obtain⟨⟨⟨⟨e,o⟩,H⟩,q⟩,K⟩:=h2;obtain⟨⟨k,p⟩,Q⟩:=h3;refine⟨by simpa using h1,λh=> ?_,λh=> ?_,λh=> ?_,λh=> ?_,λh=> ?_,λh=> ?_,λh=> ?_,λh=> ?_⟩
 .have:=e h;omega
 .have:=o h;omega
 .have:=H h;omega
 .have:=q h;omega
 .have:=K h;omega
 .have:=k h;omega
 .have:=p h;omega
 .have:=Q h;omega
end

def a1k {V F L:Int}{c:lI}(h:ge V F L c=0):∀i∈c,bo V F L i=0:=by
 induction c with
 |nil=>intro i hi;cases hi
 |cons x r ih=>
  unfold ge at h;split at h
  .rename_i hx
   intro i hi;rcases z8.1 hi with rfl|hi
   .exact hx
   .exact ih h i hi
  .rename_i hx;exact absurd h hx
structure a8r (V F:Int) (c:lI):Prop where
 v1:1<=V
 v8:V<=8
 f0:0<=F
 f3:F<=3
 len:c.length<=60
 each:∀i∈c,bo V F c.length i=0
def cU {V F:Int}{c:lI}(h:aA V F c=0):a8r V F c:=by
 unfold aA at h;split at h
 .cases h
 rename_i h1;split at h
 .cases h
 rename_i h2;simp[btw] at h1;exact⟨aa,aa,aa,aa,aa,a1k h⟩

def Et {c:lI}{p:Nat}(h:p < X c):bS c (p:Int)=c[p]:=by
 unfold bS;simp[j5,z4 h]
def nJ {c:lI}{p:Int}(K:0<=p)(h:p < X c):bS c p∈c:=by
 obtain⟨k,rfl⟩:=J2 K;rw[Et aa];exact gM _

def uG{T':Nat}{v:Val}(h:cS T v)(k:T<=T'):cS T' v:=by
 unfold cS at h |-;omega
def mB:cS T ⟨0,0⟩:=.inl ⟨rfl,rfl⟩
def a1H: -2147483648<=wr n/\wr n<=2147483647:=by unfold wr;omega
def AA:cS T ⟨1,wr n⟩:=.inr (.inl ⟨rfl,a1H n⟩)
def yQ(b:Bool):cS T (eD b):=.inr (.inr (.inl ⟨rfl,by cases b<;>simp[eD]⟩))
def Lt {r:St}{i:Int}(K:0<=i)(h:i < X r.vq):rE r i∈r.vq:=by
 obtain⟨k,rfl⟩:=J2 K;have Z:k < X r.vq:=aa;unfold rE;simp only[Int.toNat_natCast,j5,z4 Z,Z6];exact gM Z
def DQ {r:St}{k:Nat}(h:k < X r.vq):rE r (k:Int)=r.vq[k]:=by
 unfold rE;simp[j5,z4 h]
def Gi {r:St}{t f:Nat}(h:t < X r.things)(q:f < X r.things[t].fs):Bm r (t:Int) (f:Int)=r.things[t].fs[f]:=by
 unfold Bm;simp[j5,z4 h,z4 q]
def Cy {n x:Int}(K:0<=n): -n<=rO n x/\rO n x<=n:=by unfold rO;split;omega;split<;>omega
def o7{l:List α}{i:Nat}{v x:α}(h:x∈l.set i v):x=v\/x∈l:=(Z2 h).symm

def a1L {V F:Int}{c:lI}{r:St}{ins:List Int}(Z:a8h V F c r){i:Ins}(hi:bo V F (X c) i=0){a b:Val}(e:cS (X r.things) a)(o:fR (X r.things) i a b=0):
  cS (if i.k=11 then X r.things+1 else X r.things) (nC r ins i a b):=by
 obtain⟨Q,P,K,h4,k,h6,h7,H,h9⟩:=b9 hi;have up:∀{v:Val},cS (X r.things) v->cS (if i.k=11 then X r.things+1 else X r.things) v:=λh=>uG h sW;unfold nC;by_cases k1:i.k=1
 .rw[if_pos k1];exact up (.inr (.inl ⟨rfl,h7 k1⟩))
 rw[if_neg k1];by_cases k2:i.k=2
 .rw[if_pos k2];exact up (.inr (.inr (.inl ⟨rfl,H k2⟩)))
 rw[if_neg k2];by_cases k4:i.k=4
 .rw[if_pos k4];exact up e
 rw[if_neg k4];by_cases k5:i.k=5
 .rw[if_pos k5];exact AA _
 rw[if_neg k5];by_cases k6:i.k=6
 .rw[if_pos k6];exact AA _
 rw[if_neg k6];by_cases k7:i.k=7
 .rw[if_pos k7];exact AA _
 rw[if_neg k7];by_cases k8:i.k=8
 .rw[if_pos k8];exact yQ _
 rw[if_neg k8];by_cases k9:i.k=9
 .rw[if_pos k9];exact yQ _
 rw[if_neg k9];by_cases ak:i.k=10
 .rw[if_pos ak];exact yQ _
 rw[if_neg ak];by_cases j:i.k=11
 .rw[if_pos j,if_pos j]
  exact .inr (.inr (.inr ⟨rfl,aw,aw⟩))
 rw[if_neg j,if_neg j];by_cases ab:i.k=12
 .rw[if_pos ab]
  have al:a.k=3:=by
   unfold fR at o;simp[ab,btw] at o;exact o
  rcases e with e|e|e|e
  .omega
  .omega
  .omega
  .obtain⟨t,N⟩:=J2 e.2.1
   obtain⟨f,q⟩:=J2 (k (.inl ab)).1;have af:t < X r.things:=aa;have ah:f < X r.things[t].fs:=by have:=Z.fields _ (gM af);have:=(k (.inl ab)).2;omega
   rw[N,q,Gi af ah];exact Z.fvals _ (gM af) _ (gM ah)
 rw[if_neg ab];by_cases ad:i.k=14
 .rw[if_pos ad]
  have:=Cy (x:=ins.getD r.taken.toNat 0) (h9 ad).1;have:=(h9 ad).2;refine .inr (.inl ⟨rfl,?_⟩);simp only;split<;>omega
 .rw[if_neg ad];exact mB

def nX{l:List α}{i:Nat}{f:α->α}{x:α}(h:x∈l.modify i f):x∈l\/∃y∈l,x=f y:=by
 obtain⟨k,Z,rfl⟩:=J7 h;rw[Qa];rw[Qb] at Z;split
 .exact .inr ⟨_,gM Z,rfl⟩
 .exact .inl (gM Z)

def a1Y {V F:Int}{c:lI}{r:St}{ins:List Int}(j:a8r V F c)(hr:a8h V F c r)(am:r.at_ < X c)(ap:r.taken < 9223372036854775807){i:Ins}(al:i=bS c r.at_){a b:Val}(e:cS (X r.things) a)(H:cS (X r.things) b)(o:fR (X r.things) i a b=0):
  a8h V F c (Mv F ins r i a b):=by
 have hi:bo V F (X c) i=0:=j.each _ (by rw[al];exact nJ hr.at0 am);have hm:=a1L (ins:=ins) hr hi (b:=b) e o;obtain⟨Q,h2,h3,h4,h5,h6,_⟩:=b9 hi;have HR:∀q:St,q.at_=r.at_->0<=q.taken->q.fin=r.fin->(X q.vq:Int)=V->X q.things<=100->(∀t∈q.things,iR c t.site=W5)->(∀t∈q.things,(X t.fs:Int)=F)->(∀v∈q.vq,cS (X q.things) v)->(∀t∈q.things,∀v∈t.fs,cS (X q.things) v)->cS (X q.things) (nC r ins i a b)->
   a8h V F c {(if nTo i.k then nL q i.tgt (nC r ins i a b) else q) with at_:=if i.k=16\/(i.k=15/\cnt a=W5) then i.g else r.at_+1}:=by
  intro q q1 q2 q3 q4 q5 q6 q7 q8 q9 ao;have P:0<=(if i.k=16\/(i.k=15/\cnt a=W5) then i.g else r.at_+1)/\(if i.k=16\/(i.k=15/\cnt a=W5) then i.g else r.at_+1)<=X c:=by
   split
   .rename_i hk
    exact h6 (by unfold nG;rcases hk with hk|hk<;>simp[hk])
   .have:=hr.at0;omega
  have f0:=hr.fin0;have f5:=hr.fin5;cases hn:nTo i.k with
  |true=>
   simp only[if_true,nL];exact⟨P.1,P.2,q2,aw,aw,by simpa using q4,q5,q6,q7,λv hv=>by
    rcases o7 hv with rfl|hv
    .exact ao
    .exact q8 v hv,q9⟩
  |false=>
   simp only[J8,if_false];exact⟨P.1,P.2,q2,aw,aw,q4,q5,q6,q7,q8,q9⟩
 unfold Mv;simp only;by_cases ab:i.k=11
 .rw[if_pos ab] at hm
  have k:X r.things≠100:=by
   intro ah;unfold fR at o;simp[ab,btw,ah] at o
  have K:=hr.things;rw[if_pos ab];refine HR _ rfl hr.tk rfl hr.vq au (λt N=> ?_) (λt N=> ?_) (λv hv=> ?_) (λt N v hv=> ?_) mR
  .rcases j4.1 N with N|N
   .exact hr.sites t N
   .obtain rfl:=j6.1 N
    simp only;unfold iR;rw[<-al,ab,lQ hr.at0 aa];rfl
  .rcases j4.1 N with N|N
   .exact hr.fields t N
   .obtain rfl:=j6.1 N
    have:=j.f0;simp;omega
  .exact uG (hr.vals v hv) ae
  .rcases j4.1 N with N|N
   .exact uG (hr.fvals t N v hv) ae
   .obtain rfl:=j6.1 N
    rw[(Qc.1 hv).2];exact mB
 rw[if_neg ab] at hm;rw[if_neg ab];by_cases ad:i.k=13
 .rw[if_pos ad]
  unfold gD;refine HR _ rfl hr.tk rfl hr.vq (by simpa using hr.things) (λt N=> ?_) (λt N=> ?_) (λv hv=> ?_) (λt N v hv=> ?_) mR
  .rcases nX N with N|⟨y,Z,rfl⟩
   .exact hr.sites t N
   .exact hr.sites y Z
  .rcases nX N with N|⟨y,Z,rfl⟩
   .exact hr.fields t N
   .simpa using hr.fields y Z
  .simpa using hr.vals v hv
  .simp only[Qb]
   rcases nX N with N|⟨y,Z,rfl⟩
   .exact hr.fvals t N v hv
   .rcases o7 hv with rfl|hv
    .exact H
    .exact hr.fvals y Z v hv
 rw[if_neg ad];by_cases ak:i.k=14
 .rw[if_pos ak]
  have:=hr.tk;exact HR _ rfl (by simp only;rw[a0c (by omega) (by omega)];omega) rfl hr.vq hr.things hr.sites hr.fields hr.vals hr.fvals hm
 rw[if_neg ak];by_cases af:i.k=18
 .rw[if_pos af]
  exact Pj
 rw[if_neg af];exact Pj

def aOf (r:St)(i:Ins):Val:=if nA i.k then rE r i.a else⟨0,0⟩
def bOf (r:St)(i:Ins):Val:=if nB i.k then rE r i.b else⟨0,0⟩
section
variable {V F:Int}{c:lI}{r:St}(Z:a8h V F c r){i:Ins}(hi:bo V F (X c) i=0)
def Nt:cS (X r.things) (aOf r i):=by
 unfold aOf;split
 .rename_i h
  have:=(b9 hi).2.2.1 h;exact Z.vals _ (Lt this.1 (by rw[Z.vq];exact this.2))
 .exact mB
def a1u:cS (X r.things) (bOf r i):=by
 unfold bOf;split
 .rename_i h
  have:=(b9 hi).2.2.2.1 h;exact Z.vals _ (Lt this.1 (by rw[Z.vq];exact this.2))
 .exact mB
end
def Ui (T:Nat)(i:Ins)(a b:Val):0<=fR T i a b/\fR T i a b<=5:=by
 unfold fR;split
 .omega
 split
 .omega
 split
 .omega
 split
 .omega
 .omega
def a8h.finish {V F:Int}{c:lI}{r:St}(Z:a8h V F c r)(x:Int)(K:0<=x)(k:x<=5):a8h V F c {r with fin:=x}:=
 ⟨Z.at0,Z.at1,Z.tk,K,k,Z.vq,Z.things,Z.sites,Z.fields,Z.vals,Z.fvals⟩

def a0C {V F:Int}{c:lI}{r:St}(ins:List Int)(j:a8r V F c)(Z:a8h V F c r)(q:r.taken < 9223372036854775807):a8h V F c (bX F c ins r):=by
 unfold bX;split
 .exact Z
 split
 .exact Z.finish 1 aa aa
 rename_i h1 h2;have k:r.at_ < X c:=by have:=Z.at1;omega
 have hi:=j.each _ (nJ Z.at0 k);have e:=Ui (X r.things) (bS c r.at_) (aOf r (bS c r.at_)) (bOf r (bS c r.at_));show a8h V F c (if fR (X r.things) (bS c r.at_) (aOf r (bS c r.at_)) (bOf r (bS c r.at_))≠0 then _ else Mv F ins r (bS c r.at_) (aOf r (bS c r.at_)) (bOf r (bS c r.at_)));split
 .exact Z.finish _ e.1 e.2
 .rename_i h0
  exact a1Y j Z k q rfl (Nt Z hi) (a1u Z hi) kG
def Co{β:Type}{f:α->β->Bool}{a:List α}{b:List β}:(Q3 f a b).all id=W5↔∀i (h1:i < X a) (h2:i < X b),f a[i] b[i]=true:=by
 induction a generalizing b with
 |nil=>simp
 |cons x a ih=>
  cases b with
  |nil=>simp
  |cons y b=>
   rw[List.zipWith_cons_cons,Qd,j8,ih];constructor
   .rintro ⟨h,Q⟩ i h1 h2
    cases i with
    |zero=>exact h
    |succ i=>exact Q i iA mK
   .intro h
    exact⟨h 0 ae ae,λi h1 h2=>h (i+1) iA mK⟩

def a3m (r:St)(v:Val):Int:=if v.k=3 then(r.things.getD v.n.toNat ⟨0,[]⟩).site else -1
def rB (r:St)(g:Gs)(v:Val):Bool:=AF g v.k v.n (a3m r v)
def cq (r:St)(l:List Gs)(vs:List Val):Bool:=(Q3 (rB r) l vs).all id
def mem_siteSet {a b:List Int}{x:Int}:x∈kV a b↔(0<=x/\x < 60)/\(x∈a\/x∈b):=by
 unfold kV;simp only[List.mem_filter,z9,List.mem_range,J6,Qe];constructor
 .rintro ⟨⟨n,o,rfl⟩,h⟩
  exact⟨by omega,h⟩
 .rintro ⟨⟨K,Q⟩,h⟩
  exact⟨⟨x.toNat,aa,aa⟩,h⟩
def Ab(b:List Int):(kV a b).Pairwise (· < ·):=by
 unfold kV;refine Z4.filter _ ?_;rw[X7];exact List.pairwise_lt_range.imp (by intro a b h;omega)
def sR:∀{l:List Int},l.Pairwise (· < ·)->dQ l=W5
 |[],_=>rfl
 |[_],_=>rfl
 |a::b::r,h=>by
  unfold dQ;rw[Q4] at h;simp[h.1 b ae,sR h.2]
def ckGs_iff {c:lI}{g:Gs}:aH c g=0↔g.sp.Ok/\(∀x∈g.s,cJ c x=W5)/\dQ g.s=true:=by
 unfold aH;by_cases h1:cY g.sp=0
 .rw[if_neg iA]
  by_cases h2:g.s.all (cJ c)=d
  .rw[if_pos h2]
   refine⟨(λh=>bU),λh=> ?_⟩;rw[Z5.2 h.2.1] at h2;cases h2
  .rw[if_neg h2]
   have e:∀x∈g.s,cJ c x=true:=mK;by_cases K:dQ g.s=d
   .rw[if_pos K]
    exact⟨λh=>bU,λh=>(by rw[h.2.2] at K;cases K)⟩
   .rw[if_neg K]
    exact⟨λ_=>⟨ckSp_ok.1 h1,e,by simpa using K⟩,λ_=>rfl⟩
 .rw[if_pos h1]
  exact⟨λh=>absurd h h1,λh=>absurd (ckSp_ok.2 h.1) h1⟩
def eI {c:lI}{x:Int}(h:cJ c x=W5):0<=x/\x < X c:=by
 unfold cJ at h;simp only[j8,decide_eq_true_eq] at h;omega

def UH {s:Sp}{a:Int}:s.has a=W5↔s.n=d/\s.lo<=a/\a<=s.hi:=by
 unfold Sp.has;simp only[j8,x7,decide_eq_true_eq]
def fV {s t:Sp}(h:s.lo<=s.hi):gP s t=W5↔s.n=W5\/(t.n=d/\t.lo<=s.lo/\s.hi<=t.hi):=by
 unfold gP;rw[J6,j8,UH,UH];constructor
 .rintro (h|⟨⟨h1,h2,h3⟩,_,h4,h5⟩)
  .exact cA
  .exact .inr ⟨h1,h2,h5⟩
 .rintro (h|⟨h1,h2,h3⟩)
  .exact cA
  .exact .inr ⟨⟨h1,aa,aa⟩,h1,aa,aa⟩
def a3u {s t:Sp}(hs:s.Ok)(N:t.Ok):gP s (bw s t)=W5/\gP t (bw s t)=true:=by
 obtain⟨_,_,_,Q⟩:=hs;obtain⟨_,_,_,P⟩:=N;rw[fV Q,fV P];unfold bw;cases hn:s.n with
 |true=>
  simp only[if_true];cases ht':t.n with
  |true=>simp
  |false=>simp
 |false=>
  simp only[J8,if_false];cases ht':t.n with
  |true=>simp[hn]
  |false=>simp;omega
def a3s {s t:Sp}(hs:s.Ok)(N:t.Ok):gP s (bH s t)=W5/\gP t (bH s t)=true:=by
 obtain⟨⟨o,j⟩,⟨p,q⟩,_,Q⟩:=hs;obtain⟨⟨k,Z⟩,⟨e,H⟩,_,P⟩:=N;rw[fV Q,fV P];unfold bH;cases hn:s.n with
 |true=>
  simp only[if_true];cases ht':t.n with
  |true=>simp
  |false=>simp
 |false=>
  simp only[J8,if_false];cases ht':t.n with
  |true=>simp[hn]
  |false=>
   simp only[J8,if_false,false_or,true_and]
   (repeat' split)<;>omega
section
variable {c:lI} {g h:Gs} {w:Bool}
def AH (w:Bool)(g h:Gs):(aj w g h).sp=if w then bH g.sp h.sp else bw g.sp h.sp:=rfl
def rK (P:aH c g=0)(j:aH c h=0):aH c (aj w g h)=0:=by
 rw[ckGs_iff] at P j |-;refine⟨?_,λx N=> ?_,sR (Ab _ _)⟩
 .rw[AH]
  cases w
  .exact a3R P.1 j.1
  .exact a3t P.1 j.1
 .rcases (mem_siteSet.1 N).2 with h|h
  .exact P.2.1 x h
  .exact j.2.1 x h
def inGs_iff {g h:Gs}:dX g h=W5↔(g.n=W5->h.n=W5)/\(g.t=W5->h.t=W5)/\(g.f=W5->h.f=W5)/\gP g.sp h.sp=W5/\∀x∈g.s,x∈h.s:=by
 unfold dX;simp only[j8,x7,Bool.and_eq_false_imp,Bool.not_eq_false',Z5,Qe]
def AS (o:X c<=60)(P:aH c g=0)(j:aH c h=0):dX g (aj w g h)=W5/\dX h (aj w g h)=true:=by
 rw[ckGs_iff] at P j;have hs:gP g.sp (aj w g h).sp=W5/\gP h.sp (aj w g h).sp=true:=by
  rw[AH];cases w
  .exact a3u P.1 j.1
  .exact a3s P.1 j.1
 have p:∀x,x∈g.s\/x∈h.s->x∈(aj w g h).s:=λx N=>mem_siteSet.2 ⟨by
  rcases N with N|N
  .have:=eI (P.2.1 x N);omega
  .have:=eI (j.2.1 x N);omega,N⟩
 rw[inGs_iff,inGs_iff];refine⟨⟨λe=> ?_,λe=> ?_,λe=> ?_,hs.1,λx N=>p x (.inl N)⟩,⟨λe=> ?_,λe=> ?_,λe=> ?_,hs.2,λx N=>p x (.inr N)⟩⟩<;>simp[aj,e]
end

def rV {c:lI}{p:Gs->Bool}:∀{l:List (List Gs)} {i:Nat},fG c p i l=d↔∀k (h:k < X l),cJ c ((i+k:Nat):Int)=W5\/∀g∈l[k],p g=d
 |[],i=>by simp[fG]
 |r::l,i=>by
  unfold fG;rw[Bool.or_eq_false_iff,rV (l:=l)];constructor
  .rintro ⟨h,Q⟩ k hk
   cases k with
   |zero=>
    rw[Bool.and_eq_false_iff] at h;rcases h with h|h
    .exact .inl cn
    .exact .inr cn
   |succ k=>
    have:=Q k gw;rwa [show i+1+k=i+(k+1) by omega] at this
  .intro h
   refine⟨?_,λk hk=> ?_⟩
   .rw[Bool.and_eq_false_iff]
    rcases h 0 ae with h|h
    .exact .inl cn
    .exact .inr cn
   .have:=h (k+1) gw
    rwa [show i+(k+1)=i+1+k by omega] at this
def As {c:lI}:∀{l:List Gs},cG c l=0↔∀g∈l,aH c g=0
 |[]=>by simp[cG]
 |g::l=>by
  unfold cG;by_cases h:aH c g=0
  .rw[if_pos h,As]
   simp[h]
  .rw[if_neg h]
   exact⟨λe=>absurd e h,λe=>e g ae⟩
structure a7y (V F:Int) (c:lI) (x:Pic):Prop where
 none:x.none=false
 vq:(x.vq.length:Int)=V
 fq:x.fq.length=c.length
 row:∀k (h:k < x.fq.length),(x.fq[k].length:Int)=F
 gv:∀g∈x.vq,aH c g=0
 gf:∀k (h:k < x.fq.length),∀g∈x.fq[k],aH c g=0
 stray:∀k (h:k < x.fq.length),cJ c (k:Int)=true\/∀g∈x.fq[k],aq g=true
def ox {V F:Int}{c:lI}{x:Pic}(o:x.none=W5):aO V F c x=0↔x=a7q:=by
 obtain⟨n,vq,fq⟩:=x;simp only at o;subst o;unfold aO bW a7q;simp only[if_true,Pic.mk.injEq,true_and];constructor
 .intro h
  split at h
  .cases h
  .rename_i h1
   simpa using h1
 .rintro ⟨rfl,rfl⟩
  rfl
def Lg {V F:Int}{c:lI}{x:Pic}(o:x.none=d):aO V F c x=0↔a7y V F c x:=by
 obtain⟨n,vq,fq⟩:=x;simp only at o;subst o;unfold aO bW cj;simp only[J8,if_false];constructor
 .intro h
  split at h
  .cases h
  rename_i h1;split at h
  .rename_i h2;exact absurd h h2
  rename_i h2;split at h
  .cases h
  rename_i K;simp only[Q2,j8,decide_eq_true_eq,x7,Qf,decide_eq_false_iff_not,Decidable.not_not] at h1;simp only[ne_eq,Decidable.not_not] at h2;rw[As] at h2;rw[Bool.not_eq_true,rV] at K;refine⟨rfl,h1.1,h1.2.1,λk h=> ?_,λg P=>h2 g (by simp[P]),λk h g P=>h2 g ?_,λk h=> ?_⟩
  .have:=h1.2.2 _ (gM h)
   simpa using this
  .rw[j4,Qg]
   exact .inr ⟨_,gM h,P⟩
  .rcases K k h with K|K
   .exact .inl (by simpa using K)
   .exact .inr λg P=>by simpa using K g P
 .rintro ⟨-,h1,h2,K,h4,h5,N⟩
  simp only at h1 h2 K h4 h5 N;rw[if_neg,if_neg,if_neg]
  .rw[Bool.not_eq_true,rV]
   intro k h;rcases N k h with N|N
   .exact .inl (by simpa using N)
   .exact .inr λg P=>by simpa using N g P
  .rw[ne_eq,Decidable.not_not,As]
   intro g P;rw[j4,Qg] at P;rcases P with P|⟨r,e,P⟩
   .exact h4 g P
   .obtain⟨k,Z,rfl⟩:=J7 e
    exact h5 k Z g P
  .simp only[Q2,j8,decide_eq_true_eq,x7,Qf]
   refine⟨h1,h2,λr e=> ?_⟩;obtain⟨k,Z,rfl⟩:=J7 e;simpa using K k Z
section
variable {V F:Int} {c:lI} {x y:Pic} {w:Bool} {r:St}
def cO (h:aO V F c x=0)(o:x.none=d):a7y V F c x:=(Lg o).1 h
def a7y.ck (h:a7y V F c x):aO V F c x=0:=(Lg h.none).2 h
def Uc {g:Gs}:aq g=W5↔g.sp.n=W5/\g.n=d/\g.t=d/\g.f=d/\g.s=[]:=by
 unfold aq aT;simp only[j8,x7,Bool.or_eq_false_iff,decide_eq_false_iff_not,Q5,Nat.le_zero,Q0]
def PM {g h:Gs}(P:aq g=W5)(j:aq h=W5):aq (aj w g h)=true:=by
 rw[Uc] at P j |-;obtain⟨e,o,H,q,K⟩:=P;obtain⟨k,p,Q,N,Z⟩:=j;refine⟨?_,by simp[aj,o,p],by simp[aj,H,Q],by simp[aj,q,N],by simp[aj,kV,K,Z]⟩;rw[AH];cases w<;>simp[bw,bH,e,k]
section
variable {j:Gs->Gs->Gs}{a b:List Gs}
def se:X (aX j a b)=min (X a) (X b):=z3
def su{g:Gs}(h:g∈aX j a b):∃i,∃(Q:i < X a) (P:i < X b),g=j a[i] b[i]:=by
 obtain⟨i,hi,rfl⟩:=J7 h;have e:=hi;rw[se] at e;exact⟨i,aa,aa,by simp[aX]⟩
end
def a7y.join (N:a7y V F c x)(Z:a7y V F c y):a7y V F c (aI (aj w) x y):=by
 have e:aI (aj w) x y=⟨d,aX (aj w) x.vq y.vq,Q3 (aX (aj w)) x.fq y.fq⟩:=by
  unfold aI;rw[if_neg (by rw[N.none];decide),if_neg (by rw[Z.none];decide)]
 rw[e];have o:=N.vq;have l2:=Z.vq;have j:=N.fq;have q:=Z.fq;refine⟨rfl,?_,?_,λk h=> ?_,λg P=> ?_,λk h g P=> ?_,λk h=> ?_⟩
 .simp only[se];omega
 .simp only[z3];omega
 .simp only[z3] at h
  have:=N.row k aa;have:=Z.row k aa;simp only[z6,se];omega
 .obtain⟨i,Q,H,rfl⟩:=su P
  exact rK (N.gv _ (gM _)) (Z.gv _ (gM _))
 .simp only[z3] at h
  simp only[z6] at P;obtain⟨i,Q,H,rfl⟩:=su P;exact rK (N.gf k aa _ (gM _)) (Z.gf k aa _ (gM _))
 .simp only[z3] at h
  rcases N.stray k aa with a|a
  .exact .inl a
  rcases Z.stray k aa with b|b
  .exact .inl b
  right;intro g P;simp only[z6] at P;obtain⟨i,Q,H,rfl⟩:=su P;exact PM (a _ (gM _)) (b _ (gM _))
def IJ (N:aO V F c x=0)(Z:aO V F c y=0):aO V F c (aI (aj w) x y)=0:=by
 cases hn:x.none with
 |true=>unfold aI;rw[if_pos hn];exact Z
 |false=>
  cases hm:y.none with
  |true=>unfold aI;rw[if_neg BM,if_pos hm];exact N
  |false=>exact((cO N hn).join (cO Z hm)).ck
def Lq {a b:List Gs}:ix a b=W5↔∀i (Q:i < X a) (P:i < X b),dX a[i] b[i]=true:=Co
def g7 (o:x.none=d)(p:y.none=d):bu x y=W5↔(∀i (Q:i < X x.vq) (P:i < X y.vq),dX x.vq[i] y.vq[i]=W5)/\∀k (Q:k < X x.fq) (P:k < X y.fq) i (K:i < X x.fq[k]) (H:i < X y.fq[k]),dX x.fq[k][i] y.fq[k][i]=true:=by
 unfold bu;rw[o,p];simp only[Bool.false_or,Bool.not_false,Bool.true_and,j8];rw[Lq,Co];simp only[Lq]
def sK {g:Gs}(h:aH c g=0):g.sp.lo<=g.sp.hi:=(ckGs_iff.1 h).1.2.2.2
section
variable {L:List (List Gs)}{k:Nat}
def a1T(h:k < X L):L.getD k []=L[k]:=by simp[j5,z4 h]
def a0S(h:¬k < X L):L.getD k []=[]:=by simp[j5,Z7 (Q5.1 h)]
end
def vw (o:X c<=60)(N:aO V F c x=0)(Z:aO V F c y=0):bu x (aI (aj w) x y)=W5/\bu y (aI (aj w) x y)=true:=by
 have j:∀{z:Pic},aO V F c z=0->bu z z=true:=by
  intro z q;cases hn:z.none with
  |true=>simp[bu,hn]
  |false=>
   have kz:=cO q hn;rw[g7 hn hn];have sg:∀{g:Gs},aH c g=0->dX g g=true:=λP=>inGs_iff.2 ⟨id,id,id,by
    rw[fV (sK P)];rename_i g;cases e:g.sp.n with
    |true=>exact .inl rfl
    |false=>exact .inr ⟨rfl,aa,aa⟩,λ_ h=>h⟩
   exact⟨λi Q _=>sg (kz.gv _ (gM _)),λk Q _ i K _=>sg (kz.gf k Q _ (gM _))⟩
 cases hn:x.none with
 |true=>
  have e:aI (aj w) x y=y:=by unfold aI;rw[if_pos hn]
  rw[e];exact⟨by simp[bu,hn],j Z⟩
 |false=>
  cases hm:y.none with
  |true=>
   have e:aI (aj w) x y=x:=by unfold aI;rw[if_neg (by rw[hn];decide),if_pos hm]
   rw[e];exact⟨j N,by simp[bu,hm]⟩
  |false=>
   have kx:=cO N hn;have ky:=cO Z hm;have e:aI (aj w) x y=⟨d,aX (aj w) x.vq y.vq,Q3 (aX (aj w)) x.fq y.fq⟩:=by
    unfold aI;rw[if_neg BM,if_neg (by rw[hm];decide)]
   rw[e,g7 hn rfl,g7 hm rfl];refine⟨⟨λi Q h2=> ?_,λk Q h2 i K H=> ?_⟩,⟨λi Q h2=> ?_,λk Q h2 i K H=> ?_⟩⟩
   .simp only[aX,z3] at h2
    simp only[aX,z6];exact(AS o (kx.gv _ (gM _)) (ky.gv _ (gM _))).1
   .simp only[z3] at h2
    simp only[aX,z6,z3] at H;simp only[aX,z6];exact(AS o (kx.gf k Q _ (gM _)) (ky.gf k aa _ (gM _))).1
   .simp only[aX,z3] at h2
    simp only[aX,z6];exact(AS o (kx.gv _ (gM _)) (ky.gv _ (gM _))).2
   .simp only[z3] at h2
    simp only[aX,z6,z3] at H;simp only[aX,z6];exact(AS o (kx.gf k aa _ (gM _)) (ky.gf k Q _ (gM _))).2
end
def dx (F:Int)(ins:List Int)(r:St)(i:Ins)(a b:Val):St:=
 let v:=nC r ins i a b
 let r1:St:=if i.k=11 then {r with things:=r.things++[⟨r.at_,j1 F.toNat ⟨0,0⟩⟩]} else if i.k=13 then gD r a.n i.n b
  else if i.k=14 then {r with taken:=w64 (r.taken+1)} else if i.k=18 then {r with lines:=r.lines++[nI a]} else r
 if nTo i.k then nL r1 i.tgt v else r1
def iV (r:St)(i:Ins)(a:Val):Int:=if i.k=16\/(i.k=15/\cnt a=true) then i.g else r.at_+1
def Ec (r:St)(i:Ins):Int:=fR (X r.things) i (aOf r i) (bOf r i)
def WC (F:Int)(ins:List Int)(r:St)(i:Ins):St:=if Ec r i=0 then dx F ins r i (aOf r i) (bOf r i) else r
def nP:bX F c ins r=if r.fin≠0 then r else if r.at_=X c then {r with fin:=1} else if Ec r (bS c r.at_)≠0 then {r with fin:=Ec r (bS c r.at_)} else {dx F ins r (bS c r.at_) (aOf r (bS c r.at_)) (bOf r (bS c r.at_)) with at_:=iV r (bS c r.at_) (aOf r (bS c r.at_))}:=rfl

def a2n(a b:Val):(dx F ins r i a b).at_=r.at_:=by
 have h:∀q:St,q.at_=r.at_->(if nTo i.k then nL q i.tgt (nC r ins i a b) else q).at_=r.at_:=λq h=>Bp;unfold dx;simp only;apply h;split
 .rfl
 split
 .rfl
 split
 .rfl
 split<;>rfl
def a1h(a b:Val):(dx F ins r i a b).fin=r.fin:=by
 have h:∀q:St,q.fin=r.fin->(if nTo i.k then nL q i.tgt (nC r ins i a b) else q).fin=r.fin:=λq h=>Bp;unfold dx;simp only;apply h;split
 .rfl
 split
 .rfl
 split
 .rfl
 split<;>rfl

section
variable {F:Int} {ins:List Int} {r:St} {t a b n g:Int} {A C:Val}
def a5R:dx F ins r ⟨1,t,a,b,n,g⟩ A C={r with vq:=r.vq.set t.toNat ⟨1,n⟩}:=rfl
def a6E:dx F ins r ⟨2,t,a,b,n,g⟩ A C={r with vq:=r.vq.set t.toNat ⟨2,n⟩}:=rfl
def a6p:dx F ins r ⟨3,t,a,b,n,g⟩ A C={r with vq:=r.vq.set t.toNat ⟨0,0⟩}:=rfl
def a6n:dx F ins r ⟨4,t,a,b,n,g⟩ A C={r with vq:=r.vq.set t.toNat A}:=rfl
def a6j:dx F ins r ⟨5,t,a,b,n,g⟩ A C={r with vq:=r.vq.set t.toNat ⟨1,wr (A.n+C.n)⟩}:=rfl
def a5Z:dx F ins r ⟨6,t,a,b,n,g⟩ A C={r with vq:=r.vq.set t.toNat ⟨1,wr (A.n - C.n)⟩}:=rfl
def a6l:dx F ins r ⟨7,t,a,b,n,g⟩ A C={r with vq:=r.vq.set t.toNat ⟨1,wr (A.n * C.n)⟩}:=rfl
def a6w:dx F ins r ⟨8,t,a,b,n,g⟩ A C={r with vq:=r.vq.set t.toNat (eD (decide (A.n < C.n)))}:=rfl
def a6y:dx F ins r ⟨9,t,a,b,n,g⟩ A C={r with vq:=r.vq.set t.toNat (eD (decide (A.k=C.k)&&decide (A.n=C.n)))}:=rfl
def a5p:dx F ins r ⟨10,t,a,b,n,g⟩ A C={r with vq:=r.vq.set t.toNat (eD (!cnt A))}:=rfl
def a5x:dx F ins r ⟨11,t,a,b,n,g⟩ A C={r with vq:=r.vq.set t.toNat ⟨3,X r.things⟩,things:=r.things++[⟨r.at_,j1 F.toNat ⟨0,0⟩⟩]}:=rfl
def a5s:dx F ins r ⟨12,t,a,b,n,g⟩ A C={r with vq:=r.vq.set t.toNat (Bm r A.n n)}:=rfl
def a5f:dx F ins r ⟨13,t,a,b,n,g⟩ A C=gD r A.n n C:=rfl
def a5q:dx F ins r ⟨14,t,a,b,n,g⟩ A C={r with vq:=r.vq.set t.toNat ⟨1,if r.taken < X ins then rO n (ins.getD r.taken.toNat 0) else 0⟩,taken:=w64 (r.taken+1)}:=rfl
def a5P:dx F ins r ⟨18,t,a,b,n,g⟩ A C={r with lines:=r.lines++[nI A]}:=rfl
def uK (k:Int)(h:k=15\/k=16\/k=17\/k=19):dx F ins r ⟨k,t,a,b,n,g⟩ A C=r:=by rcases h with rfl|rfl|rfl|rfl<;>rfl
section
variable (T:Nat)
def ij(k:Int)(h:k=1\/k=2\/k=3\/k=4\/k=9\/k=10\/k=14\/k=15\/k=16\/k=18):fR T ⟨k,t,a,b,n,g⟩ A C=0:=by rcases h with rfl|rfl|rfl|rfl|rfl|rfl|rfl|rfl|rfl|rfl<;>rfl
def a5G:fR T ⟨17,t,a,b,n,g⟩ A C=if cnt A=W5 then 0 else 3:=by cases h:cnt A<;>simp[fR,btw,h]
def a5d:fR T ⟨19,t,a,b,n,g⟩ A C=1:=rfl
def a5M:fR T ⟨11,t,a,b,n,g⟩ A C=if T=100 then 5 else 0:=by by_cases h:T=100<;>simp[fR,btw,h]
def a0J(k:Int)(h:k=12\/k=13):fR T ⟨k,t,a,b,n,g⟩ A C=if A.k=3 then 0 else 2:=by rcases h with rfl|rfl<;>by_cases h:A.k=3<;>simp[fR,btw,h]
def Mx(k:Int)(h:k=5\/k=6\/k=7\/k=8):fR T ⟨k,t,a,b,n,g⟩ A C=if (decide (A.k≠1)||decide (C.k≠1))=W5 then 2 else 0:=by
 rcases h with rfl|rfl|rfl|rfl<;>by_cases Q:A.k=1<;>by_cases P:C.k=1<;>simp[fR,btw,Q,P]
end
end
structure Edg where
 tgt:Int
 pic:Pic
def gAt (x:Pic)(i:Int):Gs:=x.vq.getD i.toNat a4q
def bq (x:Pic)(i:Int)(g:Gs):Pic:={x with vq:=x.vq.set i.toNat g}
def fAt (x:Pic)(s n:Int):Gs:=(x.fq.getD s.toNat []).getD n.toNat a4q
def Al (x:Pic)(s n:Int)(g:Gs):Pic:={x with fq:=x.fq.modify s.toNat λr=>r.set n.toNat g}
def cE (s:Sp):Sp:=if s.n then⟨true,0,0⟩ else if (if s.hi=0 then -1 else s.hi) < (if s.lo=0 then 1 else s.lo) then⟨true,0,0⟩ else⟨false,if s.lo=0 then 1 else s.lo,if s.hi=0 then -1 else s.hi⟩
def bM (g:Gs):Gs:=⟨false,cE g.sp,g.t,false,g.s⟩
def cF (g:Gs):Gs:=⟨g.n,if g.sp.has 0 then⟨false,0,0⟩ else⟨true,0,0⟩,false,g.f,[]⟩
def ci (g:Gs):Bool:=g.n||(!g.sp.n||(g.t||g.f))
def gh (x:Pic)(n:Int)(l:List Int):Gs:=l.foldl (λg s=>aj false g (fAt x s n)) a4q
def dW (x:Pic)(n:Int)(b:Gs)(l:List Int):Pic:=l.foldl (λy s=>Al y s n (aj false (fAt y s n) b)) x
def br (i:Ins)(at_:Int)(x:Pic):Gs×Bool:=
 if i.k=1 then(⟨false,⟨false,i.n,i.n⟩,false,false,[]⟩,false)
 else if i.k=2 then(⟨false,⟨true,0,0⟩,decide (i.n=1),decide (i.n=0),[]⟩,false)
 else if i.k=3 then(dt,false)
 else if i.k=11 then(⟨false,⟨true,0,0⟩,false,false,[at_]⟩,false)
 else if i.k=12 then(gh x i.n (gAt x i.a).s,ci (gAt x i.a))
 else if i.k=14 then(⟨false,⟨false,-i.n,i.n⟩,false,false,[]⟩,false)
 else de i.k (gAt x i.a) (gAt x i.b)
def iW (at_:Int)(x:Pic):Pic:={x with fq:=x.fq.modify at_.toNat λr=>r.map λg=>{g with n:=true}}
def aD (i:Ins)(at_:Int)(x:Pic):List Edg×Bool×Bool:=
 if x.none then([],false,false)
 else if i.k=19 then([],false,false)
 else if i.k=18 then([⟨at_+1,x⟩],false,false)
 else if i.k=16 then([⟨i.g,x⟩],false,false)
 else if i.k=15 then((if cM (gAt x i.a) then [⟨i.g,bq x i.a (bM (gAt x i.a))⟩] else [])++(if dp (gAt x i.a) then [⟨at_+1,bq x i.a (cF (gAt x i.a))⟩] else []),false,false)
 else if i.k=17 then((if cM (gAt x i.a) then [⟨at_+1,bq x i.a (bM (gAt x i.a))⟩] else []),false,dp (gAt x i.a))
 else if i.k=13 then(if X (gAt x i.a).s=0 then([],ci (gAt x i.a),false) else([⟨at_+1,dW x i.n (gAt x i.b) (gAt x i.a).s⟩],ci (gAt x i.a),false))
 else if aq (br i at_ x).1 then([],(br i at_ x).2,false)
 else([⟨at_+1,bq (if i.k=11 then iW at_ x else x) i.tgt (br i at_ x).1⟩],(br i at_ x).2,false)

section
variable {V F:Int} {c:lI} {x:Pic} {g b:Gs}
section
variable (N:a7y V F c x)
def lm(i:Int):aH c (gAt x i)=0:=by
 unfold gAt;by_cases h:i.toNat < X x.vq
 .simp only[j5,z4 h,Z6]
  exact N.gv _ (gM h)
 .simp only[j5,Z7 (Q5.1 h),Qh]
  rfl
def FT(s n:Int):aH c (fAt x s n)=0:=by
 unfold fAt;by_cases h:s.toNat < X x.fq
 .rw[a1T h]
  by_cases P:n.toNat < X x.fq[s.toNat]
  .simp only[j5,z4 P,Z6]
   exact N.gf _ h _ (gM P)
  .simp only[j5,Z7 (Q5.1 P),Qh]
   rfl
 .rw[a0S h]
  rfl
def a7y.setVar(i:Int)(P:aH c g=0):a7y V F c (bq x i g):=by
 refine⟨N.none,by simpa[Go.Proofs.YtmapdpcfanecdabGreatDoor.bq] using N.vq,N.fq,N.row,λh j=> ?_,N.gf,N.stray⟩;rcases o7 j with rfl|j
 .exact P
 .exact N.gv h j
end
def kZ {L:List (List Gs)}{s k:Nat}{f:List Gs->List Gs}(h:k < X (L.modify s f)):(L.modify s f)[k]=if s=k then f (L[k]'(by simpa using h)) else L[k]'(by simpa using h):=by
 rw[Qa]
section
variable (N:a7y V F c x)
def a7y.setFld(s n:Int)(K:0<=s)(hs:cJ c s=W5)(P:aH c g=0):a7y V F c (Al x s n g):=by
 refine⟨N.none,N.vq,by simpa[Go.Proofs.YtmapdpcfanecdabGreatDoor.Al] using N.fq,λk h=> ?_,N.gv,λk h q hq=> ?_,λk h=> ?_⟩
 .have h':=DB
  show (X ((x.fq.modify s.toNat λr=>r.set n.toNat g)[k]'(by simpa using h')):Int)=F;rw[kZ];split
  .rw[z5];exact N.row k h'
  .exact N.row k h'
 .have h':=DB
  have o:=RT;rw[kZ] at o;split at o
  .rcases o7 o with rfl|o
   .exact P
   .exact N.gf k h' q o
  .exact N.gf k h' q o
 .have h':=DB
  by_cases e:s.toNat=k
  .left
   rw[<-e,Int.toNat_of_nonneg K];exact hs
  .rcases N.stray k h' with a|a
   .exact .inl a
   .right
    intro q hq;have o:=RT;rw[kZ,if_neg e] at o;exact a q o
def Er(n:Int)(l:List Int):aH c (gh x n l)=0:=by
 unfold gh;have:∀(l:List Int) (g:Gs),aH c g=0->aH c (l.foldl (λg s=>aj d g (fAt x s n)) g)=0:=by
  intro l;induction l with
  |nil=>exact λg h=>h
  |cons s l ih=>exact λg h=>ih _ (rK h (FT N s n))
 exact this l _ rfl
def At(n:Int)(H:aH c b=0):∀(l:List Int),(∀s∈l,cJ c s=W5)->a7y V F c (dW x n b l):=by
 intro l;unfold dW;induction l generalizing x with
 |nil=>exact λ_=>N
 |cons s l ih=>
  intro h;have hs:=h s ae;exact ih (N.setFld s n (eI hs).1 hs (rK (FT N s n) H)) λt e=>h t (by simp[e])
end
def iY:(⟨W5,0,0⟩:Sp).Ok:=⟨by unfold bA;simp only;omega,by unfold bA;simp only;omega,λ_=>⟨rfl,rfl⟩,Int.le_refl _⟩
def nf {lo hi:Int}(Q: -2147483648<=lo)(P:hi<=2147483647)(h:lo<=hi):(⟨d,lo,hi⟩:Sp).Ok:=⟨⟨Q,aw⟩,⟨aw,P⟩,(λh=>bU),h⟩
def Yv {s:Sp}(h:s.Ok):(cE s).Ok:=by
 obtain⟨⟨e,o⟩,⟨H,q⟩,_⟩:=h;unfold cE;split
 .exact iY
 generalize e1:(if s.hi=0 then(-1:Int) else s.hi)=hi;generalize e2:(if s.lo=0 then(1:Int) else s.lo)=lo;split
 .exact iY
 .have:hi<=2147483647:=by rw[<-e1];split<;>omega
  have: -2147483648<=lo:=by rw[<-e2];split<;>omega
  exact nf aa aa aa
def Lv (h:aH c g=0):aH c (bM g)=0:=by
 rw[ckGs_iff] at h |-;exact⟨Yv h.1,h.2⟩
def Wu (h:aH c g=0):aH c (cF g)=0:=by
 rw[ckGs_iff] at h |-;refine⟨?_,λx N=>by simp[cF] at N,rfl⟩;show (if g.sp.has 0=W5 then _ else _:Sp).Ok;split
 .exact nf aa aa aa
 .exact iY
def ii {n t f:Bool}{sp:Sp}(h:sp.Ok):aH c ⟨n,sp,t,f,[]⟩=0:=by
 rw[ckGs_iff];exact⟨h,λx N=>by simp at N,rfl⟩
def a4u {k:Int}{h:Gs}(P:aH c g=0)(j:aH c h=0):aH c (de k g h).1=0:=by
 unfold de;split
 .exact P
 split
 .exact ii iY
 split
 .rfl
 split
 .exact ii iY
 split
 .exact ii iY
 .exact ii (a5Y (ckGs_iff.1 P).1 (ckGs_iff.1 j).1)
def a7y.newPic (N:a7y V F c x){at_:Int}(K:0<=at_)(hs:cJ c at_=W5):a7y V F c (iW at_ x):=by
 refine⟨N.none,N.vq,by simpa[Go.Proofs.YtmapdpcfanecdabGreatDoor.iW] using N.fq,λk h=> ?_,N.gv,λk h q hq=> ?_,λk h=> ?_⟩
 .have h':=Eg
  show (X ((x.fq.modify at_.toNat λr=>r.map λg=>{g with n:=W5})[k]'(by simpa using h')):Int)=F;rw[kZ];split
  .rw[X4];exact N.row k h'
  .exact N.row k h'
 .have h':=Eg
  have o:=RD;rw[kZ] at o;split at o
  .obtain⟨p,j,rfl⟩:=z9.1 o
   have:=N.gf k h' p j;rw[ckGs_iff] at this |-;exact this
  .exact N.gf k h' q o
 .have h':=Eg
  by_cases e:at_.toNat=k
  .left
   rw[<-e,Int.toNat_of_nonneg K];exact hs
  .rcases N.stray k h' with a|a
   .exact .inl a
   .right
    intro q hq;have o:=RD;rw[kZ,if_neg e] at o;exact a q o
def Is {p:Int}(K:0<=p)(Q:p < X c)(Z:(bS c p).k=11):cJ c p=true:=by
 unfold cJ;unfold bS VF at Z;rw[Z];simp[K,Q]
def Iw (j:a8r V F c)(N:a7y V F c x){p:Int}(K:0<=p)(Q:p < X c):aH c (br (bS c p) p x).1=0:=by
 obtain⟨H,q,q3,q4,q5,q6,q7,q8,q9⟩:=b9 (j.each _ (nJ K Q));unfold br;split
 .rename_i h
  have:=q7 h;exact ii (nf aa aa aa)
 split
 .exact ii iY
 split
 .exact ii iY
 split
 .rename_i h
  rw[ckGs_iff];refine⟨iY,λy Z=> ?_,rfl⟩;rw[j6.1 Z];exact Is K Q h
 split
 .exact Er N _ _
 split
 .rename_i h
  have:=q9 h;exact ii (nf aa aa aa)
 .exact a4u (lm N _) (lm N _)
def Yn (j:a8r V F c)(N:aO V F c x=0){p:Int}(K:0<=p)(Q:p < X c):∀e∈(aD (bS c p) p x).1,aO V F c e.pic=0/\e.pic.none=d/\0<=e.tgt/\e.tgt<=X c:=by
 obtain⟨H,q,q3,q4,q5,q6,_⟩:=b9 (j.each _ (nJ K Q));intro e he;unfold aD at he;split at he
 .simp at he
 rename_i hn;have P:x.none=false:=mQ;have o:=cO N P;split at he
 .simp at he
 split at he
 .obtain rfl:=lS
  exact⟨N,P,aw,aw⟩
 split at he
 .rename_i h16
  have:=q6 (by simp[nG,h16]);obtain rfl:=lS;exact⟨N,P,aw,aw⟩
 split at he
 .rename_i h15
  have:=q6 (by simp[nG,h15]);simp only[j4] at he;rcases he with he|he
  .split at he
   .obtain rfl:=lS
    exact⟨(o.setVar _ (Lv (lm o _))).ck,P,aw,aw⟩
   .simp at he
  .split at he
   .obtain rfl:=lS
    exact⟨(o.setVar _ (Wu (lm o _))).ck,P,aw,aw⟩
   .simp at he
 split at he
 .simp only at he
  split at he
  .obtain rfl:=lS
   exact⟨(o.setVar _ (Lv (lm o _))).ck,P,aw,aw⟩
  .simp at he
 split at he
 .split at he
  .simp at he
  .obtain rfl:=lS
   have:=At o (bS c p).n (lm o (bS c p).b) (gAt x (bS c p).a).s ((ckGs_iff.1 (lm o _)).2.1);exact⟨this.ck,this.none,aw,aw⟩
 split at he
 .simp at he
 .obtain rfl:=lS
  have:a7y V F c (if (bS c p).k=11 then iW p x else x):=by
   split
   .rename_i jy;exact o.newPic K (Is K Q jy)
   .exact o
  have:=this.setVar (bS c p).tgt (Iw j o K Q);exact⟨this.ck,this.none,aw,aw⟩
end
end
section
open Go.RowKit
def KH(p:Int->Bool)(k:Nat)(h:k < X l):(l.drop k).any p=(p l[k]||(l.drop (k+1)).any p):=by
 rw[J3 h];rfl

def a0s(h:k < X l):x∈l.drop k↔(x=l[k]\/x∈l.drop (k+1)):=by
 rw[J3 h,z8]

section
variable (cap:Nat)(l:List Int)(w:kl)(K:X l<=9223372036854775807)(hs:yv w ss l)
def Ym:
  Calls f 196 #[U ss (X l) cap,I Y x] w λe w'=>∃n:Int,e=Rt (I Y n)/\(0<=n↔x∈l)/\w'=w:=by
 go_enter func196,ntmps196;go_wp2
 go_loop [8] (λi=>∃k:Nat,k<=X l/\i=I Y k/\Hid (x∈l↔x∈l.drop k)) (λi=>X l - (intOf i).toNat)
 case atStart=>exact⟨0,j7 _,rfl,Iff.rfl⟩
 case round=>
  obtain⟨k,Z,rfl,HA⟩:=hrel;by_cases xy:k < X l
  .obtain⟨b,N,rfl,H,hc⟩:=hs.get k xy
   have P:=bG;have o:=im;have Q:=hc k xy;have HN:=My;clear hc hs;by_cases hp:l[k]=x
   .have j:Hid (x∈l):=HA.out.2 (HN.out.2 (.inl hp.symm))
    clear HN HA;have q:(x==l[k])=true:=by simp[hp]
    go_wp2;go_ret;exact⟨_,rfl,⟨λ_=>j.out,λ_=>aa⟩,rfl⟩
   .have j:=OO
    have q:(x==l[k])=false:=by simp;exact λh=>hp h.symm
    clear HN HA;go_wp2
    go_round
    case rel=>exact⟨k+1,aa,aJ,j⟩
    case measure=>exact aK
  .go_wp2
   go_ret;exact⟨_,rfl,⟨λh=>absurd h aa,λh=>by have:=HA.out.1 h;rw[List.drop_eq_nil_of_le (by omega)] at this;cases this⟩,rfl⟩

def yK:
  Calls f 144 #[U ss (X l) cap,I Y x] w λe w'=>e=Rt (O (l.contains x))/\w'=w:=by
 go_enter func144,ntmps144;go_wp2_with fail;go_call Ym x ss cap l _ K hs as e H ⟨n,rfl,o,rfl⟩;go_wp2;go_ret;exact⟨bF ae,rfl⟩
end
def KL(p:Int->Bool)(ss:oA)(cap:Nat)(l:List Int)(w:kl)(K:X l<=9223372036854775807)(hs:yv w ss l)(hF:∀x wx,bl w wx->Calls f 224 #[I Y x,Pp (G ⟨q,0,E⟩)] wx λe w'=>e=Rt (O (p x))/\bl wx w'):
  Calls f 227 #[U ss (X l) cap,.func (.func 224) #[] #[Pp (G ⟨q,0,E⟩)]] w λe w'=>∃n:Int,e=Rt (I Y n)/\decide (0<=n)=l.any p/\bl w w':=by
 have j:=ag hF;clear hF;go_enter func227,ntmps227;go_wp2;go_loopw [8] (λi wr=>∃k:Nat,k<=X l/\i=I Y k/\bl w wr/\Hid (l.any p=(l.drop k).any p)) (λi _=>X l - (intOf i).toNat)
 case atStart=>exact⟨0,j7 _,rfl,bR _ _,rfl⟩
 case round=>
  obtain⟨k,Z,rfl,xA,HA⟩:=hrel;by_cases xy:k < X l
  .obtain⟨b,off,rfl,hb,hc⟩:=hs.get k xy
   have P:=bG;have o:=im;have s0:=xA.size;have Q:=Ep;have HN:=Fc;clear hc hs;go_wp2_with fail;go_call j.out _ _ xA as e H ⟨rfl,vZ⟩;cases hp:p l[k] with
   |true=>
    have HT:=vY;clear HN HA;go_wp2;go_ret;exact lG
   |false=>
    have HT:=tJ;clear HN HA;go_wp2;go_roundw
    case rel=>exact⟨k+1,aa,aJ,xA.trans (vZ.mono s0),HT⟩
    case measure=>exact aK
  .go_wp2
   go_ret;exact lD

def Cl(p:Int->Bool)(ss:oA)(cap:Nat)(l:List Int)(w:kl)(K:X l<=9223372036854775807)(hs:yv w ss l)(hF:∀x wx,bl w wx->Calls f 224 #[I Y x,Pp (G ⟨q,0,E⟩)] wx λe w'=>e=Rt (O (p x))/\bl wx w'):
  Calls f 200 #[U ss (X l) cap,.func (.func 224) #[] #[Pp (G ⟨q,0,E⟩)]] w λe w'=>e=Rt (O (l.any p))/\bl w w':=by
 have j:=ag hF;clear hF;go_enter func200,ntmps200;go_wp2_with fail;go_call KL q p ss cap l _ K hs j.out as e H ⟨n,rfl,o,vZ⟩;go_wp2;go_ret;exact io
def Gt(h:p:=by
 have n0:=bG;go_enter func224,ntmps224;go_wp2;go_ret;exact⟨bF KB,bR _ _⟩):=h
def MT(V F:Int)(s:oA)(c:lI)(cap:Nat)(w:kl)(j:a7w w q V F s c cap)(Z:a2r w s c)(K:X c<=60):
  Calls f 224 #[I Y x,Pp (G ⟨q,0,E⟩)] w λe w'=>e=Rt (O (!cJ c x))/\bl w w':=by
 obtain⟨⟨p0,o,P⟩,p3⟩:=j;by_cases h0:x < 0
 .have HR:Hid (cJ c x=d):=by show _=_;unfold cJ;rw[decide_eq_false aa];rfl
  go_enter func224,ntmps224;go_wp2;go_ret;exact⟨bF gS,bR _ _⟩
 by_cases Q:x < (X c:Int)
 .obtain⟨k,rfl⟩:=J2 (show 0<=x by omega)
  have hk:k < X c:=aa;obtain⟨b,N,rfl,H,hi⟩:=Z.get k hk;obtain⟨i0,-,-,-,-,-⟩:=hi k hk;have HR:Hid (cJ c k=decide (c[k].k=11)):=by
   show _=_;unfold cJ;rw[decide_eq_true (show (0:Int)<=(k:Int) by omega),decide_eq_true Q,Int.toNat_natCast,show c.getD k ⟨0,0,0,0,0,0⟩=c[k] by simp[j5,z4 hk]];simp
  clear hi Z;by_cases jy:c[k].k=11
  .have ab:(c[k].k !=11)=false:=by simp[jy]
   exact Gt
  .have ab:(c[k].k !=11)=true:=by simpa using jy
   exact Gt
 .have HR:Hid (cJ c x=d):=by show _=_;unfold cJ;rw[decide_eq_false Q];simp
  go_enter func224,ntmps224;go_wp2;go_ret;exact⟨bF gS,bR _ _⟩

def Cu(p:Int->Bool):(l.any λx=> !p x)= !l.all p:=by
 induction l with
 |nil=>rfl
 |cons a r ih=>simp only[List.any_cons,Qd,ih,Bool.not_and]

def Gd:dQ l=W5↔∀k (h:k+1 < X l),l[k] < l[k+1]:=by
 induction l with
 |nil=>simp[dQ]
 |cons a r ih=>
  cases r with
  |nil=>simp[dQ]
  |cons b t=>
   simp only[dQ,j8,decide_eq_true_eq,ih];constructor
   .rintro ⟨Q,P⟩ k hk
    cases k with
    |zero=>exact Q
    |succ k=>exact P k gw
   .intro h
    exact⟨h 0 ae,λk hk=>h (k+1) gw⟩

abbrev pgW (w:World)(V F:Int)(s:oA)(c:lI)(cap:Nat)(g:Gs)(ss:oA)(gc:Nat):World:=
 (w.alloc (Cc #[I Y V,I Y F,U s c.length cap] 24)).alloc (Cc #[O g.n,O g.sp.n,I Y g.sp.lo,I Y g.sp.hi,O g.t,O g.f,U ss g.s.length gc] 91)

def KU(cap:Nat)(g:Gs)(ss:oA)(q:Nat)(w:kl)(hc:a2r w s c)(K:X c<=60)(hs:yv w ss g.s)(P:X g.s<=9223372036854775807):
  Calls f 194 #[pv V F s c cap,gv g ss q] w λe w'=>e=Rt (I Y (aH c g))/\bl w w':=by
 have P0:a7w (pgW w V F s c cap g ss q) (R (M w)) V F s c cap:=(a7w.new w V F s c cap).alloc _;have G0:a7b (pgW w V F s c cap g ss q) (R (M w)+1) 0 g ss q:=by
  have:=a7b.new (w.alloc (Cc #[I Y V,I Y F,U s (X c) cap] 24)) g ss q;simpa using this
 have C0:a2r (pgW w V F s c cap g ss q) s c:=(hc.alloc _).alloc _;have I0:yv (pgW w V F s c cap g ss q) ss g.s:=(hs.alloc _).alloc _;have B0:n4 (R (M w)) w (pgW w V F s c cap g ss q):=ai;have HR:Hid (aH c g=if cY g.sp≠0 then cY g.sp else if g.s.all (cJ c)=d then 5 else if dQ g.s=d then 4 else 0):=rfl;go_enter func194,ntmps194;go_wp2_with fail;go_call lW g.sp _ as e w1 ⟨rfl,vZ⟩;have P1:=gF;have G1:=G0.call vZ;have C1:=C0.call vZ;have I1:=I0.call vZ;have B1:bl w w1:=B0.trans (vZ.mono au);clear vZ P0 G0 C0 I0 B0 hc hs;by_cases ad:cY g.sp=0
 .obtain⟨⟨g0,g1,g2,g3,g4,g5,g6⟩,gz⟩:=id G1
  rw[ad];go_wp2_with fail;go_call Cl (R (M w)) (λx=> !cJ c x) ss q _ _ P I1 λx wx ah=>MT x _ V F s c _ wx (P1.call ah) (C1.call ah) K as e w2 ⟨rfl,af⟩;rw[Cu];have G2:=G1.call af;have I2:=I1.call af;have B2:=B1.trans (af.mono B1.size);clear af P1 G1 C1 I1 B1 g6;obtain⟨⟨g0,g1,g2,g3,g4,g5,g6⟩,gz⟩:=id G2;cases hA:g.s.all (cJ c) with
  |false=>
   have HF:Hid (aH c g=5):=by show _=_;rw[HR.out,if_neg (by simpa using ad),if_pos hA]
   clear HR;go_wp2;go_ret;exact⟨bE HF.out.symm,B2⟩
  |true=>
   have HF:Hid (aH c g=if dQ g.s=d then 4 else 0):=by show _=_;rw[HR.out,if_neg (by simpa using ad),if_neg (by simp[hA])]
   have HQ:=ag (Gd g.s);clear HR;go_wp2;go_loopw [7] (λi wr=>∃k:Nat,1<=k/\i=I Y k/\k<=X g.s+1/\wr.cell? ⟨R (M w)+1,6,E⟩=G (U ss (X g.s) q)/\yv wr ss g.s/\bl w wr/\Hid (∀j (h:j+1 < X g.s),j+1 < k->g.s[j] < g.s[j+1])) (λi _=>X g.s+1 - (intOf i).toNat)
   case atStart=>exact⟨1,lR _,rfl,aa,g6,I2,B2,λj h Q=>aa⟩
   case round=>
    obtain⟨k,am,rfl,ao,r6,IR,BR,HK⟩:=hrel;by_cases o:k < X g.s
    .obtain⟨b,ak,rfl,H,ab⟩:=IR.get k o
     have c0:=ab (k - 1) aa;have c1:=ab k o;have t1:((k:Int) - 1).toNat=k - 1:=aa;have n0:(0:Int)<=(k:Int) - 1:=aa;have n1:(k:Int) - 1 < (X g.s:Int):=aa;have n2:=bG;have n3:(k:Int) < (X g.s:Int):=aa;clear ab;by_cases Z:g.s[k - 1] < g.s[k]
     .go_wp2
      go_quiet (fail)
      go_wp2;go_roundw
      case rel=>
       refine⟨k+1,aa,aJ,aa,?_,IR.drewN _,below_drewN BR _,λj h Q=> ?_⟩
       .rw[<-r6];exact(below_drewN (bR (R (M wr)+(R (M w)+2)) wr) _).cell au
       .by_cases e:j+1=k
        .subst e;exact Z
        .exact HK.out j h aa
      case measure=>exact aK
     .have HG:Hid (dQ g.s=d):=by
       show _=_;rw[Bool.eq_false_iff];intro N;have:=HQ.out.1 N (k - 1) aa;have e:k - 1+1=k:=aa;simp only[e] at this;exact Z this
      clear HQ;go_wp2
      go_quiet (fail)
      go_wp2;go_ret;exact⟨bE (by rw[HF.out,if_pos HG.out]),below_drewN BR _⟩
    .go_wp2
     go_ret;refine⟨bE ?_,BR⟩;rw[HF.out,if_neg];have:dQ g.s=true:=HQ.out.2 λj h=>HK.out j h aa;simp[this]
 .have HF:Hid (aH c g=cY g.sp):=by show _=_;rw[HR.out,if_pos ad]
  have al:(cY g.sp !=0)=true:=by simpa using ad
  clear HR;go_wp2;go_ret;exact⟨bE HF.out.symm,B1⟩
end
section
open Go.RowKit Go
def a7g (W W':World):Prop:=R (M W)<=R (M W')/\∀b o v,W.cell? ⟨b,o,E⟩=G v->W'.cell? ⟨b,o,E⟩=G v
section
variable {W W':World}
def a7g.ints (h:a7g W W')(q:∀b o v,W.cell? ⟨b,o,E⟩=G v->Thw W b->Thw W' b){s:oA}{l:List Int}(hi:a7c (λ_=>True) W s l):a7c (λ_=>True) W' s l:=by
 rcases hi with hi|⟨b,N,e,-,H,j⟩
 .exact .inl hi
 .cases l with
  |nil=>exact .inl rfl
  |cons a r=>exact .inr ⟨b,N,e,trivial,⟨lL H.1 h.1,q b _ _ (j 0 ae) H.2⟩,λk Z=>h.2 _ _ _ (j k Z)⟩
section
variable (h:a7g W W')(k:∀b o v,W.cell? ⟨b,o,E⟩=G v->Thw W b->Thw W' b)
def a7g.gs{s:oA}{l:List Gs}(hi:a8b (λ_=>True) W s l):a8b (λ_=>True) W' s l:=λi K=>by
 obtain⟨b,ab,e,N,ss,ad,⟨⟨Q,j,Z,p,c4,c5,c6⟩,q⟩,P,H⟩:=hi i K;exact⟨b,ab,e,⟨trivial,k b _ _ Q N.2⟩,ss,ad,⟨⟨h.2 _ _ _ Q,h.2 _ _ _ j,h.2 _ _ _ Z,h.2 _ _ _ p,h.2 _ _ _ c4,h.2 _ _ _ c5,h.2 _ _ _ c6⟩,lL q h.1⟩,h.ints k P,H⟩
def a7g.pic{x:Pic}{vs fs:oA}(j:a9s W x vs fs):a9s W' x vs fs:=⟨h.gs k j.1,λi hi=>by
 obtain⟨b,N,e,-,q,p,Z,Q,P,H,K⟩:=j.2 i hi;exact⟨b,N,e,trivial,lL q h.1,p,Z,h.2 _ _ _ Q,P,H,h.gs k K⟩⟩
end
section
variable (h:a7g W W')
def a7g.intsW{s:oA}{l:List Int}(hi:yv W s l):yv W' s l:=by
 rcases hi with hi|⟨b,N,e,H,j⟩
 .exact .inl hi
 .exact .inr ⟨b,N,e,lL H h.1,λk Z=>h.2 _ _ _ (j k Z)⟩
def a7g.gsW{s:oA}{l:List Gs}(hi:a7r W s l):a7r W' s l:=λi K=>by
 obtain⟨b,N,e,ss,o,⟨⟨Q,j,Z,p,k,c5,c6⟩,q⟩,P,H⟩:=hi i K;exact⟨b,N,e,ss,o,⟨⟨h.2 _ _ _ Q,h.2 _ _ _ j,h.2 _ _ _ Z,h.2 _ _ _ p,h.2 _ _ _ k,h.2 _ _ _ c5,h.2 _ _ _ c6⟩,lL q h.1⟩,h.intsW P,H⟩
def a7g.picW{x:Pic}{vs fs:oA}(j:a4r W x vs fs):a4r W' x vs fs:=⟨h.gsW j.1,λi hi=>by
 obtain⟨b,N,e,q,p,Z,Q,P,H,k⟩:=j.2 i hi;exact⟨b,N,e,lL q h.1,p,Z,h.2 _ _ _ Q,P,H,h.gsW k⟩⟩
end
def a7g.putObj {l:Nat}{o o':Obj}(h:W.heap[l]? =G o)(Z:o.isCells=d):a7g W (W.putObj l o'):=by
 refine⟨by simp[Qi],λb k v Q=> ?_⟩;by_cases e:b=l
 .subst e
  exfalso;simp only[Q6,h] at Q;cases o<;>simp_all[Obj.isCells]
 .rw[z7 (a:=⟨b,k,E⟩) (Q7 e)]
  exact Q
def a7g.code (h:a7g W W'){s:oA}{c:lI}(hi:a2r W s c):a2r W' s c:=by
 rcases hi with hi|⟨b,N,e,H,q⟩
 .exact .inl hi
 .refine .inr ⟨b,N,e,lL H h.1,λk Z=> ?_⟩
  obtain⟨K,Q,P,j,o,p⟩:=q k Z;exact⟨h.2 _ _ _ K,h.2 _ _ _ Q,h.2 _ _ _ P,h.2 _ _ _ j,h.2 _ _ _ o,h.2 _ _ _ p⟩
def a7g.blocks (q:R (M W)<=R (M W'))(h:∀b,b < R (M W)->W'.heap[b]? =W.heap[b]?):a7g W W':=⟨q,λb k v Q=>by
 have H:b < R (M W):=by
  apply Decidable.byContradiction;intro o;have e:W.heap[b]? =none:=au;simp only[Q6,e] at Q;cases Q
 rw[z7 (a:=⟨b,k,E⟩) (h b H)];exact Q⟩
end
structure a9c (l:Nat) (W W':World):Prop where
 far:∀q,q≠l->W'.heap[q]? =W.heap[q]?
 size:W'.heap.size=W.heap.size
 kept:a7g W W'
 low:∀{B:Nat} {a:World},B<=l->Below B a W->Below B a W'
section
variable {W W' Wa W2 W3:World} {l D:Nat} {r r':Loop}
section
variable (h:a7h W l D r)
def a7h.put(e:D≠l)(r':Loop):a7h (W.putObj l (.loop r')) l D r':=⟨Qj (z0.1 h.lp).1,(Q7 e).trans h.dfr⟩
def a7h.far(K:W'.heap[l]? =W.heap[l]?)(e:W'.heap[D]? =W.heap[D]?):a7h W' l D r:=⟨K.trans h.lp,e.trans h.dfr⟩
def a7h.round(o:Obj):a9c l W (W.putObj l o):=⟨λq hq=>Q7 hq,Bx,a7g.putObj h.lp rfl,λ{B} {a} hB hb=>by
 refine hb.trans ((bR B W).grown (grownBy_putObj' W l o) (by have:=(z0.1 h.lp).1;omega) (λk e=>by cases e;omega))⟩
end
def CF {P:Program}{fn:FuncId}{tmps:Array mh}{j:Array Tmp}{assign body:Code}{F:Fence}{m:Nat}{Q:Exit->Act->kl->Prop}{a:Act}(K:a7h W l D (dH fn tmps j assign body D .ready E))(e:D≠l)(H:bl W Wa)
  (h:∀W2,a7h W2 l D (dH fn tmps j assign body D .busy E)->a9c l Wa W2->body.wpIn F m P Q a W2):
  a7h Wa l D (dH fn tmps j assign body D .ready E)/\body.wpIn F m P Q a (Wa.putObj l (.loop (dH fn tmps j assign body D .busy E))):=
 ⟨K.below H,h _ ((K.below H).put e _) ((K.below H).round _)⟩
def a0r (hl:a7h W l D r)(H:bl W Wa)(j:a9c l Wa W2)(K:bl W2 W3):R (M W)<=R (M (W3.putObj l (.loop r)))/\∀b,b < R (M W)->(W3.putObj l (.loop r)).heap[b]? =W.heap[b]? :=by
 have z:=lT H.size (by rw[<-j.size];exact K.size);have k:=uO;refine⟨by simpa[Qi] using z,λb o=> ?_⟩;by_cases e:b=l
 .subst e
  rw[Qj aa,hl.lp]
 .rw[Q7 e,K.block b (by rw[j.size];have:=H.size;omega),j.far b e,H.block b o]
end
end
section
open Go.RowKit
def a7z (w:World)(s:oA)(l:List Thg):Prop:=
 l=[]\/∃b off,s=G ⟨b,off,E⟩/\b < R (M w)/\∀k (h:k < X l),w.cell? ⟨b,off+k * 2,E⟩=G (I Y l[k].site)/\∃f fc,w.cell? ⟨b,off+k * 2+1,E⟩=G (U f (X l[k].fs) fc)/\a7j w f l[k].fs
def a8o (w:World)(s:oA)(l:List ByteArray):Prop:=
 l=[]\/∃b off,s=G ⟨b,off,E⟩/\b < R (M w)/\∀k (h:k < X l),w.cell? ⟨b,off+k,E⟩=G (.string l[k])
def a7z.below{w w':kl}{s:oA}{l:List Thg}(h:a7z w s l)(H:n4 B w w')(j:R (M w)<=B):a7z w' s l:=by
 rcases h with h|⟨b,N,hs,o,hi⟩
 .exact cA
 .refine .inr ⟨b,N,hs,lL o H.size,λk h=> ?_⟩
  obtain⟨Q,f,fc,P,K⟩:=hi k h;exact⟨by rw[H.cell (by simp;omega)];exact Q,f,fc,by rw[H.cell (by simp;omega)];exact P,K.below H j⟩
def a8o.below{w w':kl}{s:oA}{l:List ByteArray}(h:a8o w s l)(hb:n4 B w w')(j:R (M w)<=B):a8o w' s l:=by
 rcases h with h|⟨b,off,hs,xy,hi⟩
 .exact cA
 .exact Np

def a7s (w:World)(r:St)(vs ts ls:oA):Prop:=a7j w vs r.vq/\a7z w ts r.things/\a8o w ls r.lines
def a7s.below{w w':kl}{r:St}{vs o ls:oA}(h:a7s w r vs o ls)(H:n4 B w w')(j:R (M w)<=B):a7s w' r vs o ls:=⟨h.1.below H j,h.2.1.below H j,h.2.2.below H j⟩
def dA (r:St)(vs:oA)(vc:Nat)(ts:oA)(tc:Nat)(ls:oA)(lc:Nat):Value:=
 Ag #[I Y r.at_,U vs (X r.vq) vc,U ts (X r.things) tc,I Y r.taken,U ls (X r.lines) lc,I Y r.fin]
def gY (r:St):Prop:=X r.vq<=maxLen/\X r.things<=maxLen/\X r.lines<=maxLen/\∀t∈r.things,X t.fs<=maxLen
structure a7f (w:World) (B:Nat) (s:St) (vv tv lv:Value) (fv:List Value):Prop where
 vq:a7o w B vv s.vq
 things:w.ownsRow B 84 2 tv s.things.length (cd (s.things.map (·.site)) fv)
 count:fv.length=s.things.length
 fields:∀i (h:i < s.things.length),a7o w B (fv[i]'(by rw[count];exact h)) (s.things[i].fs)
 lines:w.ownsRow B 9 1 lv s.lines.length (s.lines.map .string)
 apart:(vv.ownBlock::tv.ownBlock::lv.ownBlock::fv.map Value.ownBlock).Pairwise λa b=>∀x,a=G x->b≠G x

section
variable {w w':World} {B m:Nat} {s:St} {vv tv lv:Value} {fv:List Value}

def a7a.rows (h:a7a w B m s vv tv lv fv):a7f w B s vv tv lv fv:=
 ⟨h.vq,h.things,h.count,h.fields,h.lines,by have:=h.apart;rw[Q4] at this;exact this.2⟩

def go (vv tv lv:Value)(fv:List Value):List (Option Nat):=vv.ownBlock::tv.ownBlock::lv.ownBlock::fv.map Value.ownBlock

section
variable (h:a7f w B s vv tv lv fv)
def a7f.same(H:∀k,G k∈go vv tv lv fv->w'.heap[k]? =w.heap[k]?):a7f w' B s vv tv lv fv:=
 ⟨aG h.vq (λk Z=>H k (by simp[go,Z])),aG h.things (λk Z=>H k (by simp[go,Z])),h.count,
  λi hi=>aG (h.fields i hi) (λk Z=>H k (by
   simp only[go,z8];right;right;right;exact z9.2 ⟨_,gM _,Z⟩)),
  aG h.lines (λk Z=>H k (by simp[go,Z])),h.apart⟩

def a7f.lt{k:Nat}(Z:G k∈go vv tv lv fv):k < R (M w)/\B<=k:=by
 simp only[go,z8] at Z;rcases Z with Z|Z|Z|Z
 .exact aW h.vq Z.symm
 .exact aW h.things Z.symm
 .exact aW h.lines Z.symm
 .obtain⟨x,N,e⟩:=z9.1 Z
  obtain⟨i,hi,rfl⟩:=J7 N;exact aW (h.fields i (by rw[<-h.count];exact hi)) e

def a7f.below(H:bl w w'):a7f w' B s vv tv lv fv:=h.same λk Z=>H.block k (h.lt Z).1
def a7f.set{a:Addr}(e:a.block < B)(v:mh):a7f (w.setCell a v) B s vv tv lv fv:=by
 refine h.same λk Z=> ?_;have:=(h.lt Z).2;exact hSe _ _ _ _ aa
end
def cW {e:TypeId}{z:Nat}{v:mh}{n:Nat}{xs:List mh}{o:Nat}(h:w.ownsRow B e z v n xs)(j:o<=B):w.ownsRow o e z v n xs:=by
 obtain⟨Q,P⟩:=h;refine⟨Q,?_⟩;rcases P with P|⟨g,k,q,p,H,r⟩
 .exact .inl P
 .exact .inr ⟨g,k,q,p,lT j H,r⟩
def a7f.down {o:Nat}(h:a7f w B s vv tv lv fv)(j:o<=B):a7f w o s vv tv lv fv:=
 ⟨cW h.vq j,cW h.things j,h.count,λi hi=>cW (h.fields i hi) j,cW h.lines j,h.apart⟩

def Dk (w:World)(m:Nat)(s:St)(vv tv lv:Value):Prop:=
 (w.cell? ⟨m,0,E⟩=G (I Y s.at_)/\w.cell? ⟨m,1,E⟩=G vv/\w.cell? ⟨m,2,E⟩=G tv/\w.cell? ⟨m,3,E⟩=G (I Y s.taken)/\w.cell? ⟨m,4,E⟩=G lv/\w.cell? ⟨m,5,E⟩=G (I Y s.fin))/\∀j,w.frozen? ⟨m,j,E⟩=false

section
variable (h:a7f w B s vv tv lv fv)(Z:Dk w m s vv tv lv)
def a7f.run{o:Nat}(j:o<=B)(p:o<=m)(ab:m < B):a7a w o m s vv tv lv fv:=by
 obtain⟨⟨K,Q,P,h3,h4,h5⟩,q⟩:=Z;refine⟨p,K,Q,P,h3,h4,h5,q,cW h.vq j,cW h.things j,h.count,λi hi=>cW (h.fields i hi) j,cW h.lines j,?_⟩;rw[Q4];refine⟨λb H x N e=> ?_,h.apart⟩;cases N;have:=(h.lt (k:=m) (by unfold go;rw[<-e];exact H)).2;omega
def a7f.run'(p:B<=m)(j:G m∉go vv tv lv fv):a7a w B m s vv tv lv fv:=by
 obtain⟨⟨K,Q,P,o,h4,k⟩,q⟩:=Z;refine⟨p,K,Q,P,o,h4,k,q,h.vq,h.things,h.count,h.fields,h.lines,?_⟩;rw[Q4];refine⟨λb H x N e=> ?_,h.apart⟩;cases N;exact j (by unfold go;rw[<-e];exact H)
end
def a7o.at {v:mh}{l:List Val}(h:a7o w B v l):∃vs vc,v=U vs (X l) vc/\a7j w vs l:=by
 unfold a7o at h;rcases h.2 with⟨hv,hn⟩|⟨g,o,q,hv,H,P,_⟩
 .exact⟨E,0,m8,.inl (Z8 hn)⟩
 .subst hv
  refine⟨G ⟨g,0,E⟩,o,rfl,?_⟩;by_cases K:l=[]
  .exact .inl K
  .refine .inr ⟨g,0,rfl,(z0.1 P).1,λk Z=> ?_⟩
   rw[j3,h.cellAt (k * 2) aa,h.cellAt (k * 2+1) aa];exact⟨o8 l k Z,oJ l k Z⟩
def StrRow.at {v:mh}{l:List ByteArray}(h:w.ownsRow B 9 1 v (X l) (l.map .string)):∃vs vc,v=U vs (X l) vc/\a8o w vs l:=by
 rcases h.2 with⟨hv,hn⟩|⟨g,o,q,hv,H,P,_⟩
 .exact⟨E,0,m8,.inl (Z8 hn)⟩
 .subst hv
  refine⟨G ⟨g,0,E⟩,o,rfl,?_⟩;by_cases K:l=[]
  .exact .inl K
  .refine .inr ⟨g,0,rfl,(z0.1 P).1,λk Z=> ?_⟩
   rw[j3,h.cellAt k aa];simp[Z]
def a7f.at (h:a7f w B s vv tv lv fv):∃vs vc o j ls lc,vv=U vs (X s.vq) vc/\tv=U o (X s.things) j/\lv=U ls (X s.lines) lc/\a7s w s vs o ls:=by
 obtain⟨vs,vc,Z,Q⟩:=a7o.at h.vq;obtain⟨ls,lc,e3,h3⟩:=StrRow.at h.lines;have N:=h.things;rcases N.2 with⟨hv,hn⟩|⟨g,ab,ad,hv,H,P,_⟩
 .exact⟨vs,vc,E,0,ls,lc,Z,m8,e3,Q,.inl (Z8 hn),h3⟩
 .subst hv
  refine⟨vs,vc,G ⟨g,0,E⟩,ab,ls,lc,Z,rfl,e3,Q,?_,h3⟩;by_cases K:s.things=[]
  .exact .inl K
  .refine .inr ⟨g,0,rfl,(z0.1 P).1,λk hk=> ?_⟩
   obtain⟨f,fc,e,q⟩:=a7o.at (h.fields k hk);rw[j3,N.cellAt (k * 2) aa,N.cellAt (k * 2+1) aa];refine⟨?_,f,fc,?_,q⟩
   .rw[lz _ _ mS k gw]
    simp
   .rw[gr _ _ mS k (by rw[h.count];exact hk),e]
section
variable (h:a7a w B m s vv tv lv fv)
def a7a.thing{t:Nat}(N:t < X s.things):∃g cap,tv=U (G ⟨g,0,E⟩) (X s.things) cap/\g < R (M w)/\w.cell? ⟨g,t * 2,E⟩=G (I Y s.things[t].site)/\w.cell? ⟨g,t * 2+1,E⟩=G (fv[t]'(by rw[h.count];exact N))/\B<=g:=by
 have e:=h.things;obtain⟨g,cap,rfl,H,o⟩:=e.form aa;refine⟨g,cap,rfl,o,?_,?_,H⟩
 .rw[e.cellAt (t * 2) aa,lz _ _ mS t (by simpa using N)]
  simp
 .rw[e.cellAt (t * 2+1) aa,gr _ _ mS t (by rw[h.count];exact N)]
def a7a.field{t f:Nat}(N:t < X s.things)(q:f < X s.things[t].fs):∃g cap,fv[t]'(by rw[h.count];exact N)=U (G ⟨g,0,E⟩) (X s.things[t].fs) cap/\g < R (M w)/\w.cell? ⟨g,f * 2,E⟩=G (I Y s.things[t].fs[f].k)/\w.cell? ⟨g,f * 2+1,E⟩=G (I Y s.things[t].fs[f].n)/\(∀j,w.frozen? ⟨g,j,E⟩=d)/\B<=g:=by
 have K:=h.fields t N;unfold a7o at K;obtain⟨g,cap,e,H,o⟩:=K.form aa;rw[e] at K;refine⟨g,cap,e,o,?_,?_,λj=>K.frozenAt j,H⟩
 .rw[K.cellAt (f * 2) aa];exact o8 _ f q
 .rw[K.cellAt (f * 2+1) aa];exact oJ _ f q
end
end
def R6 (w:World)(b:Nat)(x0 x1 x2 x3 x4 x5:Value):Prop:=(w.cell? ⟨b,0,E⟩=G x0/\w.cell? ⟨b,1,E⟩=G x1/\w.cell? ⟨b,2,E⟩=G x2/\w.cell? ⟨b,3,E⟩=G x3/\w.cell? ⟨b,4,E⟩=G x4/\w.cell? ⟨b,5,E⟩=G x5)/\b < R (M w)/\∀j,w.frozen? ⟨b,j,E⟩=false
abbrev set6 (w:World)(b:Nat)(y0 y1 y2 y3 y4 y5:Value):World:=(((((w.setCell ⟨b,0,E⟩ y0).setCell ⟨b,1,E⟩ y1).setCell ⟨b,2,E⟩ y2).setCell ⟨b,3,E⟩ y3).setCell ⟨b,4,E⟩ y4).setCell ⟨b,5,E⟩ y5
section
variable {w w':World} {B b:Nat} {x0 x1 x2 x3 x4 x5:Value}
section
variable (h:R6 w b x0 x1 x2 x3 x4 x5)
def R6.same(hb:w'.heap[b]? =w.heap[b]?)(q:R (M w)<=R (M w')):R6 w' b x0 x1 x2 x3 x4 x5:=by
 have Z:=wU;have hf:=Dz;obtain⟨⟨K,Q,P,o,H,k⟩,N,e⟩:=h;exact⟨⟨(Z _).trans K,(Z _).trans Q,(Z _).trans P,(Z _).trans o,(Z _).trans H,(Z _).trans k⟩,lL N q,λj=>(hf j).trans (e j)⟩
def R6.below(H:n4 B w w')(j:b < B):R6 w' b x0 x1 x2 x3 x4 x5:=h.same (H.block b j) H.size
def R6.call(H:bl w w'):R6 w' b x0 x1 x2 x3 x4 x5:=h.below H h.2.1
end
def R6.new (w:kl)(t:TypeId)(x0 x1 x2 x3 x4 x5:mh):R6 (w.alloc (Cc #[x0,x1,x2,x3,x4,x5] t)) (R (M w)) x0 x1 x2 x3 x4 x5:=by
 refine⟨⟨?_,?_,?_,?_,?_,?_⟩,ae,λj=> ?_⟩<;>simp[go_sem]
section
variable (w:kl)(b:Nat)(q H e Q N o:mh)
def a2I(k:Nat)(Z:k≠b):(set6 w b q H e Q N o).heap[k]? =w.heap[k]? :=by
 unfold set6;rw[hSe _ _ _ _ Z,hSe _ _ _ _ Z,hSe _ _ _ _ Z,hSe _ _ _ _ Z,hSe _ _ _ _ Z,hSe _ _ _ _ Z]
def a0Z:R (M (set6 w b q H e Q N o))=R (M w):=by simp[set6,J5]
end
def gX {a:kl}(h:n4 B a w)(j:B<=b)(q H e Q N o:mh):n4 B a (set6 w b q H e Q N o):=
 (((((h.setCell (p:=⟨b,0,E⟩) j _).setCell (p:=⟨b,1,E⟩) j _).setCell (p:=⟨b,2,E⟩) j _).setCell (p:=⟨b,3,E⟩) j _).setCell (p:=⟨b,4,E⟩) j _).setCell (p:=⟨b,5,E⟩) j _
def bD {w:kl}{b i j:Nat}(h:i≠j)(y:mh):(w.setCell ⟨b,i,E⟩ y).cell? ⟨b,j,E⟩=w.cell? ⟨b,j,E⟩:=Qk _ _ _ _ (by intro e;cases e;exact h rfl)
def iC {w:kl}{b j:Nat}{u:mh}(h:w.cell? ⟨b,j,E⟩=G u)(y:mh):(w.setCell ⟨b,j,E⟩ y).cell? ⟨b,j,E⟩=G y:=J4 _ _ _ h
def R6.put (h:R6 w b x0 x1 x2 x3 x4 x5)(q H e Q N o:mh):R6 (set6 w b q H e Q N o) b q H e Q N o:=by
 obtain⟨⟨K,h1,P,Z,h4,k⟩,h6,h7⟩:=h;refine⟨⟨?_,?_,?_,?_,?_,?_⟩,by rw[a0Z];exact h6,λj=>by simp only[set6,Q8];exact h7 j⟩
 .unfold set6
  rw[bD aa,bD aa,bD aa,bD aa,bD aa];exact iC K _
 .unfold set6
  rw[bD aa,bD aa,bD aa,bD aa];exact iC KW _
 .unfold set6
  rw[bD aa,bD aa,bD aa];exact iC (by rw[bD (by omega),bD (by omega)];exact P) _
 .unfold set6
  rw[bD aa,bD aa];exact iC (by rw[bD (by omega),bD (by omega),bD (by omega)];exact Z) _
 .unfold set6
  rw[bD aa];exact iC (by rw[bD (by omega),bD (by omega),bD (by omega),bD (by omega)];exact h4) _
 .unfold set6
  exact iC (by rw[bD (by omega),bD (by omega),bD (by omega),bD (by omega),bD (by omega)];exact k) _
section
variable {s:St}{vv tv lv:mh}{fv:List mh}
def a7a.r6(h:a7a w B b s vv tv lv fv):R6 w b (I Y s.at_) vv tv (I Y s.taken) lv (I Y s.fin):=⟨⟨h.at_,h.vars_,h.things_,h.taken_,h.lines_,h.fin_⟩,h.lt fL,h.thaw⟩
def a7f.set6(h:a7f w B s vv tv lv fv)(H:b < B)(q p j Q N o:mh):a7f (set6 w b q p j Q N o) B s vv tv lv fv:=by
 refine h.same λk Z=>a2I _ _ _ _ _ _ _ _ k (λe=> ?_);have:=(h.lt Z).2;omega
end
def Im {v g:Nat}(H:v<=8)(h:w.ownsRow B 82 2 (U (G ⟨g,0,E⟩) v v) v (cw (j1 v ⟨0,0⟩))):a7f w B (bQ v) (U (G ⟨g,0,E⟩) v v) (U E 0 0) (U E 0 0) []:=by
 refine⟨?_,Ql _ _ _ _,rfl,λi hi=>by simp[bQ] at hi,Ql _ _ _ _,kL⟩;unfold a7o;simpa[bQ] using h
end
def bd (w:World)(b:Nat):Nat->List Value->World
 |_,[]=>w
 |i,y::ys=>bd (w.setCell ⟨b,i,E⟩ y) b (i+1) ys
def Em (b k:Nat)(Z:k≠b):∀(o:List mh) (i:Nat) (w:kl),(bd w b i o).heap[k]? =w.heap[k]?
 |[],_,_=>rfl
 |y::o,i,w=>by
  show (bd (w.setCell ⟨b,i,E⟩ y) b (i+1) o).heap[k]? =_;rw[Em b k Z o (i+1) _,hSe _ _ _ _ Z]
def Li (b:Nat):∀(o:List mh) (i:Nat) (w:kl),R (M (bd w b i o))=R (M w)
 |[],_,_=>rfl
 |y::o,i,w=>by
  show R (M (bd (w.setCell ⟨b,i,E⟩ y) b (i+1) o))=_;rw[Li b o (i+1) _];simp[J5]
def CE (b j:Nat):∀(o:List mh) (i:Nat) (w:kl),(bd w b i o).frozen? ⟨b,j,E⟩=w.frozen? ⟨b,j,E⟩
 |[],_,_=>rfl
 |y::o,i,w=>by
  show (bd (w.setCell ⟨b,i,E⟩ y) b (i+1) o).frozen? _=_;rw[CE b j o (i+1) _,Q8]
def wL{a:kl}(b:Nat)(j:B<=b):∀(o:List mh) (i:Nat) (w:kl),n4 B a w->n4 B a (bd w b i o)
 |[],_,_,h=>h
 |y::o,i,w,h=>wL b j o (i+1) _ (h.setCell (p:=⟨b,i,E⟩) j y)
def ME (b j:Nat):∀(o:List mh) (i:Nat) (w:kl),j < i->(bd w b i o).cell? ⟨b,j,E⟩=w.cell? ⟨b,j,E⟩
 |[],_,_,_=>rfl
 |y::o,i,w,h=>by
  show (bd (w.setCell ⟨b,i,E⟩ y) b (i+1) o).cell? _=_;rw[ME b j o (i+1) _ aa,bD aa]
def Lk (b:Nat):∀(o:List mh) (i:Nat) (w:kl) (_:∀j,j < i+X o->(w.cell? ⟨b,j,E⟩).isSome=W5) (j:Nat) (hj:j < X o),(bd w b i o).cell? ⟨b,i+j,E⟩=G o[j]
 |[],_,_,_,_,hj=>by simp at hj
 |y::o,i,w,h,j,hj=>by
  show (bd (w.setCell ⟨b,i,E⟩ y) b (i+1) o).cell? _=_;have hs:∀j,j < i+1+X o->((w.setCell ⟨b,i,E⟩ y).cell? ⟨b,j,E⟩).isSome=true:=λj hj=>by
   have k:=h j au;by_cases e:i=j
   .subst e
    obtain⟨u,q⟩:=Qm.1 k;rw[iC q];rfl
   .rw[bD e]
    exact k
  cases j with
  |zero=>
   show (bd (w.setCell ⟨b,i,E⟩ y) b (i+1) o).cell? ⟨b,i,E⟩=_;rw[ME b i o (i+1) _ aa];obtain⟨u,q⟩:=Qm.1 (h i ae);rw[iC q];rfl
  |succ j=>
   have:=Lk b o (i+1) (w.setCell ⟨b,i,E⟩ y) hs j td;rw[show i+1+j=i+(j+1) by omega] at this;exact this
def La(p:Int->Bool)(ss:oA)(cap:Nat)(l:List Int)(w:kl)(K:X l<=9223372036854775807)(hs:yv w ss l)(hF:∀x wx,bl w wx->Calls f 199 #[I Y x,Pp (G ⟨q,0,E⟩)] wx λe w'=>e=Rt (O (p x))/\bl wx w'):
  Calls f 227 #[U ss (X l) cap,.func (.func 199) #[] #[Pp (G ⟨q,0,E⟩)]] w λe w'=>∃n:Int,e=Rt (I Y n)/\decide (0<=n)=l.any p/\bl w w':=by
 have j:=ag hF;clear hF;go_enter func227,ntmps227;go_wp2;go_loopw [8] (λi wr=>∃k:Nat,k<=X l/\i=I Y k/\bl w wr/\Hid (l.any p=(l.drop k).any p)) (λi _=>X l - (intOf i).toNat)
 case atStart=>exact⟨0,j7 _,rfl,bR _ _,rfl⟩
 case round=>
  obtain⟨k,Z,rfl,xA,HA⟩:=hrel;by_cases xy:k < X l
  .obtain⟨b,off,rfl,hb,hc⟩:=hs.get k xy
   have P:=bG;have o:=im;have s0:=xA.size;have Q:=Ep;have HN:=Fc;clear hc hs;go_wp2_with fail;go_call j.out _ _ xA as e H ⟨rfl,vZ⟩;cases hp:p l[k] with
   |true=>
    have HT:=vY;clear HN HA;go_wp2;go_ret;exact lG
   |false=>
    have HT:=tJ;clear HN HA;go_wp2;go_roundw
    case rel=>exact⟨k+1,aa,aJ,xA.trans (vZ.mono s0),HT⟩
    case measure=>exact aK
  .go_wp2
   go_ret;exact lD

def dm(p:Int->Bool)(ss:oA)(cap:Nat)(l:List Int)(w:kl)(K:X l<=9223372036854775807)(hs:yv w ss l)(hF:∀x wx,bl w wx->Calls f 199 #[I Y x,Pp (G ⟨q,0,E⟩)] wx λe w'=>e=Rt (O (p x))/\bl wx w'):
  Calls f 200 #[U ss (X l) cap,.func (.func 199) #[] #[Pp (G ⟨q,0,E⟩)]] w λe w'=>e=Rt (O (l.any p))/\bl w w':=by
 have j:=ag hF;clear hF;go_enter func200,ntmps200;go_wp2_with fail;go_call La q p ss cap l _ K hs j.out as e H ⟨n,rfl,o,vZ⟩;go_wp2;go_ret;exact io
def DM(p:Int->Bool)(ss:oA)(cap:Nat)(l:List Int)(w:kl)(K:X l<=9223372036854775807)(hs:yv w ss l)(hF:∀x wx,bl w wx->Calls f 234 #[I Y x,Pp (G ⟨q,0,E⟩)] wx λe w'=>e=Rt (O (p x))/\bl wx w'):
  Calls f 227 #[U ss (X l) cap,.func (.func 234) #[] #[Pp (G ⟨q,0,E⟩)]] w λe w'=>∃n:Int,e=Rt (I Y n)/\decide (0<=n)=l.any p/\bl w w':=by
 have j:=ag hF;clear hF;go_enter func227,ntmps227;go_wp2;go_loopw [8] (λi wr=>∃k:Nat,k<=X l/\i=I Y k/\bl w wr/\Hid (l.any p=(l.drop k).any p)) (λi _=>X l - (intOf i).toNat)
 case atStart=>exact⟨0,j7 _,rfl,bR _ _,rfl⟩
 case round=>
  obtain⟨k,Z,rfl,xA,HA⟩:=hrel;by_cases xy:k < X l
  .obtain⟨b,off,rfl,hb,hc⟩:=hs.get k xy
   have P:=bG;have o:=im;have s0:=xA.size;have Q:=Ep;have HN:=Fc;clear hc hs;go_wp2_with fail;go_call j.out _ _ xA as e H ⟨rfl,vZ⟩;cases hp:p l[k] with
   |true=>
    have HT:=vY;clear HN HA;go_wp2;go_ret;exact lG
   |false=>
    have HT:=tJ;clear HN HA;go_wp2;go_roundw
    case rel=>exact⟨k+1,aa,aJ,xA.trans (vZ.mono s0),HT⟩
    case measure=>exact aK
  .go_wp2
   go_ret;exact lD

def cV(p:Int->Bool)(ss:oA)(cap:Nat)(l:List Int)(w:kl)(K:X l<=9223372036854775807)(hs:yv w ss l)(hF:∀x wx,bl w wx->Calls f 234 #[I Y x,Pp (G ⟨q,0,E⟩)] wx λe w'=>e=Rt (O (p x))/\bl wx w'):
  Calls f 200 #[U ss (X l) cap,.func (.func 234) #[] #[Pp (G ⟨q,0,E⟩)]] w λe w'=>e=Rt (O (l.any p))/\bl w w':=by
 have j:=ag hF;clear hF;go_enter func200,ntmps200;go_wp2_with fail;go_call DM q p ss cap l _ K hs j.out as e H ⟨n,rfl,o,vZ⟩;go_wp2;go_ret;exact io
end
section
open Go.RowKit
attribute [local go_sem ↓] Go.wp_at_zero Go.wp_at_succ
def aL(h:p):Hid p:=h

def a7p (w w':World)(B m:Nat)(bs:List (Option Nat))(s:St):Prop:=(∃vv tv lv fv,a7a w' B m s vv tv lv fv)/\Below B w w'/\(∀j,6<=j->w'.cell? ⟨m,j,E⟩=w.cell? ⟨m,j,E⟩)/\∀k,k < R (M w)->G k∉bs->w'.heap[k]? =w.heap[k]?
def dU{p:kl}{bs:List (Option Nat)}(q:bl w p){g:Nat}(P:G g∈bs)(j K:Nat)(u H:mh):∀k,k < R (M w)->G k∉bs->((p.setCell ⟨g,j,E⟩ u).setCell ⟨g,K,E⟩ H).heap[k]? =w.heap[k]? :=λk Z o=>by
 rw[rN _ _ _ _ _ _ k (λe=>o (by rw[e];exact P))];exact q.block k Z
def ed{p:kl}{bs:List (Option Nat)}(q:bl w p):∀k,k < R (M w)->G k∉bs->p.heap[k]? =w.heap[k]? :=λk Z _=>q.block k Z
def dl{w1 N:kl}{bs:List (Option Nat)}(Q:∀k,k < R (M w)->G k∉bs->w1.heap[k]? =w.heap[k]?)(hs:R (M w)<=R (M w1))(P:∀k,k < R (M w1)->G k∉bs->N.heap[k]? =w1.heap[k]?):∀k,k < R (M w)->G k∉bs->N.heap[k]? =w.heap[k]? :=λk Z o=>by
 rw[P k (lL Z hs) o,Q k Z o]
def GQ{w3:kl}{bs:List (Option Nat)}{q:Option Nat}(P:w.grownBy w3 q)(H:∀k,q=G k->G k∈bs){m:Nat}(p:G m∈bs)(j:Nat)(u:mh):∀k,k < R (M w)->G k∉bs->(w3.setCell ⟨m,j,E⟩ u).heap[k]? =w.heap[k]? :=λk Z o=>by
 rw[hSe _ _ _ _ (λe=>o (by rw[e];exact p))];exact P.block k Z (λe=>o (H k e.symm))
def nS{bs:List (Option Nat)}{m:Nat}(p:G m∈bs)(j:Nat)(u:mh):∀k,k < R (M w)->G k∉bs->(w.setCell ⟨m,j,E⟩ u).heap[k]? =w.heap[k]? :=λk Z o=>
 hSe _ _ _ _ (λe=>o (by rw[e];exact p))
def Pd:wrap64 n=w64 n:=by unfold wrap64 w64;omega
def gT (ins:List Int)(tk lim:Int):Int:=if tk < X ins then rO lim (ins.getD tk.toNat 0) else 0
def a0w(B:Nat)(s:St)(vv tv lv:mh)(fv:List mh)(j:Int)(is:oA)(ic:Nat)(ins:List Int)(w:kl)(h:a7a w B m s vv tv lv fv)(P:0<=j)(K:j<=1000000)(Q:w.cell? ⟨m,9,E⟩=G (U is (X ins) ic))(hi:yv w is ins)(q:0<=s.taken):
  Calls f 151 #[Pp (G ⟨m,0,E⟩),I Y j] w λe w'=>e=Rt (I Y (gT ins s.taken j))/\∃w1,bl w w1/\w'=w1.setCell ⟨m,3,E⟩ (I Y (w64 (s.taken+1))):=by
 have q3:=h.taken_;have fz:=h.thaw 3;by_cases o:s.taken < X ins
 .obtain⟨k,Z⟩:=J2 q
  have ab:k < X ins:=aa;rcases hi with hi|⟨b,N,rfl,H,hi⟩
  .rw[hi] at ab;simp at ab
  have c0:=hi k ab;have n0:=bG;have n1:(k:Int) < (X ins:Int):=aa;have HR:Hid (gT ins s.taken j=rO j ins[k]):=by
   show _=_;unfold gT;rw[if_pos o,Z];simp[j5,z4 ab]
  have HT:Hid (w64 (s.taken+1)=wrap64 (k+1)):=by show _=_;rw[Z,Pd]
  rw[Z] at q3;rw[HT.out];clear hi o Z q h HT;go_enter func151,ntmps151;go_wp2
  go_quiet (fail)
  go_wp2
  go_quiet (fail)
  go_wp2;all_goals
   go_ret;refine⟨bE ?_,_,?_,rfl⟩
   .rw[HR.out]
    unfold rO;first|omega|(split<;>first|omega|(split<;>omega))
   .exact below_drewN (bR _ _) _
 .have HR:Hid (gT ins s.taken j=0):=by show _=_;unfold gT;rw[if_neg o]
  rw[HR.out];have HT:Hid (w64 (s.taken+1)=wrap64 (s.taken+1)):=by show _=_;rw[Pd]
  rw[HT.out];clear hi q h HT;go_enter func151,ntmps151;go_wp2
  go_quiet (fail)
  go_wp2;all_goals
   go_ret;refine⟨bE ?_,_,?_,rfl⟩
   .first|rfl|omega
   .exact below_drewN (bR _ _) _
def a7z.list{s:oA}{l:List Thg}(h:a7z w s l):∃e:List mh,X e=X l/\(∀k (h:k < X l) (Q:k < X e),∃f fc,e[k]=U f (X l[k].fs) fc/\a7j w f l[k].fs)/\(l=[]\/∃b N,s=G ⟨b,N,E⟩/\b < R (M w)/\∀k (h:k < X l) (Q:k < X e),w.cell? ⟨b,N+k * 2,E⟩=G (I Y l[k].site)/\w.cell? ⟨b,N+k * 2+1,E⟩=G e[k]):=by
 rcases h with rfl|⟨b,N,rfl,H,hi⟩
 .exact⟨[],rfl,λk h=>fk,.inl rfl⟩
 .have j:∀k,∃v:mh,∀h:k < X l,(∃f fc,v=U f (X l[k].fs) fc/\a7j w f l[k].fs)/\w.cell? ⟨b,N+k * 2+1,E⟩=G v:=by
   intro k;by_cases Z:k < X l
   .obtain⟨-,f,fc,P,K⟩:=hi k Z
    exact⟨U f (X l[k].fs) fc,λ_=>⟨⟨f,fc,rfl,K⟩,P⟩⟩
   .exact⟨I Y 0,λh=>absurd h Z⟩
  refine⟨(List.range (X l)).map λk=>Classical.choose (j k),ae,λk h Q=> ?_,.inr ⟨b,N,rfl,H,λk h Q=>⟨(hi k h).1,?_⟩⟩⟩
  .simp only[x8,Z1]
   exact(Classical.choose_spec (j k) h).1
  .simp only[x8,Z1]
   exact(Classical.choose_spec (j k) h).2
def Rf (ss:List Int)(fs:List mh)(h:X fs=X ss)(j:Nat)(u:mh)(q:(cd ss fs)[j]? =G u):∃k,∃Q:k < X ss,∃P:k < X fs,(j=k * 2/\u=I Y ss[k])\/(j=k * 2+1/\u=fs[k]):=by
 have K:j < X ss * 2:=by
  have:=(x9.1 q).1;rw[i8 ss fs h] at this;exact this
 have Z:j / 2 < X ss:=aa;have o:j / 2 < X fs:=aa;refine⟨j / 2,Z,o,?_⟩;rcases Qn j with H|H
 .left
  have e:j=j / 2 * 2:=aa;refine⟨e,?_⟩;have:=lz ss fs h (j / 2) Z;rw[<-e,q] at this;exact Q9.inj this
 .right
  have e:j=j / 2 * 2+1:=aa;refine⟨e,?_⟩;have:=gr ss fs h (j / 2) o;rw[<-e,q] at this;exact Q9.inj this
def Og (l:List Val)(j:Nat)(u:mh)(q:(cw l)[j]? =G u):∃k,∃h:k < X l,(j=k * 2/\u=I Y l[k].k)\/(j=k * 2+1/\u=I Y l[k].n):=by
 have K:j < X l * 2:=by
  have:=(x9.1 q).1;rw[g9 l] at this;exact this
 have Z:j / 2 < X l:=aa;refine⟨j / 2,Z,?_⟩;rcases Qn j with o|o
 .left
  have e:j=j / 2 * 2:=aa;refine⟨e,?_⟩;have:=o8 l (j / 2) Z;rw[<-e,q] at this;exact Q9.inj this
 .right
  have e:j=j / 2 * 2+1:=aa;refine⟨e,?_⟩;have:=oJ l (j / 2) Z;rw[<-e,q] at this;exact Q9.inj this
def Au:∀(ss:List Int) (fs:List mh) (_:X fs=X ss) (i:Nat) (_:i < X fs) (v:mh),(cd ss fs).set (i * 2+1) v=cd ss (fs.set i v)
 |[],[],_,_,h,_=>fk
 |[],_::_,h,_,_,_=>fk
 |_::_,[],h,_,_,_=>fk
 |_::_,_::_,_,0,_,_=>rfl
 |a::ss,b::fs,h,i+1,hi,v=>by
  have:=Au ss fs cn i gA v;rw[show (i+1) * 2+1=(i * 2+1)+1+1 by omega];simp only[cd,X6,this]
section
variable {s:oA}{l:List Val}(h:a7j w s l)
def a7j.news:∀o,s=G o->∀j u,(cw l)[j]? =G u->w.cell? (o.add j)=G u:=by
 intro o hs j u q;rcases h with rfl|⟨b,off,rfl,H,hi⟩
 .simp[cw] at q
 .cases hs
  obtain⟨k,Z,⟨rfl,rfl⟩|⟨rfl,rfl⟩⟩:=Og l j u q
  .have e:=Se
   rw[e];exact(hi k Z).1
  .have e:=Ou
   rw[e];exact(hi k Z).2
def a7j.nil:s=none->X l=0:=by
 rintro rfl;rcases h with rfl|⟨b,N,h,_⟩
 .rfl
 .cases h
end
section
variable {s:oA}{l:List ByteArray}(h:a8o w s l)
def a8o.news:∀o,s=G o->∀j u,(l.map Value.string)[j]? =G u->w.cell? (o.add j)=G u:=by
 intro o hs j u q;rcases h with rfl|⟨b,N,rfl,H,hi⟩
 .simp at q
 .cases hs
  have K:j < X l:=by have:=(x9.1 q).1;simpa using this
  have e:(⟨b,N,E⟩:Addr).add j=⟨b,N+j,E⟩:=By;rw[e,hi j K];simpa[K] using q
def a8o.nil:s=none->X l=0:=by
 rintro rfl;rcases h with rfl|⟨b,N,h,_⟩
 .rfl
 .cases h
end
def a7z.nil{s:oA}{l:List Thg}(h:a7z w s l):s=none->X l=0:=by
 rintro rfl;rcases h with rfl|⟨b,N,h,_⟩
 .rfl
 .cases h
def DY (l:List Val):∀u∈cw l,u.oneCell'=true:=by
 induction l with
 |nil=>intro u q;cases q
 |cons v r ih=>
  intro u q;simp only[cw,z8] at q;rcases q with rfl|rfl|q
  .rfl
  .rfl
  .exact ih u q
def MG (l:List ByteArray):∀u∈l.map Value.string,u.oneCell'=true:=by
 intro u q;obtain⟨x,_,rfl⟩:=z9.1 q;rfl
def Px:∀(ss:List Int) (fs:List mh) (_:∀v∈fs,v.oneCell'=W5),∀u∈cd ss fs,u.oneCell'=W5
 |[],_,_,u,q=>by simp[cd] at q
 |_::_,[],_,u,q=>by simp[cd] at q
 |a::ss,b::fs,h,u,q=>by
  simp only[cd,z8] at q;rcases q with rfl|rfl|q
  .rfl
  .exact h _ ae
  .exact Px ss fs (λv Q=>h v (by simp[Q])) u q
end
section
open Go.RowKit
def VAt (w:World)(b:Nat)(v:Val):Prop:=(w.cell? ⟨b,0,E⟩=G (I Y v.k)/\w.cell? ⟨b,1,E⟩=G (I Y v.n))/\b < R (M w)/\∀j,w.frozen? ⟨b,j,E⟩=false
section
variable {w w':World} {B b c:Nat} {v u:Val}
section
variable (h:VAt w b v)
def VAt.same(H:w'.heap[b]? =w.heap[b]?)(q:R (M w)<=R (M w')):VAt w' b v:=by
 obtain⟨⟨K,Q⟩,P,e⟩:=h;exact⟨⟨by rw[z7 (a:=⟨b,0,E⟩) H];exact K,by rw[z7 (a:=⟨b,1,E⟩) H];exact Q⟩,lL P q,λj=>by rw[World.frozen?_of_block (a:=⟨b,j,E⟩) H];exact e j⟩
def VAt.below(H:n4 B w w')(j:b < B):VAt w' b v:=h.same (H.block b j) H.size
def VAt.call(H:bl w w'):VAt w' b v:=h.below H h.2.1
end
def VAt.new (w:kl)(v:Val):VAt (w.alloc (Cc #[I Y v.k,I Y v.n] 82)) (R (M w)) v:=by
 refine⟨⟨?_,?_⟩,ae,λj=> ?_⟩<;>simp[go_sem]
def VAt.put (h:VAt w b v)(u:Val):VAt ((w.setCell ⟨b,0,E⟩ (I Y u.k)).setCell ⟨b,1,E⟩ (I Y u.n)) b u:=by
 obtain⟨⟨K,h1⟩,P,k⟩:=h;have Z:(w.setCell ⟨b,0,E⟩ (I Y u.k)).cell? ⟨b,1,E⟩=G (I Y v.n):=Kf;refine⟨⟨?_,J4 _ _ _ Z⟩,by simpa[J5] using P,λj=>by rw[Q8,Q8];exact k j⟩;rw[Qk _ _ _ _ (by intro e;cases e)];exact J4 _ _ _ K
def VAt.set (h:VAt w b v){a:Addr}(e:a.block≠b)(x:mh):VAt (w.setCell a x) b v:=h.same (hSe _ _ _ _ (Ne.symm e)) bI
end
def Tw(ar:oA)(a0:Nat)(ak:oA)(af:Nat)(j:oA)(am:Nat)(ay:oA)(a5:Nat)(al:oA)(ah:Nat)(H:oA)(ao:Nat)(w:kl)(hl:gY r)(h1:a7s w r ar ak j)(h2:a7s w r ay al H):
  Calls f 35 #[dA r ar a0 ak af j am,dA r ay a5 al ah H ao] w λe w'=>e=Rt (O W5)/\bl w w':=by
 obtain⟨bz,cb,b6,bv⟩:=hl;have hm:=iT;have xO:n4 (R (M w)) w ((w.alloc (Cc #[I Y r.at_,U ar (X r.vq) a0,U ak (X r.things) af,I Y r.taken,U j (X r.lines) am,I Y r.fin] 33)).alloc (Cc #[I Y r.at_,U ay (X r.vq) a5,U al (X r.things) ah,I Y r.taken,U H (X r.lines) ao,I Y r.fin] 33)):=ai;have hA:∀wx,n4 (R (M ((w.alloc (Cc #[I Y r.at_,U ar (X r.vq) a0,U ak (X r.things) af,I Y r.taken,U j (X r.lines) am,I Y r.fin] 33)).alloc (Cc #[I Y r.at_,U ay (X r.vq) a5,U al (X r.things) ah,I Y r.taken,U H (X r.lines) ao,I Y r.fin] 33)))) ((w.alloc (Cc #[I Y r.at_,U ar (X r.vq) a0,U ak (X r.things) af,I Y r.taken,U j (X r.lines) am,I Y r.fin] 33)).alloc (Cc #[I Y r.at_,U ay (X r.vq) a5,U al (X r.things) ah,I Y r.taken,U H (X r.lines) ao,I Y r.fin] 33)) wx->(wx.cell? ⟨R (M w),2,E⟩=G (U ak (X r.things) af)/\wx.cell? ⟨R (M w)+1,2,E⟩=G (U al (X r.things) ah))/\(wx.cell? ⟨R (M w),4,E⟩=G (U j (X r.lines) am)/\wx.cell? ⟨R (M w)+1,4,E⟩=G (U H (X r.lines) ao)):=by
  intro wx N;rw[N.cell au,N.cell ae,N.cell au,N.cell ae];refine⟨⟨?_,?_⟩,?_,?_⟩<;>simp[go_sem]
 have a8:=h1.below xO (lR _);have a9:=h2.below xO (lR _);clear h1 h2;unfold dA;go_enter func35,ntmps35;go_wp2_with fail;have hS:=sE ar ay a0 a5 _ _ bz a8.1 a9.1;go_call hS as e w1 ⟨rfl,vZ⟩;clear hS;have T1:=a8.2.1.below vZ (lR _);have T2:=a9.2.1.below vZ (lR _);have L1:=a8.2.2.below vZ (lR _);have L2:=a9.2.2.below vZ (lR _);have H1:=kB;have z1:R (M w)+1 < R (M w1):=lV;obtain⟨⟨a2,b2⟩,a4,b4⟩:=hA w1 vZ;clear hA a8 a9 vZ xO;go_wp2;go_loopw [5] (λi wr=>∃k:Nat,k<=X r.things/\i=I Y k/\bl w1 wr) (λi _=>X r.things - (intOf i).toNat)
 case atStart=>exact⟨0,j7 _,rfl,bR _ _⟩
 case round=>
  obtain⟨k,Z,rfl,ab⟩:=hrel;have bt:wr.cell? ⟨R (M w),2,E⟩=G (U ak (X r.things) af):=by rw[ab.cell (by simp;omega)];exact a2
  have bs:wr.cell? ⟨R (M w)+1,2,E⟩=G (U al (X r.things) ah):=by rw[ab.cell (by simpa using z1)];exact b2
  by_cases ap:k < X r.things
  .have n0:=cQ
   have n1:=EI;rcases T1 with T1|⟨p1,q1,rfl,a7,az⟩
   .rw[T1] at ap;simp at ap
   rcases T2 with T2|⟨p2,q2,rfl,a6,a1⟩
   .rw[T2] at ap;simp at ap
   obtain⟨s1,f1,ba,g1,V1⟩:=az k ap;obtain⟨s2,f2,bb,g2,V2⟩:=a1 k ap;have bg:=bv _ (gM ap);generalize r.things[k].site=st at *;generalize r.things[k].fs=fl at *;have KS:∀wx,bl w1 wx->(λwx=>wx.cell? ⟨R (M w),2,E⟩=G (U (G ⟨p1,q1,E⟩) (X r.things) af)/\wx.cell? ⟨R (M w)+1,2,E⟩=G (U (G ⟨p2,q2,E⟩) (X r.things) ah)/\wx.cell? ⟨p1,q1+k * 2,E⟩=G (I Y st)/\wx.cell? ⟨p2,q2+k * 2,E⟩=G (I Y st)/\wx.cell? ⟨p1,q1+k * 2+1,E⟩=G (U f1 (X fl) ba)/\wx.cell? ⟨p2,q2+k * 2+1,E⟩=G (U f2 (X fl) bb)) wx:=λwx N=>⟨by rw[N.cell (by simp;omega)];exact a2,by rw[N.cell (by simpa using z1)];exact b2,by rw[N.cell (by simpa using a7)];exact s1,by rw[N.cell (by simpa using a6)];exact s2,by rw[N.cell (by simpa using a7)];exact g1,by rw[N.cell (by simpa using a6)];exact g2⟩;clear az a1 s1 s2 g1 g2;go_wp2;refine XL ac KS ab.drew (λbm=> ?_);have a3:=ab.drew;clear ab bt bs;generalize wr.drew=wd at *;refine QT ?_;refine QW ?_;refine rH1 26 λK hK=> ?_;go_simp;go_call sE f1 f2 ba bb fl _ bg (V1.below a3 (lR _)) (V2.below a3 (lR _)) as e we ⟨rfl,be⟩;have bc:=a3.trans (be.mono a3.size);refine hK.out _ _ (KS _ bc) (λbf=> ?_);clear hK K be a3;refine sm ?_;refine QO 27 ?_;refine QO 28 ?_;refine wpAnyH_done ac ?_ _;go_wp2;go_roundw
   case rel=>exact⟨k+1,aa,aJ,bc⟩
   case measure=>exact aK
  .have H2:=H1.trans (ab.mono H1.size)
   have bx:=L1.below ab (lR _);have b0:=L2.below ab (lR _);have b3:wr.cell? ⟨R (M w),4,E⟩=G (U j (X r.lines) am):=by rw[ab.cell (by simp;omega)];exact a4
   have b1:wr.cell? ⟨R (M w)+1,4,E⟩=G (U H (X r.lines) ao):=by rw[ab.cell (by simpa using z1)];exact b4
   have z2:=lL z1 ab.size;have m0:¬(k:Int) < (X r.things:Int):=aa;clear L1 L2 a4 b4 T1 T2 a2 b2 z1 H1;generalize wr=wp at *;go_wp2;go_loopw [6] (λi wr=>∃k:Nat,k<=X r.lines/\i=I Y k/\bl wp wr) (λi _=>X r.lines - (intOf i).toNat)
   case atStart=>exact⟨0,j7 _,rfl,bR _ _⟩
   case round=>
    clear Z m0;obtain⟨k,Z,rfl,ax⟩:=hrel;have b8:wr.cell? ⟨R (M w),4,E⟩=G (U j (X r.lines) am):=by rw[ax.cell (by simp;omega)];exact b3
    have b5:wr.cell? ⟨R (M w)+1,4,E⟩=G (U H (X r.lines) ao):=by rw[ax.cell (by simpa using z2)];exact b1
    by_cases ad:k < X r.lines
    .have n0:=cQ
     have n1:(k:Int) < (X r.lines:Int):=aa;rcases bx with T1|⟨p1,q1,rfl,a7,az⟩
     .rw[T1] at ad;simp at ad
     rcases b0 with T2|⟨p2,q2,rfl,a6,a1⟩
     .rw[T2] at ad;simp at ad
     have s1:=az k ad;have s2:=a1 k ad;generalize r.lines[k]=y at *;have ca:wr.cell? ⟨p1,q1+k,E⟩=G (.string y):=by rw[ax.cell (by simpa using a7)];exact s1
     have b7:wr.cell? ⟨p2,q2+k,E⟩=G (.string y):=by rw[ax.cell (by simpa using a6)];exact s2
     clear az a1 s1 s2;go_wp2
     go_quiet (fail)
     go_wp2;go_roundw
     case rel=>exact⟨k+1,aa,aJ,below_drewN ax _⟩
     case measure=>exact aK
    .have m0:¬(k:Int) < (X r.lines:Int):=by omega
     go_wp2;go_ret;exact⟨rfl,H2.trans (ax.mono H2.size)⟩
end
section
def Hu {V F L:Int}:∀{c:lI},ge V F L c=0->∀i∈c,bo V F L i=0
 |[],_,i,hi=>by cases hi
 |x::r,h,i,hi=>by
  unfold ge at h;split at h
  .rename_i hx
   rcases z8.1 hi with rfl|hi
   .exact hx
   .exact Hu h i hi
  .exact absurd h cD
def SU {V F:Int}{c:lI}(h:aA V F c=0):(1<=V/\V<=8)/\(0<=F/\F<=3)/\X c<=60/\∀i∈c,bo V F (X c) i=0:=by
 unfold aA at h;split at h
 .cases h
 .rename_i h3
  split at h
  .cases h
  .rename_i qA
   simp[btw] at h3;exact⟨⟨aa,aa⟩,⟨aa,aa⟩,aa,Hu h⟩
end
section
open Go.RowKit
attribute [local go_sem ↓] Go.wp_at_zero Go.wp_at_succ
def KG(l:List α)(p:α->Bool)(k:Nat)(h:k < X l):(l.drop k).any p=(p l[k]||(l.drop (k+1)).any p):=by
 rw[J3 h];rfl
def P3 (w:World)(b:Nat)(V F:Int)(s:oA)(n cap:Nat):Prop:=(w.cell? ⟨b,0,E⟩=G (I Y V)/\w.cell? ⟨b,1,E⟩=G (I Y F)/\w.cell? ⟨b,2,E⟩=G (U s n cap))/\b < R (M w)
def P3.new (w:kl)(V F:Int)(s:oA)(n cap:Nat):P3 (w.alloc (Cc #[I Y V,I Y F,U s n cap] 24)) (R (M w)) V F s n cap:=by
 refine⟨⟨?_,?_,?_⟩,?_⟩<;>simp[go_sem]
section
variable {V F:Int}{s:oA}{n cap:Nat}(h:P3 w b V F s n cap)
def P3.below(hb:n4 B w w')(hB:b < B):P3 w' b V F s n cap:=by
 obtain⟨⟨h0,h1,h2⟩,hz⟩:=h;exact Nv
def P3.call(H:bl w w'):P3 w' b V F s n cap:=h.below H h.2
end
def FM(h:p:=by
 rintro e w1 ⟨rfl,vZ⟩;cases hp:p l[k] with
 |true=>
  have HT:=vY;clear HN HA;go_wp2;go_ret;exact lG
 |false=>
  have HT:=tJ;clear HN HA;go_wp2;go_roundw
  case rel=>exact⟨k+1,aa,aJ,xA.trans (vZ.mono s0),HT⟩
  case measure=>exact aK):=h
def oQ(h:p:=by
 go_ret;exact⟨_,rfl,Ul,xA⟩):=h
def LJ(p:Val->Bool)(ss:oA)(cap:Nat)(l:List Val)(w:kl)(K:X l<=9223372036854775807)(hs:a7j w ss l)(hF:∀(x:Val) (wx:kl),bl w wx->Calls f 132 #[Ag #[I Y x.k,I Y x.n],Pp (G ⟨q,0,E⟩)] wx λe w'=>e=Rt (O (p x))/\bl wx w'):
  Calls f 188 #[U ss (X l) cap,.func (.func 132) #[] #[Pp (G ⟨q,0,E⟩)]] w λe w'=>∃n:Int,e=Rt (I Y n)/\decide (0<=n)=l.any p/\bl w w':=by
 have j:=aL hF;clear hF;go_enter func188,ntmps188;go_wp2;go_loopw [8] (λi wr=>∃k:Nat,k<=X l/\i=I Y k/\bl w wr/\Hid (l.any p=(l.drop k).any p)) (λi _=>X l - (intOf i).toNat)
 case atStart=>exact⟨0,j7 _,rfl,bR _ _,rfl⟩
 case round=>
  obtain⟨k,Z,rfl,xA,HA⟩:=hrel;by_cases xy:k < X l
  .rcases hs with hs|⟨b,N,rfl,hb,H⟩
   .rw[hs] at xy;simp at xy
   have P:=bG;have o:=im;have s0:=xA.size;obtain⟨c0,c1⟩:=H k xy;have c0:wr.cell? ⟨b,N+k * 2,E⟩=G (I Y l[k].k):=Ut;have c1:wr.cell? ⟨b,N+k * 2+1,E⟩=G (I Y l[k].n):=US;have HN:=tK;clear H;go_wp2_with fail;refine(j.out _ _ xA).mono ?_;exact FM
  .go_wp2
   exact oQ

def pd(h:p:=by
 rintro e w1 ⟨n,rfl,hn,vZ⟩;go_wp2;go_ret;exact⟨bF (by rw[<-hn]),vZ⟩):=h
def pN(p:Val->Bool)(ss:oA)(cap:Nat)(l:List Val)(w:kl)(K:X l<=9223372036854775807)(hs:a7j w ss l)(hF:∀(x:Val) (wx:kl),bl w wx->Calls f 132 #[Ag #[I Y x.k,I Y x.n],Pp (G ⟨q,0,E⟩)] wx λe w'=>e=Rt (O (p x))/\bl wx w'):
  Calls f 135 #[U ss (X l) cap,.func (.func 132) #[] #[Pp (G ⟨q,0,E⟩)]] w λe w'=>e=Rt (O (l.any p))/\bl w w':=by
 have j:=aL hF;clear hF;go_enter func135,ntmps135;go_wp2_with fail;refine(LJ q p ss cap l _ K hs j.out).mono ?_;exact pd

def tx(h:p:=by
 refine(HF.out _ _ _ _ (gM xy) xA hv').mono ?_;exact FM):=h
def yX(p:Thg->Bool)(ss:oA)(cap:Nat)(l:List Thg)(w:kl)(K:X l<=9223372036854775807)(hs:a7z w ss l)(hF:∀(x:Thg) (f:oA) (fc:Nat) (wx:kl),x∈l->bl w wx->a7j wx f x.fs->Calls pG 130 #[Ag #[I Y x.site,U f (X x.fs) fc],Pp (G ⟨q,0,E⟩)] wx λe w'=>e=Rt (O (p x))/\bl wx w'):
  Calls pG 189 #[U ss (X l) cap,.func (.func 130) #[] #[Pp (G ⟨q,0,E⟩)]] w λe w'=>∃n:Int,e=Rt (I Y n)/\decide (0<=n)=l.any p/\bl w w':=by
 have HF:=aL hF;clear hF;go_enter func189,ntmps189;go_wp2;go_loopw [8] (λi wr=>∃k:Nat,k<=X l/\i=I Y k/\bl w wr/\Hid (l.any p=(l.drop k).any p)) (λi _=>X l - (intOf i).toNat)
 case atStart=>exact⟨0,j7 _,rfl,bR _ _,rfl⟩
 case round=>
  obtain⟨k,Z,rfl,xA,HA⟩:=hrel;by_cases xy:k < X l
  .rcases hs with hs|⟨b,off,rfl,hb,j⟩
   .rw[hs] at xy;simp at xy
   have P:=bG;have o:=im;have s0:=xA.size;obtain⟨c0,f,fc,c1,Q⟩:=j k xy;have c0:=Eu;have c1:=Fm;have hv':=Q.below xA (lR _);have HN:=tK;clear j;go_wp2_with fail;exact tx
  .go_wp2
   exact oQ

def sM(p:Thg->Bool)(ss:oA)(cap:Nat)(l:List Thg)(w:kl)(K:X l<=9223372036854775807)(hs:a7z w ss l)(hF:∀(x:Thg) (f:oA) (fc:Nat) (wx:kl),x∈l->bl w wx->a7j wx f x.fs->Calls pG 130 #[Ag #[I Y x.site,U f (X x.fs) fc],Pp (G ⟨q,0,E⟩)] wx λe w'=>e=Rt (O (p x))/\bl wx w'):
  Calls pG 136 #[U ss (X l) cap,.func (.func 130) #[] #[Pp (G ⟨q,0,E⟩)]] w λe w'=>e=Rt (O (l.any p))/\bl w w':=by
 have j:=aL hF;clear hF;go_enter func136,ntmps136;go_wp2_with fail;refine(yX q p ss cap l _ K hs j.out).mono ?_;exact pd

def yO(p:Thg->Bool)(ss:oA)(cap:Nat)(l:List Thg)(w:kl)(K:X l<=9223372036854775807)(hs:a7z w ss l)(hF:∀(x:Thg) (f:oA) (fc:Nat) (wx:kl),x∈l->bl w wx->a7j wx f x.fs->Calls pG 131 #[Ag #[I Y x.site,U f (X x.fs) fc],Pp (G ⟨q,0,E⟩)] wx λe w'=>e=Rt (O (p x))/\bl wx w'):
  Calls pG 189 #[U ss (X l) cap,.func (.func 131) #[] #[Pp (G ⟨q,0,E⟩)]] w λe w'=>∃n:Int,e=Rt (I Y n)/\decide (0<=n)=l.any p/\bl w w':=by
 have HF:=aL hF;clear hF;go_enter func189,ntmps189;go_wp2;go_loopw [8] (λi wr=>∃k:Nat,k<=X l/\i=I Y k/\bl w wr/\Hid (l.any p=(l.drop k).any p)) (λi _=>X l - (intOf i).toNat)
 case atStart=>exact⟨0,j7 _,rfl,bR _ _,rfl⟩
 case round=>
  obtain⟨k,Z,rfl,xA,HA⟩:=hrel;by_cases xy:k < X l
  .rcases hs with hs|⟨b,off,rfl,hb,j⟩
   .rw[hs] at xy;simp at xy
   have P:=bG;have o:=im;have s0:=xA.size;obtain⟨c0,f,fc,c1,Q⟩:=j k xy;have c0:=Eu;have c1:=Fm;have hv':=Q.below xA (lR _);have HN:=tK;clear j;go_wp2_with fail;exact tx
  .go_wp2
   exact oQ

def rZ(p:Thg->Bool)(ss:oA)(cap:Nat)(l:List Thg)(w:kl)(K:X l<=9223372036854775807)(hs:a7z w ss l)(hF:∀(x:Thg) (f:oA) (fc:Nat) (wx:kl),x∈l->bl w wx->a7j wx f x.fs->Calls pG 131 #[Ag #[I Y x.site,U f (X x.fs) fc],Pp (G ⟨q,0,E⟩)] wx λe w'=>e=Rt (O (p x))/\bl wx w'):
  Calls pG 136 #[U ss (X l) cap,.func (.func 131) #[] #[Pp (G ⟨q,0,E⟩)]] w λe w'=>e=Rt (O (l.any p))/\bl w w':=by
 have j:=aL hF;clear hF;go_enter func136,ntmps136;go_wp2_with fail;refine(yO q p ss cap l _ K hs j.out).mono ?_;exact pd

def yZ(p:Thg->Bool)(ss:oA)(cap:Nat)(l:List Thg)(w:kl)(K:X l<=9223372036854775807)(hs:a7z w ss l)(hF:∀(x:Thg) (f:oA) (fc:Nat) (wx:kl),x∈l->bl w wx->a7j wx f x.fs->Calls pG 134 #[Ag #[I Y x.site,U f (X x.fs) fc],Pp (G ⟨q,0,E⟩)] wx λe w'=>e=Rt (O (p x))/\bl wx w'):
  Calls pG 189 #[U ss (X l) cap,.func (.func 134) #[] #[Pp (G ⟨q,0,E⟩)]] w λe w'=>∃n:Int,e=Rt (I Y n)/\decide (0<=n)=l.any p/\bl w w':=by
 have HF:=aL hF;clear hF;go_enter func189,ntmps189;go_wp2;go_loopw [8] (λi wr=>∃k:Nat,k<=X l/\i=I Y k/\bl w wr/\Hid (l.any p=(l.drop k).any p)) (λi _=>X l - (intOf i).toNat)
 case atStart=>exact⟨0,j7 _,rfl,bR _ _,rfl⟩
 case round=>
  obtain⟨k,Z,rfl,xA,HA⟩:=hrel;by_cases xy:k < X l
  .rcases hs with hs|⟨b,off,rfl,hb,j⟩
   .rw[hs] at xy;simp at xy
   have P:=bG;have o:=im;have s0:=xA.size;obtain⟨c0,f,fc,c1,Q⟩:=j k xy;have c0:=Eu;have c1:=Fm;have hv':=Q.below xA (lR _);have HN:=tK;clear j;go_wp2_with fail;exact tx
  .go_wp2
   exact oQ

def sP(p:Thg->Bool)(ss:oA)(cap:Nat)(l:List Thg)(w:kl)(K:X l<=9223372036854775807)(hs:a7z w ss l)(hF:∀(x:Thg) (f:oA) (fc:Nat) (wx:kl),x∈l->bl w wx->a7j wx f x.fs->Calls pG 134 #[Ag #[I Y x.site,U f (X x.fs) fc],Pp (G ⟨q,0,E⟩)] wx λe w'=>e=Rt (O (p x))/\bl wx w'):
  Calls pG 136 #[U ss (X l) cap,.func (.func 134) #[] #[Pp (G ⟨q,0,E⟩)]] w λe w'=>e=Rt (O (l.any p))/\bl w w':=by
 have j:=aL hF;clear hF;go_enter func136,ntmps136;go_wp2_with fail;refine(yZ q p ss cap l _ K hs j.out).mono ?_;exact pd
end
section
open Go.RowKit
def vP(h:p:=by
 have t0:=pP;have t1:=pJ;have t2:(eD true).k=2:=rfl;have t3:(eD true).n=1:=rfl;go_enter func133,ntmps133;go_wp2;refine wp_region_quiet_below ac ac ?_;repeat (quiet_step (first|exact Calls.regrown_of (dD false _)|exact Calls.regrown_of (dD true _)))
 refine wpQuiet_nil ?_;intro _ qp;obtain⟨⟨dq,osq⟩,qq⟩:=qp;subst qq;go_wp2;go_ret;exact⟨rfl,Below.trans ai ((below_regrown _ dq osq).mono lg)⟩):=h
def Ns (T:Int)(w:kl):
  Calls f 133 #[Ag #[I Y 2,I Y 0],I Y T] w λe w'=>e=Rt (O W5)/\bl w w':=by
 have Q:=MN;have j:=OW;exact vP

def Rh (T:Int)(w:kl):
  Calls f 133 #[Ag #[I Y 2,I Y 1],I Y T] w λe w'=>e=Rt (O W5)/\bl w w':=by
 have Q:=Rk;have j:=MJ;exact vP

def Sr (T:Int)(n:Int)(w:kl)(K:(n==0)=d)(Q:(n==1)=d):
  Calls f 133 #[Ag #[I Y 2,I Y n],I Y T] w λe w'=>e=Rt (O d)/\bl w w':=by
 have k:=cell_regrown (w:=(w.alloc (Cc #[I Y 2,I Y n] 82))) (a:=⟨R (M w),0,E⟩) (v:=I Y 2) aE;have j:=cell_regrown (w:=(w.alloc (Cc #[I Y 2,I Y n] 82))) (a:=⟨R (M w),1,E⟩) (v:=I Y n) aE;exact vP

def gj(h:p:=by
 go_enter func133,ntmps133;go_wp2;go_ret;exact⟨rfl,ai⟩):=h
def SY (k n:Int)(T:Nat)(w:kl):
  Calls f 133 #[Ag #[I Y k,I Y n],I Y T] w λe w'=>e=Rt (O (bZ T ⟨k,n⟩))/\bl w w':=by
 by_cases h0:k=0
 .subst h0
  by_cases hn:n=0
  .subst hn
   have j:bZ T ⟨0,0⟩=true:=by simp[bZ]
   rw[j];clear j;exact gj
  .have j:bZ T ⟨0,n⟩=false:=by simp[bZ,hn]
   have H:(n==0)=false:=mQ;rw[j];clear j hn;exact gj
 by_cases h1:k=1
 .subst h1
  have j:bZ T ⟨1,n⟩=btw n (-2147483648) 2147483647:=by simp[bZ]
  rw[j];clear j;by_cases N: -2147483648<=n
  .by_cases Q:n<=2147483647
   .rw[lQ N Q]
    exact gj
   .rw[PE Q]
    exact gj
  .rw[PD N]
   exact gj
 by_cases h2:k=2
 .subst h2
  by_cases P:n=0
  .subst P
   have j:bZ T ⟨2,0⟩=true:=by simp[bZ,btw]
   rw[j];exact Ns T w
  by_cases o:n=1
  .subst o
   have j:bZ T ⟨2,1⟩=true:=by simp[bZ,btw]
   rw[j];exact Rh T w
  have j:bZ T ⟨2,n⟩=false:=by simp[bZ,btw];omega
  rw[j];exact Sr T n w (by simpa using P) (by simpa using o)
 by_cases K:k=3
 .subst K
  have j:bZ T ⟨3,n⟩=btw n 0 ((T:Int) - 1):=by simp[bZ]
  rw[j];clear j;by_cases N:0<=n
  .by_cases Q:n < (T:Int)
   .rw[lQ N aa]
    exact gj
   .rw[PE aa]
    exact gj
  .rw[PD N]
   exact gj
 have j:bZ T ⟨k,n⟩=false:=by simp[bZ,h0,h1,h2,K]
 rw[j];have Z:(k==0)=false:=kG;have q1:(k==1)=false:=iA;have q:(k==2)=false:=mK;have q3:(k==3)=false:=by simpa using K
 clear j h0 h1 h2 K;exact gj
def a0U:St:=⟨0,[],[],0,[],0⟩
def a0b (w:kl):a7s w a0U E E none:=⟨.inl rfl,.inl rfl,.inl rfl⟩
def cR (w:World)(b k:Nat)(x':Gc):World:=(((((((w.setCell ⟨b,k * 7,E⟩ (O x'.g.n)).setCell ⟨b,k * 7+1,E⟩ (O x'.g.sp.n)).setCell ⟨b,k * 7+2,E⟩ (I Y x'.g.sp.lo)).setCell ⟨b,k * 7+3,E⟩ (I Y x'.g.sp.hi)).setCell ⟨b,k * 7+4,E⟩ (O x'.g.t)).setCell ⟨b,k * 7+5,E⟩ (O x'.g.f)).setCell ⟨b,k * 7+6,E⟩ (U x'.ss (X x'.g.s) x'.cap))
section
variable {T:Nat->Prop} {B:Nat} {w w':World} {v:Ro} {fs:oA} {fc:Nat} {L:List Ro}
def Off.same {v v':Ro}{e:Option Nat}{L:List Ro}{b:Nat}(Q:roB v'=roB v):Off v' e L b↔Off v e L b:=by unfold Off;rw[Q]
def kO {v:Ro}{l:List Gc}(h:X l=X v.l):roB ⟨v.rs,v.rc,l⟩=roB v:=by unfold roB roV;rw[h]
def a7e.cellV (h:a7e T B w v fs fc L){b:Nat}(H:v.rs=G ⟨b,0,E⟩){k:Nat}(hk:k < X v.l){y z:Gc}(Z:a7e T B w' ⟨v.rs,v.rc,v.l.set k y⟩ fs fc L){j:Nat}{u:mh}(K:j < 7)(N:bJ z=(bJ y).set j u)(P:cK (λb=>T b/\Off v (j0 fs (X L) fc).ownBlock L b) w' z):
  a7e T B (w'.setCell ⟨b,k * 7+j,E⟩ u) ⟨v.rs,v.rc,v.l.set k z⟩ fs fc L:=by
 have Q:=a7e.putV Z H (k:=k) (j:=j) (u:=u) (x':=z) gw K (by simpa using N) ⟨P.1.mono λq hq _=>⟨hq.1,(Off.same (kO ae)).2 hq.2⟩,P.2⟩;simpa[Qo] using Q
def aQ {S:Nat->Prop}{x:Gc}{b:Nat}{o:Nat}{u:mh}(h:cK S w x)(hs:¬S b):cK S (w.setCell ⟨b,o,E⟩ u) x:=EO h λq hq e=>hs (by have k:q=b:=e;rw[<-k];exact hq)
def a7e.setV (h:a7e T B w v fs fc L){b:Nat}(hb:v.rs=G ⟨b,0,E⟩){k:Nat}(Z:k < X v.l){x':Gc}(P:cK (λb=>T b/\Off v (j0 fs (X L) fc).ownBlock L b) w x'):a7e T B (cR w b k x') ⟨v.rs,v.rc,v.l.set k x'⟩ fs fc L:=by
 have eb:roB v=G b:=pF;have e:¬(λq=>T q/\Off v (j0 fs (X L) fc).ownBlock L q) b:=λq=>q.2.1 eb;obtain⟨y,ey⟩:∃y,y=v.l[k]:=⟨_,rfl⟩;have o:cK (λb=>T b/\Off v (j0 fs (X L) fc).ownBlock L b) w y:=by rw[ey];exact h.sv _ (gM Z)
 have K:a7e T B w ⟨v.rs,v.rc,v.l.set k y⟩ fs fc L:=by rw[ey,J0];exact h
 unfold cR;have Q:=h.cellV hb Z K (j:=0) (u:=O x'.g.n) (z:=⟨⟨x'.g.n,y.g.sp,y.g.t,y.g.f,y.g.s⟩,y.ss,y.cap⟩) aa bL o;have h2:=h.cellV hb Z Q (j:=1) (u:=O x'.g.sp.n) (z:=⟨⟨x'.g.n,⟨x'.g.sp.n,y.g.sp.lo,y.g.sp.hi⟩,y.g.t,y.g.f,y.g.s⟩,y.ss,y.cap⟩) aa bL (aQ o e);have h3:=h.cellV hb Z h2 (j:=2) (u:=I Y x'.g.sp.lo) (z:=⟨⟨x'.g.n,⟨x'.g.sp.n,x'.g.sp.lo,y.g.sp.hi⟩,y.g.t,y.g.f,y.g.s⟩,y.ss,y.cap⟩) aa bL (aQ (aQ o e) e);have H:=h.cellV hb Z h3 (j:=3) (u:=I Y x'.g.sp.hi) (z:=⟨⟨x'.g.n,⟨x'.g.sp.n,x'.g.sp.lo,x'.g.sp.hi⟩,y.g.t,y.g.f,y.g.s⟩,y.ss,y.cap⟩) aa bL (aQ (aQ (aQ o e) e) e);have h5:=h.cellV hb Z H (j:=4) (u:=O x'.g.t) (z:=⟨⟨x'.g.n,⟨x'.g.sp.n,x'.g.sp.lo,x'.g.sp.hi⟩,x'.g.t,y.g.f,y.g.s⟩,y.ss,y.cap⟩) aa bL (aQ (aQ (aQ (aQ o e) e) e) e);have N:=h.cellV hb Z h5 (j:=5) (u:=O x'.g.f) (z:=⟨⟨x'.g.n,⟨x'.g.sp.n,x'.g.sp.lo,x'.g.sp.hi⟩,x'.g.t,x'.g.f,y.g.s⟩,y.ss,y.cap⟩) aa bL (aQ (aQ (aQ (aQ (aQ o e) e) e) e) e);have h7:=h.cellV hb Z N (j:=6) (u:=U x'.ss (X x'.g.s) x'.cap) (z:=x') aa bL (aQ (aQ (aQ (aQ (aQ (aQ P e) e) e) e) e) e);exact h7
def a7e.cellF (h:a7e T B w v fs fc L){s:Nat}(hs:s < X L){b:Nat}(H:L[s].rs=G ⟨b,0,E⟩){k:Nat}(hk:k < X L[s].l){y z:Gc}(Z:a7e T B w' v fs fc (L.set s ⟨L[s].rs,L[s].rc,L[s].l.set k y⟩)){j:Nat}{u:mh}(K:j < 7)(N:bJ z=(bJ y).set j u)(P:cK (λb=>T b/\Off v (j0 fs (X L) fc).ownBlock L b) w' z):
  a7e T B (w'.setCell ⟨b,k * 7+j,E⟩ u) v fs fc (L.set s ⟨L[s].rs,L[s].rc,L[s].l.set k z⟩):=by
 have eL:∀q,(∀r∈L.set s ⟨L[s].rs,L[s].rc,L[s].l.set k y⟩,roB r≠G q)↔∀r∈L,roB r≠G q:=λq=>by
  have e1:(L.set s ⟨L[s].rs,L[s].rc,L[s].l.set k y⟩).map roB=L.map roB:=by
   rw[Z3,kO (v:=L[s]) ae,<-x8 (f:=roB) (h:=by simpa using hs),J0]
  have e2:∀e:List Ro,(∀r∈e,roB r≠G q)↔∀o∈e.map roB,o≠G q:=λe=>by simp only[z9,forall_exists_index,and_imp,forall_apply_eq_imp_iff₂]
  rw[e2,e1,<-e2]
 have Q:=a7e.putF Z (s:=s) (by simpa using hs) (b:=b) (by simpa using H) (k:=k) (j:=j) (u:=u) (x':=z) gw K (by simpa using N) ⟨P.1.mono λq hq _=>⟨hq.1,hq.2.1,by rw[z5];exact hq.2.2.1,(eL q).2 hq.2.2.2⟩,P.2⟩;simpa[Qo] using Q
def a7e.setF (h:a7e T B w v fs fc L){s:Nat}(hs:s < X L){b:Nat}(hb:L[s].rs=G ⟨b,0,E⟩){k:Nat}(Z:k < X L[s].l){x':Gc}(P:cK (λb=>T b/\Off v (j0 fs (X L) fc).ownBlock L b) w x'):a7e T B (cR w b k x') v fs fc (L.set s ⟨L[s].rs,L[s].rc,L[s].l.set k x'⟩):=by
 have hm:=gM hs;have eb:roB L[s]=G b:=pF;have e:¬(λq=>T q/\Off v (j0 fs (X L) fc).ownBlock L q) b:=λq=>q.2.2.2 _ hm eb;obtain⟨y,ey⟩:∃y,y=L[s].l[k]:=⟨_,rfl⟩;have o:cK (λb=>T b/\Off v (j0 fs (X L) fc).ownBlock L b) w y:=by rw[ey];exact h.sf _ hm _ (gM Z)
 have K:a7e T B w v fs fc (L.set s ⟨L[s].rs,L[s].rc,L[s].l.set k y⟩):=by
  rw[ey,J0];have:(⟨L[s].rs,L[s].rc,L[s].l⟩:Ro)=L[s]:=rfl;rw[this,J0];exact h
 unfold cR;have Q:=h.cellF hs hb Z K (j:=0) (u:=O x'.g.n) (z:=⟨⟨x'.g.n,y.g.sp,y.g.t,y.g.f,y.g.s⟩,y.ss,y.cap⟩) aa bL o;have h2:=h.cellF hs hb Z Q (j:=1) (u:=O x'.g.sp.n) (z:=⟨⟨x'.g.n,⟨x'.g.sp.n,y.g.sp.lo,y.g.sp.hi⟩,y.g.t,y.g.f,y.g.s⟩,y.ss,y.cap⟩) aa bL (aQ o e);have h3:=h.cellF hs hb Z h2 (j:=2) (u:=I Y x'.g.sp.lo) (z:=⟨⟨x'.g.n,⟨x'.g.sp.n,x'.g.sp.lo,y.g.sp.hi⟩,y.g.t,y.g.f,y.g.s⟩,y.ss,y.cap⟩) aa bL (aQ (aQ o e) e);have H:=h.cellF hs hb Z h3 (j:=3) (u:=I Y x'.g.sp.hi) (z:=⟨⟨x'.g.n,⟨x'.g.sp.n,x'.g.sp.lo,x'.g.sp.hi⟩,y.g.t,y.g.f,y.g.s⟩,y.ss,y.cap⟩) aa bL (aQ (aQ (aQ o e) e) e);have h5:=h.cellF hs hb Z H (j:=4) (u:=O x'.g.t) (z:=⟨⟨x'.g.n,⟨x'.g.sp.n,x'.g.sp.lo,x'.g.sp.hi⟩,x'.g.t,y.g.f,y.g.s⟩,y.ss,y.cap⟩) aa bL (aQ (aQ (aQ (aQ o e) e) e) e);have N:=h.cellF hs hb Z h5 (j:=5) (u:=O x'.g.f) (z:=⟨⟨x'.g.n,⟨x'.g.sp.n,x'.g.sp.lo,x'.g.sp.hi⟩,x'.g.t,x'.g.f,y.g.s⟩,y.ss,y.cap⟩) aa bL (aQ (aQ (aQ (aQ (aQ o e) e) e) e) e);have h7:=h.cellF hs hb Z N (j:=6) (u:=U x'.ss (X x'.g.s) x'.cap) (z:=x') aa bL (aQ (aQ (aQ (aQ (aQ (aQ P e) e) e) e) e) e);exact h7
def fw {b k q:Nat}{x':Gc}(h:q≠b):(cR w b k x').heap[q]? =w.heap[q]? :=by
 unfold cR;rw[hSe _ _ _ _ h,hSe _ _ _ _ h,hSe _ _ _ _ h,hSe _ _ _ _ h,hSe _ _ _ _ h,hSe _ _ _ _ h,hSe _ _ _ _ h]
def lY {b k:Nat}{x':Gc}:R (M (cR w b k x'))=R (M w):=by simp[cR,J5]
def fZ {A:Nat}{w0:kl}{b k:Nat}{x':Gc}(h:n4 A w0 w)(H:A<=b):n4 A w0 (cR w b k x'):=by
 unfold cR;exact((((((h.setCell H _).setCell H _).setCell H _).setCell H _).setCell H _).setCell H _).setCell H _
end
end
section
open Go.RowKit
attribute [local go_sem ↓] Go.wp_at_zero Go.wp_at_succ
def Be:wr (wrap64 n)=wr n:=by unfold wr wrap64;omega
def Dw:wr (IntKind.i64.wrap n)=wr n:=by
 have:IntKind.i64.wrap n=wrap64 n:=by simp[wrap64,IntKind.wrap_i64]
 rw[this,Be]
def mP (k:Int)(a b:Val):Val:=if k=5 then⟨1,wr (a.n+b.n)⟩ else if k=6 then⟨1,wr (a.n - b.n)⟩ else if k=7 then⟨1,wr (a.n * b.n)⟩ else eD (decide (a.n < b.n))
def kX (a b:Val):Int:=if (decide (a.k≠1)||decide (b.k≠1))=true then 2 else 0
def ll (s:St)(t:Nat)(k:Int)(a b:Val):St:=if (decide (a.k≠1)||decide (b.k≠1))=true then s else {s with vq:=s.vq.set t (mP k a b)}
def om {a b:Val}(Q:a.k=1)(P:b.k=1)(s:St)(t:Nat)(k:Int):kX a b=0/\ll s t k a b={s with vq:=s.vq.set t (mP k a b)}:=by simp[kX,ll,Q,P]
def rR {a b:Val}(h:a.k≠1\/b.k≠1)(s:St)(t:Nat)(k:Int):kX a b=2/\ll s t k a b=s:=by
 rcases h with h|h<;>simp[kX,ll,h]
def oX(B t x y:Nat)(s:St)(vv tv lv:mh)(fv:List mh)(k n g:Int)(w:kl)(h:a7a w B m s vv tv lv fv)(hB:B<=R (M w))(N:t < X s.vq)(hx:x < X s.vq)(hy:y < X s.vq)(Z:k=5\/k=6\/k=7\/k=8):
  Calls f 147 #[Pp (G ⟨m,0,E⟩),Ag #[I Y k,I Y t,I Y x,I Y y,I Y n,I Y g]] w λe w'=>e=Rt (I Y (kX s.vq[x] s.vq[y]))/\a7p w w' B m (aP m vv tv lv fv) (ll s t k s.vq[x] s.vq[y]):=by
 have hm:=bV;have z1:=eS;obtain⟨gb,cap,rfl,ad,zh,ab,zQ⟩:=dC;have am:=eQ;have q1:=h.vars_;have z2:=eR;obtain⟨qU,qV⟩:=ab t N;have bf:=gG;have b2:=iq;obtain⟨a7,be⟩:=ab x hx;have bx:=iu;have b3:=iv;obtain⟨bc,a8⟩:=ab y hy;have bt:(0:Int)<=(y:Int):=aa;have bz:=Fo;have f0:=gC;have f1:=gH;have K1:∀wx,n4 (R (M w)+1) (w.alloc (Cc #[I Y k,I Y t,I Y x,I Y y,I Y n,I Y g] 100)) wx->wx.cell? ⟨m,1,E⟩=G (U (G ⟨gb,0,E⟩) (X s.vq) cap)/\wx.cell? ⟨R (M w),2,E⟩=G (I Y x)/\wx.cell? ⟨R (M w),3,E⟩=G (I Y y)/\wx.cell? ⟨gb,x * 2,E⟩=G (I Y s.vq[x].k)/\wx.cell? ⟨gb,x * 2+1,E⟩=G (I Y s.vq[x].n)/\wx.cell? ⟨gb,y * 2,E⟩=G (I Y s.vq[y].k)/\wx.cell? ⟨gb,y * 2+1,E⟩=G (I Y s.vq[y].n):=by
  intro wx H;rw[H.cell gp,H.cell ae,H.cell ae,H.cell fr,H.cell fr,H.cell fr,H.cell fr];simp[go_sem,hm,q1,zh,a7,be,bc,a8]
 clear ab zQ;go_enter func147,ntmps147;go_upto_region 1 with fail
 go_cut [5,6] (λp5 p6 wy=>∃ba bb,p5=Pp (G ⟨ba,0,E⟩)/\p6=Pp (G ⟨bb,0,E⟩)/\VAt wy ba s.vq[x]/\VAt wy bb s.vq[y]/\R (M w)+1<=ba/\R (M w)+1<=bb/\n4 (R (M w)+1) (w.alloc (Cc #[I Y k,I Y t,I Y x,I Y y,I Y n,I Y g] 100)) wy)
 case first=>
  rename_i J1 K1' hJ1 hK1;refine XK [] ac K1 (bR _ _).drew (λo=> ?_);have jw:n4 (R (M w)+1) (w.alloc (Cc #[I Y k,I Y t,I Y x,I Y y,I Y n,I Y g] 100)) (w.alloc (Cc #[I Y k,I Y t,I Y x,I Y y,I Y n,I Y g] 100)).drew:=(bR _ _).drew;have xS:R (M (w.alloc (Cc #[I Y k,I Y t,I Y x,I Y y,I Y n,I Y g] 100)).drew)=R (M w)+1:=ae;generalize (w.alloc _).drew=wq at *;refine QQ ?_;refine QS ?_;refine XH ?_;refine QN 16 ?_;refine QN 17 ?_;refine wN (i:=18) (j:=19) rfl rfl ac (λK hK=> ?_) (λK hK=> ?_)
  .go_simp
   have zX:=Rx;have V1:=rj;have qo:=NV;rw[xS] at V1;refine hK.out _ _ (K1 _ zX) (λo=> ?_);clear hK K;(try simp only[stp,j2]);(try rw[xS]);simp only at V1;generalize wq.alloc _=wa at *;refine av (i:=19) rfl ac (λK hK=> ?_);go_simp;have ao:=Rc;have V2:=VAt.new wa ⟨0,0⟩;have ah:=V1.call (w':=wa.alloc (Cc #[I Y 0,I Y 0] 82)) ai;rw[qo] at V2;refine hK.out _ _ (K1 _ ao) (λo=> ?_);clear hK K V1;(try simp only[stp,j2]);(try rw[qo]);simp only at V2;generalize wa.alloc _=wb at *;obtain⟨⟨a0,a1⟩,az,af⟩:=id ah;refine av (i:=20) rfl ac (λK hK=> ?_);go_simp;have ap:n4 (R (M w)+1) (w.alloc (Cc #[I Y k,I Y t,I Y x,I Y y,I Y n,I Y g] 100)) ((wb.setCell ⟨R (M w)+1,0,E⟩ (I Y s.vq[x].k)).setCell ⟨R (M w)+1,1,E⟩ (I Y s.vq[x].n)):=(ao.setCell ae _).setCell ae _;have a2:=ah.put s.vq[x];have ar:=(V2.set (a:=⟨R (M w)+1,0,E⟩) ae (I Y s.vq[x].k)).set (a:=⟨R (M w)+1,1,E⟩) ae (I Y s.vq[x].n);refine hK.out _ _ (K1 _ ap) (λo=> ?_);clear hK K a0 a1 af ah V2;(try simp only[stp,j2]);generalize (wb.setCell _ _).setCell _ _=wd at *;obtain⟨⟨a0,a1⟩,az,af⟩:=id ar;refine av (i:=21) rfl ac (λK hK=> ?_);go_simp;have ax:n4 (R (M w)+1) (w.alloc (Cc #[I Y k,I Y t,I Y x,I Y y,I Y n,I Y g] 100)) ((wd.setCell ⟨R (M w)+1+1,0,E⟩ (I Y s.vq[y].k)).setCell ⟨R (M w)+1+1,1,E⟩ (I Y s.vq[y].n)):=(ap.setCell ae _).setCell ae _;have a3:=ar.put s.vq[y];have a4:=(a2.set (a:=⟨R (M w)+1+1,0,E⟩) ae (I Y s.vq[y].k)).set (a:=⟨R (M w)+1+1,1,E⟩) ae (I Y s.vq[y].n);refine hK.out _ _ (K1 _ ax) (λo=> ?_);clear hK K;(try simp only[stp,j2]);refine aB ac ?_ _;refine hK1 _ _ (Met.intro (hJ1 _ _ ?_))
   (repeat apply Exists.intro)
   refine⟨?_,rfl⟩;exact⟨R (M w)+1,R (M w)+1+1,rfl,rfl,a4,a3,aa,aa,ax⟩
  .go_simp
   have zX:=Rx;have V1:=rj;have qo:=NV;rw[xS] at V1;refine hK.out _ _ (K1 _ zX) (λo=> ?_);clear hK K;(try simp only[stp,j2]);(try rw[xS]);simp only at V1;generalize wq.alloc _=wa at *;refine av (i:=18) rfl ac (λK hK=> ?_);go_simp;have ao:=Rc;have V2:=VAt.new wa ⟨0,0⟩;have ah:=V1.call (w':=wa.alloc (Cc #[I Y 0,I Y 0] 82)) ai;rw[qo] at V2;refine hK.out _ _ (K1 _ ao) (λo=> ?_);clear hK K V1;(try simp only[stp,j2]);(try rw[qo]);simp only at V2;generalize wa.alloc _=wb at *;obtain⟨⟨a0,a1⟩,az,af⟩:=id V2;refine av (i:=20) rfl ac (λK hK=> ?_);go_simp;have ap:n4 (R (M w)+1) (w.alloc (Cc #[I Y k,I Y t,I Y x,I Y y,I Y n,I Y g] 100)) ((wb.setCell ⟨R (M w)+1+1,0,E⟩ (I Y s.vq[x].k)).setCell ⟨R (M w)+1+1,1,E⟩ (I Y s.vq[x].n)):=(ao.setCell ae _).setCell ae _;have a2:=V2.put s.vq[x];have ar:=(ah.set (a:=⟨R (M w)+1+1,0,E⟩) ae (I Y s.vq[x].k)).set (a:=⟨R (M w)+1+1,1,E⟩) ae (I Y s.vq[x].n);refine hK.out _ _ (K1 _ ap) (λo=> ?_);clear hK K a0 a1 af ah V2;(try simp only[stp,j2]);generalize (wb.setCell _ _).setCell _ _=wd at *;obtain⟨⟨a0,a1⟩,az,af⟩:=id ar;refine av (i:=21) rfl ac (λK hK=> ?_);go_simp;have ax:n4 (R (M w)+1) (w.alloc (Cc #[I Y k,I Y t,I Y x,I Y y,I Y n,I Y g] 100)) ((wd.setCell ⟨R (M w)+1,0,E⟩ (I Y s.vq[y].k)).setCell ⟨R (M w)+1,1,E⟩ (I Y s.vq[y].n)):=(ap.setCell ae _).setCell ae _;have a3:=ar.put s.vq[y];have a4:=(a2.set (a:=⟨R (M w)+1,0,E⟩) ae (I Y s.vq[y].k)).set (a:=⟨R (M w)+1,1,E⟩) ae (I Y s.vq[y].n);refine hK.out _ _ (K1 _ ax) (λo=> ?_);clear hK K;(try simp only[stp,j2]);refine aB ac ?_ _;refine hK1 _ _ (Met.intro (hJ1 _ _ ?_))
   (repeat apply Exists.intro)
   refine⟨?_,rfl⟩;exact⟨R (M w)+1+1,R (M w)+1,rfl,rfl,a4,a3,aa,aa,ax⟩
 obtain⟨ba,bb,rfl,rfl,VA,VB,bg,bm,jW⟩:=hcut;have bs:R (M w)+1<=R (M wc):=by have:=jW.size;simpa using this
 have c0:wc.cell? ⟨R (M w),0,E⟩=G (I Y k):=by rw[jW.cell (by simp)];simp[go_sem]
 have c1:wc.cell? ⟨m,1,E⟩=G (U (G ⟨gb,0,E⟩) (X s.vq) cap):=(K1 _ jW).1;have c2:wc.cell? ⟨R (M w),1,E⟩=G (I Y t):=by rw[jW.cell (by simp)];simp[go_sem]
 have a5:=VA.1.1;have a9:=VB.1.1;clear K1;by_cases a1:s.vq[x].k=1
 .by_cases b1:s.vq[y].k=1
  .rw[a1] at a5
   rw[b1] at a9;rcases Z with rfl|rfl|rfl|rfl
   .have KZ:=tY
    go_wp2;refine XK [14] ac KZ (bR _ _).drew (λo=> ?_);refine QQ ?_;refine QV ?_;refine QN 11 ?_;refine av (i:=12) rfl ac (λK hK=> ?_);go_simp;go_at_call 145;go_call kQ _ _ as e w1 ⟨rfl,vZ⟩;simp only[Be,Dw];have zX:=uN;go_wp2_with fail;refine hK.out _ _ (KZ _ zX) (λo=> ?_);clear hK K;(try simp only[stp,j2]);refine QN 13 ?_;refine aM (i:=14) rfl ac ac (λK hK=> ?_);have HW:=tS;have oL:=h.below HW;have c0:=vC;have ay:=uu;have d0:=ud;have d1:=uA;go_simp;refine hK.out _ _ ?_;clear hK K;(try simp only[stp,j2]);refine aB ac ?_ _;go_wp2;go_ret;have HY:=om a1 b1 s t 5;rw[show mP 5 s.vq[x] s.vq[y]=⟨1,wr (s.vq[x].n+s.vq[y].n)⟩ from rfl] at HY;rw[HY.1,HY.2];refine⟨rfl,?_⟩;exact⟨⟨_,_,_,_,oL.put t N ⟨1,wr (s.vq[x].n+s.vq[y].n)⟩⟩,((HW.mono hB).setCell ad _).setCell ad _,λj _=>iF,dU HW gV _ _ _ _⟩
   .have KZ:=tY
    go_wp2;refine XK [14] ac KZ (bR _ _).drew (λo=> ?_);refine QQ ?_;refine QV ?_;refine QN 11 ?_;refine av (i:=12) rfl ac (λK hK=> ?_);go_simp;go_at_call 145;go_call kQ _ _ as e w1 ⟨rfl,vZ⟩;simp only[Be,Dw];have zX:=uN;go_wp2_with fail;refine hK.out _ _ (KZ _ zX) (λo=> ?_);clear hK K;(try simp only[stp,j2]);refine QN 13 ?_;refine aM (i:=14) rfl ac ac (λK hK=> ?_);have HW:=tS;have oL:=h.below HW;have c0:=vC;have ay:=uu;have d0:=ud;have d1:=uA;go_simp;refine hK.out _ _ ?_;clear hK K;(try simp only[stp,j2]);refine aB ac ?_ _;go_wp2;go_ret;have HY:=om a1 b1 s t 6;rw[show mP 6 s.vq[x] s.vq[y]=⟨1,wr (s.vq[x].n - s.vq[y].n)⟩ from rfl] at HY;rw[HY.1,HY.2];refine⟨rfl,?_⟩;exact⟨⟨_,_,_,_,oL.put t N ⟨1,wr (s.vq[x].n - s.vq[y].n)⟩⟩,((HW.mono hB).setCell ad _).setCell ad _,λj _=>iF,dU HW gV _ _ _ _⟩
   .have KZ:=tY
    go_wp2;refine XK [14] ac KZ (bR _ _).drew (λo=> ?_);refine QQ ?_;refine QV ?_;refine QN 11 ?_;refine av (i:=12) rfl ac (λK hK=> ?_);go_simp;go_at_call 145;go_call kQ _ _ as e w1 ⟨rfl,vZ⟩;simp only[Be,Dw];have zX:=uN;go_wp2_with fail;refine hK.out _ _ (KZ _ zX) (λo=> ?_);clear hK K;(try simp only[stp,j2]);refine QN 13 ?_;refine aM (i:=14) rfl ac ac (λK hK=> ?_);have HW:=tS;have oL:=h.below HW;have c0:=vC;have ay:=uu;have d0:=ud;have d1:=uA;go_simp;refine hK.out _ _ ?_;clear hK K;(try simp only[stp,j2]);refine aB ac ?_ _;go_wp2;go_ret;have HY:=om a1 b1 s t 7;rw[show mP 7 s.vq[x] s.vq[y]=⟨1,wr (s.vq[x].n * s.vq[y].n)⟩ from rfl] at HY;rw[HY.1,HY.2];refine⟨rfl,?_⟩;exact⟨⟨_,_,_,_,oL.put t N ⟨1,wr (s.vq[x].n * s.vq[y].n)⟩⟩,((HW.mono hB).setCell ad _).setCell ad _,λj _=>iF,dU HW gV _ _ _ _⟩
   .have KZ:=tY
    go_wp2;refine XK [14] ac KZ (bR _ _).drew (λo=> ?_);refine QQ ?_;refine QV ?_;refine nH (i:=11) (v:=O (decide (s.vq[x].n < s.vq[y].n))) rfl ac ac ac (λ_ _ _ h=>h) (Or.inl ⟨?_,?_⟩) cD ?_
    .rfl
    .intro w xB
     (try dsimp only at xB);go_simp
    (try simp only[stp,j2]);refine av (i:=12) rfl ac (λK hK=> ?_);go_simp;go_at_call 146;go_call dD _ _ as e w1 ⟨rfl,vZ⟩
    have zX:=uN;go_wp2_with fail;refine hK.out _ _ (KZ _ zX) (λo=> ?_);clear hK K;(try simp only[stp,j2]);refine QN 13 ?_;refine aM (i:=14) rfl ac ac (λK hK=> ?_);have HW:=tS;have oL:=h.below HW;have c0:=vC;have ay:=uu;have d0:=ud;have d1:=uA;go_simp;refine hK.out _ _ ?_;clear hK K;(try simp only[stp,j2]);refine aB ac ?_ _;go_wp2;go_ret;have HY:=om a1 b1 s t 8;rw[show mP 8 s.vq[x] s.vq[y]=(eD (decide (s.vq[x].n < s.vq[y].n))) from rfl] at HY;rw[HY.1,HY.2];refine⟨rfl,?_⟩;exact⟨⟨_,_,_,_,oL.put t N (eD (decide (s.vq[x].n < s.vq[y].n)))⟩,((HW.mono hB).setCell ad _).setCell ad _,λj _=>iF,dU HW gV _ _ _ _⟩
  .have bv:(s.vq[y].k !=1)=true:=by simpa using b1
   rw[a1] at a5;have HX:=N9;clear h;go_wp2;go_ret;rw[(rR (.inr b1) s t k).1,(rR (.inr b1) s t k).2];refine⟨rfl,?_⟩;exact Pu
 .have b0:(s.vq[x].k !=1)=true:=by simpa using a1
  have HX:=N9;clear h;go_wp2;go_ret;rw[(rR (.inl a1) s t k).1,(rR (.inl a1) s t k).2];refine⟨rfl,?_⟩;exact Pu
def UL (n:Nat)(x:Gc):X (aZ (j1 n x))=n * 7:=by rw[rh,List.length_replicate]
def CH (a b:Nat)(x:Gc):aZ (j1 a x)++aZ (j1 b x)=aZ (j1 (a+b) x):=by rw[<-mo,List.replicate_append_replicate]
def CI(n:Nat)(x:Gc)(h:m<=n)(j:Nat)(u:mh)(K:(aZ (j1 m x))[j]? =G u):(aZ (j1 n x))[j]? =G u:=by
 obtain⟨e,rfl⟩:∃e,n=m+e:=⟨n - m,aa⟩;rw[<-CH,X1 (x9.1 K).1];exact K
def LZ (l:List Gc):∀u∈aZ l,u.oneCell'=true:=by
 intro u q;obtain⟨x,N,q⟩:=X2.1 q;exact eE x u q
def a8u (w:World)(b n k:Nat)(x:Gc):Prop:=k<=n/\∃cs:List Value,w.heap[b]? =G (Cc cs.toArray 91 (0,0))/\X cs=n * 7/\cs.take (k * 7)=aZ (j1 k x)
section
variable {n k:Nat}{x:Gc}(h:a8u w b n k x)
def a8u.lt:b < R (M w):=by
 obtain⟨_,o,Q,_⟩:=h;exact(z0.1 Q).1
def a8u.copy(dT ty:TypeId)(a:Addr)(o ab N m:Nat)(q:P.underlying dT=G (.slice 91))(hs:(P.info? 91).map (·.size)=G 7)(hm:m=j9 o (n - k))(ad:∀j v,(aZ (j1 m x))[j]? =G v->w.cell? (a.add j)=G v):
  ∃w',(Builtin.copy_ #[dT,dT] ty #[U (G ⟨b,k * 7,E⟩) (n - k) N,U (G a) o ab]).run P w=.ok (goInt m) w'/\a8u w' b n (k+m) x/\∀B w0,B<=b->n4 B w0 w->n4 B w0 w':=by
 obtain⟨Z,cs,Q,h2,h3⟩:=h;have ah:m<=n - k:=by rw[hm];exact Z9 _ _
 have K:=UL m x;have af:k * 7+m * 7<=n * 7:=aa;refine⟨w.setRow b (cs.take (k * 7)++aZ (j1 m x)++cs.drop (k * 7+X (aZ (j1 m x)))).toArray,?_,?_,λB w0 hB H=>below_setRow H hB _⟩
 .have e:=LU w dT dT ty 91 b (k * 7) (n - k) N a o ab 7 _ 91 (aZ (j1 m x)) q hs Q (by rw[K,hm]) ad (by rw[K];simpa[h2] using af) (LZ _)
  rw[<-hm] at e;exact e
 .refine⟨by omega,cs.take (k * 7)++aZ (j1 m x)++cs.drop (k * 7+X (aZ (j1 m x))),?_,?_,?_⟩
  .exact setRow_heap w b cs.toArray _ _ _ Q
  .simp only[x6,List.length_take,List.length_drop,K,h2]
   omega
  .rw[h3,CH]
   exact List.take_left' (by rw[UL])
end
def a8u.gets{n:Nat}{g:Gs}(hs:g.s=[])(h:a8u w b n n ⟨g,E,0⟩):a8b (λk=>k=b) w (G ⟨b,0,E⟩) (j1 n g):=by
 have q:=h.lt;obtain⟨_,o,Q,P,N⟩:=h;rw[List.take_of_length_le aa] at N;subst N;intro i hi;have H:i < n:=gA;have hc:∀j,j < 7->w.cell? ⟨b,i * 7+j,E⟩=(bJ ⟨g,E,0⟩)[j]? :=λj K=>by
  have e:=gE (j1 n (⟨g,E,0⟩:Gc)) i (by simpa using H) j K;rw[Qp] at e;rw[<-e];simp[Q6,Q]
 refine⟨b,0,rfl,⟨rfl,λj=>by simp[World.frozen?,Q]⟩,E,0,⟨?_,q⟩,.inl (by simp[hs]),by simp[hs],cL⟩;simp only[Qp,j3];exact tD
def Tq(a4:g.s=[])(n:Nat)(H:n<=8)(b:Nat)(w:kl)(hg:a7b w b 0 g E 0):
  Calls f 129 #[U (G ⟨b,0,E⟩) 1 1,I Y (n:Int)] w λe w'=>(∃rs,e=Rt (U rs n n)/\a8b (λb=>R (M w)<=b) w' rs (j1 n g))/\bl w w':=by
 obtain⟨ti,hi,a2,ad,qt⟩:=lH;have al:Hid (Calls f 187 #[.int .u64 1,.int .u64 (n:Int)] w λe w'=>e=Rt (Tu #[.int .u64 0,.int .u64 (n:Int)])/\w'=w):=by
  go_call Tryz.bits_Mul 1 n aa aa w as e w1 ⟨rfl,rfl⟩;refine⟨?_,rfl⟩;have e1:1 * n / 18446744073709551616=0:=aa;have e2:1 * n % 18446744073709551616=n:=aa;rw[e1,e2];rfl
 have ar:=run_makeSlice (P:=f) w 25 91 ti (Ag #[O d,O d,I Y 0,I Y 0,O d,O d,U E 0 0]) underlying25 hi a2 .i64 .i64 (n:Int) (n:Int) aa (Int.le_refl _) (by rw[ad];omega) Bl aa;rw[Int.toNat_natCast,ad] at ar;have F0:a8u (w.alloc (Cc (madeCells (J9 (Ag #[O d,O d,I Y 0,I Y 0,O d,O d,U E 0 0])) (n * 7)) 91)) (R (M w)) n 0 ⟨g,E,0⟩:=by
  refine⟨j7 _,(madeCells (J9 (Ag #[O d,O d,I Y 0,I Y 0,O d,O d,U E 0 0])) (n * 7)).toList,heap_alloc_new _ _,by simp[size_madeCells],by simp[aZ]⟩
 have ah:n4 (R (M w)) w (w.alloc (Cc (madeCells (J9 (Ag #[O d,O d,I Y 0,I Y 0,O d,O d,U E 0 0])) (n * 7)) 91)):=ai;have G0:=hg.alloc (Cc (madeCells (J9 (Ag #[O d,O d,I Y 0,I Y 0,O d,O d,U E 0 0])) (n * 7)) 91);have a8:¬(n:Int) < 0:=aa;have N1:(n:Int)<=9223372036854775807:=aa;obtain⟨N,HR,F2,ao⟩:=F0.copy (P:=f) 25 3 ⟨b,0,E⟩ 1 1 n (j9 1 n) underlying25 (by rw[hi];exact congrArg G ad) ae (λj v hj=>by
  have ab:=CI _ 1 _ (Qq _ _) j v hj;have e1:aZ (j1 1 (⟨g,E,0⟩:Gc))=bJ ⟨g,E,0⟩:=by simp[aZ]
  rw[e1] at ab;obtain⟨⟨g0,g1,g2,g3,g4,g5,g6⟩,-⟩:=G0;rw[Addr.add_lit];have a7:j < 7:=by have:=(x9.1 ab).1;rwa [gk] at this
  rw[<-ab];rcases (show j=0\/j=1\/j=2\/j=3\/j=4\/j=5\/j=6 by omega) with rfl|rfl|rfl|rfl|rfl|rfl|rfl
  .exact g0
  .exact g1
  .exact g2
  .exact g3
  .exact g4
  .exact g5
  .exact g6)
 have ak:=ao (R (M w)) w (lR _) ah;simp only[Z0,Nat.sub_zero,j3] at HR F2;clear ao F0 ah G0;generalize w.alloc _=wA at *;have ax:j9 1 n<=n:=Z9 _ _;have ap:1<=n->j9 1 n=1:=λh=>Nat.min_eq_left h;have m0:n=0\/1<=j9 1 n:=by by_cases h:n=0;exact .inl h;exact .inr (by rw[ap (by omega)];exact lR _)
 clear ap;generalize j9 1 n=m at *;go_enter func129,ntmps129;go_wp2_with fail;go_call al.out as e w1 ⟨rfl,rfl⟩;clear al;go_wp2;clear HR ar;go_loopw [8] (λi wr=>∃k:Nat,k<=n/\(n=0\/1<=k)/\i=I Y (k:Int)/\a8u wr (R (M w1)) n k ⟨g,E,0⟩/\bl w1 wr) (λi _=>n - (intOf i).toNat)
 case atStart=>exact⟨m,ax,m0,rfl,F2,ak⟩
 case round=>
  clear F2 ak ax m0;obtain⟨k,Z,a9,rfl,FK,BK⟩:=hrel;have FD:a8u wr.drew (R (M w1)) n k ⟨g,E,0⟩:=FK;have BD:=BK.drew;by_cases o:k < n
  .have a3:1<=k:=by omega
   have n1:(k:Int) < (n:Int):=aa;obtain⟨w3,HR,F3,ay⟩:=FD.copy (P:=f) 25 3 ⟨R (M w1),0,E⟩ k n (n - k) (j9 k (n - k)) underlying25 (by rw[hi];exact congrArg G ad) rfl (λj v hj=>by
    obtain⟨_,cs,c1,c2,c3⟩:=FD;have ab:=CI _ k _ (Qq _ _) j v hj;rw[<-c3,List.getElem?_take] at ab;split at ab
    .rw[Addr.add_lit,j3]
     simp[Q6,c1,ab]
    .cases ab)
   have B3:=ay (R (M w1)) w1 (lR _) BD;have a5:1<=j9 k (n - k):=Nat.le_min.2 ⟨a3,aa⟩;have a6:j9 k (n - k)<=n - k:=Z9 _ _;have am:=ag HR;clear HR ay FK BK FD BD;generalize j9 k (n - k)=q at *;have a1:∀wx,(Instr.sliceAt 25 (U (G ⟨R (M w1),0,E⟩) n n) (G (I Y (k:Int))) E E).run f wx=.ok (U (G ⟨R (M w1),k * 7,E⟩) (n - k) (n - k)) wx:=by
    intro wx;simp[go_sem];rw[if_pos aa,if_neg aa]
   have az:∀wx,(Instr.sliceAt 25 (U (G ⟨R (M w1),0,E⟩) n n) E (G (I Y (k:Int))) E).run f wx=.ok (U (G ⟨R (M w1),0,E⟩) k n) wx:=by
    intro wx;simp[go_sem];intro h;omega
   go_upto_region 9 with fail
   refine aC (S:=λ_=>True) [] ac trivial (λaf=> ?_);refine QU ?_;refine QN 5 ?_;refine QN 6 ?_;refine av (i:=7) rfl ac (λK hK=> ?_);refine Lib.wp_copy_run _ _ _ 25 25 rfl _ _ rfl rfl am.out ?_;refine hK.out _ _ trivial (λaf=> ?_);clear hK K;refine sm ?_;refine QN 8 ?_;refine QN 9 ?_;refine aB ac ?_ _;clear a1 az am;have EW:IntKind.i64.wrap ((k:Int)+(q:Int))=((k+q:Nat):Int):=pt;rw[EW];clear EW;go_wp2;go_roundw
   case rel=>exact⟨k+q,aa,.inr aa,aJ,F3,B3⟩
   case measure=>exact aK
  .have n1:¬(k:Int) < (n:Int):=by omega
   have ek:k=n:=aa;subst ek;go_wp2;go_ret;exact⟨⟨_,rfl,(FK.gets a4).mono λb h _=>aa⟩,BK⟩
def Ng(j:g.s=[])(n:Nat)(H:n<=8)(w:kl):
  Calls f 78 #[Ag #[O g.n,O g.sp.n,I Y g.sp.lo,I Y g.sp.hi,O g.t,O g.f,U E 0 0],I Y (n:Int)] w λe w'=>(∃rs,e=Rt (U rs n n)/\a8b (λb=>R (M w)<=b) w' rs (j1 n g))/\bl w w':=by
 have P:X g.s=0:=by rw[j];rfl
 have q:=a7b.new (w.alloc (Cc #[O g.n,O g.sp.n,I Y g.sp.lo,I Y g.sp.hi,O g.t,O g.f,U E (X g.s) 0] 91)) g E 0;rw[P,zA] at q;have o:=ag (Tq g j n H _ _ q);clear q;have K:n4 (R (M w)) w ((w.alloc (Cc #[O g.n,O g.sp.n,I Y g.sp.lo,I Y g.sp.hi,O g.t,O g.f,U E 0 0] 91)).alloc (Cc #[O g.n,O g.sp.n,I Y g.sp.lo,I Y g.sp.hi,O g.t,O g.f,U E 0 0] 91)):=ai;go_enter func78,ntmps78;go_wp2_with fail;go_call o.out as e N ⟨⟨rs,rfl,Q⟩,k⟩;go_wp2;go_ret;exact⟨⟨rs,rfl,Q.mono λb h _=>lT K.size h⟩,K.trans (k.mono K.size)⟩
end
section
section
variable {F:Int}{c:lI}{ins:List Int}{n:Nat}{r:St}
def AD(h:n=0\/r.fin≠0):a8g F c ins n r=(r,0):=by
 cases n with
 |zero=>rfl
 |succ n=>unfold a8g;rw[if_pos (by rcases h with h|h;exact absurd h (by omega);exact h)]
def Wh(h:r.fin=0):a8g F c ins (n+1) r=((a8g F c ins n (bX F c ins r)).1,(a8g F c ins n (bX F c ins r)).2+1):=by
 rw[a8g.eq_def];simp[h]
end
def Tj(a b:Val):X (dx F ins r i a b).lines<=X r.lines+1:=by
 have h:∀q:St,X q.lines<=X r.lines+1->X (if nTo i.k then nL q i.tgt (nC r ins i a b) else q).lines<=X r.lines+1:=λq h=>Bp;unfold dx;simp only;apply h;split
 .simp
 split
 .simp[gD]
 split
 .simp
 split
 .simp
 .simp
def Tx(a b:Val)(K:0<=r.taken)(Q:r.taken < 9223372036854775807):(dx F ins r i a b).taken<=r.taken+1:=by
 have h:∀q:St,q.taken<=r.taken+1->(if nTo i.k then nL q i.tgt (nC r ins i a b) else q).taken<=r.taken+1:=λq h=>Bp;unfold dx;simp only;apply h;split
 .simp only;omega
 split
 .simp only[gD];omega
 split
 .simp only;rw[a0c aa aa];omega
 split
 .simp only;omega
 .omega
def Rd:X (bX F c ins r).lines<=X r.lines+1:=by
 rw[nP];split
 .omega
 split
 .simp
 split
 .simp
 .exact Tj F ins r _ _ _
def Mz(K:0<=r.taken)(Q:r.taken < 9223372036854775807):(bX F c ins r).taken<=r.taken+1:=by
 rw[nP];split
 .omega
 split
 .simp only;omega
 split
 .simp only;omega
 .exact Tx F ins r _ _ _ K Q
def WP {V F:Int}{c:lI}(j:a8r V F c):a8h V F c (bQ V):=by
 have:=j.v1;refine⟨ma,ma,ma,ma,ma,by simp[bQ];omega,ma,λt N=> ?_,λt N=> ?_,λv Q=> ?_,λt N=> ?_⟩
 .simp[bQ] at N
 .simp[bQ] at N
 .simp only[bQ] at Q
  rw[(Qc.1 Q).2];exact mB
 .simp[bQ] at N
def NY {V F:Int}{c:lI}{ins:List Int}{e k:Nat}{s:St}(h:a8g F c ins e (bQ V)=(s,k)):fB V F c ins e=(if s.fin=0 then {s with fin:=4} else s,k):=by
 unfold fB;rw[h]
