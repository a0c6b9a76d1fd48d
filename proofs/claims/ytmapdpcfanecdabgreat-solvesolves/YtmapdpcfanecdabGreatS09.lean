import Derived.Test.YtmapdpcfanecdabGreatS02
import Derived.WalkSmall
import Derived.Lib.MinMax
import Derived.Test.YtmapdpcfanecdabGreatS03
import Derived.Lib.ItoaNum
import Derived.Lib.ItoaLen
import Derived.Deep.DeepCutAuto
import Derived.Deep.DrawnRows
import Derived.Test.YtmapdpcfanecdabGreatS08
import Derived.Laws.MakeOwn
import Derived.Laws.CopyOwn
open Array renaming getElem?_eq_some_iff→z4
open Bool renaming and_eq_true→j9,false_eq_true→z6,not_eq_false→Z7,not_eq_true'→x7,or_eq_true→Q1
open Go.Ending renaming returned→Rt
open Go.IntKind renaming i64→Y
open Go.Obj renaming cells→Cc
open Go.Proofs.Tryz renaming prog→pG
open Go.RowKit.Below renaming heap_setCell→hSe,refl→bR
open Go.Value renaming agg→Ag,bool→Bb,cells→J5,int→I,pointer→Pp,slice→U,slice→j0,tuple→Tu
open Go.World renaming cell?→Z0,cell?_of_block→z9,cell?_setCell_other→J1,cell?_setCell_same→Z5,frozen?_of_block→Qc,frozen?_setCell→Z6,ownsRow→Q9,putObj→X8,putObj_heap_other→Z1,putObj_heap_same→Qv,setCell→z5,size_alloc→zA
open List renaming Pairwise→Q3,all_cons→Qf,all_eq_true→X0,any_eq_false→Qk,contains_iff_mem→Qi,drop_eq_getElem_cons→J9,drop_eq_nil_of_le→Q0,eq_of_mem_replicate→Q8,ext_getElem→J7,flatMap_cons→Qt,foldl_append→X5,foldl_cons→x5,foldl_nil→X6,getD→j5,getElem?_append_left→Z2,getElem?_append_right→Qb,getElem?_eq_getElem→x4,getElem?_eq_none→J4,getElem?_eq_some_iff→Z3,getElem?_set→Qp,getElem_cons_zero→X4,getElem_map→J8,getElem_mem→gM,getElem_of_mem→Q4,getElem_replicate→Qw,getElem_set→Qs,getElem_zipWith→q0,length_append→x3,length_cons→x9,length_eq_zero_iff→J0,length_map→Qe,length_set→z7,length_zipWith→j7,map_append→Qg,map_cons→Q5,map_set→X7,mem_append→j6,mem_cons→z3,mem_flatMap→Qd,mem_flatten→Ql,mem_iff_getElem→Qr,mem_map→x6,mem_or_eq_of_mem_set→Q2,mem_range→Qh,mem_singleton→j2,not_mem_nil→Qa,pairwise_cons→J2,pairwise_lt_range→Qj,pairwise_map→Z9,pairwise_singleton→Qm,range→j3,range_succ→Qq,replicate→j1,set_cons_succ→Qo,set_cons_zero→Qn,set_getElem_self→x8,set_set→Qu,sum_cons→Q6,zipWith→Z8
open Nat renaming le_refl→lR,le_trans→lT,lt_irrefl→Z4,lt_of_lt_of_le→lL,min→j8,min_le_left→Qx,min_le_right→X9,mul_le_mul_right→Q7,not_lt→J3,zero_add→j4,zero_le→z8,zero_mul→J6
open Option renaming getD_none→X2,getD_some→X1,none→nO,some→sO
set_option linter.unusedSimpArgs false
set_option linter.unusedVariables false
set_option maxHeartbeats 8000000
set_option maxRecDepth 100000
namespace Go.Proofs.YtmapdpcfanecdabGreat
section
open Go.RowKit
def SpAt (w:World)(b:Nat)(s:Sp):Prop:=(w.cell? ⟨b,0,nO⟩=sO (Bb s.n)/\w.cell? ⟨b,1,nO⟩=sO (I Y s.lo)/\w.cell? ⟨b,2,nO⟩=sO (I Y s.hi))/\b < w.heap.size

theorem SpAt.below {B b:Nat}{s:Sp}{w w':World}(h:SpAt w b s)(hb:Below B w w')(hB:w.heap.size<=B):SpAt w' b s:=by
 obtain⟨⟨h0,h1,h2⟩,hz⟩:=h;refine⟨?_,lL hz hb.size⟩;rw[hb.cell (by simp;omega),hb.cell (by simp;omega),hb.cell (by simp;omega)];exact⟨h0,h1,h2⟩
theorem SpAt.call {b:Nat}{s:Sp}{w w':World}(h:SpAt w b s)(hb:Below w.heap.size w w'):SpAt w' b s:=h.below hb (lR _)
theorem SpAt.alloc {b:Nat}{s:Sp}{w:World}(h:SpAt w b s)(o:Obj):SpAt (w.alloc o) b s:=h.below (Below.alloc (bR _ _) (lR _) o) (lR _)
theorem SpAt.drew {b:Nat}{s:Sp}{w:World}(h:SpAt w b s):SpAt w.drew b s:=h
theorem SpAt.new (w:World)(s:Sp):SpAt (w.alloc (Cc #[Bb s.n,I Y s.lo,I Y s.hi] 58)) w.heap.size s:=⟨by simp[go_sem],by simp⟩
theorem aa {p:Prop}(h:p):Hid p:=h

theorem IntsAt.get {w:World}{ss:oA}{l:List Int}(h:IntsAt w ss l)(k:Nat)(hk:k < l.length):
  ∃b off,ss=sO ⟨b,off,nO⟩/\b < w.heap.size/\∀k (h:k < l.length),w.cell? ⟨b,off+k,nO⟩=sO (I Y l[k]):=by
 rcases h with rfl|h
 ·exact absurd hk (by simp)
 ·exact h
theorem IntsAt.call {w w':World}{ss:oA}{l:List Int}(h:IntsAt w ss l)(hb:Below w.heap.size w w'):IntsAt w' ss l:=h.below hb (lR _)
theorem IntsAt.alloc {w:World}{ss:oA}{l:List Int}(h:IntsAt w ss l)(o:Obj):IntsAt (w.alloc o) ss l:=h.call (Below.alloc (bR _ _) (lR _) o)
theorem IntsAt.drew {w:World}{ss:oA}{l:List Int}(h:IntsAt w ss l):IntsAt w.drew ss l:=h
theorem IntsAt.drewN {w:World}{ss:oA}{l:List Int}(h:IntsAt w ss l)(n:Nat):IntsAt (w.drewN n) ss l:=h.call (below_drewN (bR _ _) n)
theorem CodeAt.get {w:World}{s:oA}{c:List Ins}(h:CodeAt w s c)(k:Nat)(hk:k < c.length):
  ∃b off,s=sO ⟨b,off,nO⟩/\b < w.heap.size/\∀k (h:k < c.length),InsAt w b (off+k * 6) c[k]:=by
 rcases h with rfl|h
 ·exact absurd hk (by simp)
 ·exact h
theorem CodeAt.call {w w':World}{s:oA}{c:List Ins}(h:CodeAt w s c)(hb:Below w.heap.size w w'):CodeAt w' s c:=h.below hb (lR _)
theorem CodeAt.alloc {w:World}{s:oA}{c:List Ins}(h:CodeAt w s c)(o:Obj):CodeAt (w.alloc o) s c:=h.call (Below.alloc (bR _ _) (lR _) o)

abbrev gv (g:Gs)(ss:oA)(cap:Nat):Value:=Ag #[Bb g.n,Bb g.sp.n,I Y g.sp.lo,I Y g.sp.hi,Bb g.t,Bb g.f,U ss g.s.length cap]
abbrev pv (V F:Int)(s:oA)(c:List Ins)(cap:Nat):Value:=Ag #[I Y V,I Y F,U s c.length cap]

def GuAt (w:World)(b o:Nat)(g:Gs)(ss:oA)(cap:Nat):Prop:=
 (w.cell? ⟨b,o,nO⟩=sO (Bb g.n)/\w.cell? ⟨b,o+1,nO⟩=sO (Bb g.sp.n)/\w.cell? ⟨b,o+2,nO⟩=sO (I Y g.sp.lo)/\w.cell? ⟨b,o+3,nO⟩=sO (I Y g.sp.hi)/\w.cell? ⟨b,o+4,nO⟩=sO (Bb g.t)/\w.cell? ⟨b,o+5,nO⟩=sO (Bb g.f)/\w.cell? ⟨b,o+6,nO⟩=sO (U ss g.s.length cap))/\b < w.heap.size
theorem GuAt.below {B:Nat}{w w':World}{b o:Nat}{g:Gs}{ss:oA}{cap:Nat}(h:GuAt w b o g ss cap)(hb:Below B w w')(hB:w.heap.size<=B):GuAt w' b o g ss cap:=by
 obtain⟨⟨h0,h1,h2,h3,h4,h5,h6⟩,hz⟩:=h;refine⟨⟨?_,?_,?_,?_,?_,?_,?_⟩,lL hz hb.size⟩<;>rw[hb.cell (by simp;omega)]<;>assumption
theorem GuAt.call {w w':World}{b o:Nat}{g:Gs}{ss:oA}{cap:Nat}(h:GuAt w b o g ss cap)(hb:Below w.heap.size w w'):GuAt w' b o g ss cap:=h.below hb (lR _)
theorem GuAt.alloc {w:World}{b o:Nat}{g:Gs}{ss:oA}{cap:Nat}(h:GuAt w b o g ss cap)(x:Obj):GuAt (w.alloc x) b o g ss cap:=h.call (Below.alloc (bR _ _) (lR _) x)
theorem GuAt.drew {w:World}{b o:Nat}{g:Gs}{ss:oA}{cap:Nat}(h:GuAt w b o g ss cap):GuAt w.drew b o g ss cap:=h
theorem GuAt.new (w:World)(g:Gs)(ss:oA)(cap:Nat):GuAt (w.alloc (Cc #[Bb g.n,Bb g.sp.n,I Y g.sp.lo,I Y g.sp.hi,Bb g.t,Bb g.f,U ss g.s.length cap] 61)) w.heap.size 0 g ss cap:=⟨by simp[go_sem],by simp⟩

def PrAt (w:World)(b:Nat)(V F:Int)(s:oA)(c:List Ins)(cap:Nat):Prop:=
 (w.cell? ⟨b,0,nO⟩=sO (I Y V)/\w.cell? ⟨b,1,nO⟩=sO (I Y F)/\w.cell? ⟨b,2,nO⟩=sO (U s c.length cap))/\b < w.heap.size
theorem PrAt.below {B:Nat}{w w':World}{b:Nat}{V F:Int}{s:oA}{c:List Ins}{cap:Nat}(h:PrAt w b V F s c cap)(hb:Below B w w')(hB:w.heap.size<=B):PrAt w' b V F s c cap:=by
 obtain⟨⟨h0,h1,h2⟩,hz⟩:=h;refine⟨⟨?_,?_,?_⟩,lL hz hb.size⟩<;>rw[hb.cell (by simp;omega)]<;>assumption
theorem PrAt.call {w w':World}{b:Nat}{V F:Int}{s:oA}{c:List Ins}{cap:Nat}(h:PrAt w b V F s c cap)(hb:Below w.heap.size w w'):PrAt w' b V F s c cap:=h.below hb (lR _)
theorem PrAt.alloc {w:World}{b:Nat}{V F:Int}{s:oA}{c:List Ins}{cap:Nat}(h:PrAt w b V F s c cap)(x:Obj):PrAt (w.alloc x) b V F s c cap:=h.call (Below.alloc (bR _ _) (lR _) x)
theorem PrAt.new (w:World)(V F:Int)(s:oA)(c:List Ins)(cap:Nat):PrAt (w.alloc (Cc #[I Y V,I Y F,U s c.length cap] 24)) w.heap.size V F s c cap:=⟨by simp[go_sem],by simp⟩

def GsAt (w:World)(ls:oA)(L:List Gs):Prop:=
 ∀i (h:i < L.length),∃b off,ls=sO ⟨b,off,nO⟩/\∃ss cap,GuAt w b (off+i * 7) L[i] ss cap/\IntsAt w ss L[i].s/\L[i].s.length<=cap/\cap<=maxLen
theorem GsAt.below {B:Nat}{w w':World}{ls:oA}{L:List Gs}(h:GsAt w ls L)(hb:Below B w w')(hB:w.heap.size<=B):GsAt w' ls L:=by
 intro i hi;obtain⟨b,off,e,ss,cap,h1,h2,h3,h4⟩:=h i hi;exact⟨b,off,e,ss,cap,h1.below hb hB,h2.below hb hB,h3,h4⟩
theorem GsAt.call {w w':World}{ls:oA}{L:List Gs}(h:GsAt w ls L)(hb:Below w.heap.size w w'):GsAt w' ls L:=h.below hb (lR _)
theorem GsAt.alloc {w:World}{ls:oA}{L:List Gs}(h:GsAt w ls L)(o:Obj):GsAt (w.alloc o) ls L:=h.call (Below.alloc (bR _ _) (lR _) o)

def GhAt (w:World)(ls:oA)(L:List Gs):Prop:=
 ∀i (h:i < L.length),∃b off,ls=sO ⟨b,off,nO⟩/\∃ss cap,GuAt w b (off+i * 7) L[i] ss cap
theorem GhAt.below {B:Nat}{w w':World}{ls:oA}{L:List Gs}(h:GhAt w ls L)(hb:Below B w w')(hB:w.heap.size<=B):GhAt w' ls L:=by
 intro i hi;obtain⟨b,off,e,ss,cap,h1⟩:=h i hi;exact⟨b,off,e,ss,cap,h1.below hb hB⟩
theorem GhAt.call {w w':World}{ls:oA}{L:List Gs}(h:GhAt w ls L)(hb:Below w.heap.size w w'):GhAt w' ls L:=h.below hb (lR _)

theorem GsAt.new1 (w:World)(g:Gs)(ss:oA)(gc:Nat)(hs:IntsAt w ss g.s)(h1:g.s.length<=gc)(h2:gc<=maxLen):
  GsAt (w.alloc (Cc #[Bb g.n,Bb g.sp.n,I Y g.sp.lo,I Y g.sp.hi,Bb g.t,Bb g.f,U ss g.s.length gc] 61)) (sO ⟨w.heap.size,0,nO⟩) [g]:=by
 intro i hi;obtain rfl:i=0:=by simp at hi;omega
 exact⟨w.heap.size,0,rfl,ss,gc,GuAt.new w g ss gc,hs.alloc _,h1,h2⟩

theorem GhAt.new1 (w:World)(g:Gs)(ss:oA)(gc:Nat):
  GhAt (w.alloc (Cc #[Bb g.n,Bb g.sp.n,I Y g.sp.lo,I Y g.sp.hi,Bb g.t,Bb g.f,U ss g.s.length gc] 61)) (sO ⟨w.heap.size,0,nO⟩) [g]:=by
 intro i hi;obtain rfl:i=0:=by simp at hi;omega
 exact⟨w.heap.size,0,rfl,ss,gc,GuAt.new w g ss gc⟩

abbrev lh (w:World)(g:Gs)(ss:oA)(gc:Nat)(h:Gs)(st:oA)(hc:Nat):World:=
 w.alloc (Cc #[Bb g.n,Bb g.sp.n,I Y g.sp.lo,I Y g.sp.hi,Bb g.t,Bb g.f,U ss g.s.length gc,Bb h.n,Bb h.sp.n,I Y h.sp.lo,I Y h.sp.hi,Bb h.t,Bb h.f,U st h.s.length hc] 61)
theorem GuAt.two0 (w:World)(g:Gs)(ss:oA)(gc:Nat)(h:Gs)(st:oA)(hc:Nat):GuAt (lh w g ss gc h st hc) w.heap.size 0 g ss gc:=⟨by simp[go_sem],by simp⟩
theorem GuAt.two1 (w:World)(g:Gs)(ss:oA)(gc:Nat)(h:Gs)(st:oA)(hc:Nat):GuAt (lh w g ss gc h st hc) w.heap.size 7 h st hc:=⟨by simp[go_sem],by simp⟩
theorem GsAt.new2 (w:World)(g:Gs)(ss:oA)(gc:Nat)(h:Gs)(st:oA)(hc:Nat)(hs:IntsAt w ss g.s)(h1:g.s.length<=gc)(h2:gc<=maxLen)(ht:IntsAt w st h.s)(h3:h.s.length<=hc)(h4:hc<=maxLen):
  GsAt (lh w g ss gc h st hc) (sO ⟨w.heap.size,0,nO⟩) [g,h]:=by
 intro i hi;by_cases e:i=0
 ·subst e;exact⟨w.heap.size,0,rfl,ss,gc,GuAt.two0 w g ss gc h st hc,hs.alloc _,h1,h2⟩
 ·obtain rfl:i=1:=by simp at hi;omega
  exact⟨w.heap.size,0,rfl,st,hc,GuAt.two1 w g ss gc h st hc,ht.alloc _,h3,h4⟩
theorem GhAt.new2 (w:World)(g:Gs)(ss:oA)(gc:Nat)(h:Gs)(st:oA)(hc:Nat):GhAt (lh w g ss gc h st hc) (sO ⟨w.heap.size,0,nO⟩) [g,h]:=by
 intro i hi;by_cases e:i=0
 ·subst e;exact⟨w.heap.size,0,rfl,ss,gc,GuAt.two0 w g ss gc h st hc⟩
 ·obtain rfl:i=1:=by simp at hi;omega
  exact⟨w.heap.size,0,rfl,st,hc,GuAt.two1 w g ss gc h st hc⟩
def IntsIn (S:Nat->Prop)(w:World)(ss:oA)(l:List Int):Prop:=
 l=[]\/∃b off,ss=sO ⟨b,off,nO⟩/\S b/\b < w.heap.size/\∀k (h:k < l.length),w.cell? ⟨b,off+k,nO⟩=sO (I Y l[k])
section
variable {S S':Nat->Prop} {w w':World} {ss:oA} {l:List Int}
theorem IntsIn.at (h:IntsIn S w ss l):IntsAt w ss l:=by
 rcases h with h|⟨b,off,e,-,hb,hc⟩
 ·exact .inl h
 ·exact .inr ⟨b,off,e,hb,hc⟩
theorem IntsAt.inAll (h:IntsAt w ss l):IntsIn (λb=>b < w.heap.size) w ss l:=by
 rcases h with h|⟨b,off,e,hb,hc⟩
 ·exact .inl h
 ·exact .inr ⟨b,off,e,hb,hb,hc⟩
theorem IntsIn.same (h:IntsIn S w ss l)(hs:∀b,S b->b < w.heap.size->w'.heap[b]? =w.heap[b]?)(hz:w.heap.size<=w'.heap.size):IntsIn S w' ss l:=by
 rcases h with h|⟨b,off,e,hS,hb,hc⟩
 ·exact .inl h
 ·exact .inr ⟨b,off,e,hS,lL hb hz,λk hk=>by rw[z9 (a:=⟨b,off+k,nO⟩) (hs b hS hb)];exact hc k hk⟩
theorem IntsIn.mono (h:IntsIn S w ss l)(hs:∀b,S b->b < w.heap.size->S' b):IntsIn S' w ss l:=by
 rcases h with h|⟨b,off,e,hS,hb,hc⟩
 ·exact .inl h
 ·exact .inr ⟨b,off,e,hs b hS hb,hb,hc⟩
theorem IntsIn.call (h:IntsIn S w ss l)(hb:Below w.heap.size w w'):IntsIn S w' ss l:=h.same (λb _ hlt=>hb.block b hlt) hb.size
end

theorem aC {w:World}{B:Nat}{e:TypeId}{z:Nat}{v:Value}{n:Nat}{xs:List Value}(h:w.ownsRow B e z v n xs){k:Nat}(hk:v.ownBlock=sO k):k < w.heap.size/\B<=k:=by
 rcases h.2 with⟨rfl,_⟩|⟨g,cap,cur,rfl,hb,hg,_⟩
 ·cases hk
 ·cases hk
  exact⟨(z4.1 hg).1,hb⟩
theorem cJ {w w':World}{B:Nat}{e:TypeId}{z:Nat}{v:Value}{n:Nat}{xs:List Value}(h:w.ownsRow B e z v n xs)(hb:∀k,v.ownBlock=sO k->w'.heap[k]? =w.heap[k]?):w'.ownsRow B e z v n xs:=by
 obtain⟨hl,h2⟩:=h;rcases h2 with h2|⟨g,cap,cur,rfl,h1,hg,hr⟩
 ·exact⟨hl,.inl h2⟩
 ·exact⟨hl,.inr ⟨g,cap,cur,rfl,h1,by rw[hb g rfl];exact hg,hr⟩⟩
theorem np {w w':World}{B:Nat}{e:TypeId}{z:Nat}{v:Value}{n:Nat}{xs:List Value}(h:w.ownsRow B e z v n xs)(hb:Below w.heap.size w w'):w'.ownsRow B e z v n xs:=cJ h λk hk=>hb.block k (aC h hk).1

structure Gc where
 g:Gs
 ss:oA
 cap:Nat
def ba (x:Gc):List Value:=[Bb x.g.n,Bb x.g.sp.n,I Y x.g.sp.lo,I Y x.g.sp.hi,Bb x.g.t,Bb x.g.f,U x.ss x.g.s.length x.cap]
def aF (l:List Gc):List Value:=l.flatMap ba
def bA (S:Nat->Prop)(w:World)(x:Gc):Prop:=IntsIn S w x.ss x.g.s/\x.g.s.length<=x.cap/\x.cap<=maxLen
theorem dl (x:Gc):(ba x).length=7:=rfl
theorem g9 (l:List Gc):(aF l).length=l.length * 7:=by
 induction l with
 |nil=>rfl
 |cons x r ih=>
  have:aF (x::r)=ba x++aF r:=rfl;rw[this,x3,ih,dl,x9];omega
theorem fJ (a b:List Gc):aF (a++b)=aF a++aF b:=by simp[aF]
theorem cM (x:Gc):∀u∈ba x,u.oneCell'=true:=by
 intro u hu;simp only[ba,z3,Qa,or_false] at hu;rcases hu with rfl|rfl|rfl|rfl|rfl|rfl|rfl<;>rfl
theorem dx:∀(l:List Gc) (i:Nat) (h:i < l.length) (j:Nat) (_:j < 7),(aF l)[i * 7+j]? =(ba l[i])[j]?
 |[],i,h,_,_=>absurd h (by simp)
 |x::r,0,_,j,hj=>by
  have e:aF (x::r)=ba x++aF r:=rfl;rw[e,J6,j4,Z2 (by rw[dl];exact hj)];rfl
 |x::r,i+1,h,j,hj=>by
  have e:aF (x::r)=ba x++aF r:=rfl;rw[e,Qb (by rw[dl];omega),dl];have:(i+1) * 7+j - 7=i * 7+j:=by omega
  rw[this,dx r i (by simpa using h) j hj];rfl

def GRow (w:World)(B:Nat)(v:Value)(l:List Gc):Prop:=w.ownsRow B 61 7 v l.length (aF l)/\∀x∈l,bA (λb=>v.ownBlock≠sO b) w x
section
variable {w w':World} {B:Nat} {v v':Value} {l:List Gc}
theorem GRow.at (h:GRow w B v l):∃rs rc,v=U rs l.length rc/\l.length<=rc/\rc<=maxLen/\GsAt w rs (l.map Gc.g)/\∀a,rs=sO a->B<=a.block:=by
 obtain⟨h1,h2⟩:=h;rcases h1.2 with⟨rfl,h0⟩|⟨g,cap,cur,rfl,hb,hg,k1,k2,k3,k4⟩
 ·have:l=[]:=J0.1 h0
  subst this;exact⟨nO,0,rfl,lR _,by unfold maxLen;omega,λi hi=>absurd hi (by simp),λa ha=>by cases ha⟩
 ·refine⟨sO ⟨g,0,nO⟩,cap,rfl,k1,k2,λi hi=> ?_,λa ha=>by cases ha;exact hb⟩
  have hil:i < l.length:=by simpa using hi
  have e:(l.map Gc.g)[i]=l[i].g:=by simp
  rw[e];have hx:=h2 l[i] (gM hil);refine⟨g,0,rfl,l[i].ss,l[i].cap,⟨?_,(z4.1 hg).1⟩,hx.1.at,hx.2.1,hx.2.2⟩;have hc:∀j,j < 7->w.cell? ⟨g,i * 7+j,nO⟩=(ba l[i])[j]? :=λj hj=>by
   have:=h1.cellAt (i * 7+j) (by omega);rw[<-dx l i hil j hj];exact this
  simp only[j4];exact⟨hc 0 (by omega),hc 1 (by omega),hc 2 (by omega),hc 3 (by omega),hc 4 (by omega),hc 5 (by omega),hc 6 (by omega)⟩
end

def RowsAt (w:World)(fs:oA)(L:List (List Gs)):Prop:=
 ∀i (h:i < L.length),∃b off,fs=sO ⟨b,off,nO⟩/\b < w.heap.size/\∃rs rc,w.cell? ⟨b,off+i,nO⟩=sO (U rs L[i].length rc)/\L[i].length<=rc/\rc<=maxLen/\GsAt w rs L[i]
theorem RowsAt.below {B:Nat}{w w':World}{fs:oA}{L:List (List Gs)}(h:RowsAt w fs L)(hb:Below B w w')(hB:w.heap.size<=B):RowsAt w' fs L:=by
 intro i hi;obtain⟨b,off,e,hz,rs,rc,h1,h2,h3,h4⟩:=h i hi;exact⟨b,off,e,lL hz hb.size,rs,rc,by rw[hb.cell (by simp;omega)];exact h1,h2,h3,h4.below hb hB⟩
def PicAt (w:World)(x:Pic)(vs fs:oA):Prop:=GsAt w vs x.vars/\RowsAt w fs x.flds
theorem PicAt.below {B:Nat}{w w':World}{x:Pic}{vs fs:oA}(h:PicAt w x vs fs)(hb:Below B w w')(hB:w.heap.size<=B):PicAt w' x vs fs:=⟨h.1.below hb hB,h.2.below hb hB⟩
theorem PicAt.call {w w':World}{x:Pic}{vs fs:oA}(h:PicAt w x vs fs)(hb:Below w.heap.size w w'):PicAt w' x vs fs:=h.below hb (lR _)
abbrev xv (x:Pic)(vs:oA)(vc:Nat)(fs:oA)(fc:Nat):Value:=Ag #[Bb x.none,U vs x.vars.length vc,U fs x.flds.length fc]
def y8 (x:Pic):Prop:=x.vars.length<=maxLen/\x.flds.length<=maxLen
def XAt (w:World)(b:Nat)(x:Pic)(vs:oA)(vc:Nat)(fs:oA)(fc:Nat):Prop:=
 (w.cell? ⟨b,0,nO⟩=sO (Bb x.none)/\w.cell? ⟨b,1,nO⟩=sO (U vs x.vars.length vc)/\w.cell? ⟨b,2,nO⟩=sO (U fs x.flds.length fc))/\b < w.heap.size/\∀j,w.frozen? ⟨b,j,nO⟩=false
section
variable {w w':World} {b:Nat} {x:Pic} {vs fs:oA} {vc fc:Nat}
theorem oR {p:Prop}(h:p:=by
 have hc:∀j,w'.cell? ⟨b,j,none⟩=w.cell? ⟨b,j,none⟩:=λj=>World.cell?_of_block (a:=⟨b,j,none⟩) hb;have hf:∀j,w'.frozen? ⟨b,j,none⟩=w.frozen? ⟨b,j,none⟩:=λj=>World.frozen?_of_block (a:=⟨b,j,none⟩) hb;obtain⟨⟨h0,h1,h2⟩,h6,h7⟩:=h;exact⟨⟨(hc _).trans h0,(hc _).trans h1,(hc _).trans h2⟩,Nat.lt_of_lt_of_le h6 hz,λj=>(hf j).trans (h7 j)⟩):p:=h
theorem XAt.same (h:XAt w b x vs vc fs fc)(hb:w'.heap[b]? =w.heap[b]?)(hz:w.heap.size<=w'.heap.size):XAt w' b x vs vc fs fc:=oR
theorem XAt.call (h:XAt w b x vs vc fs fc)(hb:Below w.heap.size w w'):XAt w' b x vs vc fs fc:=h.same (hb.block b h.2.1) hb.size
theorem XAt.new (w:World)(x:Pic)(vs:oA)(vc:Nat)(fs:oA)(fc:Nat):XAt (w.alloc (Cc #[Bb x.none,U vs x.vars.length vc,U fs x.flds.length fc] 28)) w.heap.size x vs vc fs fc:=by
 refine⟨⟨?_,?_,?_⟩,by simp,λj=> ?_⟩<;>simp[go_sem]
end
section
variable {w w':World} {B:Nat} {v v':Value} {l l2:List Gc}
theorem GsAt.gcs {ls:oA}{L:List Gs}(h:GsAt w ls L):∃l:List Gc,l.map Gc.g=L/\(∀ad,ls=sO ad->∀j u,(aF l)[j]? =sO u->w.cell? (ad.add j)=sO u)/\(ls=none->l=[])/\∀y∈l,bA (λb=>b < w.heap.size) w y:=by
 have h1:∀i,i < L.length->∃x:Gc,∃b off,ls=sO ⟨b,off,nO⟩/\(x.g=L.getD i noneG)/\(∀j,j < 7->w.cell? ⟨b,off+i * 7+j,nO⟩=(ba x)[j]?)/\bA (λb=>b < w.heap.size) w x:=by
  intro i hi;obtain⟨b,off,e,ss,cap,⟨⟨c0,c1,c2,c3,c4,c5,c6⟩,hz⟩,hI,k1,k2⟩:=h i hi;have eg:L.getD i noneG=L[i]:=by simp[j5,hi]
  refine⟨⟨L[i],ss,cap⟩,b,off,e,eg.symm,λj hj=> ?_,hI.inAll,k1,k2⟩
  match j,hj with
  |0,_=>exact c0
  |1,_=>exact c1
  |2,_=>exact c2
  |3,_=>exact c3
  |4,_=>exact c4
  |5,_=>exact c5
  |6,_=>exact c6
  |j+7,hj=>omega
 have h2:∃f:Nat->Gc,∀i,i < L.length->∃b off,ls=sO ⟨b,off,nO⟩/\((f i).g=L.getD i noneG)/\(∀j,j < 7->w.cell? ⟨b,off+i * 7+j,nO⟩=(ba (f i))[j]?)/\bA (λb=>b < w.heap.size) w (f i):=by
  refine⟨λi=>if hi:i < L.length then Classical.choose (h1 i hi) else⟨noneG,nO,0⟩,λi hi=> ?_⟩;simp only[dif_pos hi];exact Classical.choose_spec (h1 i hi)
 obtain⟨f,hf⟩:=h2;refine⟨(j3 L.length).map f,?_,?_,?_,?_⟩
 ·refine J7 (by simp) λi hi1 hi2=> ?_
  obtain⟨_,_,_,e,_⟩:=hf i hi2;simp only[J8,List.getElem_range];rw[e];simp[j5,hi2]
 ·intro ad had j u hju
  have hj:j < L.length * 7:=by
   have:=(Z3.1 hju).1;rw[g9] at this;simpa using this
  have e1:j=j / 7 * 7+j % 7:=by omega
  have hi:j / 7 < L.length:=by omega
  rw[e1] at hju;rw[dx _ (j / 7) (by simpa using hi) (j % 7) (by omega)] at hju;obtain⟨b,off,e,_,hc,_⟩:=hf (j / 7) hi;rw[had] at e;cases e;have:=hc (j % 7) (by omega);rw[Addr.add_lit];have e2:off+j=off+j / 7 * 7+j % 7:=by omega
  rw[e2,this];simpa using hju
 ·intro h0
  cases L with
  |nil=>rfl
  |cons a r=>
   obtain⟨_,_,e,_⟩:=hf 0 (by simp);rw[h0] at e;cases e
 ·intro y hy
  rw[x6] at hy;obtain⟨i,hi,rfl⟩:=hy;obtain⟨_,_,_,_,_,hx⟩:=hf i (by simpa using hi);exact hx

def CRow (w:World)(B:Nat)(v:Value)(l:List Gc):Prop:=w.ownsRow B 61 7 v l.length (aF l)/\∀x∈l,bA (λb=>b < B) w x
theorem CRow.grown (h:CRow w B v l)(hx:∀x∈l2,bA (λb=>b < B) w x)(hr:w'.ownsRow B 61 7 v' (l.length+l2.length) (aF l++aF l2))(hg:w.grownBy w' v.ownBlock):CRow w' B v' (l++l2):=by
 refine⟨by rw[x3,fJ];exact hr,λy hy=> ?_⟩;have hy':bA (λb=>b < B) w y:=by
  rcases j6.1 hy with hy|hy
  ·exact h.2 y hy
  ·exact hx y hy
 exact⟨hy'.1.same (λb hS hb=>hg.block b hb (λe=>by have:=(aC h.1 e.symm).2;omega)) hg.size,hy'.2⟩
theorem CRow.at (h:CRow w B v l):∃rs rc,v=U rs l.length rc/\l.length<=rc/\rc<=maxLen/\GsAt w rs (l.map Gc.g)/\∀a,rs=sO a->B<=a.block:=by
 refine GRow.at (B:=B) ⟨h.1,λx hx=>⟨(h.2 x hx).1.mono λb hb _ e=> ?_,(h.2 x hx).2⟩⟩;have:=(aC h.1 e).2;omega
end
theorem gU (l:List Gc):∀u∈aF l,u.oneCell'=true:=by
 intro u hu;unfold aF at hu;rw[Qd] at hu;obtain⟨x,-,hx⟩:=hu;exact cM x u hx
theorem GsAt.gcsTo {w w':World}{ls:oA}{L:List Gs}(h:GsAt w ls L)(hb:Below w.heap.size w w'):∃l:List Gc,l.map Gc.g=L/\(∀ad,ls=sO ad->∀j u,(aF l)[j]? =sO u->w'.cell? (ad.add j)=sO u)/\(ls=none->L.length=0)/\(∀y∈l,bA (λb=>b < w.heap.size) w' y)/\(aF l).length=L.length * 7:=by
 obtain⟨l,e,h1,h2,h3⟩:=h.gcs;refine⟨l,e,λad ha j u hj=> ?_,λh0=>by rw[<-e,h2 h0];rfl,λy hy=>⟨(h3 y hy).1.call hb,(h3 y hy).2⟩,by rw[g9,<-e,Qe]⟩;have:=h1 ad ha j u hj;rw[hb.cell (World.block_lt_of_cell? w _ this)];exact this
theorem lk (c:List Ins)(p:Gs->Bool)(L:List (List Gs))(k:Nat)(h:k < L.length):bJ c p k (L.drop k)=((!bk c k&&L[k].any p)||bJ c p (k+1) (L.drop (k+1))):=by
 rw[J9 h];rfl
theorem fQ {α:Type}(l:List α)(p:α->Bool)(k:Nat)(h:k < l.length):(l.drop k).any p=(p l[k]||(l.drop (k+1)).any p):=by
 rw[J9 h];rfl
theorem Tryz.info_guess:(Tryz.prog.info? 61).map (λi=>(i.zero,i.size,i.bytes))=sO (sO (Ag #[Bb false,Bb false,I Y 0,I Y 0,Bb false,Bb false,U nO 0 0]),7,64):=by kernel_rfl
theorem gY {α:Type}{n:Nat}:∀{L:List (List α)},(∀r∈L,r.length=n)->L.flatten.length=L.length * n
 |[],_=>by simp
 |r::L,h=>by
  rw[List.flatten_cons,x3,h r List.mem_cons_self,gY λr' hr'=>h r' (List.mem_cons_of_mem _ hr'),x9,Nat.add_mul];omega
theorem ia {α:Type}(L:List (List α))(k:Nat)(h:k < L.length):(L.take (k+1)).flatten=(L.take k).flatten++L[k]:=by
 rw[List.take_succ_eq_append_getElem h,List.flatten_append];simp
theorem fP (l:List Int)(p:Int->Bool)(k:Nat)(h:k < l.length):(l.drop k).any p=(p l[k]||(l.drop (k+1)).any p):=by
 rw[J9 h];rfl

theorem rk (l:List Int)(x:Int)(k:Nat)(h:k < l.length):x∈l.drop k↔(x=l[k]\/x∈l.drop (k+1)):=by
 rw[J9 h,z3]

theorem vM (x:Int)(ss:oA)(cap:Nat)(l:List Int)(w:World)(hl:l.length<=9223372036854775807)(hs:IntsAt w ss l):
  Calls pG 143 #[U ss l.length cap,I Y x] w λe w'=>∃n:Int,e=Rt (I Y n)/\(0<=n↔x∈l)/\w'=w:=by
 go_enter Tryz.func143,Tryz.ntmps143;go_wp2
 go_loop [8] (λi=>∃k:Nat,k<=l.length/\i=I Y k/\Hid (x∈l↔x∈l.drop k)) (λi=>l.length - (intOf i).toNat)
 case atStart=>exact⟨0,z8 _,rfl,Iff.rfl⟩
 case round=>
  obtain⟨k,hk,rfl,HA⟩:=hrel;by_cases hlt:k < l.length
  ·obtain⟨b,off,rfl,hb,hc⟩:=hs.get k hlt
   have n0:(0:Int)<=(k:Int):=by omega
   have n1:(k:Int) < (l.length:Int):=by omega
   have c0:=hc k hlt;have HN:Hid (x∈l.drop k↔(x=l[k]\/x∈l.drop (k+1))):=rk l x k hlt;clear hc hs;by_cases hp:l[k]=x
   ·have HT:Hid (x∈l):=HA.out.2 (HN.out.2 (.inl hp.symm))
    clear HN HA;have hp':(x==l[k])=true:=by simp[hp]
    go_wp2;go_ret;exact⟨_,rfl,⟨λ_=>HT.out,λ_=>by omega⟩,rfl⟩
   ·have HT:Hid (x∈l↔x∈l.drop (k+1)):=HA.out.trans (HN.out.trans ⟨λh=>h.resolve_left λe=>hp e.symm,.inr⟩)
    have hp':(x==l[k])=false:=by simp;exact λh=>hp h.symm
    clear HN HA;go_wp2
    go_round
    case rel=>exact⟨k+1,by omega,by go_num,HT⟩
    case measure=>simp[intOf];omega
  ·go_wp2
   go_ret;exact⟨_,rfl,⟨λh=>absurd h (by omega),λh=>by have:=HA.out.1 h;rw[Q0 (by omega)] at this;cases this⟩,rfl⟩

theorem rS (x:Int)(ss:oA)(cap:Nat)(l:List Int)(w:World)(hl:l.length<=9223372036854775807)(hs:IntsAt w ss l):
  Calls pG 117 #[U ss l.length cap,I Y x] w λe w'=>e=Rt (Bb (l.contains x))/\w'=w:=by
 go_enter Tryz.func117,Tryz.ntmps117;go_wp2_with fail;refine(vM x ss cap l _ hl hs).mono ?_;rintro e w1 ⟨n,rfl,hn,rfl⟩;go_wp2;go_ret;exact⟨av (by simp),rfl⟩
theorem pM (q:Nat)(p:Int->Bool)(ss:oA)(cap:Nat)(l:List Int)(w:World)(hl:l.length<=9223372036854775807)(hs:IntsAt w ss l)
  (hF:∀x wx,Below w.heap.size w wx->Calls pG 162 #[I Y x,Pp (sO ⟨q,0,nO⟩)] wx λe w'=>e=Rt (Bb (p x))/\Below wx.heap.size wx w'):
  Calls pG 144 #[U ss l.length cap,.func (.func 162) #[] #[Pp (sO ⟨q,0,nO⟩)]] w λe w'=>∃n:Int,e=Rt (I Y n)/\decide (0<=n)=l.any p/\Below w.heap.size w w':=by
 have HF:=aa hF;clear hF;go_enter Tryz.func144,Tryz.ntmps144;go_wp2;go_loopw [8] (λi wr=>∃k:Nat,k<=l.length/\i=I Y k/\Below w.heap.size w wr/\Hid (l.any p=(l.drop k).any p)) (λi _=>l.length - (intOf i).toNat)
 case atStart=>exact⟨0,z8 _,rfl,bR _ _,rfl⟩
 case round=>
  obtain⟨k,hk,rfl,hbr,HA⟩:=hrel;by_cases hlt:k < l.length
  ·obtain⟨b,off,rfl,hb,hc⟩:=hs.get k hlt
   have n0:(0:Int)<=(k:Int):=by omega
   have n1:(k:Int) < (l.length:Int):=by omega
   have s0:=hbr.size;have c0:wr.cell? ⟨b,off+k,nO⟩=sO (I Y l[k]):=by rw[hbr.cell (by simpa using hb)];exact hc k hlt
   have HN:Hid ((l.drop k).any p=(p l[k]||(l.drop (k+1)).any p)):=fP l p k hlt;clear hc hs;go_wp2_with (go_at_call 162;fail);refine(HF.out _ _ hbr).mono ?_;rintro e w1 ⟨rfl,hb1⟩;cases hp:p l[k] with
   |true=>
    have HT:Hid (l.any p=true):=by show _=_;rw[HA.out,HN.out,hp];rfl
    clear HN HA;go_wp2;go_ret;exact⟨_,rfl,by rw[HT.out];simp,hbr.trans (hb1.mono s0)⟩
   |false=>
    have HT:Hid (l.any p=(l.drop (k+1)).any p):=by show _=_;rw[HA.out,HN.out,hp];rfl
    clear HN HA;go_wp2;go_roundw
    case rel=>exact⟨k+1,by omega,by go_num,hbr.trans (hb1.mono s0),HT⟩
    case measure=>simp[intOf];omega
  ·go_wp2
   go_ret;exact⟨_,rfl,by rw[HA.out,Q0 (by omega)];rfl,hbr⟩

theorem me (q:Nat)(p:Int->Bool)(ss:oA)(cap:Nat)(l:List Int)(w:World)(hl:l.length<=9223372036854775807)(hs:IntsAt w ss l)
  (hF:∀x wx,Below w.heap.size w wx->Calls pG 162 #[I Y x,Pp (sO ⟨q,0,nO⟩)] wx λe w'=>e=Rt (Bb (p x))/\Below wx.heap.size wx w'):
  Calls pG 118 #[U ss l.length cap,.func (.func 162) #[] #[Pp (sO ⟨q,0,nO⟩)]] w λe w'=>e=Rt (Bb (l.any p))/\Below w.heap.size w w':=by
 have HF:=aa hF;clear hF;go_enter Tryz.func118,Tryz.ntmps118;go_wp2_with (go_at_call 144;fail);refine(pM q p ss cap l _ hl hs HF.out).mono ?_;rintro e w1 ⟨n,rfl,hn,hb1⟩;go_wp2;go_ret;exact⟨rfl,hb1⟩
theorem pC {p:Prop}(h:p:=by
 have n0:(0:Int)<=(k:Int):=by omega
 go_enter Tryz.func162,Tryz.ntmps162;go_wp2;go_ret;exact⟨av (by rw[HR.out];simp[h11,hk]),Below.refl _ _⟩):p:=h
theorem tF (x:Int)(q:Nat)(V F:Int)(s:oA)(c:List Ins)(cap:Nat)(w:World)(hp:PrAt w q V F s c cap)(hc:CodeAt w s c)(hl:c.length<=60):
  Calls pG 162 #[I Y x,Pp (sO ⟨q,0,nO⟩)] w λe w'=>e=Rt (Bb (!bk c x))/\Below w.heap.size w w':=by
 obtain⟨⟨p0,p1,p2⟩,p3⟩:=hp;have hl':(c.length:Int)<=60:=by omega
 by_cases h0:x < 0
 ·have HR:Hid (bk c x=false):=by show _=_;unfold bk;rw[decide_eq_false (by omega)];rfl
  go_enter Tryz.func162,Tryz.ntmps162;go_wp2;go_ret;exact⟨av (by rw[HR.out];rfl),bR _ _⟩
 by_cases h1:x < (c.length:Int)
 ·obtain⟨k,rfl⟩:=Int.eq_ofNat_of_zero_le (show 0<=x by omega)
  have hk:k < c.length:=by omega
  obtain⟨b,off,rfl,hb,hi⟩:=hc.get k hk;obtain⟨i0,-,-,-,-,-⟩:=hi k hk;have HR:Hid (bk c k=decide (c[k].k=11)):=by
   show _=_;unfold bk;rw[decide_eq_true (show (0:Int)<=(k:Int) by omega),decide_eq_true h1,Int.toNat_natCast,show c.getD k ⟨0,0,0,0,0,0⟩=c[k] by simp[j5,x4 hk]];simp
  clear hi hc;by_cases h11:c[k].k=11
  ·have e11:(c[k].k !=11)=false:=by simp[h11]
   exact pC
  ·have e11:(c[k].k !=11)=true:=by simpa using h11
   exact pC
 ·have HR:Hid (bk c x=false):=by show _=_;unfold bk;rw[decide_eq_false h1];simp
  go_enter Tryz.func162,Tryz.ntmps162;go_wp2;go_ret;exact⟨av (by rw[HR.out];rfl),bR _ _⟩

theorem mC (l:List Int)(p:Int->Bool):(l.any λx=> !p x)= !l.all p:=by
 induction l with
 |nil=>rfl
 |cons a r ih=>simp only[List.any_cons,Qf,ih,Bool.not_and]

theorem i7 (l:List Int):bS l=true↔∀k (h:k+1 < l.length),l[k] < l[k+1]:=by
 induction l with
 |nil=>simp[bS]
 |cons a r ih=>
  cases r with
  |nil=>simp[bS]
  |cons b t=>
   simp only[bS,j9,decide_eq_true_eq,ih];constructor
   ·rintro ⟨h1,h2⟩ k hk
    cases k with
    |zero=>exact h1
    |succ k=>exact h2 k (by simpa using hk)
   ·intro h
    exact⟨h 0 (by simp),λk hk=>h (k+1) (by simpa using hk)⟩

abbrev pgW (w:World)(V F:Int)(s:oA)(c:List Ins)(cap:Nat)(g:Gs)(ss:oA)(gc:Nat):World:=
 (w.alloc (Cc #[I Y V,I Y F,U s c.length cap] 24)).alloc (Cc #[Bb g.n,Bb g.sp.n,I Y g.sp.lo,I Y g.sp.hi,Bb g.t,Bb g.f,U ss g.s.length gc] 61)

theorem pT (V F:Int)(s:oA)(c:List Ins)(cap:Nat)(g:Gs)(ss:oA)(gc:Nat)(w:World)(hc:CodeAt w s c)(hl:c.length<=60)(hs:IntsAt w ss g.s)(hgl:g.s.length<=9223372036854775807):
  Calls pG 141 #[pv V F s c cap,gv g ss gc] w λe w'=>e=Rt (I Y (ap c g))/\Below w.heap.size w w':=by
 have P0:PrAt (pgW w V F s c cap g ss gc) w.heap.size V F s c cap:=(PrAt.new w V F s c cap).alloc _;have G0:GuAt (pgW w V F s c cap g ss gc) (w.heap.size+1) 0 g ss gc:=by
  have:=GuAt.new (w.alloc (Cc #[I Y V,I Y F,U s c.length cap] 24)) g ss gc;simpa using this
 have C0:CodeAt (pgW w V F s c cap g ss gc) s c:=(hc.alloc _).alloc _;have I0:IntsAt (pgW w V F s c cap g ss gc) ss g.s:=(hs.alloc _).alloc _;have B0:Below w.heap.size w (pgW w V F s c cap g ss gc):=by go_grown
 have HR:Hid (ap c g=if bK g.sp≠0 then bK g.sp else if g.s.all (bk c)=false then 5 else if bS g.s=false then 4 else 0):=rfl;go_enter Tryz.func141,Tryz.ntmps141;go_wp2_with (go_at_call 161;fail);refine(fD g.sp _).mono ?_;rintro e w1 ⟨rfl,hb1⟩;have P1:=P0.call hb1;have G1:=G0.call hb1;have C1:=C0.call hb1;have I1:=I0.call hb1;have B1:Below w.heap.size w w1:=B0.trans (hb1.mono (by simp;omega));clear hb1 P0 G0 C0 I0 B0 hc hs;by_cases hsp:bK g.sp=0
 ·obtain⟨⟨g0,g1,g2,g3,g4,g5,g6⟩,gz⟩:=id G1
  rw[hsp];go_wp2_with (go_at_call 118;fail);refine(me w.heap.size (λx=> !bk c x) ss gc g.s _ hgl I1 λx wx hbx=>tF x w.heap.size V F s c cap wx (P1.call hbx) (C1.call hbx) hl).mono ?_;rintro e w2 ⟨rfl,hb2⟩;rw[mC];have G2:=G1.call hb2;have I2:=I1.call hb2;have B2:Below w.heap.size w w2:=B1.trans (hb2.mono B1.size);clear hb2 P1 G1 C1 I1 B1 g0 g1 g2 g3 g4 g5 g6 gz;obtain⟨⟨g0,g1,g2,g3,g4,g5,g6⟩,gz⟩:=id G2;cases hA:g.s.all (bk c) with
  |false=>
   have HF:Hid (ap c g=5):=by show _=_;rw[HR.out,if_neg (by simpa using hsp),if_pos hA]
   clear HR;go_wp2;go_ret;exact⟨bd HF.out.symm,B2⟩
  |true=>
   have HF:Hid (ap c g=if bS g.s=false then 4 else 0):=by show _=_;rw[HR.out,if_neg (by simpa using hsp),if_neg (by simp[hA])]
   have HQ:=aa (i7 g.s);clear HR;go_wp2;go_loopw [7] (λi wr=>∃k:Nat,1<=k/\i=I Y k/\k<=g.s.length+1/\wr.cell? ⟨w.heap.size+1,6,nO⟩=sO (U ss g.s.length gc)/\IntsAt wr ss g.s/\Below w.heap.size w wr/\Hid (∀j (h:j+1 < g.s.length),j+1 < k->g.s[j] < g.s[j+1])) (λi _=>g.s.length+1 - (intOf i).toNat)
   case atStart=>exact⟨1,lR _,rfl,by omega,g6,I2,B2,λj h h'=>by omega⟩
   case round=>
    obtain⟨k,hk1,rfl,hk2,r6,IR,BR,HK⟩:=hrel;by_cases hlt:k < g.s.length
    ·obtain⟨b,off,rfl,hb,hcell⟩:=IR.get k hlt
     have c0:=hcell (k - 1) (by omega);have c1:=hcell k hlt;have t1:((k:Int) - 1).toNat=k - 1:=by omega
     have n0:(0:Int)<=(k:Int) - 1:=by omega
     have n1:(k:Int) - 1 < (g.s.length:Int):=by omega
     have n2:(0:Int)<=(k:Int):=by omega
     have n3:(k:Int) < (g.s.length:Int):=by omega
     clear hcell;by_cases hr:g.s[k - 1] < g.s[k]
     ·go_wp2
      go_quiet (fail)
      go_wp2;go_roundw
      case rel=>
       refine⟨k+1,by omega,by go_num,by omega,?_,IR.drewN _,below_drewN BR _,λj h h'=> ?_⟩
       ·rw[<-r6];exact(below_drewN (bR (wr.heap.size+(w.heap.size+2)) wr) _).cell (by simp;omega)
       ·by_cases e:j+1=k
        ·subst e;exact hr
        ·exact HK.out j h (by omega)
      case measure=>simp[intOf];omega
     ·have HG:Hid (bS g.s=false):=by
       show _=_;rw[Bool.eq_false_iff];intro hx;have:=HQ.out.1 hx (k - 1) (by omega);have e:k - 1+1=k:=by omega
       simp only[e] at this;exact hr this
      clear HQ;go_wp2
      go_quiet (fail)
      go_wp2;go_ret;exact⟨bd (by rw[HF.out,if_pos HG.out]),below_drewN BR _⟩
    ·go_wp2
     go_ret;refine⟨bd ?_,BR⟩;rw[HF.out,if_neg];have:bS g.s=true:=HQ.out.2 λj h=>HK.out j h (by omega);simp[this]
 ·have HF:Hid (ap c g=bK g.sp):=by show _=_;rw[HR.out,if_pos hsp]
  have hne:(bK g.sp !=0)=true:=by simpa using hsp
  clear HR;go_wp2;go_ret;exact⟨bd HF.out.symm,B1⟩
theorem dS {p:Prop}(h:p:=by
 go_enter Tryz.func93,Tryz.ntmps93;go_wp2_with (go_at_call 38;refine(cE _ _ _ _).mono ?_;rintro e w' ⟨rfl,rfl⟩);go_ret;exact⟨rfl,by go_grown⟩):p:=h
theorem ge (s:Sp)(w:World):
  Calls pG 93 #[sv s] w λe w'=>e=Rt (I Y (bK s))/\Below w.heap.size w w':=by
 obtain⟨n,lo,hi⟩:=s;have e0:bK ⟨n,lo,hi⟩=if¬(aS lo/\aS hi) then 3 else if n=true/\¬(lo=0/\hi=0) then 1 else if hi < lo then 4 else 0:=rfl
 rw[e0];clear e0;by_cases h:aS lo
 ·have b1:btw lo (-2147483648) 2147483647=true:=decide_eq_true h
  by_cases h':aS hi
  ·have b2:btw hi (-2147483648) 2147483647=true:=decide_eq_true h'
   rw[if_neg (by simp[h,h'])];clear h h';cases n with
   |true=>
    by_cases hz:lo=0
    ·subst hz
     by_cases hz':hi=0
     ·subst hz'
      rw[if_neg (by simp),if_neg (by simp)];exact dS
     ·have q:(hi==0)=false:=by simpa using hz'
      rw[if_pos (by simp[hz'])];exact dS
    ·have q:(lo==0)=false:=by simpa using hz
     rw[if_pos (by simp[hz])];exact dS
   |false=>
    rw[if_neg (by simp)];by_cases hz:hi < lo
    ·rw[if_pos hz]
     exact dS
    ·rw[if_neg hz]
     exact dS
  ·have b2:btw hi (-2147483648) 2147483647=false:=decide_eq_false h'
   rw[if_pos (by simp[h'])];clear h h';exact dS
 ·have b1:btw lo (-2147483648) 2147483647=false:=decide_eq_false h
  rw[if_pos (by simp[h])];clear h;exact dS

theorem gN (s:Sp)(x:Int)(w:World):
  Calls pG 25 #[sv s,I Y x] w λe w'=>e=Rt (Bb (s.has x))/\Below w.heap.size w w':=by
 obtain⟨n,lo,hi⟩:=s;have e0:btw x lo hi=(decide (lo<=x)&&decide (x<=hi)):=by unfold btw;exact Bool.decide_and _ _
 have e1:Sp.has ⟨n,lo,hi⟩ x=(!n&&btw x lo hi):=by rw[e0];rfl
 rw[e1];cases n with
 |true=>
  go_enter Tryz.func25,Tryz.ntmps25;go_wp2;go_ret;exact⟨rfl,by go_grown⟩
 |false=>
  clear e0 e1;generalize hB:btw x lo hi=B;go_enter Tryz.func25,Tryz.ntmps25;go_wp2_with (go_at_call 38;refine(cE _ _ _ _).mono ?_;rintro e w' ⟨rfl,rfl⟩);go_ret;exact⟨av (by simp[hB]),by go_grown⟩

theorem vk (s t:Sp)(w:World):
  Calls pG 104 #[sv s,sv t] w λe w'=>e=Rt (Bb (cZ s t))/\Below w.heap.size w w':=by
 have e0:cZ s t=(s.n||(t.has s.lo&&t.has s.hi)):=rfl;rw[e0];clear e0;have k1:=λw=>gN t s.lo w;have k2:=λw=>gN t s.hi w;generalize t.has s.lo=A at k1 |-;generalize t.has s.hi=B at k2 |-;obtain⟨n,lo,hi⟩:=s;obtain⟨n',lo',hi'⟩:=t;cases n with
 |true=>
  go_enter Tryz.func104,Tryz.ntmps104;go_wp2;go_ret;exact⟨rfl,by go_grown⟩
 |false=>
  go_enter Tryz.func104,Tryz.ntmps104;go_wp2_with (go_at_call 25;fail);refine(k1 _).mono ?_;rintro e w1 ⟨rfl,hb1⟩;obtain⟨c0,c1,c2,d0,d1,d2⟩:=il hb1 (by simp);have H1:Below w.heap.size w w1:=Below.trans (by go_grown) (hb1.mono (by simp;omega));have z0:w.heap.size<=w1.heap.size:=H1.size;clear hb1 k1;cases A with
  |false=>
   go_wp2;go_ret;exact⟨rfl,H1⟩
  |true=>
   go_wp2_with (go_at_call 25;fail);refine(k2 _).mono ?_;rintro e w2 ⟨rfl,hb2⟩;go_wp2;go_ret;exact⟨rfl,H1.trans (hb2.mono z0)⟩

theorem sQ (g c:Nat)(x y:Int)(w:World)(h0:w.cell? ⟨g,0,nO⟩=sO (I Y x))(h1:w.cell? ⟨g,1,nO⟩=sO (I Y y)):
  Calls pG 94 #[U (sO ⟨g,0,nO⟩) 2 c] w λe w'=>e=Rt (I Y (min x y))/\w'=w:=by
 go_enter Tryz.func94,Tryz.ntmps94;go_wp2
 go_rounds 2
 all_goals go_ret
 all_goals exact⟨bd (by omega),rfl⟩

theorem yT (g c:Nat)(x y z u:Int)(w:World)(h0:w.cell? ⟨g,0,nO⟩=sO (I Y x))(h1:w.cell? ⟨g,1,nO⟩=sO (I Y y))(h2:w.cell? ⟨g,2,nO⟩=sO (I Y z))(h3:w.cell? ⟨g,3,nO⟩=sO (I Y u)):
  Calls pG 94 #[U (sO ⟨g,0,nO⟩) 4 c] w λe w'=>e=Rt (I Y (cT x y z u))/\w'=w:=by
 go_enter Tryz.func94,Tryz.ntmps94;go_wp2
 go_rounds 4
 all_goals go_ret
 all_goals exact⟨bd (by unfold cT;omega),rfl⟩

theorem vK (g c:Nat)(x y:Int)(w:World)(h0:w.cell? ⟨g,0,nO⟩=sO (I Y x))(h1:w.cell? ⟨g,1,nO⟩=sO (I Y y)):
  Calls pG 95 #[U (sO ⟨g,0,nO⟩) 2 c] w λe w'=>e=Rt (I Y (max x y))/\w'=w:=by
 go_enter Tryz.func95,Tryz.ntmps95;go_wp2
 go_rounds 2
 all_goals go_ret
 all_goals exact⟨bd (by omega),rfl⟩

theorem Cr (g c:Nat)(x y z u:Int)(w:World)(h0:w.cell? ⟨g,0,nO⟩=sO (I Y x))(h1:w.cell? ⟨g,1,nO⟩=sO (I Y y))(h2:w.cell? ⟨g,2,nO⟩=sO (I Y z))(h3:w.cell? ⟨g,3,nO⟩=sO (I Y u)):
  Calls pG 95 #[U (sO ⟨g,0,nO⟩) 4 c] w λe w'=>e=Rt (I Y (cU x y z u))/\w'=w:=by
 go_enter Tryz.func95,Tryz.ntmps95;go_wp2
 go_rounds 4
 all_goals go_ret
 all_goals exact⟨bd (by unfold cU;omega),rfl⟩
abbrev w3 (s t r:Sp)(w:World):World:=((w.alloc (Cc #[Bb s.n,I Y s.lo,I Y s.hi] 58)).alloc (Cc #[Bb t.n,I Y t.lo,I Y t.hi] 58)).alloc (Cc #[Bb r.n,I Y r.lo,I Y r.hi] 58)

theorem dt {B:Nat}{s t r:Sp}{w w1:World}(hb:Below B (w3 s t r w) w1)(hB:w.heap.size+2 < B):(w1.cell? ⟨w.heap.size,0,nO⟩=sO (Bb s.n)/\w1.cell? ⟨w.heap.size,1,nO⟩=sO (I Y s.lo)/\w1.cell? ⟨w.heap.size,2,nO⟩=sO (I Y s.hi))/\(w1.cell? ⟨w.heap.size+1,0,nO⟩=sO (Bb t.n)/\w1.cell? ⟨w.heap.size+1,1,nO⟩=sO (I Y t.lo)/\w1.cell? ⟨w.heap.size+1,2,nO⟩=sO (I Y t.hi))/\(w1.cell? ⟨w.heap.size+1+1,0,nO⟩=sO (Bb r.n)/\w1.cell? ⟨w.heap.size+1+1,1,nO⟩=sO (I Y r.lo)/\w1.cell? ⟨w.heap.size+1+1,2,nO⟩=sO (I Y r.hi))/\(w1.frozen? ⟨w.heap.size+1+1,0,nO⟩=false/\w1.frozen? ⟨w.heap.size+1+1,1,nO⟩=false/\w1.frozen? ⟨w.heap.size+1+1,2,nO⟩=false)/\(w.heap.size < w1.heap.size/\w.heap.size+1 < w1.heap.size/\w.heap.size+1+1 < w1.heap.size):=by
 have hs:=hb.size;rw[hb.cell (by simp;omega),hb.cell (by simp;omega),hb.cell (by simp;omega),hb.cell (by simp;omega),hb.cell (by simp;omega),hb.cell (by simp;omega),hb.cell (by simp;omega),hb.cell (by simp;omega),hb.cell (by simp;omega),hb.frozen (by simp;omega),hb.frozen (by simp;omega),hb.frozen (by simp;omega)];simp[go_sem] at hs |-;omega

theorem dp (s t r:Sp)(w:World):Below w.heap.size w (w3 s t r w):=by go_grown

theorem lX {lo hi lo' hi' a b:Int}(ha:a=min lo lo')(hb:b=max hi hi'):aT ⟨false,lo,hi⟩ ⟨false,lo',hi'⟩=⟨false,a,b⟩:=by
 subst ha hb;rfl

theorem yI (s t:Sp)(w:World):
  Calls pG 168 #[sv s,sv t] w λe w'=>e=Rt (sv (aV s t))/\Below w.heap.size w w':=by
 obtain⟨n,lo,hi⟩:=s;obtain⟨n',lo',hi'⟩:=t;go_enter Tryz.func168,Tryz.ntmps168;go_wp2_with (go_at_call 137;fail);refine(tu ⟨n,lo,hi⟩ ⟨n',lo',hi'⟩ _).mono ?_;rintro e w1 ⟨rfl,hb1⟩;obtain⟨⟨c0,c1,c2⟩,⟨d0,d1,d2⟩,⟨r0,r1,r2⟩,⟨f0,f1,f2⟩,z0,z1,z2⟩:=dt (s:=⟨n,lo,hi⟩) (t:=⟨n',lo',hi'⟩) (r:=bn) hb1 (by simp);have H1:Below w.heap.size w w1:=(dp ⟨n,lo,hi⟩ ⟨n',lo',hi'⟩ bn w).trans (hb1.mono (by simp;omega));clear hb1;simp only[bn] at r0 r1 r2;cases n with
 |true=>
  have e0:aT ⟨true,lo,hi⟩ ⟨n',lo',hi'⟩=⟨n',lo',hi'⟩:=rfl;rw[e0];go_wp2;refine bodyPost_ret (v:=sv ⟨n',lo',hi'⟩) (by simp[results,Tryz.results168,go_sem,r0,r1,r2,z2]) rfl ⟨rfl,?_⟩;exact(((H1.setCell (by simp;omega) _).setCell (by simp;omega) _).setCell (by simp;omega) _).alloc (by simp;omega) _
 |false=>
  cases n' with
  |true=>
   have e0:aT ⟨false,lo,hi⟩ ⟨true,lo',hi'⟩=⟨false,lo,hi⟩:=rfl;rw[e0];go_wp2;refine bodyPost_ret (v:=sv ⟨false,lo,hi⟩) (by simp[results,Tryz.results168,go_sem,r0,r1,r2,z2]) rfl ⟨rfl,?_⟩;exact(((H1.setCell (by simp;omega) _).setCell (by simp;omega) _).setCell (by simp;omega) _).alloc (by simp;omega) _
  |false=>
  rcases Int.lt_or_le lo' lo with h1|h1<;>rcases Int.lt_or_le hi hi' with h2|h2
  ·have e0:aT ⟨false,lo,hi⟩ ⟨false,lo',hi'⟩=⟨false,lo',hi'⟩:=lX (by omega) (by omega)
   rw[e0];go_wp2;refine bodyPost_ret (v:=sv ⟨false,-2147483648,2147483647⟩) (by simp[results,Tryz.results168,go_sem,r0,r1,r2,z2]) rfl ⟨?_,?_⟩
   ·exact eF (by simp[aV]<;>omega)
   ·exact(((H1.setCell (by simp;omega) _).setCell (by simp;omega) _).setCell (by simp;omega) _).alloc (by simp;omega) _
  ·have e0:aT ⟨false,lo,hi⟩ ⟨false,lo',hi'⟩=⟨false,lo',hi⟩:=lX (by omega) (by omega)
   rw[e0];go_wp2;refine bodyPost_ret (v:=sv ⟨false,-2147483648,hi⟩) (by simp[results,Tryz.results168,go_sem,r0,r1,r2,z2]) rfl ⟨?_,?_⟩
   ·exact eF (by simp[aV]<;>omega)
   ·exact(((H1.setCell (by simp;omega) _).setCell (by simp;omega) _).setCell (by simp;omega) _).alloc (by simp;omega) _
  ·have e0:aT ⟨false,lo,hi⟩ ⟨false,lo',hi'⟩=⟨false,lo,hi'⟩:=lX (by omega) (by omega)
   rw[e0];go_wp2;refine bodyPost_ret (v:=sv ⟨false,lo,2147483647⟩) (by simp[results,Tryz.results168,go_sem,r0,r1,r2,z2]) rfl ⟨?_,?_⟩
   ·exact eF (by simp[aV]<;>omega)
   ·exact(((H1.setCell (by simp;omega) _).setCell (by simp;omega) _).setCell (by simp;omega) _).alloc (by simp;omega) _
  ·have e0:aT ⟨false,lo,hi⟩ ⟨false,lo',hi'⟩=⟨false,lo,hi⟩:=lX (by omega) (by omega)
   rw[e0];go_wp2;refine bodyPost_ret (v:=sv ⟨false,lo,hi⟩) (by simp[results,Tryz.results168,go_sem,r0,r1,r2,z2]) rfl ⟨?_,?_⟩
   ·exact eF (by simp[aV]<;>omega)
   ·exact(((H1.setCell (by simp;omega) _).setCell (by simp;omega) _).setCell (by simp;omega) _).alloc (by simp;omega) _

theorem g7 (F:Nat)(s t:Sp)(w:World)(h:bj s t≠0):
  Calls pG 111 #[sv s,sv t,.func (.func F) #[] #[]] w λe w'=>e=Rt (Tu #[sv bn,I Y (bj s t)])/\Below w.heap.size w w':=by
 obtain⟨n,lo,hi⟩:=s;obtain⟨n',lo',hi'⟩:=t;go_enter Tryz.func111,Tryz.ntmps111;go_wp2_with (go_at_call 138;fail);refine(dg ⟨n,lo,hi⟩ ⟨n',lo',hi'⟩ _).mono ?_;rintro e w1 ⟨rfl,hb1⟩;obtain⟨⟨c0,c1,c2⟩,⟨d0,d1,d2⟩,⟨r0,r1,r2⟩,⟨f0,f1,f2⟩,z0,z1,z2⟩:=dt (s:=⟨n,lo,hi⟩) (t:=⟨n',lo',hi'⟩) (r:=bn) hb1 (by simp);have H1:Below w.heap.size w w1:=(dp ⟨n,lo,hi⟩ ⟨n',lo',hi'⟩ bn w).trans (hb1.mono (by simp;omega));clear hb1;simp only[bn] at r0 r1 r2;go_wp2;refine bodyPost_ret (v:=Tu #[sv bn,I Y (bj ⟨n,lo,hi⟩ ⟨n',lo',hi'⟩)]) (by simp[results,Tryz.results111,go_sem,r0,r1,r2,bn]) rfl ⟨rfl,?_⟩;exact((H1.setCell (by simp;omega) _).setCell (by simp;omega) _).setCell (by simp;omega) _

theorem iX {p:Prop}(h:p:=by
 obtain⟨rn,rlo,rhi⟩:=r;go_wp2;refine bodyPost_ret (v:=.tuple #[sv ⟨rn,rlo,rhi⟩,.int .i64 0]) (by simp[results,Tryz.results111,go_sem,g0,g1,g2]) rfl ⟨by rw[hr],?_⟩;exact((H2.setCell (by simp;omega) _).setCell (by simp;omega) _).setCell (by simp;omega) _):p:=h
theorem sc (s t:Sp)(w:World)(h:bj s t=0):
  Calls pG 111 #[sv s,sv t,.func (.func 137) #[] #[]] w λe w'=>e=Rt (Tu #[sv (aT s t),I Y 0])/\Below w.heap.size w w':=by
 obtain⟨n,lo,hi⟩:=s;obtain⟨n',lo',hi'⟩:=t;go_enter Tryz.func111,Tryz.ntmps111;go_wp2_with (go_at_call 138;fail);refine(dg ⟨n,lo,hi⟩ ⟨n',lo',hi'⟩ _).mono ?_;rintro e w1 ⟨rfl,hb1⟩;obtain⟨⟨c0,c1,c2⟩,⟨d0,d1,d2⟩,⟨r0,r1,r2⟩,⟨f0,f1,f2⟩,z0,z1,z2⟩:=dt (s:=⟨n,lo,hi⟩) (t:=⟨n',lo',hi'⟩) (r:=bn) hb1 (by simp);have H1:Below w.heap.size w w1:=(dp ⟨n,lo,hi⟩ ⟨n',lo',hi'⟩ bn w).trans (hb1.mono (by simp;omega));rw[h];simp only[bn] at r0 r1 r2;clear hb1;go_wp2_with (go_at_call 137;fail);refine(tu ⟨n,lo,hi⟩ ⟨n',lo',hi'⟩ _).mono ?_;rintro e w2 ⟨rfl,hb2⟩;have g0:=r0;have g1:=r1;have g2:=r2;have k0:=f0;have k1:=f1;have k2:=f2
 rw[<-hb2.cell z2] at g0 g1 g2;rw[<-hb2.frozen z2] at k0 k1 k2;have H2:Below w.heap.size w w2:=H1.trans (hb2.mono (by omega));clear r0 r1 r2 f0 f1 f2 hb2 c0 c1 c2 d0 d1 d2;generalize hr:aT ⟨n,lo,hi⟩ ⟨n',lo',hi'⟩=r;exact iX

theorem rX (s t:Sp)(w:World)(h:bj s t=0):
  Calls pG 111 #[sv s,sv t,.func (.func 112) #[] #[]] w λe w'=>e=Rt (Tu #[sv (au s t),I Y 0])/\Below w.heap.size w w':=by
 obtain⟨n,lo,hi⟩:=s;obtain⟨n',lo',hi'⟩:=t;go_enter Tryz.func111,Tryz.ntmps111;go_wp2_with (go_at_call 138;fail);refine(dg ⟨n,lo,hi⟩ ⟨n',lo',hi'⟩ _).mono ?_;rintro e w1 ⟨rfl,hb1⟩;obtain⟨⟨c0,c1,c2⟩,⟨d0,d1,d2⟩,⟨r0,r1,r2⟩,⟨f0,f1,f2⟩,z0,z1,z2⟩:=dt (s:=⟨n,lo,hi⟩) (t:=⟨n',lo',hi'⟩) (r:=bn) hb1 (by simp);have H1:Below w.heap.size w w1:=(dp ⟨n,lo,hi⟩ ⟨n',lo',hi'⟩ bn w).trans (hb1.mono (by simp;omega));rw[h];simp only[bn] at r0 r1 r2;clear hb1;go_wp2_with (go_at_call 112;fail);refine(Bh ⟨n,lo,hi⟩ ⟨n',lo',hi'⟩ _).mono ?_;rintro e w2 ⟨rfl,hb2⟩;have g0:=r0;have g1:=r1;have g2:=r2;have k0:=f0;have k1:=f1;have k2:=f2
 rw[<-hb2.cell z2] at g0 g1 g2;rw[<-hb2.frozen z2] at k0 k1 k2;have H2:Below w.heap.size w w2:=H1.trans (hb2.mono (by omega));clear r0 r1 r2 f0 f1 f2 hb2 c0 c1 c2 d0 d1 d2;generalize hr:au ⟨n,lo,hi⟩ ⟨n',lo',hi'⟩=r;exact iX

theorem pU (s t:Sp)(w:World)(h:bj s t=0):
  Calls pG 111 #[sv s,sv t,.func (.func 168) #[] #[]] w λe w'=>e=Rt (Tu #[sv (aV s t),I Y 0])/\Below w.heap.size w w':=by
 obtain⟨n,lo,hi⟩:=s;obtain⟨n',lo',hi'⟩:=t;go_enter Tryz.func111,Tryz.ntmps111;go_wp2_with (go_at_call 138;fail);refine(dg ⟨n,lo,hi⟩ ⟨n',lo',hi'⟩ _).mono ?_;rintro e w1 ⟨rfl,hb1⟩;obtain⟨⟨c0,c1,c2⟩,⟨d0,d1,d2⟩,⟨r0,r1,r2⟩,⟨f0,f1,f2⟩,z0,z1,z2⟩:=dt (s:=⟨n,lo,hi⟩) (t:=⟨n',lo',hi'⟩) (r:=bn) hb1 (by simp);have H1:Below w.heap.size w w1:=(dp ⟨n,lo,hi⟩ ⟨n',lo',hi'⟩ bn w).trans (hb1.mono (by simp;omega));rw[h];simp only[bn] at r0 r1 r2;clear hb1;go_wp2_with (go_at_call 168;fail);refine(yI ⟨n,lo,hi⟩ ⟨n',lo',hi'⟩ _).mono ?_;rintro e w2 ⟨rfl,hb2⟩;have g0:=r0;have g1:=r1;have g2:=r2;have k0:=f0;have k1:=f1;have k2:=f2
 rw[<-hb2.cell z2] at g0 g1 g2;rw[<-hb2.frozen z2] at k0 k1 k2;have H2:Below w.heap.size w w2:=H1.trans (hb2.mono (by omega));clear r0 r1 r2 f0 f1 f2 hb2 c0 c1 c2 d0 d1 d2;generalize hr:aV ⟨n,lo,hi⟩ ⟨n',lo',hi'⟩=r;exact iX
theorem nY (s t:Sp)(b:Bool)(w:World)(h:(s.n||t.n)=true):
  Calls pG 58 #[sv s,sv t,Bb b] w λe w'=>e=Rt (sv (aT s t))/\Below w.heap.size w w':=by
 obtain⟨n,lo,hi⟩:=s;obtain⟨n',lo',hi'⟩:=t;cases n with
 |true=>
  go_enter Tryz.func58,Tryz.ntmps58;go_wp2
  go_returns
  exact⟨rfl,by go_grown⟩
 |false=>
  cases n' with
  |true=>
   go_enter Tryz.func58,Tryz.ntmps58;go_wp2
   go_returns
   exact⟨rfl,by go_grown⟩
  |false=>exact absurd h (by simp)

theorem Df {lo hi lo' hi' a b:Int}(ha:a=if lo' < lo then -2147483648 else lo)(hb:b=if hi < hi' then 2147483647 else hi):aV ⟨false,lo,hi⟩ ⟨false,lo',hi'⟩=⟨false,a,b⟩:=by
 subst ha hb;rfl
abbrev dy (e:Int)(r:Sp):Sp:=if e=0 then r else bn

theorem AK (s t:Sp)(w:World):
  Calls pG 111 #[sv s,sv t,.func (.func 137) #[] #[]] w λe w'=>e=Rt (Tu #[sv (dy (bj s t) (aT s t)),I Y (bj s t)])/\Below w.heap.size w w':=by
 by_cases h:bj s t=0
 ·rw[h];exact sc s t w h
 ·unfold dy;rw[if_neg h];exact g7 _ s t w h

theorem Ac (s t:Sp)(w:World):
  Calls pG 110 #[sv s,sv t] w λe w'=>e=Rt (Tu #[sv (dy (bj s t) (aT s t)),I Y (bj s t)])/\Below w.heap.size w w':=by
 have hT:=AK s t;generalize dy (bj s t) (aT s t)=r at hT |-;generalize bj s t=c at hT |-;obtain⟨n,lo,hi⟩:=s;obtain⟨n',lo',hi'⟩:=t;obtain⟨rn,rlo,rhi⟩:=r;go_enter Tryz.func110,Tryz.ntmps110;go_wp2_with (go_at_call 111;fail);refine(hT _).mono ?_;rintro e w1 ⟨rfl,hb1⟩;obtain⟨-,-,⟨r0,r1,r2⟩,⟨f0,f1,f2⟩,z0,z1,z2⟩:=dt (s:=⟨n,lo,hi⟩) (t:=⟨n',lo',hi'⟩) (r:=bn) hb1 (by simp);have H1:Below w.heap.size w w1:=(dp ⟨n,lo,hi⟩ ⟨n',lo',hi'⟩ bn w).trans (hb1.mono (by simp;omega));simp only[bn] at r0 r1 r2;clear hb1 hT;go_wp2;refine bodyPost_ret (v:=Tu #[sv ⟨rn,rlo,rhi⟩,I Y c]) (by simp[results,Tryz.results110,go_sem,r0,r1,r2]) rfl ⟨rfl,?_⟩;exact((H1.setCell (by simp;omega) _).setCell (by simp;omega) _).setCell (by simp;omega) _

theorem AB (s t:Sp)(w:World):
  Calls pG 111 #[sv s,sv t,.func (.func 112) #[] #[]] w λe w'=>e=Rt (Tu #[sv (dy (bj s t) (au s t)),I Y (bj s t)])/\Below w.heap.size w w':=by
 by_cases h:bj s t=0
 ·rw[h];exact rX s t w h
 ·unfold dy;rw[if_neg h];exact g7 _ s t w h

theorem fY (s t:Sp)(w:World):
  Calls pG 86 #[sv s,sv t] w λe w'=>e=Rt (Tu #[sv (dy (bj s t) (au s t)),I Y (bj s t)])/\Below w.heap.size w w':=by
 have hT:=AB s t;generalize dy (bj s t) (au s t)=r at hT |-;generalize bj s t=c at hT |-;obtain⟨n,lo,hi⟩:=s;obtain⟨n',lo',hi'⟩:=t;obtain⟨rn,rlo,rhi⟩:=r;go_enter Tryz.func86,Tryz.ntmps86;go_wp2_with (go_at_call 111;fail);refine(hT _).mono ?_;rintro e w1 ⟨rfl,hb1⟩;obtain⟨-,-,⟨r0,r1,r2⟩,⟨f0,f1,f2⟩,z0,z1,z2⟩:=dt (s:=⟨n,lo,hi⟩) (t:=⟨n',lo',hi'⟩) (r:=bn) hb1 (by simp);have H1:Below w.heap.size w w1:=(dp ⟨n,lo,hi⟩ ⟨n',lo',hi'⟩ bn w).trans (hb1.mono (by simp;omega));simp only[bn] at r0 r1 r2;clear hb1 hT;go_wp2;refine bodyPost_ret (v:=Tu #[sv ⟨rn,rlo,rhi⟩,I Y c]) (by simp[results,Tryz.results86,go_sem,r0,r1,r2]) rfl ⟨rfl,?_⟩;exact((H1.setCell (by simp;omega) _).setCell (by simp;omega) _).setCell (by simp;omega) _

theorem yo (s t:Sp)(w:World):
  Calls pG 111 #[sv s,sv t,.func (.func 168) #[] #[]] w λe w'=>e=Rt (Tu #[sv (dy (bj s t) (aV s t)),I Y (bj s t)])/\Below w.heap.size w w':=by
 by_cases h:bj s t=0
 ·rw[h];exact pU s t w h
 ·unfold dy;rw[if_neg h];exact g7 _ s t w h

theorem wl (s t:Sp)(w:World):
  Calls pG 155 #[sv s,sv t] w λe w'=>e=Rt (Tu #[sv (dy (bj s t) (aV s t)),I Y (bj s t)])/\Below w.heap.size w w':=by
 have hT:=yo s t;generalize dy (bj s t) (aV s t)=r at hT |-;generalize bj s t=c at hT |-;obtain⟨n,lo,hi⟩:=s;obtain⟨n',lo',hi'⟩:=t;obtain⟨rn,rlo,rhi⟩:=r;go_enter Tryz.func155,Tryz.ntmps155;go_wp2_with (go_at_call 111;fail);refine(hT _).mono ?_;rintro e w1 ⟨rfl,hb1⟩;obtain⟨-,-,⟨r0,r1,r2⟩,⟨f0,f1,f2⟩,z0,z1,z2⟩:=dt (s:=⟨n,lo,hi⟩) (t:=⟨n',lo',hi'⟩) (r:=bn) hb1 (by simp);have H1:Below w.heap.size w w1:=(dp ⟨n,lo,hi⟩ ⟨n',lo',hi'⟩ bn w).trans (hb1.mono (by simp;omega));simp only[bn] at r0 r1 r2;clear hb1 hT;go_wp2;refine bodyPost_ret (v:=Tu #[sv ⟨rn,rlo,rhi⟩,I Y c]) (by simp[results,Tryz.results155,go_sem,r0,r1,r2]) rfl ⟨rfl,?_⟩;exact((H1.setCell (by simp;omega) _).setCell (by simp;omega) _).setCell (by simp;omega) _

theorem vE (s t:Sp)(w:World)(h:bj s t≠0):
  Calls pG 119 #[sv s,sv t] w λe w'=>e=Rt (Tu #[Bb false,I Y (bj s t)])/\Below w.heap.size w w':=by
 have hT:=fY s t;have h':(bj s t==0)=false:=by simpa using h
 generalize dy (bj s t) (au s t)=r at hT;generalize bj s t=c at hT h h' |-;obtain⟨n,lo,hi⟩:=s;obtain⟨n',lo',hi'⟩:=t;obtain⟨rn,rlo,rhi⟩:=r;have h0:Below w.heap.size w ((w.alloc (Cc #[Bb n,I Y lo,I Y hi] 58)).alloc (Cc #[Bb n',I Y lo',I Y hi'] 58)):=by go_grown
 go_enter Tryz.func119,Tryz.ntmps119;go_wp2_with (go_at_call 86;fail);refine(hT _).mono ?_;rintro e w1 ⟨rfl,hb1⟩;obtain⟨c0,c1,c2,d0,d1,d2⟩:=il hb1 (by simp);have H1:Below w.heap.size w w1:=h0.trans (hb1.mono (by simp;omega));have z0:w.heap.size < w1.heap.size:=by have:=hb1.size;simp at this;omega
 clear hb1 hT;go_wp2
 go_ret2
 exact⟨rfl,H1.alloc (by omega) _⟩

theorem Cn (r:Sp)(s:Sp):@decide _ (r.dq s)=(r.n==s.n&&(r.lo==s.lo&&r.hi==s.hi)):=by
 obtain⟨n,lo,hi⟩:=r;obtain⟨n',lo',hi'⟩:=s;rw[Bool.eq_iff_iff];simp

theorem Ak (s t:Sp)(w:World)(h:bj s t=0):
  Calls pG 119 #[sv s,sv t] w λe w'=>e=Rt (Tu #[Bb (@decide _ ((au s t).dq s)),I Y 0])/\Below w.heap.size w w':=by
 have hT:=fY s t;rw[h] at hT;have e0:dy 0 (au s t)=au s t:=rfl;rw[e0] at hT;rw[Cn];clear e0 h;generalize au s t=r at hT |-;obtain⟨n,lo,hi⟩:=s;obtain⟨n',lo',hi'⟩:=t;obtain⟨rn,rlo,rhi⟩:=r;have h0:Below w.heap.size w ((w.alloc (Cc #[Bb n,I Y lo,I Y hi] 58)).alloc (Cc #[Bb n',I Y lo',I Y hi'] 58)):=by go_grown
 go_enter Tryz.func119,Tryz.ntmps119;go_wp2_with (go_at_call 86;fail);refine(hT _).mono ?_;rintro e w1 ⟨rfl,hb1⟩;obtain⟨c0,c1,c2,d0,d1,d2⟩:=il hb1 (by simp);have H1:Below w.heap.size w w1:=h0.trans (hb1.mono (by simp;omega));have z0:w.heap.size < w1.heap.size:=by have:=hb1.size;simp at this;omega
 clear hb1 hT;go_wp2
 all_goals go_ret2
 all_goals exact⟨lZ (by simp_all),H1.alloc (by omega) _⟩

theorem vg (s t:Sp)(w:World):
  Calls pG 119 #[sv s,sv t] w λe w'=>e=Rt (Tu #[Bb (decide (bj s t=0)&&@decide _ ((au s t).dq s)),I Y (bj s t)])/\Below w.heap.size w w':=by
 by_cases h:bj s t=0
 ·have:=Ak s t w h
  rw[h];simpa using this
 ·have:=vE s t w h
  simpa[h] using this
@[go_sem] theorem run_min4 {P:Program} (w:World) (ts:Array TypeId) (t:TypeId) (a b c d:Int):
  (Builtin.min_ ts t #[I Y a,I Y b,I Y c,I Y d]).run P w=.ok (I Y (cT a b c d)) w:=by
 have e:∀x y:Int,(if y < x then y else x)=min x y:=λx y=>by split<;>omega
 simp[Builtin.min_,Builtin.min2,e,cT]

@[go_sem] theorem run_max4 {P:Program} (w:World) (ts:Array TypeId) (t:TypeId) (a b c d:Int):
  (Builtin.max_ ts t #[I Y a,I Y b,I Y c,I Y d]).run P w=.ok (I Y (cU a b c d)) w:=by
 have e:∀x y:Int,(if x < y then y else x)=max x y:=λx y=>by split<;>omega
 simp[Builtin.max_,Builtin.max2,e,cU]

theorem pd {p:Prop}(h:p:=by
 go_enter Tryz.func145,Tryz.ntmps145;go_wp2_with (go_at_call 139;refine(p4 _).mono ?_;rintro e w1 ⟨rfl,rfl⟩)
 go_returns
 exact⟨rfl,by go_grown⟩):p:=h
theorem iA (F:Nat)(s t:Sp)(w:World)(h:(s.n||t.n)=true):
  Calls pG 145 #[sv s,sv t,.func (.func F) #[] #[]] w λe w'=>e=Rt (sv ⟨true,0,0⟩)/\Below w.heap.size w w':=by
 obtain⟨n,lo,hi⟩:=s;obtain⟨n',lo',hi'⟩:=t;cases n with
 |true=>
  exact pd
 |false=>
  cases n' with
  |true=>
   exact pd
  |false=>simp at h

theorem uQ {a b c d:Int}(h1:aS (cT a b c d))(h2:aS (cU a b c d)):d9 a b c d=⟨false,cT a b c d,cU a b c d⟩:=if_pos ⟨h1,h2⟩
theorem CH {a b c d:Int}(h1:¬aS (cT a b c d)):d9 a b c d=⟨false,-2147483648,2147483647⟩:=if_neg (λh=>h1 h.1)
theorem Dr {a b c d:Int}(h1:¬aS (cU a b c d)):d9 a b c d=⟨false,-2147483648,2147483647⟩:=if_neg (λh=>h1 h.2)
theorem kK {p:Prop}(h:p:=by
 clear h1 h2 h3 h4;go_enter Tryz.func145,Tryz.ntmps145;go_wp2
 go_quiet (first|exact Calls.quiet_of (k1 _)|exact Calls.quiet_of (k2 _)|exact Calls.quiet_of (k3 _)|exact Calls.quiet_of (k4 _))
 clear k1 k2 k3 k4;by_cases h1:aS (cT a b c d)
 ·have e1:decide (aS (cT a b c d))=true:=decide_eq_true h1
  by_cases h2:aS (cU a b c d)
  ·have e2:decide (aS (cU a b c d))=true:=decide_eq_true h2
   go_wp2_with (go_at_call 163;refine(eP _ _).mono ?_;rintro e w' ⟨rfl,rfl⟩)
   go_returns
   exact⟨eF (uQ h1 h2),by go_grown;exact below_drewN (by go_grown) _⟩
  ·have e2:decide (aS (cU a b c d))=false:=decide_eq_false h2
   go_wp2_with (first|(go_at_call 163;refine(eP _ _).mono ?_;rintro e w' ⟨rfl,rfl⟩)|(go_at_call 164;refine(yM _).mono ?_;rintro e w' ⟨rfl,rfl⟩))
   go_returns
   exact⟨eF (Dr h2),by go_grown;exact below_drewN (by go_grown) _⟩
 ·have e1:decide (aS (cT a b c d))=false:=decide_eq_false h1
  go_wp2_with (first|(go_at_call 163;refine(eP _ _).mono ?_;rintro e w' ⟨rfl,rfl⟩)|(go_at_call 164;refine(yM _).mono ?_;rintro e w' ⟨rfl,rfl⟩))
  go_returns
  exact⟨eF (CH h1),by go_grown;exact below_drewN (by go_grown) _⟩):p:=h
theorem fr {a b c d:Bool}(h:a=c)(h':b=d):Ending.returned (Tu #[Bb a,Bb b])=Rt (Tu #[Bb c,Bb d]):=by rw[h,h']

theorem oP {p:Prop}(h:p:=by
 go_wp2;refine wp_region_quiet_lit (by kernel_rfl) (by kernel_rfl) ?_
 repeat (any_goals (first|go_big_quiet_step (fail)|quiet_step (fail)|(refine wpQuiet_step (λK hK=> ?_);go_simp;split<;>(refine hK _ ?_;clear hK K))))
 all_goals (refine wpQuiet_nil ?_;intro _ hw';obtain⟨nq,hw''⟩:=hw';subst hw'')
 all_goals go_wp2
 all_goals go_ret2
 all_goals exact⟨fr (by rw[HY.out];simp_all) (by rw[HN.out];simp_all),below_drewN B1 _⟩):p:=h
theorem ov {p:Prop}(h:p:=by
 clear hz HZ;go_wp2;refine wp_region_quiet_lit (by kernel_rfl) (by kernel_rfl) ?_
 repeat (any_goals (first|go_big_quiet_step (fail)|quiet_step (fail)|(refine wpQuiet_step (λK hK=> ?_);go_simp;split<;>(refine hK _ ?_;clear hK K))))
 all_goals (refine wpQuiet_nil ?_;intro _ hw';obtain⟨nq,hw''⟩:=hw';subst hw'')
 all_goals go_wp2
 all_goals go_ret2
 all_goals exact⟨fr rfl (by rw[HN.out];simp_all),below_drewN B1 _⟩):p:=h
theorem pn (g:Gs)(ss:oA)(gc:Nat)(w:World)(hsp:bK g.sp=0):
  Calls pG 115 #[gv g ss gc] w λe w'=>e=Rt (Tu #[Bb (bI g),Bb (b9 g)])/\Below w.heap.size w w':=by
 have hH:=λw=>Dz g.sp 0 w;rw[hsp,show (decide ((0:Int)=0)&&g.sp.has 0)=g.sp.has 0 from rfl] at hH;have HY:Hid (bI g=((!g.sp.n&& !decide (g.sp.lo=0/\g.sp.hi=0))||(g.t||decide (0 < g.s.length)))):=rfl;have HN:Hid (b9 g=(g.sp.has 0||(g.n||g.f))):=rfl;generalize bI g=yy at *;generalize b9 g=nn at *;generalize g.sp.has 0=z at *;obtain⟨n,⟨sn,lo,hi⟩,t,f,s⟩:=g;have G0:=GuAt.new w ⟨n,⟨sn,lo,hi⟩,t,f,s⟩ ss gc;go_enter Tryz.func115,Tryz.ntmps115;go_wp2_with (go_at_call 142;fail);refine(hH _).mono ?_;rintro e w1 ⟨rfl,hb1⟩;have G1:=G0.call hb1;have B1:Below w.heap.size w w1:=Below.trans (by go_grown) (hb1.mono (by simp));obtain⟨⟨g0,g1,g2,g3,g4,g5,g6⟩,gz⟩:=id G1;simp only[j4] at g0 g1 g2 g3 g4 g5 g6;clear G0 G1 hb1 hH hsp;cases sn with
 |true=>
  exact oP
 |false=>
  by_cases hz:lo=0/\hi=0
  ·obtain⟨rfl,rfl⟩:=hz
   exact oP
  ·have HZ:Hid (decide (lo=0/\hi=0)=false):=by show _=_;simpa using hz
   have hm:yy=true:=by rw[HY.out,HZ.out];rfl
   subst hm;clear HY;by_cases h1:lo=0
   ·subst h1
    have h2:(hi==0)=false:=by simp only[beq_eq_false_iff_ne];intro h;exact hz ⟨rfl,h⟩
    exact ov
   ·have h2:(lo==0)=false:=by simpa using h1
    exact ov

theorem oD {p:Prop}(h:p:=by
 go_wp2_with (go_at_call 117;fail);refine(rS x ss gc h.s _ hl hs).mono ?_;rintro e w1 ⟨rfl,rfl⟩;go_wp2;go_ret;exact⟨av (by simp),Below.refl _ _⟩):p:=h
theorem eC (x:Int)(q:Nat)(h:Gs)(ss:oA)(gc:Nat)(w:World)(hg:GuAt w q 0 h ss gc)(hs:IntsAt w ss h.s)(hl:h.s.length<=9223372036854775807):
  Calls pG 116 #[I Y x,Pp (sO ⟨q,0,nO⟩)] w λe w'=>e=Rt (Bb (!h.s.contains x))/\Below w.heap.size w w':=by
 obtain⟨⟨g0,g1,g2,g3,g4,g5,g6⟩,gz⟩:=id hg;simp only[j4] at g6;go_enter Tryz.func116,Tryz.ntmps116;exact oD

theorem dI (x:Int)(q:Nat)(h:Gs)(ss:oA)(gc:Nat)(w:World)(hg:GuAt w q 0 h ss gc)(hs:IntsAt w ss h.s)(hl:h.s.length<=9223372036854775807):
  Calls pG 151 #[I Y x,Pp (sO ⟨q,0,nO⟩)] w λe w'=>e=Rt (Bb (h.s.contains x))/\Below w.heap.size w w':=by
 obtain⟨⟨g0,g1,g2,g3,g4,g5,g6⟩,gz⟩:=id hg;simp only[j4] at g6;go_enter Tryz.func151,Tryz.ntmps151;exact oD
def GsIn (S:Nat->Prop)(w:World)(ls:oA)(L:List Gs):Prop:=
 ∀i (h:i < L.length),∃b off,ls=sO ⟨b,off,nO⟩/\S b/\∃ss cap,GuAt w b (off+i * 7) L[i] ss cap/\IntsIn S w ss L[i].s/\L[i].s.length<=cap/\cap<=maxLen
section
variable {S S':Nat->Prop} {w w':World} {ls:oA} {L:List Gs} {B z:Nat} {v v':Value} {l:List Gc}
theorem GsIn.at (h:GsIn S w ls L):GsAt w ls L:=by
 intro i hi;obtain⟨b,off,e,_,ss,cap,h1,h2,h3⟩:=h i hi;exact⟨b,off,e,ss,cap,h1,h2.at,h3⟩
theorem GsAt.inAll (h:GsAt w ls L):GsIn (λb=>b < w.heap.size) w ls L:=by
 intro i hi;obtain⟨b,off,e,ss,cap,h1,h2,h3⟩:=h i hi;exact⟨b,off,e,h1.2,ss,cap,h1,h2.inAll,h3⟩
theorem GuAt.same {b o:Nat}{g:Gs}{ss:oA}{cap:Nat}(h:GuAt w b o g ss cap)(hb:w'.heap[b]? =w.heap[b]?)(hz:w.heap.size<=w'.heap.size):GuAt w' b o g ss cap:=by
 obtain⟨⟨h0,h1,h2,h3,h4,h5,h6⟩,h7⟩:=h;have hc:∀j,w'.cell? ⟨b,j,nO⟩=w.cell? ⟨b,j,nO⟩:=λj=>z9 (a:=⟨b,j,nO⟩) hb;exact⟨⟨(hc _).trans h0,(hc _).trans h1,(hc _).trans h2,(hc _).trans h3,(hc _).trans h4,(hc _).trans h5,(hc _).trans h6⟩,lL h7 hz⟩
theorem GsIn.same (h:GsIn S w ls L)(hs:∀b,S b->b < w.heap.size->w'.heap[b]? =w.heap[b]?)(hz:w.heap.size<=w'.heap.size):GsIn S w' ls L:=by
 intro i hi;obtain⟨b,off,e,hS,ss,cap,h1,h2,h3⟩:=h i hi;exact⟨b,off,e,hS,ss,cap,h1.same (hs b hS h1.2) hz,h2.same hs hz,h3⟩
theorem GsIn.mono (h:GsIn S w ls L)(hs:∀b,S b->b < w.heap.size->S' b):GsIn S' w ls L:=by
 intro i hi;obtain⟨b,off,e,hS,ss,cap,h1,h2,h3⟩:=h i hi;exact⟨b,off,e,hs b hS h1.2,ss,cap,h1,h2.mono hs,h3⟩
theorem GsIn.call (h:GsIn S w ls L)(hb:Below w.heap.size w w'):GsIn S w' ls L:=h.same (λb _ hlt=>hb.block b hlt) hb.size

def SRow (w:World)(B:Nat)(v:Value)(l:List Gc):Prop:=w.ownsRow B 61 7 v l.length (aF l)/\∀x∈l,bA (λb=>B<=b/\v.ownBlock≠sO b) w x
theorem SRow.nil (w:World)(B:Nat):SRow w B (U nO 0 0) []:=⟨⟨rfl,.inl ⟨rfl,rfl⟩⟩,λx hx=>by simp at hx⟩
theorem SRow.call (h:SRow w B v l)(hb:Below w.heap.size w w'):SRow w' B v l:=⟨np h.1 hb,λx hx=>⟨(h.2 x hx).1.call hb,(h.2 x hx).2⟩⟩
theorem SRow.old (h:SRow w B v l)(hs:∀b,B<=b->w'.heap[b]? =w.heap[b]?)(hz:w.heap.size<=w'.heap.size):SRow w' B v l:=⟨cJ h.1 λk hk=>hs k (aC h.1 hk).2,λx hx=>⟨(h.2 x hx).1.same (λb hS _=>hs b hS.1) hz,(h.2 x hx).2⟩⟩
theorem n8 {p:Prop}(h:p:=by
 refine⟨(hm.same (λb hS hb=>hg.block b hb (λe=>hS.1.2 e.symm)) hg.size).mono λb hb _=>⟨hb.1.1,?_⟩,hy'.2⟩;rcases hv with hv|hv
 ·rw[hv];exact hb.1.2
 ·rw[hv]
  intro e;cases e;exact absurd hb.2 (Nat.lt_irrefl _)):p:=h
theorem SRow.grown (h:SRow w B v l){x:Gc}(hx:bA (λb=>B<=b/\v.ownBlock≠sO b) w x)(hr:w'.ownsRow B 61 7 v' (l.length+1) (aF l++ba x))(hg:w.grownBy w' v.ownBlock)(hv:v'.ownBlock=v.ownBlock\/v'.ownBlock=sO w.heap.size):SRow w' B v' (l++[x]):=by
 refine⟨by rw[x3,fJ];simpa[aF] using hr,λy hy=> ?_⟩;have hy':bA (λb=>B<=b/\v.ownBlock≠sO b) w y:=by
  rcases j6.1 hy with hy|hy
  ·exact h.2 y hy
  ·rw[j2.1 hy];exact hx
 have hm:IntsIn (λb=>(B<=b/\v.ownBlock≠sO b)/\b < w.heap.size) w y.ss y.g.s:=hy'.1.mono λb h1 h2=>⟨h1,h2⟩;exact n8
theorem SRow.in (h:SRow w B v l):∃rs rc,v=U rs l.length rc/\l.length<=rc/\rc<=maxLen/\GsIn (λb=>B<=b) w rs (l.map Gc.g):=by
 obtain⟨h1,h2⟩:=h;rcases h1.2 with⟨rfl,h0⟩|⟨g,cap,cur,rfl,hb,hg,k1,k2,k3,k4⟩
 ·have:l=[]:=J0.1 h0
  subst this;exact⟨nO,0,rfl,lR _,by unfold maxLen;omega,λi hi=>absurd hi (by simp)⟩
 ·refine⟨sO ⟨g,0,nO⟩,cap,rfl,k1,k2,λi hi=> ?_⟩
  have hil:i < l.length:=by simpa using hi
  have e:(l.map Gc.g)[i]=l[i].g:=by simp
  rw[e];have hx:=h2 l[i] (gM hil);refine⟨g,0,rfl,hb,l[i].ss,l[i].cap,⟨?_,(z4.1 hg).1⟩,hx.1.mono λb h _=>h.1,hx.2.1,hx.2.2⟩;have hc:∀j,j < 7->w.cell? ⟨g,i * 7+j,nO⟩=(ba l[i])[j]? :=λj hj=>by
   have:=h1.cellAt (i * 7+j) (by omega);rw[<-dx l i hil j hj];exact this
  simp only[j4];exact⟨hc 0 (by omega),hc 1 (by omega),hc 2 (by omega),hc 3 (by omega),hc 4 (by omega),hc 5 (by omega),hc 6 (by omega)⟩
end

structure Rw where
 rs:oA
 rc:Nat
 l:List Gs
def rwV (x:Rw):Value:=U x.rs x.l.length x.rc
def lO (S:Nat->Prop)(w:World)(x:Rw):Prop:=GsIn S w x.rs x.l/\x.l.length<=x.rc/\x.rc<=maxLen
def FRow (w:World)(B:Nat)(v:Value)(L:List Rw):Prop:=w.ownsRow B 25 1 v L.length (L.map rwV)/\∀x∈L,lO (λb=>B<=b/\v.ownBlock≠sO b) w x
section
variable {w w':World} {B:Nat} {v v':Value} {L:List Rw}
theorem FRow.nil (w:World)(B:Nat):FRow w B (U nO 0 0) []:=⟨⟨rfl,.inl ⟨rfl,rfl⟩⟩,λx hx=>by simp at hx⟩
theorem FRow.call (h:FRow w B v L)(hb:Below w.heap.size w w'):FRow w' B v L:=⟨np h.1 hb,λx hx=>⟨(h.2 x hx).1.call hb,(h.2 x hx).2⟩⟩
theorem FRow.old (h:FRow w B v L)(hs:∀b,B<=b->w'.heap[b]? =w.heap[b]?)(hz:w.heap.size<=w'.heap.size):FRow w' B v L:=⟨cJ h.1 λk hk=>hs k (aC h.1 hk).2,λx hx=>⟨(h.2 x hx).1.same (λb hS _=>hs b hS.1) hz,(h.2 x hx).2⟩⟩
theorem FRow.grown (h:FRow w B v L){x:Rw}(hx:lO (λb=>B<=b/\v.ownBlock≠sO b) w x)(hr:w'.ownsRow B 25 1 v' (L.length+1) (L.map rwV++[rwV x]))(hg:w.grownBy w' v.ownBlock)(hv:v'.ownBlock=v.ownBlock\/v'.ownBlock=sO w.heap.size):FRow w' B v' (L++[x]):=by
 refine⟨by rw[x3,Qg];exact hr,λy hy=> ?_⟩;have hy':lO (λb=>B<=b/\v.ownBlock≠sO b) w y:=by
  rcases j6.1 hy with hy|hy
  ·exact h.2 y hy
  ·rw[j2.1 hy];exact hx
 have hm:GsIn (λb=>(B<=b/\v.ownBlock≠sO b)/\b < w.heap.size) w y.rs y.l:=hy'.1.mono λb h1 h2=>⟨h1,h2⟩;exact n8
theorem FRow.rows (h:FRow w B v L):∃fs fc,v=U fs L.length fc/\L.length<=fc/\fc<=maxLen/\RowsAt w fs (L.map Rw.l):=by
 obtain⟨h1,h2⟩:=h;rcases h1.2 with⟨rfl,h0⟩|⟨g,cap,cur,rfl,hb,hg,k1,k2,k3,k4⟩
 ·have:L=[]:=J0.1 h0
  subst this;exact⟨nO,0,rfl,lR _,by unfold maxLen;omega,λi hi=>absurd hi (by simp)⟩
 ·refine⟨sO ⟨g,0,nO⟩,cap,rfl,k1,k2,λi hi=> ?_⟩
  have hil:i < L.length:=by simpa using hi
  have e:(L.map Rw.l)[i]=L[i].l:=by simp
  rw[e];have hx:=h2 L[i] (gM hil);have:=h1.cellAt i (by omega);refine⟨g,0,rfl,(z4.1 hg).1,L[i].rs,L[i].rc,?_,hx.2.1,hx.2.2,hx.1.at⟩;rw[j4,this];simp[hil,rwV]
end
def X3 (w:World)(b:Nat)(x0 x1 x2:Value):Prop:=(w.cell? ⟨b,0,nO⟩=sO x0/\w.cell? ⟨b,1,nO⟩=sO x1/\w.cell? ⟨b,2,nO⟩=sO x2)/\b < w.heap.size/\∀j,w.frozen? ⟨b,j,nO⟩=false
section
variable {w w':World} {b:Nat} {x0 x1 x2:Value}
theorem X3.same (h:X3 w b x0 x1 x2)(hb:w'.heap[b]? =w.heap[b]?)(hz:w.heap.size<=w'.heap.size):X3 w' b x0 x1 x2:=oR
theorem X3.call (h:X3 w b x0 x1 x2)(hb:Below w.heap.size w w'):X3 w' b x0 x1 x2:=h.same (hb.block b h.2.1) hb.size
theorem X3.far (h:X3 w b x0 x1 x2){a:Addr}(ha:b≠a.block)(y:Value):X3 (w.setCell a y) b x0 x1 x2:=h.same (hSe _ _ _ _ ha) (by simp[z5])
theorem X3.new (w:World)(t:TypeId)(x0 x1 x2:Value):X3 (w.alloc (Cc #[x0,x1,x2] t)) w.heap.size x0 x1 x2:=by
 refine⟨⟨?_,?_,?_⟩,by simp,λj=> ?_⟩<;>simp[go_sem]
theorem X3.put1 (h:X3 w b x0 x1 x2)(y:Value):X3 (w.setCell ⟨b,1,nO⟩ y) b x0 y x2:=by
 obtain⟨⟨h0,h1,h2⟩,h6,h7⟩:=h;exact⟨⟨by rw[J1 _ _ _ _ (by intro e;cases e)];exact h0,Z5 _ _ _ h1,by rw[J1 _ _ _ _ (by intro e;cases e)];exact h2⟩,by simpa[z5] using h6,λj=>by rw[Z6];exact h7 j⟩
theorem X3.put2 (h:X3 w b x0 x1 x2)(y:Value):X3 (w.setCell ⟨b,2,nO⟩ y) b x0 x1 y:=by
 obtain⟨⟨h0,h1,h2⟩,h6,h7⟩:=h;exact⟨⟨by rw[J1 _ _ _ _ (by intro e;cases e)];exact h0,by rw[J1 _ _ _ _ (by intro e;cases e)];exact h1,Z5 _ _ _ h2⟩,by simpa[z5] using h6,λj=>by rw[Z6];exact h7 j⟩
end
theorem PrAt.low {w w':World}{B b:Nat}{V F:Int}{s:oA}{c:List Ins}{cap:Nat}(h:PrAt w b V F s c cap)(hb:Below B w w')(hB:b < B):PrAt w' b V F s c cap:=by
 obtain⟨⟨h0,h1,h2⟩,hz⟩:=h;exact⟨⟨by rw[hb.cell hB];exact h0,by rw[hb.cell hB];exact h1,by rw[hb.cell hB];exact h2⟩,lL hz hb.size⟩
theorem PrAt.far {w:World}{b:Nat}{V F:Int}{s:oA}{c:List Ins}{cap:Nat}(h:PrAt w b V F s c cap){a:Addr}(ha:b≠a.block)(y:Value):PrAt (w.setCell a y) b V F s c cap:=by
 have hc:∀j,(w.setCell a y).cell? ⟨b,j,nO⟩=w.cell? ⟨b,j,nO⟩:=λj=>z9 (a:=⟨b,j,nO⟩) (hSe _ _ _ _ ha);obtain⟨⟨h0,h1,h2⟩,hz⟩:=h;exact⟨⟨(hc _).trans h0,(hc _).trans h1,(hc _).trans h2⟩,by simpa[z5] using hz⟩
theorem iw (w:World)(x:Gc)(cs:Array Value)(t:TypeId)(hcs:cs.toList=ba x):∀ad,sO (⟨w.heap.size,0,nO⟩:Addr)=sO ad->∀j u,(ba x)[j]? =sO u->(w.alloc (Cc cs t)).cell? (ad.add j)=sO u:=by
 intro ad e j u hj;cases e;rw[Addr.add_lit,j4];rw[<-hcs] at hj;simpa[go_sem] using hj
theorem ny (w:World)(x:Value)(t:TypeId):∀ad,sO (⟨w.heap.size,0,nO⟩:Addr)=sO ad->∀j u,([x]:List Value)[j]? =sO u->(w.alloc (Cc #[x] t)).cell? (ad.add j)=sO u:=by
 intro ad e j u hj;cases e;rw[Addr.add_lit,j4];simpa[go_sem] using hj
theorem Tryz.info_row:(Tryz.prog.info? 25).map (λi=>(i.zero,i.size,i.bytes))=sO (sO (U nO 0 0),1,24):=by kernel_rfl
theorem l9 {w:World}{a:Addr}{B:Nat}(h:a.block < B)(x:Value):(∀b,B<=b->(w.setCell a x).heap[b]? =w.heap[b]?)/\w.heap.size<=(w.setCell a x).heap.size:=⟨λb hb=>hSe _ _ _ _ (by omega),by simp[z5]⟩
theorem GuAt.low {w w':World}{B b o:Nat}{g:Gs}{ss:oA}{cap:Nat}(h:GuAt w b o g ss cap)(hb:Below B w w')(hB:b < B):GuAt w' b o g ss cap:=h.same (hb.block b hB) hb.size
theorem iO {w:World}{b off:Nat}{L:List Gs}(h:GsAt w (sO ⟨b,off,nO⟩) L)(k:Nat)(hk:k < L.length):b < w.heap.size:=by
 obtain⟨b',off',e,ss,cap,h1,_⟩:=h k hk;cases e;exact h1.2
def Eu (w':World)(e:Ending)(x:Pic)(er:Int):Prop:=∃vs vc fs fc,e=Rt (Tu #[Ag #[Bb x.none,U vs x.vars.length vc,U fs x.flds.length fc],I Y er])/\PicAt w' x vs fs/\(x.vars.length<=vc/\vc<=maxLen)/\(x.flds.length<=fc/\fc<=maxLen)
theorem FRow.olden {w w':World}{B:Nat}{v:Value}{L:List Rw}(h:FRow w B v L)(hs:∀b,B<=b->b < w.heap.size->w'.heap[b]? =w.heap[b]?)(hz:w.heap.size<=w'.heap.size):FRow w' B v L:=⟨cJ h.1 λk hk=>hs k (aC h.1 hk).2 (aC h.1 hk).1,λx hx=>⟨(h.2 x hx).1.same (λb hS hlt=>hs b hS.1 hlt) hz,(h.2 x hx).2⟩⟩
def PicOn (S:Nat->Prop)(w:World)(x:Pic)(vs fs:oA):Prop:=∀w2:World,(∀b,S b->b < w.heap.size->w2.heap[b]? =w.heap[b]?)->w.heap.size<=w2.heap.size->PicAt w2 x vs fs
section
variable {S S':Nat->Prop} {w w':World} {x:Pic} {vs fs:oA}
theorem PicOn.at (h:PicOn S w x vs fs):PicAt w x vs fs:=h w (λ_ _ _=>rfl) (lR _)
theorem PicOn.same (h:PicOn S w x vs fs)(hs:∀b,S b->b < w.heap.size->w'.heap[b]? =w.heap[b]?)(hz:w.heap.size<=w'.heap.size):PicOn (λb=>S b/\b < w.heap.size) w' x vs fs:=λw2 h2 hz2=>h w2 (λb hb hlt=>by rw[h2 b ⟨hb,hlt⟩ (by omega),hs b hb hlt]) (lT hz hz2)
theorem PicOn.mono (h:PicOn S w x vs fs)(hs:∀b,S b->b < w.heap.size->S' b):PicOn S' w x vs fs:=λw2 h2 hz2=>h w2 (λb hb hlt=>h2 b (hs b hb hlt) hlt) hz2
theorem PicOn.call (h:PicOn S w x vs fs)(hb:Below w.heap.size w w'):PicOn S w' x vs fs:=(h.same (λb _ hlt=>hb.block b hlt) hb.size).mono λb hb _=>hb.1
theorem PicAt.same (h:PicAt w x vs fs)(hs:∀b,b < w.heap.size->w'.heap[b]? =w.heap[b]?)(hz:w.heap.size<=w'.heap.size):PicAt w' x vs fs:=by
 refine⟨(h.1.inAll.same (λb _ hb=>hs b hb) hz).at,λi hi=> ?_⟩;obtain⟨b,off,e,hb,rs,rc,h1,h2,h3,h4⟩:=h.2 i hi;exact⟨b,off,e,lL hb hz,rs,rc,by rw[z9 (a:=⟨b,off+i,nO⟩) (hs b hb)];exact h1,h2,h3,(h4.inAll.same (λb _ hb=>hs b hb) hz).at⟩
end
def Ck (B:Nat)(w':World)(e:Ending)(x:Pic):Prop:=∃vs vc fs fc,e=Rt (Ag #[Bb x.none,U vs x.vars.length vc,U fs x.flds.length fc])/\PicOn (λb=>B<=b) w' x vs fs/\(x.vars.length<=vc/\vc<=maxLen)/\(x.flds.length<=fc/\fc<=maxLen)
theorem pL (q:Nat)(p:Int->Bool)(ss:oA)(cap:Nat)(l:List Int)(w:World)(hl:l.length<=9223372036854775807)(hs:IntsAt w ss l)
  (hF:∀x wx,Below w.heap.size w wx->Calls pG 116 #[I Y x,Pp (sO ⟨q,0,nO⟩)] wx λe w'=>e=Rt (Bb (p x))/\Below wx.heap.size wx w'):
  Calls pG 144 #[U ss l.length cap,.func (.func 116) #[] #[Pp (sO ⟨q,0,nO⟩)]] w λe w'=>∃n:Int,e=Rt (I Y n)/\decide (0<=n)=l.any p/\Below w.heap.size w w':=by
 have HF:=aa hF;clear hF;go_enter Tryz.func144,Tryz.ntmps144;go_wp2;go_loopw [8] (λi wr=>∃k:Nat,k<=l.length/\i=I Y k/\Below w.heap.size w wr/\Hid (l.any p=(l.drop k).any p)) (λi _=>l.length - (intOf i).toNat)
 case atStart=>exact⟨0,z8 _,rfl,bR _ _,rfl⟩
 case round=>
  obtain⟨k,hk,rfl,hbr,HA⟩:=hrel;by_cases hlt:k < l.length
  ·obtain⟨b,off,rfl,hb,hc⟩:=hs.get k hlt
   have n0:(0:Int)<=(k:Int):=by omega
   have n1:(k:Int) < (l.length:Int):=by omega
   have s0:=hbr.size;have c0:wr.cell? ⟨b,off+k,nO⟩=sO (I Y l[k]):=by rw[hbr.cell (by simpa using hb)];exact hc k hlt
   have HN:Hid ((l.drop k).any p=(p l[k]||(l.drop (k+1)).any p)):=fP l p k hlt;clear hc hs;go_wp2_with (go_at_call 116;fail);refine(HF.out _ _ hbr).mono ?_;rintro e w1 ⟨rfl,hb1⟩;cases hp:p l[k] with
   |true=>
    have HT:Hid (l.any p=true):=by show _=_;rw[HA.out,HN.out,hp];rfl
    clear HN HA;go_wp2;go_ret;exact⟨_,rfl,by rw[HT.out];simp,hbr.trans (hb1.mono s0)⟩
   |false=>
    have HT:Hid (l.any p=(l.drop (k+1)).any p):=by show _=_;rw[HA.out,HN.out,hp];rfl
    clear HN HA;go_wp2;go_roundw
    case rel=>exact⟨k+1,by omega,by go_num,hbr.trans (hb1.mono s0),HT⟩
    case measure=>simp[intOf];omega
  ·go_wp2
   go_ret;exact⟨_,rfl,by rw[HA.out,Q0 (by omega)];rfl,hbr⟩

theorem ci (q:Nat)(p:Int->Bool)(ss:oA)(cap:Nat)(l:List Int)(w:World)(hl:l.length<=9223372036854775807)(hs:IntsAt w ss l)
  (hF:∀x wx,Below w.heap.size w wx->Calls pG 116 #[I Y x,Pp (sO ⟨q,0,nO⟩)] wx λe w'=>e=Rt (Bb (p x))/\Below wx.heap.size wx w'):
  Calls pG 118 #[U ss l.length cap,.func (.func 116) #[] #[Pp (sO ⟨q,0,nO⟩)]] w λe w'=>e=Rt (Bb (l.any p))/\Below w.heap.size w w':=by
 have HF:=aa hF;clear hF;go_enter Tryz.func118,Tryz.ntmps118;go_wp2_with (go_at_call 144;fail);refine(pL q p ss cap l _ hl hs HF.out).mono ?_;rintro e w1 ⟨n,rfl,hn,hb1⟩;go_wp2;go_ret;exact⟨rfl,hb1⟩
theorem mW (q:Nat)(p:Int->Bool)(ss:oA)(cap:Nat)(l:List Int)(w:World)(hl:l.length<=9223372036854775807)(hs:IntsAt w ss l)
  (hF:∀x wx,Below w.heap.size w wx->Calls pG 151 #[I Y x,Pp (sO ⟨q,0,nO⟩)] wx λe w'=>e=Rt (Bb (p x))/\Below wx.heap.size wx w'):
  Calls pG 144 #[U ss l.length cap,.func (.func 151) #[] #[Pp (sO ⟨q,0,nO⟩)]] w λe w'=>∃n:Int,e=Rt (I Y n)/\decide (0<=n)=l.any p/\Below w.heap.size w w':=by
 have HF:=aa hF;clear hF;go_enter Tryz.func144,Tryz.ntmps144;go_wp2;go_loopw [8] (λi wr=>∃k:Nat,k<=l.length/\i=I Y k/\Below w.heap.size w wr/\Hid (l.any p=(l.drop k).any p)) (λi _=>l.length - (intOf i).toNat)
 case atStart=>exact⟨0,z8 _,rfl,bR _ _,rfl⟩
 case round=>
  obtain⟨k,hk,rfl,hbr,HA⟩:=hrel;by_cases hlt:k < l.length
  ·obtain⟨b,off,rfl,hb,hc⟩:=hs.get k hlt
   have n0:(0:Int)<=(k:Int):=by omega
   have n1:(k:Int) < (l.length:Int):=by omega
   have s0:=hbr.size;have c0:wr.cell? ⟨b,off+k,nO⟩=sO (I Y l[k]):=by rw[hbr.cell (by simpa using hb)];exact hc k hlt
   have HN:Hid ((l.drop k).any p=(p l[k]||(l.drop (k+1)).any p)):=fP l p k hlt;clear hc hs;go_wp2_with (go_at_call 151;fail);refine(HF.out _ _ hbr).mono ?_;rintro e w1 ⟨rfl,hb1⟩;cases hp:p l[k] with
   |true=>
    have HT:Hid (l.any p=true):=by show _=_;rw[HA.out,HN.out,hp];rfl
    clear HN HA;go_wp2;go_ret;exact⟨_,rfl,by rw[HT.out];simp,hbr.trans (hb1.mono s0)⟩
   |false=>
    have HT:Hid (l.any p=(l.drop (k+1)).any p):=by show _=_;rw[HA.out,HN.out,hp];rfl
    clear HN HA;go_wp2;go_roundw
    case rel=>exact⟨k+1,by omega,by go_num,hbr.trans (hb1.mono s0),HT⟩
    case measure=>simp[intOf];omega
  ·go_wp2
   go_ret;exact⟨_,rfl,by rw[HA.out,Q0 (by omega)];rfl,hbr⟩

theorem bP (q:Nat)(p:Int->Bool)(ss:oA)(cap:Nat)(l:List Int)(w:World)(hl:l.length<=9223372036854775807)(hs:IntsAt w ss l)
  (hF:∀x wx,Below w.heap.size w wx->Calls pG 151 #[I Y x,Pp (sO ⟨q,0,nO⟩)] wx λe w'=>e=Rt (Bb (p x))/\Below wx.heap.size wx w'):
  Calls pG 118 #[U ss l.length cap,.func (.func 151) #[] #[Pp (sO ⟨q,0,nO⟩)]] w λe w'=>e=Rt (Bb (l.any p))/\Below w.heap.size w w':=by
 have HF:=aa hF;clear hF;go_enter Tryz.func118,Tryz.ntmps118;go_wp2_with (go_at_call 144;fail);refine(mW q p ss cap l _ hl hs HF.out).mono ?_;rintro e w1 ⟨n,rfl,hn,hb1⟩;go_wp2;go_ret;exact⟨rfl,hb1⟩
end
section
def uW:Ins:=⟨0,0,0,0,0,0⟩
def bM (c:List Ins)(p:Int):Ins:=c.getD p.toNat uW
section
variable {V F L:Int} {i:Ins}
theorem bN (h:aU V F L i=0):btw i.k 1 19=true/\(nTo i.k=true->0<=i.tgt/\i.tgt < V)/\(nA i.k=true->0<=i.a/\i.a < V)/\(nB i.k=true->0<=i.b/\i.b < V)/\(i.k=12\/i.k=13->0<=i.n/\i.n < F)/\(nG i.k=true->0<=i.g/\i.g<=L)/\(i.k=1-> -2147483648<=i.n/\i.n<=2147483647)/\(i.k=2->i.n=0\/i.n=1)/\(i.k=14->0<=i.n/\i.n<=1000000):=by
 unfold aU at h;split at h
 ·cases h
 rename_i h1;split at h
 ·cases h
 rename_i h2;split at h
 ·cases h
 rename_i h3;simp only[Q1,j9,x7,not_or,not_and,Z7,decide_eq_true_eq,btw] at h2 h3;obtain⟨⟨⟨⟨a1,a2⟩,a3⟩,a4⟩,a5⟩:=h2;obtain⟨⟨b1,b2⟩,b3⟩:=h3;refine⟨by simpa using h1,λh=> ?_,λh=> ?_,λh=> ?_,λh=> ?_,λh=> ?_,λh=> ?_,λh=> ?_,λh=> ?_⟩
 ·have:=a1 h;omega
 ·have:=a2 h;omega
 ·have:=a3 h;omega
 ·have:=a4 h;omega
 ·have:=a5 h;omega
 ·have:=b1 h;omega
 ·have:=b2 h;omega
 ·have:=b3 h;omega
end

theorem An {V F L:Int}{c:List Ins}(h:dE V F L c=0):∀i∈c,aU V F L i=0:=by
 induction c with
 |nil=>intro i hi;cases hi
 |cons x r ih=>
  unfold dE at h;split at h
  ·rename_i hx
   intro i hi;rcases z3.1 hi with rfl|hi
   ·exact hx
   ·exact ih h i hi
  ·rename_i hx;exact absurd h hx
structure ProgOk (V F:Int) (c:List Ins):Prop where
 v1:1<=V
 v8:V<=8
 f0:0<=F
 f3:F<=3
 len:c.length<=60
 each:∀i∈c,aU V F c.length i=0
theorem cK {V F:Int}{c:List Ins}(h:ag V F c=0):ProgOk V F c:=by
 unfold ag at h;split at h
 ·cases h
 rename_i h1;split at h
 ·cases h
 rename_i h2;simp[btw] at h1;exact⟨by omega,by omega,by omega,by omega,by omega,An h⟩

theorem AY {c:List Ins}{p:Nat}(h:p < c.length):bM c (p:Int)=c[p]:=by
 unfold bM;simp[j5,x4 h]
theorem kV {c:List Ins}{p:Int}(h0:0<=p)(h:p < c.length):bM c p∈c:=by
 obtain⟨k,rfl⟩:=Int.eq_ofNat_of_zero_le h0;rw[AY (by omega)];exact gM _

theorem nK {α:Type}{l:List α}{i:Nat}{v x:α}(h:x∈l.set i v):x=v\/x∈l:=(Q2 h).symm
theorem mO {α β:Type}{f:α->β->Bool}{a:List α}{b:List β}:(Z8 f a b).all id=true↔∀i (h1:i < a.length) (h2:i < b.length),f a[i] b[i]=true:=by
 induction a generalizing b with
 |nil=>simp
 |cons x a ih=>
  cases b with
  |nil=>simp
  |cons y b=>
   rw[List.zipWith_cons_cons,Qf,j9,ih];constructor
   ·rintro ⟨h,h'⟩ i h1 h2
    cases i with
    |zero=>exact h
    |succ i=>exact h' i (by simpa using h1) (by simpa using h2)
   ·intro h
    exact⟨h 0 (by simp) (by simp),λi h1 h2=>h (i+1) (by simpa using h1) (by simpa using h2)⟩

theorem mem_siteSet {a b:List Int}{x:Int}:x∈eU a b↔(0<=x/\x < 60)/\(x∈a\/x∈b):=by
 unfold eU;simp only[List.mem_filter,x6,Qh,Q1,Qi];constructor
 ·rintro ⟨⟨n,hn,rfl⟩,h⟩
  exact⟨by omega,h⟩
 ·rintro ⟨⟨h0,h1⟩,h⟩
  exact⟨⟨x.toNat,by omega,by omega⟩,h⟩
theorem kX (a b:List Int):(eU a b).Pairwise (· < ·):=by
 unfold eU;refine Q3.filter _ ?_;rw[Z9];exact Qj.imp (by intro a b h;omega)
theorem iM:∀{l:List Int},l.Pairwise (· < ·)->bS l=true
 |[],_=>rfl
 |[_],_=>rfl
 |a::b::r,h=>by
  unfold bS;rw[J2] at h;simp[h.1 b (by simp),iM h.2]
theorem ckGs_iff {c:List Ins}{g:Gs}:ap c g=0↔g.sp.Ok/\(∀x∈g.s,bk c x=true)/\bS g.s=true:=by
 unfold ap;by_cases h1:bK g.sp=0
 ·rw[if_neg (by simpa using h1)]
  by_cases h2:g.s.all (bk c)=false
  ·rw[if_pos h2]
   refine⟨(λh=>by cases h),λh=> ?_⟩;rw[X0.2 h.2.1] at h2;cases h2
  ·rw[if_neg h2]
   have h2':∀x∈g.s,bk c x=true:=by simpa using h2
   by_cases h3:bS g.s=false
   ·rw[if_pos h3]
    exact⟨λh=>(by cases h),λh=>(by rw[h.2.2] at h3;cases h3)⟩
   ·rw[if_neg h3]
    exact⟨λ_=>⟨ckSp_ok.1 h1,h2',by simpa using h3⟩,λ_=>rfl⟩
 ·rw[if_pos h1]
  exact⟨λh=>absurd h h1,λh=>absurd (ckSp_ok.2 h.1) h1⟩
theorem cP {c:List Ins}{x:Int}(h:bk c x=true):0<=x/\x < c.length:=by
 unfold bk at h;simp only[j9,decide_eq_true_eq] at h;omega

theorem uJ {s:Sp}{a:Int}:s.has a=true↔s.n=false/\s.lo<=a/\a<=s.hi:=by
 unfold Sp.has;simp only[j9,x7,decide_eq_true_eq]
theorem dh {s t:Sp}(h:s.lo<=s.hi):cZ s t=true↔s.n=true\/(t.n=false/\t.lo<=s.lo/\s.hi<=t.hi):=by
 unfold cZ;rw[Q1,j9,uJ,uJ];constructor
 ·rintro (h|⟨⟨h1,h2,h3⟩,_,h4,h5⟩)
  ·exact .inl h
  ·exact .inr ⟨h1,h2,h5⟩
 ·rintro (h|⟨h1,h2,h3⟩)
  ·exact .inl h
  ·exact .inr ⟨⟨h1,by omega,by omega⟩,h1,by omega,by omega⟩
theorem CX {s t:Sp}(hs:s.Ok)(ht:t.Ok):cZ s (aT s t)=true/\cZ t (aT s t)=true:=by
 obtain⟨_,_,_,h1⟩:=hs;obtain⟨_,_,_,h2⟩:=ht;rw[dh h1,dh h2];unfold aT;cases hn:s.n with
 |true=>
  simp only[if_true];cases ht':t.n with
  |true=>simp
  |false=>simp
 |false=>
  simp only[z6,if_false];cases ht':t.n with
  |true=>simp[hn]
  |false=>simp;omega
theorem Ct {s t:Sp}(hs:s.Ok)(ht:t.Ok):cZ s (aV s t)=true/\cZ t (aV s t)=true:=by
 obtain⟨⟨s1,s2⟩,⟨s3,s4⟩,_,h1⟩:=hs;obtain⟨⟨t1,t2⟩,⟨t3,t4⟩,_,h2⟩:=ht;rw[dh h1,dh h2];unfold aV;cases hn:s.n with
 |true=>
  simp only[if_true];cases ht':t.n with
  |true=>simp
  |false=>simp
 |false=>
  simp only[z6,if_false];cases ht':t.n with
  |true=>simp[hn]
  |false=>
   simp only[z6,if_false,false_or,true_and]
   (repeat' split)<;>omega
section
variable {c:List Ins} {g h:Gs} {w:Bool}
theorem lM (w:Bool)(g h:Gs):(ac w g h).sp=if w then aV g.sp h.sp else aT g.sp h.sp:=rfl
theorem iu (hg:ap c g=0)(hh:ap c h=0):ap c (ac w g h)=0:=by
 rw[ckGs_iff] at hg hh |-;refine⟨?_,λx hx=> ?_,iM (kX _ _)⟩
 ·rw[lM]
  cases w
  ·exact Du hg.1 hh.1
  ·exact Cv hg.1 hh.1
 ·rcases (mem_siteSet.1 hx).2 with h|h
  ·exact hg.2.1 x h
  ·exact hh.2.1 x h
theorem inGs_iff {g h:Gs}:bT g h=true↔(g.n=true->h.n=true)/\(g.t=true->h.t=true)/\(g.f=true->h.f=true)/\cZ g.sp h.sp=true/\∀x∈g.s,x∈h.s:=by
 unfold bT;simp only[j9,x7,Bool.and_eq_false_imp,Bool.not_eq_false',X0,Qi]
theorem lW (h60:c.length<=60)(hg:ap c g=0)(hh:ap c h=0):bT g (ac w g h)=true/\bT h (ac w g h)=true:=by
 rw[ckGs_iff] at hg hh;have hs:cZ g.sp (ac w g h).sp=true/\cZ h.sp (ac w g h).sp=true:=by
  rw[lM];cases w
  ·exact CX hg.1 hh.1
  ·exact Ct hg.1 hh.1
 have hm:∀x,x∈g.s\/x∈h.s->x∈(ac w g h).s:=λx hx=>mem_siteSet.2 ⟨by
  rcases hx with hx|hx
  ·have:=cP (hg.2.1 x hx);omega
  ·have:=cP (hh.2.1 x hx);omega,hx⟩
 rw[inGs_iff,inGs_iff];refine⟨⟨λe=> ?_,λe=> ?_,λe=> ?_,hs.1,λx hx=>hm x (.inl hx)⟩,⟨λe=> ?_,λe=> ?_,λe=> ?_,hs.2,λx hx=>hm x (.inr hx)⟩⟩<;>simp[ac,e]
end

theorem iG {c:List Ins}{p:Gs->Bool}:∀{l:List (List Gs)} {i:Nat},bJ c p i l=false↔∀k (h:k < l.length),bk c ((i+k:Nat):Int)=true\/∀g∈l[k],p g=false
 |[],i=>by simp[bJ]
 |r::l,i=>by
  unfold bJ;rw[Bool.or_eq_false_iff,iG (l:=l)];constructor
  ·rintro ⟨h,h'⟩ k hk
   cases k with
   |zero=>
    rw[Bool.and_eq_false_iff] at h;rcases h with h|h
    ·exact .inl (by simpa using h)
    ·exact .inr (by simpa using h)
   |succ k=>
    have:=h' k (by simpa using hk);rwa [show i+1+k=i+(k+1) by omega] at this
  ·intro h
   refine⟨?_,λk hk=> ?_⟩
   ·rw[Bool.and_eq_false_iff]
    rcases h 0 (by simp) with h|h
    ·exact .inl (by simpa using h)
    ·exact .inr (by simpa using h)
   ·have:=h (k+1) (by simpa using hk)
    rwa [show i+(k+1)=i+1+k by omega] at this
theorem lg {c:List Ins}:∀{l:List Gs},bm c l=0↔∀g∈l,ap c g=0
 |[]=>by simp[bm]
 |g::l=>by
  unfold bm;by_cases h:ap c g=0
  ·rw[if_pos h,lg]
   simp[h]
  ·rw[if_neg h]
   exact⟨λe=>absurd e h,λe=>e g (by simp)⟩
structure PicOk (V F:Int) (c:List Ins) (x:Pic):Prop where
 none:x.none=false
 vars:(x.vars.length:Int)=V
 flds:x.flds.length=c.length
 row:∀k (h:k < x.flds.length),(x.flds[k].length:Int)=F
 gv:∀g∈x.vars,ap c g=0
 gf:∀k (h:k < x.flds.length),∀g∈x.flds[k],ap c g=0
 stray:∀k (h:k < x.flds.length),bk c (k:Int)=true\/∀g∈x.flds[k],ae g=true
theorem gp {V F:Int}{c:List Ins}{x:Pic}(hn:x.none=true):an V F c x=0↔x=nonePic:=by
 obtain⟨n,vars,flds⟩:=x;simp only at hn;subst hn;unfold an bh nonePic;simp only[if_true,Pic.mk.injEq,true_and];constructor
 ·intro h
  split at h
  ·cases h
  ·rename_i h1
   simpa using h1
 ·rintro ⟨rfl,rfl⟩
  rfl
theorem p5 {V F:Int}{c:List Ins}{x:Pic}(hn:x.none=false):an V F c x=0↔PicOk V F c x:=by
 obtain⟨n,vars,flds⟩:=x;simp only at hn;subst hn;unfold an bh bu;simp only[z6,if_false];constructor
 ·intro h
  split at h
  ·cases h
  rename_i h1;split at h
  ·rename_i h2;exact absurd h h2
  rename_i h2;split at h
  ·cases h
  rename_i h3;simp only[Z7,j9,decide_eq_true_eq,x7,Qk,decide_eq_false_iff_not,Decidable.not_not] at h1;simp only[ne_eq,Decidable.not_not] at h2;rw[lg] at h2;rw[Bool.not_eq_true,iG] at h3;refine⟨rfl,h1.1,h1.2.1,λk h=> ?_,λg hg=>h2 g (by simp[hg]),λk h g hg=>h2 g ?_,λk h=> ?_⟩
  ·have:=h1.2.2 _ (gM h)
   simpa using this
  ·rw[j6,Ql]
   exact .inr ⟨_,gM h,hg⟩
  ·rcases h3 k h with h3|h3
   ·exact .inl (by simpa using h3)
   ·exact .inr λg hg=>by simpa using h3 g hg
 ·rintro ⟨-,h1,h2,h3,h4,h5,h6⟩
  simp only at h1 h2 h3 h4 h5 h6;rw[if_neg,if_neg,if_neg]
  ·rw[Bool.not_eq_true,iG]
   intro k h;rcases h6 k h with h6|h6
   ·exact .inl (by simpa using h6)
   ·exact .inr λg hg=>by simpa using h6 g hg
  ·rw[ne_eq,Decidable.not_not,lg]
   intro g hg;rw[j6,Ql] at hg;rcases hg with hg|⟨r,hr,hg⟩
   ·exact h4 g hg
   ·obtain⟨k,hk,rfl⟩:=Q4 hr
    exact h5 k hk g hg
  ·simp only[Z7,j9,decide_eq_true_eq,x7,Qk]
   refine⟨h1,h2,λr hr=> ?_⟩;obtain⟨k,hk,rfl⟩:=Q4 hr;simpa using h3 k hk
section
variable {V F:Int} {c:List Ins} {x y:Pic} {w:Bool}
theorem bQ (h:an V F c x=0)(hn:x.none=false):PicOk V F c x:=(p5 hn).1 h
theorem PicOk.ck (h:PicOk V F c x):an V F c x=0:=(p5 h.none).2 h
theorem uv {g:Gs}:ae g=true↔g.sp.n=true/\g.n=false/\g.t=false/\g.f=false/\g.s=[]:=by
 unfold ae aD;simp only[j9,x7,Bool.or_eq_false_iff,decide_eq_false_iff_not,J3,Nat.le_zero,J0]
theorem tE {g h:Gs}(hg:ae g=true)(hh:ae h=true):ae (ac w g h)=true:=by
 rw[uv] at hg hh |-;obtain⟨a1,a2,a3,a4,a5⟩:=hg;obtain⟨b1,b2,b3,b4,b5⟩:=hh;refine⟨?_,by simp[ac,a2,b2],by simp[ac,a3,b3],by simp[ac,a4,b4],by simp[ac,eU,a5,b5]⟩;rw[lM];cases w<;>simp[aT,aV,a1,b1]
theorem iy {j:Gs->Gs->Gs}{a b:List Gs}:(aE j a b).length=min a.length b.length:=j7
theorem iJ {j:Gs->Gs->Gs}{a b:List Gs}{g:Gs}(h:g∈aE j a b):∃i,∃(h1:i < a.length) (h2:i < b.length),g=j a[i] b[i]:=by
 obtain⟨i,hi,rfl⟩:=Q4 h;have hi':=hi;rw[iy] at hi';exact⟨i,by omega,by omega,by simp[aE]⟩
theorem PicOk.join (hx:PicOk V F c x)(hy:PicOk V F c y):PicOk V F c (aw (ac w) x y):=by
 have e:aw (ac w) x y=⟨false,aE (ac w) x.vars y.vars,Z8 (aE (ac w)) x.flds y.flds⟩:=by
  unfold aw;rw[if_neg (by rw[hx.none];decide),if_neg (by rw[hy.none];decide)]
 rw[e];have l1:=hx.vars;have l2:=hy.vars;have l3:=hx.flds;have l4:=hy.flds;refine⟨rfl,?_,?_,λk h=> ?_,λg hg=> ?_,λk h g hg=> ?_,λk h=> ?_⟩
 ·simp only[iy];omega
 ·simp only[j7];omega
 ·simp only[j7] at h
  have:=hx.row k (by omega);have:=hy.row k (by omega);simp only[q0,iy];omega
 ·obtain⟨i,h1,h2,rfl⟩:=iJ hg
  exact iu (hx.gv _ (gM _)) (hy.gv _ (gM _))
 ·simp only[j7] at h
  simp only[q0] at hg;obtain⟨i,h1,h2,rfl⟩:=iJ hg;exact iu (hx.gf k (by omega) _ (gM _)) (hy.gf k (by omega) _ (gM _))
 ·simp only[j7] at h
  rcases hx.stray k (by omega) with a|a
  ·exact .inl a
  rcases hy.stray k (by omega) with b|b
  ·exact .inl b
  right;intro g hg;simp only[q0] at hg;obtain⟨i,h1,h2,rfl⟩:=iJ hg;exact tE (a _ (gM _)) (b _ (gM _))
theorem pD (hx:an V F c x=0)(hy:an V F c y=0):an V F c (aw (ac w) x y)=0:=by
 cases hn:x.none with
 |true=>unfold aw;rw[if_pos hn];exact hy
 |false=>
  cases hm:y.none with
  |true=>unfold aw;rw[if_neg (by rw[hn];decide),if_pos hm];exact hx
  |false=>exact((bQ hx hn).join (bQ hy hm)).ck
theorem p7 {a b:List Gs}:cN a b=true↔∀i (h1:i < a.length) (h2:i < b.length),bT a[i] b[i]=true:=mO
theorem dD (hn:x.none=false)(hm:y.none=false):aH x y=true↔(∀i (h1:i < x.vars.length) (h2:i < y.vars.length),bT x.vars[i] y.vars[i]=true)/\∀k (h1:k < x.flds.length) (h2:k < y.flds.length) i (h3:i < x.flds[k].length) (h4:i < y.flds[k].length),bT x.flds[k][i] y.flds[k][i]=true:=by
 unfold aH;rw[hn,hm];simp only[Bool.false_or,Bool.not_false,Bool.true_and,j9];rw[p7,mO];simp only[p7]
theorem iT {g:Gs}(h:ap c g=0):g.sp.lo<=g.sp.hi:=(ckGs_iff.1 h).1.2.2.2
theorem Bz {L:List (List Gs)}{k:Nat}(h:k < L.length):L.getD k []=L[k]:=by simp[j5,x4 h]
theorem ym {L:List (List Gs)}{k:Nat}(h:¬k < L.length):L.getD k []=[]:=by simp[j5,J4 (J3.1 h)]
theorem iY (h60:c.length<=60)(hx:an V F c x=0)(hy:an V F c y=0):aH x (aw (ac w) x y)=true/\aH y (aw (ac w) x y)=true:=by
 have self:∀{z:Pic},an V F c z=0->aH z z=true:=by
  intro z hz;cases hn:z.none with
  |true=>simp[aH,hn]
  |false=>
   have kz:=bQ hz hn;rw[dD hn hn];have sg:∀{g:Gs},ap c g=0->bT g g=true:=λhg=>inGs_iff.2 ⟨id,id,id,by
    rw[dh (iT hg)];rename_i g;cases e:g.sp.n with
    |true=>exact .inl rfl
    |false=>exact .inr ⟨rfl,by omega,by omega⟩,λ_ h=>h⟩
   exact⟨λi h1 _=>sg (kz.gv _ (gM _)),λk h1 _ i h3 _=>sg (kz.gf k h1 _ (gM _))⟩
 cases hn:x.none with
 |true=>
  have e:aw (ac w) x y=y:=by unfold aw;rw[if_pos hn]
  rw[e];exact⟨by simp[aH,hn],self hy⟩
 |false=>
  cases hm:y.none with
  |true=>
   have e:aw (ac w) x y=x:=by unfold aw;rw[if_neg (by rw[hn];decide),if_pos hm]
   rw[e];exact⟨self hx,by simp[aH,hm]⟩
  |false=>
   have kx:=bQ hx hn;have ky:=bQ hy hm;have e:aw (ac w) x y=⟨false,aE (ac w) x.vars y.vars,Z8 (aE (ac w)) x.flds y.flds⟩:=by
    unfold aw;rw[if_neg (by rw[hn];decide),if_neg (by rw[hm];decide)]
   rw[e,dD hn rfl,dD hm rfl];refine⟨⟨λi h1 h2=> ?_,λk h1 h2 i h3 h4=> ?_⟩,⟨λi h1 h2=> ?_,λk h1 h2 i h3 h4=> ?_⟩⟩
   ·simp only[aE,j7] at h2
    simp only[aE,q0];exact(lW h60 (kx.gv _ (gM _)) (ky.gv _ (gM _))).1
   ·simp only[j7] at h2
    simp only[aE,q0,j7] at h4;simp only[aE,q0];exact(lW h60 (kx.gf k h1 _ (gM _)) (ky.gf k (by omega) _ (gM _))).1
   ·simp only[aE,j7] at h2
    simp only[aE,q0];exact(lW h60 (kx.gv _ (gM _)) (ky.gv _ (gM _))).2
   ·simp only[j7] at h2
    simp only[aE,q0,j7] at h4;simp only[aE,q0];exact(lW h60 (kx.gf k (by omega) _ (gM _)) (ky.gf k h1 _ (gM _))).2
end
structure Edg where
 tgt:Int
 pic:Pic
def gAt (x:Pic)(i:Int):Gs:=x.vars.getD i.toNat noneG
def aN (x:Pic)(i:Int)(g:Gs):Pic:={x with vars:=x.vars.set i.toNat g}
def fAt (x:Pic)(s n:Int):Gs:=(x.flds.getD s.toNat []).getD n.toNat noneG
def li (x:Pic)(s n:Int)(g:Gs):Pic:={x with flds:=x.flds.modify s.toNat λr=>r.set n.toNat g}
def bB (s:Sp):Sp:=if s.n then⟨true,0,0⟩ else if (if s.hi=0 then -1 else s.hi) < (if s.lo=0 then 1 else s.lo) then⟨true,0,0⟩ else⟨false,if s.lo=0 then 1 else s.lo,if s.hi=0 then -1 else s.hi⟩
def bi (g:Gs):Gs:=⟨false,bB g.sp,g.t,false,g.s⟩
def bF (g:Gs):Gs:=⟨g.n,if g.sp.has 0 then⟨false,0,0⟩ else⟨true,0,0⟩,false,g.f,[]⟩
def bt (g:Gs):Bool:=g.n||(!g.sp.n||(g.t||g.f))
def dk (x:Pic)(n:Int)(l:List Int):Gs:=l.foldl (λg s=>ac false g (fAt x s n)) noneG
def cH (x:Pic)(n:Int)(b:Gs)(l:List Int):Pic:=l.foldl (λy s=>li y s n (ac false (fAt y s n) b)) x
def aM (i:Ins)(at_:Int)(x:Pic):Gs×Bool:=
 if i.k=1 then(⟨false,⟨false,i.n,i.n⟩,false,false,[]⟩,false)
 else if i.k=2 then(⟨false,⟨true,0,0⟩,decide (i.n=1),decide (i.n=0),[]⟩,false)
 else if i.k=3 then(cc,false)
 else if i.k=11 then(⟨false,⟨true,0,0⟩,false,false,[at_]⟩,false)
 else if i.k=12 then(dk x i.n (gAt x i.a).s,bt (gAt x i.a))
 else if i.k=14 then(⟨false,⟨false,-i.n,i.n⟩,false,false,[]⟩,false)
 else bY i.k (gAt x i.a) (gAt x i.b)
def dZ (at_:Int)(x:Pic):Pic:={x with flds:=x.flds.modify at_.toNat λr=>r.map λg=>{g with n:=true}}
def ah (i:Ins)(at_:Int)(x:Pic):List Edg×Bool×Bool:=
 if x.none then([],false,false)
 else if i.k=19 then([],false,false)
 else if i.k=18 then([⟨at_+1,x⟩],false,false)
 else if i.k=16 then([⟨i.g,x⟩],false,false)
 else if i.k=15 then((if bI (gAt x i.a) then [⟨i.g,aN x i.a (bi (gAt x i.a))⟩] else [])++(if b9 (gAt x i.a) then [⟨at_+1,aN x i.a (bF (gAt x i.a))⟩] else []),false,false)
 else if i.k=17 then((if bI (gAt x i.a) then [⟨at_+1,aN x i.a (bi (gAt x i.a))⟩] else []),false,b9 (gAt x i.a))
 else if i.k=13 then(if (gAt x i.a).s.length=0 then([],bt (gAt x i.a),false) else([⟨at_+1,cH x i.n (gAt x i.b) (gAt x i.a).s⟩],bt (gAt x i.a),false))
 else if ae (aM i at_ x).1 then([],(aM i at_ x).2,false)
 else([⟨at_+1,aN (if i.k=11 then dZ at_ x else x) i.tgt (aM i at_ x).1⟩],(aM i at_ x).2,false)

section
variable {V F:Int} {c:List Ins} {x:Pic} {g b:Gs}
theorem fm (hx:PicOk V F c x)(i:Int):ap c (gAt x i)=0:=by
 unfold gAt;by_cases h:i.toNat < x.vars.length
 ·simp only[j5,x4 h,X1]
  exact hx.gv _ (gM h)
 ·simp only[j5,J4 (J3.1 h),X2]
  rfl
theorem oB (hx:PicOk V F c x)(s n:Int):ap c (fAt x s n)=0:=by
 unfold fAt;by_cases h:s.toNat < x.flds.length
 ·rw[Bz h]
  by_cases h2:n.toNat < x.flds[s.toNat].length
  ·simp only[j5,x4 h2,X1]
   exact hx.gf _ h _ (gM h2)
  ·simp only[j5,J4 (J3.1 h2),X2]
   rfl
 ·rw[ym h]
  rfl
theorem PicOk.setVar (hx:PicOk V F c x)(i:Int)(hg:ap c g=0):PicOk V F c (aN x i g):=by
 refine⟨hx.none,by simpa[Go.Proofs.YtmapdpcfanecdabGreat.aN] using hx.vars,hx.flds,hx.row,λh hh=> ?_,hx.gf,hx.stray⟩;rcases nK hh with rfl|hh
 ·exact hg
 ·exact hx.gv h hh
theorem eS {L:List (List Gs)}{s k:Nat}{f:List Gs->List Gs}(h:k < (L.modify s f).length):(L.modify s f)[k]=if s=k then f (L[k]'(by simpa using h)) else L[k]'(by simpa using h):=by
 rw[List.getElem_modify]
theorem PicOk.setFld (hx:PicOk V F c x)(s n:Int)(h0:0<=s)(hs:bk c s=true)(hg:ap c g=0):PicOk V F c (li x s n g):=by
 refine⟨hx.none,hx.vars,by simpa[Go.Proofs.YtmapdpcfanecdabGreat.li] using hx.flds,λk h=> ?_,hx.gv,λk h q hq=> ?_,λk h=> ?_⟩
 ·have h':k < x.flds.length:=by simpa[Go.Proofs.YtmapdpcfanecdabGreat.li] using h
  show (((x.flds.modify s.toNat λr=>r.set n.toNat g)[k]'(by simpa using h')).length:Int)=F;rw[eS];split
  ·rw[z7];exact hx.row k h'
  ·exact hx.row k h'
 ·have h':k < x.flds.length:=by simpa[Go.Proofs.YtmapdpcfanecdabGreat.li] using h
  have hq':q∈(x.flds.modify s.toNat λr=>r.set n.toNat g)[k]'(by simpa using h'):=hq;rw[eS] at hq';split at hq'
  ·rcases nK hq' with rfl|hq'
   ·exact hg
   ·exact hx.gf k h' q hq'
  ·exact hx.gf k h' q hq'
 ·have h':k < x.flds.length:=by simpa[Go.Proofs.YtmapdpcfanecdabGreat.li] using h
  by_cases e:s.toNat=k
  ·left
   rw[<-e,Int.toNat_of_nonneg h0];exact hs
  ·rcases hx.stray k h' with a|a
   ·exact .inl a
   ·right
    intro q hq;have hq':q∈(x.flds.modify s.toNat λr=>r.set n.toNat g)[k]'(by simpa using h'):=hq;rw[eS,if_neg e] at hq';exact a q hq'
theorem mR (hx:PicOk V F c x)(n:Int)(l:List Int):ap c (dk x n l)=0:=by
 unfold dk;have:∀(l:List Int) (g:Gs),ap c g=0->ap c (l.foldl (λg s=>ac false g (fAt x s n)) g)=0:=by
  intro l
  induction l with
  |nil=>exact λg h=>h
  |cons s l ih=>exact λg h=>ih _ (iu h (oB hx s n))
 exact this l _ rfl
theorem lB (hx:PicOk V F c x)(n:Int)(hb:ap c b=0):∀(l:List Int),(∀s∈l,bk c s=true)->PicOk V F c (cH x n b l):=by
 intro l;unfold cH
 induction l generalizing x with
 |nil=>exact λ_=>hx
 |cons s l ih=>
  intro h;have hs:=h s (by simp);exact ih (hx.setFld s n (cP hs).1 hs (iu (oB hx s n) hb)) λt ht=>h t (by simp[ht])
theorem d7:(⟨true,0,0⟩:Sp).Ok:=⟨by unfold aS;simp only;omega,by unfold aS;simp only;omega,λ_=>⟨rfl,rfl⟩,Int.le_refl _⟩
theorem fO {lo hi:Int}(h1: -2147483648<=lo)(h2:hi<=2147483647)(h:lo<=hi):(⟨false,lo,hi⟩:Sp).Ok:=⟨⟨h1,by simp only;omega⟩,⟨by simp only;omega,h2⟩,(λh=>by cases h),h⟩
theorem y6 {s:Sp}(h:s.Ok):(bB s).Ok:=by
 obtain⟨⟨a1,a2⟩,⟨a3,a4⟩,a5,a6⟩:=h;unfold bB;split
 ·exact d7
 generalize e1:(if s.hi=0 then(-1:Int) else s.hi)=hi;generalize e2:(if s.lo=0 then(1:Int) else s.lo)=lo;split
 ·exact d7
 ·have:hi<=2147483647:=by rw[<-e1];split<;>omega
  have: -2147483648<=lo:=by rw[<-e2];split<;>omega
  exact fO (by omega) (by omega) (by omega)
theorem ru (h:ap c g=0):ap c (bi g)=0:=by
 rw[ckGs_iff] at h |-;exact⟨y6 h.1,h.2⟩
theorem vj (h:ap c g=0):ap c (bF g)=0:=by
 rw[ckGs_iff] at h |-;refine⟨?_,λx hx=>by simp[bF] at hx,rfl⟩;show (if g.sp.has 0=true then _ else _:Sp).Ok;split
 ·exact fO (by omega) (by omega) (by omega)
 ·exact d7
theorem dB {n t f:Bool}{sp:Sp}(h:sp.Ok):ap c ⟨n,sp,t,f,[]⟩=0:=by
 rw[ckGs_iff];exact⟨h,λx hx=>by simp at hx,rfl⟩
theorem De {k:Int}{h:Gs}(hg:ap c g=0)(hh:ap c h=0):ap c (bY k g h).1=0:=by
 unfold bY;split
 ·exact hg
 split
 ·exact dB d7
 split
 ·rfl
 split
 ·exact dB d7
 split
 ·exact dB d7
 ·exact dB (Ec (ckGs_iff.1 hg).1 (ckGs_iff.1 hh).1)
theorem PicOk.newPic (hx:PicOk V F c x){at_:Int}(h0:0<=at_)(hs:bk c at_=true):PicOk V F c (dZ at_ x):=by
 refine⟨hx.none,hx.vars,by simpa[Go.Proofs.YtmapdpcfanecdabGreat.dZ] using hx.flds,λk h=> ?_,hx.gv,λk h q hq=> ?_,λk h=> ?_⟩
 ·have h':k < x.flds.length:=by simpa[Go.Proofs.YtmapdpcfanecdabGreat.dZ] using h
  show (((x.flds.modify at_.toNat λr=>r.map λg=>{g with n:=true})[k]'(by simpa using h')).length:Int)=F;rw[eS];split
  ·rw[Qe];exact hx.row k h'
  ·exact hx.row k h'
 ·have h':k < x.flds.length:=by simpa[Go.Proofs.YtmapdpcfanecdabGreat.dZ] using h
  have hq':q∈(x.flds.modify at_.toNat λr=>r.map λg=>{g with n:=true})[k]'(by simpa using h'):=hq;rw[eS] at hq';split at hq'
  ·obtain⟨p,hp,rfl⟩:=x6.1 hq'
   have:=hx.gf k h' p hp;rw[ckGs_iff] at this |-;exact this
  ·exact hx.gf k h' q hq'
 ·have h':k < x.flds.length:=by simpa[Go.Proofs.YtmapdpcfanecdabGreat.dZ] using h
  by_cases e:at_.toNat=k
  ·left
   rw[<-e,Int.toNat_of_nonneg h0];exact hs
  ·rcases hx.stray k h' with a|a
   ·exact .inl a
   ·right
    intro q hq;have hq':q∈(x.flds.modify at_.toNat λr=>r.map λg=>{g with n:=true})[k]'(by simpa using h'):=hq;rw[eS,if_neg e] at hq';exact a q hq'
theorem pE {p:Int}(h0:0<=p)(h1:p < c.length)(hk:(bM c p).k=11):bk c p=true:=by
 unfold bk;unfold bM uW at hk;rw[hk];simp[h0,h1]
theorem nL (hp:ProgOk V F c)(hx:PicOk V F c x){p:Int}(h0:0<=p)(h1:p < c.length):ap c (aM (bM c p) p x).1=0:=by
 obtain⟨q1,q2,q3,q4,q5,q6,q7,q8,q9⟩:=bN (hp.each _ (kV h0 h1));unfold aM;split
 ·rename_i h
  have:=q7 h;exact dB (fO (by omega) (by omega) (by omega))
 split
 ·exact dB d7
 split
 ·exact dB d7
 split
 ·rename_i h
  rw[ckGs_iff];refine⟨d7,λy hy=> ?_,rfl⟩;rw[j2.1 hy];exact pE h0 h1 h
 split
 ·exact mR hx _ _
 split
 ·rename_i h
  have:=q9 h;exact dB (fO (by omega) (by omega) (by omega))
 ·exact De (fm hx _) (fm hx _)
theorem vo (hp:ProgOk V F c)(hx:an V F c x=0){p:Int}(h0:0<=p)(h1:p < c.length):∀e∈(ah (bM c p) p x).1,an V F c e.pic=0/\e.pic.none=false/\0<=e.tgt/\e.tgt<=c.length:=by
 obtain⟨q1,q2,q3,q4,q5,q6,q7,q8,q9⟩:=bN (hp.each _ (kV h0 h1));intro e he;unfold ah at he;split at he
 ·simp at he
 rename_i hn;have hn':x.none=false:=by simpa using hn
 have kx:=bQ hx hn';split at he
 ·simp at he
 split at he
 ·obtain rfl:=j2.1 he
  exact⟨hx,hn',by simp only;omega,by simp only;omega⟩
 split at he
 ·rename_i h16
  have:=q6 (by simp[nG,h16]);obtain rfl:=j2.1 he;exact⟨hx,hn',by simp only;omega,by simp only;omega⟩
 split at he
 ·rename_i h15
  have:=q6 (by simp[nG,h15]);simp only[j6] at he;rcases he with he|he
  ·split at he
   ·obtain rfl:=j2.1 he
    exact⟨(kx.setVar _ (ru (fm kx _))).ck,hn',by simp only;omega,by simp only;omega⟩
   ·simp at he
  ·split at he
   ·obtain rfl:=j2.1 he
    exact⟨(kx.setVar _ (vj (fm kx _))).ck,hn',by simp only;omega,by simp only;omega⟩
   ·simp at he
 split at he
 ·simp only at he
  split at he
  ·obtain rfl:=j2.1 he
   exact⟨(kx.setVar _ (ru (fm kx _))).ck,hn',by simp only;omega,by simp only;omega⟩
  ·simp at he
 split at he
 ·split at he
  ·simp at he
  ·obtain rfl:=j2.1 he
   have:=lB kx (bM c p).n (fm kx (bM c p).b) (gAt x (bM c p).a).s ((ckGs_iff.1 (fm kx _)).2.1);exact⟨this.ck,this.none,by simp only;omega,by simp only;omega⟩
 split at he
 ·simp at he
 ·obtain rfl:=j2.1 he
  have:PicOk V F c (if (bM c p).k=11 then dZ p x else x):=by
   split
   ·rename_i h11;exact kx.newPic h0 (pE h0 h1 h11)
   ·exact kx
  have:=this.setVar (bM c p).tgt (nL hp kx h0 h1);exact⟨this.ck,this.none,by simp only;omega,by simp only;omega⟩
end
theorem iK:∀{l:List Int},bS l=true->l.Pairwise (· < ·)
 |[],_=>Q3.nil
 |[a],_=>Qm _ _
 |a::b::r,h=>by
  unfold bS at h;rw[j9,decide_eq_true_eq] at h;have ih:=iK h.2;rw[J2];refine⟨λx hx=> ?_,ih⟩;rcases z3.1 hx with rfl|hx
  ·exact h.1
  ·have:=(J2.1 ih).1 x hx
   omega
theorem eR:∀{a b:List Int},a.Pairwise (· < ·)->b.Pairwise (· < ·)->(∀x∈a,x∈b)->a.length<=b.length/\(a.length=b.length->a=b)
 |[],b,_,_,_=>⟨z8 _,λh=>(J0.1 h.symm).symm⟩
 |x::r,[],_,_,h=>absurd (h x (by simp)) (by simp)
 |x::r,y::q,ha,hb,h=>by
  obtain⟨a1,a2⟩:=J2.1 ha;obtain⟨b1,b2⟩:=J2.1 hb;by_cases e:x=y
  ·subst e
   have hs:∀z∈r,z∈q:=λz hz=>by
    rcases z3.1 (h z (by simp[hz])) with rfl|hq
    ·exact absurd (a1 z hz) (by omega)
    ·exact hq
   obtain⟨h1,h2⟩:=eR a2 b2 hs;refine⟨by simp only[x9];omega,λhl=> ?_⟩;rw[h2 (by simpa using hl)]
  ·have hyx:y < x:=by
    rcases z3.1 (h x (by simp)) with rfl|hq
    ·exact absurd rfl e
    ·exact b1 x hq
   have hs:∀z∈x::r,z∈q:=λz hz=>by
    rcases z3.1 (h z hz) with rfl|hq
    ·rcases z3.1 hz with rfl|hz
     ·exact absurd rfl e
     ·exact absurd (a1 z hz) (by omega)
    ·exact hq
   obtain⟨h1,h2⟩:=eR ha b2 hs;simp only[x9] at h1 |-;exact⟨by omega,λhl=>by omega⟩
theorem tS {a b:List Int}(ha:a.Pairwise (· < ·))(hb:b.Pairwise (· < ·))(h:∀x,x∈a↔x∈b):a=b:=by
 obtain⟨h1,h2⟩:=eR ha hb λx hx=>(h x).1 hx;obtain⟨h3,_⟩:=eR hb ha λx hx=>(h x).2 hx;exact h2 (by omega)
theorem At {s t:Sp}(hs:s.Ok)(ht:t.Ok)(h:cZ t s=true):aT s t=s:=by
 obtain⟨_,_,s5,s6⟩:=hs;obtain⟨_,_,t5,t6⟩:=ht;rw[dh t6] at h;unfold aT;obtain⟨sn,slo,shi⟩:=s;obtain⟨tn,tlo,thi⟩:=t;simp only at h s5 t5 s6 t6 |-;rcases h with h|⟨h1,h2,h3⟩
 ·subst h
  obtain⟨rfl,rfl⟩:=t5 rfl;cases sn with
  |true=>obtain⟨rfl,rfl⟩:=s5 rfl;rfl
  |false=>rfl
 ·subst h1
  cases tn with
  |true=>rfl
  |false=>
   simp only[z6,if_false,Sp.mk.injEq,true_and];omega
theorem yC {s t:Sp}(hs:s.Ok)(ht:t.Ok)(h:cZ t s=true):aV s t=s:=by
 obtain⟨_,_,s5,s6⟩:=hs;obtain⟨_,_,t5,t6⟩:=ht;rw[dh t6] at h;unfold aV;obtain⟨sn,slo,shi⟩:=s;obtain⟨tn,tlo,thi⟩:=t;simp only at h s5 t5 s6 t6 |-;rcases h with h|⟨h1,h2,h3⟩
 ·subst h
  obtain⟨rfl,rfl⟩:=t5 rfl;cases sn with
  |true=>obtain⟨rfl,rfl⟩:=s5 rfl;rfl
  |false=>rfl
 ·subst h1
  cases tn with
  |true=>rfl
  |false=>
   simp only[z6,if_false,Sp.mk.injEq,true_and];rw[if_neg (by omega),if_neg (by omega)];exact⟨rfl,rfl⟩
section
variable {c:List Ins} {g h k:Gs} {w:Bool}
theorem io (hg:ap c g=0):g.s.Pairwise (· < ·):=iK (ckGs_iff.1 hg).2.2
theorem pq (hg:ap c g=0):bT g g=true:=by
 rw[inGs_iff,dh (iT hg)];refine⟨id,id,id,?_,λ_ h=>h⟩;cases g.sp.n
 ·exact .inr ⟨rfl,by omega,by omega⟩
 ·exact .inl rfl
theorem nE (hg:ap c g=0)(hh:ap c h=0)(h1:bT g h=true)(h2:bT h k=true):bT g k=true:=by
 rw[inGs_iff,dh (iT hg)] at h1;rw[inGs_iff,dh (iT hh)] at h2;rw[inGs_iff,dh (iT hg)];obtain⟨a1,a2,a3,a4,a5⟩:=h1;obtain⟨b1,b2,b3,b4,b5⟩:=h2;refine⟨λe=>b1 (a1 e),λe=>b2 (a2 e),λe=>b3 (a3 e),?_,λx hx=>b5 x (a5 x hx)⟩;rcases a4 with a4|⟨a4,a6,a7⟩
 ·exact .inl a4
 ·rcases b4 with b4|⟨b4,b6,b7⟩
  ·rw[a4] at b4;cases b4
  ·exact .inr ⟨b4,by omega,by omega⟩
theorem mG (h60:c.length<=60)(hg:ap c g=0)(hh:ap c h=0)(hi:bT h g=true):ac w g h=g:=by
 obtain⟨a1,a2,a3,a4,a5⟩:=inGs_iff.1 hi;have og:=(ckGs_iff.1 hg).1;have oh:=(ckGs_iff.1 hh).1;have e1:(if w then aV g.sp h.sp else aT g.sp h.sp)=g.sp:=by
  cases w
  ·exact At og oh a4
  ·exact yC og oh a4
 have e2:eU g.s h.s=g.s:=by
  refine tS (kX _ _) (io hg) λx=> ?_;rw[mem_siteSet];constructor
  ·rintro ⟨_,hx|hx⟩
   ·exact hx
   ·exact a5 x hx
  ·intro hx
   have:=cP ((ckGs_iff.1 hg).2.1 x hx);exact⟨⟨this.1,by omega⟩,.inl hx⟩
 unfold ac;rw[e1,e2];obtain⟨gn,gsp,gt,gf,gs⟩:=g;obtain⟨hn,hsp,ht,hf,hs⟩:=h;simp only at a1 a2 a3 |-;cases gn<;>cases hn<;>cases gt<;>cases ht<;>cases gf<;>cases hf<;>simp_all
end
def lQ (s:Sp):Nat:=if s.n then 8589934592 else(s.lo+2147483648).toNat+(2147483647 - s.hi).toNat
def gk (g:Gs):Nat:=b2n (!g.n)+b2n (!g.t)+b2n (!g.f)+(60 - g.s.length)+lQ g.sp
def lG (l:List Gs):Nat:=(l.map gk).sum
def BL (l:List (List Gs)):Nat:=(l.map lG).sum
def fi (x:Pic):Nat:=if x.none then 2000000000000 else lG x.vars+BL x.flds
def fB (l:List Pic):Nat:=(l.map fi).sum
theorem CZ {s t:Sp}(hs:s.Ok)(ht:t.Ok)(h:cZ s t=true):lQ t<=lQ s/\(lQ t=lQ s->s=t):=by
 obtain⟨⟨s1,s2⟩,⟨s3,s4⟩,s5,s6⟩:=hs;obtain⟨⟨t1,t2⟩,⟨t3,t4⟩,t5,t6⟩:=ht;rw[dh s6] at h;unfold lQ;obtain⟨sn,slo,shi⟩:=s;obtain⟨tn,tlo,thi⟩:=t;simp only at h s1 s2 s3 s4 s5 s6 t1 t2 t3 t4 t5 t6 |-;rcases h with h|⟨h1,h2,h3⟩
 ·subst h
  obtain⟨rfl,rfl⟩:=s5 rfl;cases tn with
  |true=>obtain⟨rfl,rfl⟩:=t5 rfl;simp
  |false=>
   simp only[z6,if_false,if_true];exact⟨by omega,λe=>by omega⟩
 ·subst h1
  cases sn with
  |true=>
   simp only[z6,if_false,if_true];exact⟨by omega,λe=>by omega⟩
  |false=>
   simp only[z6,if_false,Sp.mk.injEq,true_and];exact⟨by omega,λe=>by omega⟩
theorem pY {a b:Bool}(h:a=true->b=true):b2n (!b)<=b2n (!a)/\(b2n (!b)=b2n (!a)->a=b):=by
 cases a<;>cases b<;>simp_all[b2n]
theorem uU {c:List Ins}{g h:Gs}(h60:c.length<=60)(hg:ap c g=0)(hh:ap c h=0)(hi:bT g h=true):gk h<=gk g/\(gk h=gk g->g=h):=by
 obtain⟨a1,a2,a3,a4,a5⟩:=inGs_iff.1 hi;obtain⟨b1,b1'⟩:=pY a1;obtain⟨b2,b2'⟩:=pY a2;obtain⟨b3,b3'⟩:=pY a3;obtain⟨b4,b4'⟩:=CZ (ckGs_iff.1 hg).1 (ckGs_iff.1 hh).1 a4;obtain⟨b5,b5'⟩:=eR (io hg) (io hh) a5;have h6:h.s.length<=60:=by
  have hp:=io hh;have hr:∀x∈h.s,x∈((j3 60).map λn:Nat=>(n:Int)):=λx hx=>by
   have:=cP ((ckGs_iff.1 hh).2.1 x hx);rw[x6];exact⟨x.toNat,by rw[Qh];omega,by omega⟩
  have h7:=(eR hp (b:=(j3 60).map λn:Nat=>(n:Int)) (by rw[Z9];exact Qj.imp λh=>by omega) hr).1;simpa using h7
 unfold gk;refine⟨by omega,λe=> ?_⟩;have e1:=b1' (by omega);have e2:=b2' (by omega);have e3:=b3' (by omega);have e4:=b4' (by omega);have e5:=b5' (by omega);obtain⟨gn,gsp,gt,gf,gs⟩:=g;obtain⟨hn,hsp,ht,hf,hs⟩:=h;simp only at e1 e2 e3 e4 e5;rw[e1,e2,e3,e4,e5]
theorem oe {α:Type}(f:α->Nat):∀{a b:List α},a.length=b.length->(∀i (h1:i < a.length) (h2:i < b.length),f b[i]<=f a[i]/\(f b[i]=f a[i]->a[i]=b[i]))->(b.map f).sum<=(a.map f).sum/\((b.map f).sum=(a.map f).sum->a=b)
 |[],[],_,_=>⟨lR _,λ_=>rfl⟩
 |[],_::_,h,_=>by simp at h
 |_::_,[],h,_=>by simp at h
 |x::a,y::b,hl,h=>by
  obtain⟨h1,h2⟩:=oe f (a:=a) (b:=b) (by simpa using hl) λi k1 k2=>by
   have:=h (i+1) (by simp;omega) (by simp;omega);simpa using this
  have h0:=h 0 (by simp) (by simp);simp only[X4] at h0;simp only[Q5,Q6];refine⟨by omega,λe=> ?_⟩;rw[h0.2 (by omega),h2 (by omega)]
theorem lq {α:Type}(f:α->Nat)(m:Nat):∀{a:List α},(∀x∈a,f x<=m)->(a.map f).sum<=a.length * m
 |[],_=>by simp
 |x::a,h=>by
  have:=lq f m (a:=a) λy hy=>h y (by simp[hy]);have:=h x (by simp);simp only[Q5,Q6,x9,Nat.add_mul];omega
theorem uM {α:Type}(f:α->Nat):∀{a:List α} {k:Nat} {y:α} (hk:k < a.length),f y < f a[k]->((a.set k y).map f).sum < (a.map f).sum
 |[],_,_,hk,_=>absurd hk (by simp)
 |x::a,0,y,_,h=>by simp only[X4] at h;simp only[Qn,Q5,Q6];omega
 |x::a,k+1,y,hk,h=>by
  have:=uM f (a:=a) (k:=k) (y:=y) (by simpa using hk) (by simpa using h);simp only[Qo,Q5,Q6];omega
theorem Dg {s:Sp}(h:s.Ok):lQ s<=8589934592:=by
 obtain⟨⟨s1,s2⟩,⟨s3,s4⟩,s5,s6⟩:=h;unfold lQ;split<;>omega
theorem tt (b:Bool):b2n b<=1:=by cases b<;>decide
theorem uL {c:List Ins}{g:Gs}(h:ap c g=0):gk g<=8600000000:=by
 have:=Dg (ckGs_iff.1 h).1;have:=tt (!g.n);have:=tt (!g.t);have:=tt (!g.f);unfold gk;omega
section
variable {V F:Int} {c:List Ins} {x y z:Pic} {w:Bool}
theorem rv (h0:ag V F c=0)(hx:PicOk V F c x):fi x < 2000000000000:=by
 have hp:=cK h0;have h1:=hp.v8;have h2:=hp.f3;have h3:=hp.len;have a1:=hx.vars;have a2:=hx.flds;obtain⟨G,hG⟩:∃G:Nat,G=8600000000:=⟨_,rfl⟩;have b1:lG x.vars<=x.vars.length * G:=lq gk G λg hg=>by rw[hG];exact uL (hx.gv g hg)
 have b2:∀r∈x.flds,lG r<=3 * G:=λr hr=>by
  obtain⟨k,hk,rfl⟩:=Q4 hr;have q:lG x.flds[k]<=x.flds[k].length * G:=lq gk G λg hg=>by rw[hG];exact uL (hx.gf k hk g hg)
  have:=hx.row k hk;have h8:x.flds[k].length<=3:=by omega
  exact lT q (Q7 _ h8)
 have b3:BL x.flds<=x.flds.length * (3 * G):=lq lG _ b2;have h4:x.vars.length<=8:=by omega
 have h5:x.flds.length<=60:=by omega
 have h6:x.vars.length * G<=8 * G:=Q7 _ h4;have h7:x.flds.length * (3 * G)<=60 * (3 * G):=Q7 _ h5;unfold fi;rw[if_neg (by rw[hx.none];decide)];omega
theorem u8 (h0:ag V F c=0)(hx:an V F c x=0):fi x<=2000000000000:=by
 cases hn:x.none with
 |true=>unfold fi;rw[if_pos hn];exact lR _
 |false=>exact Nat.le_of_lt (rv h0 (bQ hx hn))
theorem pA (hx:an V F c x=0):aH x x=true:=by
 cases hn:x.none with
 |true=>simp[aH,hn]
 |false=>
  have kx:=bQ hx hn;rw[dD hn hn];exact⟨λi h1 _=>pq (kx.gv _ (gM _)),λk h1 _ i h3 _=>pq (kx.gf k h1 _ (gM _))⟩
theorem gR {x y:Pic}(h:aH x y=true)(hn:x.none=false):y.none=false:=by
 cases e:y.none with
 |false=>rfl
 |true=>simp[aH,e,hn] at h
theorem fU (hx:an V F c x=0)(hy:an V F c y=0)(hz:an V F c z=0)(h1:aH x y=true)(h2:aH y z=true):aH x z=true:=by
 cases hn:x.none with
 |true=>simp[aH,hn]
 |false=>
  have hm:=gR h1 hn;have ho:=gR h2 hm;have kx:=bQ hx hn;have ky:=bQ hy hm;have kz:=bQ hz ho;have:=kx.vars;have:=ky.vars;have:=kz.vars;have:=kx.flds;have:=ky.flds;have:=kz.flds;obtain⟨a1,a2⟩:=(dD hn hm).1 h1;obtain⟨b1,b2⟩:=(dD hm ho).1 h2;rw[dD hn ho];refine⟨λi p q=> ?_,λk p q i r s=> ?_⟩
  ·have hy':i < y.vars.length:=by omega
   exact nE (kx.gv _ (gM p)) (ky.gv _ (gM hy')) (a1 i p hy') (b1 i hy' q)
  ·have hy':k < y.flds.length:=by omega
   have:=kx.row k p;have:=ky.row k hy';have hi':i < y.flds[k].length:=by omega
   exact nE (kx.gf k p _ (gM r)) (ky.gf k hy' _ (gM hi')) (a2 k p hy' i r hi') (b2 k hy' q i hi' s)
theorem tm (h0:ag V F c=0)(hx:an V F c x=0)(hy:an V F c y=0)(hi:aH y x=true):aw (ac w) x y=x:=by
 have h60:c.length<=60:=(cK h0).len;unfold aw;cases hm:y.none with
 |true=>
  have ey:=(gp hm).1 hy;subst ey;cases hn:x.none with
  |true=>rw[(gp hn).1 hx];rfl
  |false=>rfl
 |false=>
  have hn:=gR hi hm;rw[hn];simp only[z6,if_false];have kx:=bQ hx hn;have ky:=bQ hy hm;have:=kx.vars;have:=ky.vars;have:=kx.flds;have:=ky.flds;obtain⟨a1,a2⟩:=(dD hm hn).1 hi;have v1:=kx.vars;have v2:=kx.flds;obtain⟨xn,xv,xf⟩:=x;simp only at hn v1 v2;subst hn;simp only[Pic.mk.injEq,true_and];constructor
  ·refine J7 (by simp only[aE,j7];omega) λi p q=> ?_
   simp only[aE,q0];exact mG h60 (kx.gv _ (gM _)) (ky.gv _ (gM _)) (a1 i _ _)
  ·refine J7 (by simp only[j7];omega) λk p q=> ?_
   have hk:k < y.flds.length:=by omega
   have r1:=kx.row k q;have r2:=ky.row k hk;simp only[q0];refine J7 (by simp only[aE,j7];simp only at r1;omega) λi r s=> ?_;simp only[aE,q0];exact mG h60 (kx.gf k q _ (gM _)) (ky.gf k hk _ (gM _)) (a2 k hk q i _ _)
theorem ix (h0:ag V F c=0)(hx:an V F c x=0)(hy:an V F c y=0):aw (ac w) x y=x↔aH y x=true:=by
 constructor
 ·intro h
  have:=(iY (w:=w) (cK h0).len hx hy).2;rw[h] at this;exact this
 ·exact tm h0 hx hy
theorem CC (h0:ag V F c=0)(hx:an V F c x=0)(hy:an V F c y=0)(hi:aH x y=true):fi y<=fi x/\(fi y=fi x->x=y):=by
 have h60:c.length<=60:=(cK h0).len;cases hn:x.none with
 |true=>
  have ex:=(gp hn).1 hx;refine⟨by have:=u8 h0 hy;unfold fi at this |-;rw[if_pos hn];exact this,λe=> ?_⟩;cases hm:y.none with
  |true=>rw[ex,(gp hm).1 hy]
  |false=>
   have:=rv h0 (bQ hy hm);rw[e] at this;unfold fi at this;rw[if_pos hn] at this;omega
 |false=>
  have hm:=gR hi hn;have kx:=bQ hx hn;have ky:=bQ hy hm;have:=kx.vars;have:=ky.vars;have:=kx.flds;have:=ky.flds;obtain⟨a1,a2⟩:=(dD hn hm).1 hi;have b1:=oe gk (a:=x.vars) (b:=y.vars) (by omega) λi p q=>uU h60 (kx.gv _ (gM _)) (ky.gv _ (gM _)) (a1 i p q);have b2:=oe lG (a:=x.flds) (b:=y.flds) (by omega) λk p q=>by
   have:=kx.row k p;have:=ky.row k q;exact oe gk (by omega) λi r s=>uU h60 (kx.gf k p _ (gM _)) (ky.gf k q _ (gM _)) (a2 k p q i r s)
  unfold fi lG BL;rw[if_neg (by rw[hm];decide),if_neg (by rw[hn];decide)];refine⟨by omega,λe=> ?_⟩;have e1:=b1.2 (by omega);have e2:=b2.2 (by omega);obtain⟨xn,xv,xf⟩:=x;obtain⟨yn,yv,yf⟩:=y;simp only at hn hm e1 e2;rw[hn,hm,e1,e2]
theorem Am (h0:ag V F c=0)(hx:an V F c x=0)(hy:an V F c y=0)(hi:aH y x=false):fi (aw (ac w) x y) < fi x:=by
 have hj:=pD (w:=w) hx hy;have h1:=CC h0 hx hj (iY (w:=w) (cK h0).len hx hy).1;have h2:aw (ac w) x y≠x:=λe=>by rw[(ix h0 hx hy).1 e] at hi;cases hi
 rcases Nat.lt_or_eq_of_le h1.1 with h|h
 ·exact h
 ·exact absurd (h1.2 h).symm h2
end
def aI (l:List Pic)(p:Int):Pic:=l.getD p.toNat nonePic
def cF (n i tto:Int):Bool:=decide (4<=n)&&decide (tto<=i)
def bD (n i:Int)(s:List Pic×Bool)(e:Edg):List Pic×Bool:=
 if aH e.pic (aI s.1 e.tgt) then s else(s.1.set e.tgt.toNat (aw (ac (cF n i e.tgt)) (aI s.1 e.tgt) e.pic),true)
def bG (c:List Ins)(i:Nat)(x:Pic):List Edg:=(ah (bM c i) i x).1
def cO (c:List Ins)(n:Int)(s:List Pic×Bool)(i:Nat):List Pic×Bool:=(bG c i (aI s.1 i)).foldl (bD n i) s
def cL (c:List Ins)(n:Int)(l:List Pic):List Pic×Bool:=(j3 c.length).foldl (cO c n) (l,false)
def cd (n i:Int)(s:List Pic×List Int×Bool)(e:Edg):List Pic×List Int×Bool:=
 if aH e.pic (aI s.1 e.tgt) then s else(s.1.set e.tgt.toNat (aw (ac (cF n i e.tgt)) (aI s.1 e.tgt) e.pic),s.2.1.set e.tgt.toNat (if i < e.tgt then n else n+1),true)
def eX (c:List Ins)(n:Int)(s:List Pic×List Int×Bool)(i:Nat):List Pic×List Int×Bool:=if s.2.1.getD i 0=n then(bG c i (aI s.1 i)).foldl (cd n i) s else s
def dG (c:List Ins)(n:Int)(s:List Pic×List Int):List Pic×List Int×Bool:=(j3 c.length).foldl (eX c n) (s.1,s.2,false)

structure XsOk (V F:Int) (c:List Ins) (l:List Pic):Prop where
 len:l.length=c.length+1
 ck:∀x∈l,an V F c x=0
def dd (c:List Ins)(l:List Pic)(i:Nat):Prop:=∀e∈bG c i (aI l i),aH e.pic (aI l e.tgt)=true
def LeX (l l':List Pic):Prop:=l'.length=l.length/\∀p:Int,aH (aI l p) (aI l' p)=true
section
variable {V F:Int} {c:List Ins} {l l' l2:List Pic} {n:Int}
theorem dm {k:Nat}(h:k < l.length):aI l (k:Int)=l[k]:=by unfold aI;simp[j5,h]
theorem XsOk.at (h:XsOk V F c l)(p:Int):an V F c (aI l p)=0:=by
 unfold aI;by_cases hp:p.toNat < l.length
 ·simp only[j5,x4 hp,X1]
  exact h.ck _ (gM hp)
 ·simp only[j5,J4 (J3.1 hp),X2]
  rfl
theorem LeX.refl (h:XsOk V F c l):LeX l l:=⟨rfl,λp=>pA (h.at p)⟩
theorem LeX.trans (h:XsOk V F c l)(h':XsOk V F c l')(h2:XsOk V F c l2)(a:LeX l l')(b:LeX l' l2):LeX l l2:=⟨by rw[b.1,a.1],λp=>fU (h.at p) (h'.at p) (h2.at p) (a.2 p) (b.2 p)⟩
theorem ii {p:Int}{q:Nat}{y:Pic}:aI (l.set q y) p=if q=p.toNat/\q < l.length then y else aI l p:=by
 unfold aI;simp only[j5,Qp];by_cases h:q=p.toNat
 ·by_cases hq:q < l.length
  ·rw[if_pos h,if_pos hq,if_pos ⟨h,hq⟩];rfl
  ·have hq':¬p.toNat < l.length:=by omega
   rw[if_pos h,if_neg hq,if_neg (by omega),J4 (by omega)]
 ·rw[if_neg h,if_neg (by omega)]
def en (V F:Int)(c:List Ins)(e:Edg):Prop:=an V F c e.pic=0/\0<=e.tgt/\e.tgt<=c.length
theorem e8 (h0:ag V F c=0){x:Pic}(hx:an V F c x=0){i:Nat}(hi:i < c.length):∀e∈bG c i x,en V F c e:=λe he=>by
 have:=vo (cK h0) hx (p:=(i:Int)) (by omega) (by omega) e he;exact⟨this.1,this.2.2.1,this.2.2.2⟩
theorem XsOk.put (h:XsOk V F c l){y:Pic}(hy:an V F c y=0)(q:Nat):XsOk V F c (l.set q y):=⟨by rw[z7];exact h.len,λx hx=>by
 rcases Q2 hx with hx|rfl
 ·exact h.ck x hx
 ·exact hy⟩
theorem kj (h0:ag V F c=0){s:List Pic×Bool}{i:Int}{e:Edg}(h:XsOk V F c s.1)(he:en V F c e):
  XsOk V F c (bD n i s e).1/\LeX s.1 (bD n i s e).1/\aH e.pic (aI (bD n i s e).1 e.tgt)=true/\((bD n i s e).2=false->s.2=false/\(bD n i s e).1=s.1)/\((bD n i s e).1=s.1/\(bD n i s e).2=s.2\/(bD n i s e).2=true/\fB (bD n i s e).1 < fB s.1):=by
 unfold bD;by_cases hi:aH e.pic (aI s.1 e.tgt)=true
 ·rw[if_pos hi]
  exact⟨h,LeX.refl h,hi,λhf=>⟨hf,rfl⟩,.inl ⟨rfl,rfl⟩⟩
 ·rw[if_neg hi]
  have hi':aH e.pic (aI s.1 e.tgt)=false:=by simpa using hi
  have hc:=h.at e.tgt;have hj:=pD (w:=cF n i e.tgt) hc he.1;have hin:=iY (w:=cF n i e.tgt) (cK h0).len hc he.1;have hl:=h.len;have hq:e.tgt.toNat < s.1.length:=by have:=he.2;omega
  refine⟨h.put hj _,⟨by simp,λp=> ?_⟩,?_,(λhf=>by cases hf),.inr ⟨rfl,?_⟩⟩
  ·rw[ii]
   split
   ·rename_i hp
    have:aI s.1 p=aI s.1 e.tgt:=by unfold aI;rw[hp.1]
    rw[this];exact hin.1
   ·exact pA (h.at p)
  ·rw[ii,if_pos ⟨rfl,hq⟩]
   exact hin.2
  ·have hp:=Am (w:=cF n i e.tgt) h0 hc he.1 hi'
   have e1:aI s.1 e.tgt=s.1[e.tgt.toNat]:=by unfold aI;simp[j5,hq]
   refine uM fi hq ?_;rw[e1] at hp |-;exact hp
theorem sD (h0:ag V F c=0)(h:XsOk V F c l)(h':XsOk V F c l')(hl:LeX l l'){i:Nat}(hi:i < c.length)(hs:dd c l i)(e:aI l' i=aI l i):dd c l' i:=by
 intro q hq;rw[e] at hq;exact fU (e8 h0 (h.at _) hi q hq).1 (h.at _) (h'.at _) (hs q hq) (hl.2 _)
theorem lE (h0:ag V F c=0){i:Int}:∀{E:List Edg} {s:List Pic×Bool},XsOk V F c s.1->(∀e∈E,en V F c e)->
  XsOk V F c (E.foldl (bD n i) s).1/\LeX s.1 (E.foldl (bD n i) s).1/\(∀e∈E,aH e.pic (aI (E.foldl (bD n i) s).1 e.tgt)=true)/\((E.foldl (bD n i) s).2=false->s.2=false/\(E.foldl (bD n i) s).1=s.1)/\((E.foldl (bD n i) s).1=s.1/\(E.foldl (bD n i) s).2=s.2\/(E.foldl (bD n i) s).2=true/\fB (E.foldl (bD n i) s).1 < fB s.1)
 |[],s,h,_=>⟨h,LeX.refl h,λe he=>by simp at he,λhf=>⟨hf,rfl⟩,.inl ⟨rfl,rfl⟩⟩
 |e::E,s,h,hE=>by
  have he:=hE e (by simp);obtain⟨a1,a2,a3,a4,a5⟩:=kj (n:=n) (i:=i) h0 h he;obtain⟨b1,b2,b3,b4,b5⟩:=lE h0 (i:=i) (E:=E) a1 λq hq=>hE q (by simp[hq]);rw[x5];refine⟨b1,LeX.trans h a1 b1 a2 b2,λq hq=> ?_,λhf=> ?_,?_⟩
  ·rcases z3.1 hq with rfl|hq
   ·exact fU he.1 (a1.at _) (b1.at _) a3 (b2.2 _)
   ·exact b3 q hq
  ·obtain⟨c1,c2⟩:=b4 hf
   obtain⟨d1,d2⟩:=a4 c1;exact⟨d1,by rw[c2,d2]⟩
  ·rcases b5 with⟨c1,c2⟩|⟨c1,c2⟩
   ·rcases a5 with⟨d1,d2⟩|⟨d1,d2⟩
    ·exact .inl ⟨by rw[c1,d1],by rw[c2,d2]⟩
    ·exact .inr ⟨by rw[c2,d1],by rw[c1];exact d2⟩
   ·rcases a5 with⟨d1,d2⟩|⟨d1,d2⟩
    ·exact .inr ⟨c1,by rw[<-d1];exact c2⟩
    ·exact .inr ⟨c1,Nat.lt_trans c2 d2⟩
theorem we (h0:ag V F c=0){s:List Pic×Bool}(h:XsOk V F c s.1){i:Nat}(hi:i < c.length):
  XsOk V F c (cO c n s i).1/\LeX s.1 (cO c n s i).1/\((cO c n s i).2=false->s.2=false/\(cO c n s i).1=s.1/\dd c s.1 i)/\((cO c n s i).1=s.1/\(cO c n s i).2=s.2\/(cO c n s i).2=true/\fB (cO c n s i).1 < fB s.1):=by
 obtain⟨a1,a2,a3,a4,a5⟩:=lE (n:=n) (i:=(i:Int)) h0 h (e8 h0 (h.at _) hi);refine⟨a1,a2,λhf=> ?_,a5⟩;obtain⟨b1,b2⟩:=a4 hf;exact⟨b1,b2,λe he=>by have:=a3 e he;rw[b2] at this;exact this⟩
theorem lj (h0:ag V F c=0):∀{k:Nat},k<=c.length->∀{s:List Pic×Bool},XsOk V F c s.1->
  XsOk V F c ((j3 k).foldl (cO c n) s).1/\LeX s.1 ((j3 k).foldl (cO c n) s).1/\(((j3 k).foldl (cO c n) s).2=false->s.2=false/\((j3 k).foldl (cO c n) s).1=s.1/\∀i,i < k->dd c s.1 i)/\(((j3 k).foldl (cO c n) s).1=s.1/\((j3 k).foldl (cO c n) s).2=s.2\/((j3 k).foldl (cO c n) s).2=true/\fB ((j3 k).foldl (cO c n) s).1 < fB s.1)
 |0,_,s,h=>⟨h,LeX.refl h,λhf=>⟨hf,rfl,λi hi=>absurd hi (by omega)⟩,.inl ⟨rfl,rfl⟩⟩
 |k+1,hk,s,h=>by
  rw[Qq,X5,x5,X6];obtain⟨a1,a2,a3,a4⟩:=lj h0 (k:=k) (by omega) h;obtain⟨b1,b2,b3,b4⟩:=we (n:=n) h0 a1 (i:=k) (by omega);refine⟨b1,LeX.trans h a1 b1 a2 b2,λhf=> ?_,?_⟩
  ·obtain⟨c1,c2,c3⟩:=b3 hf
   obtain⟨d1,d2,d3⟩:=a3 c1;refine⟨d1,by rw[c2,d2],λi hi=> ?_⟩;by_cases e:i=k
   ·rw[e];rw[d2] at c3;exact c3
   ·exact d3 i (by omega)
  ·rcases b4 with⟨c1,c2⟩|⟨c1,c2⟩
   ·rcases a4 with⟨d1,d2⟩|⟨d1,d2⟩
    ·exact .inl ⟨by rw[c1,d1],by rw[c2,d2]⟩
    ·exact .inr ⟨by rw[c2,d1],by rw[c1];exact d2⟩
   ·rcases a4 with⟨d1,d2⟩|⟨d1,d2⟩
    ·exact .inr ⟨c1,by rw[<-d1];exact c2⟩
    ·exact .inr ⟨c1,Nat.lt_trans c2 d2⟩
theorem fV (h0:ag V F c=0)(h:XsOk V F c l):
  XsOk V F c (cL c n l).1/\LeX l (cL c n l).1/\((cL c n l).2=false->(cL c n l).1=l/\∀i,i < c.length->dd c l i)/\((cL c n l).2=true->fB (cL c n l).1 < fB l):=by
 obtain⟨a1,a2,a3,a4⟩:=lj (n:=n) h0 (lR c.length) (s:=(l,false)) h;refine⟨a1,a2,λhf=>(a3 hf).2,λht=> ?_⟩;rcases a4 with⟨_,b⟩|⟨_,b⟩
 ·unfold cL at ht
  rw[b] at ht;cases ht
 ·exact b

structure Due (V F:Int) (c:List Ins) (n:Int) (i:Nat) (l:List Pic) (d:List Int):Prop where
 ok:XsOk V F c l
 len:d.length=c.length+1
 set:∀k,k < c.length->(if k < i then d.getD k 0≠n+1 else d.getD k 0≠n)->dd c l k
theorem rm {d:List Int}{q k:Nat}{y:Int}(hq:q < d.length):(d.set q y).getD k 0=if q=k then y else d.getD k 0:=by
 simp only[j5,Qp];by_cases h:q=k
 ·rw[if_pos h,if_pos hq,if_pos h];rfl
 ·rw[if_neg h,if_neg h]
structure DueIn (V F:Int) (c:List Ins) (n:Int) (i:Nat) (x:Pic) (P:List Edg) (s:List Pic×List Int×Bool):Prop where
 ok:XsOk V F c s.1
 len:s.2.1.length=c.length+1
 set:∀k,k < c.length->k≠i->(if k < i then s.2.1.getD k 0≠n+1 else s.2.1.getD k 0≠n)->dd c s.1 k
 own:s.2.1.getD i 0=n+1\/aI s.1 i=x
 past:∀e∈P,aH e.pic (aI s.1 e.tgt)=true
theorem iU {i:Int}{s:List Pic×List Int×Bool}{e:Edg}:((cd n i s e).1,(cd n i s e).2.2)=bD n i (s.1,s.2.2) e:=by
 unfold cd bD;split<;>rfl
theorem mv {i:Int}:∀{E:List Edg} {s:List Pic×List Int×Bool},((E.foldl (cd n i) s).1,(E.foldl (cd n i) s).2.2)=E.foldl (bD n i) (s.1,s.2.2)
 |[],_=>rfl
 |e::E,s=>by rw[x5,x5,mv,iU]
theorem DueIn.step (h0:ag V F c=0){i:Nat}(hi:i < c.length){x:Pic}{P:List Edg}{s:List Pic×List Int×Bool}(h:DueIn V F c n i x P s)(hP:∀e∈P,en V F c e){e:Edg}(he:en V F c e):DueIn V F c n i x (P++[e]) (cd n i s e):=by
 obtain⟨b1,b2,b3,-,-⟩:=kj (n:=n) (i:=(i:Int)) (s:=(s.1,s.2.2)) h0 h.ok he;have e1:(bD n i (s.1,s.2.2) e).1=(cd n i s e).1:=by rw[<-iU]
 rw[e1] at b1 b2 b3;have hpast:∀q∈P++[e],aH q.pic (aI (cd n i s e).1 q.tgt)=true:=λq hq=>by
  rcases j6.1 hq with hq|hq
  ·exact fU (hP q hq).1 (h.ok.at _) (b1.at _) (h.past q hq) (b2.2 _)
  ·rw[j2.1 hq];exact b3
 by_cases hin:aH e.pic (aI s.1 e.tgt)=true
 ·have es:cd n i s e=s:=by unfold cd;rw[if_pos hin]
  rw[es] at hpast |-;exact⟨h.ok,h.len,h.set,h.own,hpast⟩
 ·have es:cd n i s e=(s.1.set e.tgt.toNat (aw (ac (cF n i e.tgt)) (aI s.1 e.tgt) e.pic),s.2.1.set e.tgt.toNat (if (i:Int) < e.tgt then n else n+1),true):=by unfold cd;rw[if_neg hin]
  have hl:=h.len;have hq:e.tgt.toNat < s.2.1.length:=by have:=he.2;omega
  have hto:=he.2;rw[es] at b1 b2 hpast |-;refine⟨b1,by simpa using h.len,λk hk hne hd=> ?_,?_,hpast⟩
  ·simp only at hd |-
   rw[rm hq] at hd;by_cases ek:e.tgt.toNat=k
   ·rw[if_pos ek] at hd
    exfalso;by_cases hki:k < i
    ·rw[if_pos hki,if_neg (by omega)] at hd
     exact hd rfl
    ·rw[if_neg hki,if_pos (by omega)] at hd
     exact hd rfl
   ·rw[if_neg ek] at hd
    refine sD h0 h.ok b1 b2 hk (h.set k hk hne hd) ?_;rw[ii,if_neg (by omega)]
  ·simp only
   rw[rm hq];by_cases ek:e.tgt.toNat=i
   ·left
    rw[if_pos ek,if_neg (by omega)]
   ·rw[if_neg ek,ii,if_neg (by omega)]
    exact h.own
theorem DueIn.steps (h0:ag V F c=0){i:Nat}(hi:i < c.length){x:Pic}:∀{E P:List Edg} {s:List Pic×List Int×Bool},DueIn V F c n i x P s->(∀e∈P,en V F c e)->(∀e∈E,en V F c e)->DueIn V F c n i x (P++E) (E.foldl (cd n i) s)
 |[],P,s,h,_,_=>by rw[List.append_nil];exact h
 |e::E,P,s,h,hP,hE=>by
  have h1:=h.step h0 hi hP (hE e (by simp));have h2:=DueIn.steps h0 hi (E:=E) h1 (λq hq=>by
   rcases j6.1 hq with hq|hq
   ·exact hP q hq
   ·rw[j2.1 hq];exact hE e (by simp)) λq hq=>hE q (by simp[hq])
  rw[List.append_assoc] at h2;exact h2
theorem su {s:List Pic×Bool}{i:Nat}(h:dd c s.1 i):cO c n s i=s:=by
 unfold cO;have:∀(E:List Edg),(∀e∈E,aH e.pic (aI s.1 e.tgt)=true)->E.foldl (bD n i) s=s:=by
  intro E
  induction E with
  |nil=>exact λ_=>rfl
  |cons e E ih=>
   intro hE;rw[x5];have:bD n i s e=s:=by unfold bD;rw[if_pos (hE e (by simp))]
   rw[this];exact ih λq hq=>hE q (by simp[hq])
 exact this _ h
theorem vX (h0:ag V F c=0){i:Nat}(hi:i < c.length){s:List Pic×List Int×Bool}(h:Due V F c n i s.1 s.2.1):Due V F c n (i+1) (eX c n s i).1 (eX c n s i).2.1/\((eX c n s i).1,(eX c n s i).2.2)=cO c n (s.1,s.2.2) i:=by
 unfold eX;by_cases hd:s.2.1.getD i 0=n
 ·rw[if_pos hd]
  refine⟨?_,mv⟩;have hE:=e8 h0 (h.ok.at (i:Int)) hi;have h1:DueIn V F c n i (aI s.1 i) [] s:=⟨h.ok,h.len,λk hk _ hh=>h.set k hk hh,.inr rfl,λe he=>by simp at he⟩;have h2:=h1.steps h0 hi (λe he=>by simp at he) hE;rw[List.nil_append] at h2;refine⟨h2.ok,h2.len,λk hk hh=> ?_⟩;by_cases ek:k=i
  ·subst ek
   rw[if_pos (by omega)] at hh;rcases h2.own with ho|ho
   ·exact absurd ho hh
   ·intro e he
    rw[ho] at he;exact h2.past e he
  ·refine h2.set k hk ek ?_
   by_cases hki:k < i
   ·rw[if_pos hki];rw[if_pos (by omega)] at hh;exact hh
   ·rw[if_neg hki];rw[if_neg (by omega)] at hh;exact hh
 ·rw[if_neg hd]
  have hs:dd c s.1 i:=h.set i hi (by rw[if_neg (by omega)];exact hd);refine⟨⟨h.ok,h.len,λk hk hh=> ?_⟩,(su hs).symm⟩;by_cases ek:k=i
  ·rw[ek];exact hs
  ·refine h.set k hk ?_
   by_cases hki:k < i
   ·rw[if_pos hki];rw[if_pos (by omega)] at hh;exact hh
   ·rw[if_neg hki];rw[if_neg (by omega)] at hh;exact hh
theorem mP (h0:ag V F c=0):∀{k:Nat},k<=c.length->∀{s:List Pic×List Int×Bool},Due V F c n 0 s.1 s.2.1->Due V F c n k ((j3 k).foldl (eX c n) s).1 ((j3 k).foldl (eX c n) s).2.1/\(((j3 k).foldl (eX c n) s).1,((j3 k).foldl (eX c n) s).2.2)=(j3 k).foldl (cO c n) (s.1,s.2.2)
 |0,_,s,h=>⟨h,rfl⟩
 |k+1,hk,s,h=>by
  rw[Qq,X5,x5,X6,X5,x5,X6];obtain⟨a1,a2⟩:=mP h0 (k:=k) (by omega) h;obtain⟨b1,b2⟩:=vX h0 (i:=k) (by omega) a1;exact⟨b1,by rw[b2,a2]⟩
theorem mH (h0:ag V F c=0){d:List Int}(h:Due V F c n 0 l d):Due V F c (n+1) 0 (dG c n (l,d)).1 (dG c n (l,d)).2.1/\(dG c n (l,d)).1=(cL c n l).1/\(dG c n (l,d)).2.2=(cL c n l).2:=by
 obtain⟨a1,a2⟩:=mP h0 (lR c.length) (s:=(l,d,false)) h;refine⟨⟨a1.ok,a1.len,λk hk hh=> ?_⟩,congrArg Prod.fst a2,congrArg Prod.snd a2⟩;rw[if_neg (by omega)] at hh;exact a1.set k hk (by rw[if_pos hk];exact hh)

def fZ (V F:Int)(c:List Ins):List Pic:=aQ V F c::j1 c.length nonePic
def aK (V F:Int)(c:List Ins):Nat->List Pic
 |0=>fZ V F c
 |m+1=>(cL c ((m+1:Nat):Int) (aK V F c m)).1
def SolvedAt (V F:Int)(c:List Ins)(m:Nat):Prop:=(∀k,k < m->(cL c ((k+1:Nat):Int) (aK V F c k)).2=true)/\(cL c ((m+1:Nat):Int) (aK V F c m)).2=false
theorem SolvedAt.one {m m':Nat}(h:SolvedAt V F c m)(h':SolvedAt V F c m'):m=m':=by
 rcases Nat.lt_trichotomy m m' with e|e|e
 ·have:=h'.1 m e;rw[h.2] at this;cases this
 ·exact e
 ·have:=h.1 m' e;rw[h'.2] at this;cases this
theorem iH (h0:ag V F c=0):PicOk V F c (aQ V F c):=by
 have hp:=cK h0;have h1:=hp.v1;have h2:=hp.f0;refine⟨rfl,by simp[aQ];omega,by simp[aQ],λk h=> ?_,λg hg=> ?_,λk h g hg=> ?_,λk h=>.inr λg hg=> ?_⟩
 ·simp[aQ];omega
 ·rw[Q8 hg];rfl
 ·have hg':g∈j1 F.toNat noneG:=by simpa[aQ] using hg
  rw[Q8 hg'];rfl
 ·have hg':g∈j1 F.toNat noneG:=by simpa[aQ] using hg
  rw[Q8 hg'];rfl
theorem gd (h0:ag V F c=0):XsOk V F c (fZ V F c):=⟨by simp[fZ],λx hx=>by
 rcases z3.1 hx with rfl|hx
 ·exact(iH h0).ck
 ·rw[Q8 hx];rfl⟩
theorem cV (h0:ag V F c=0):∀m,XsOk V F c (aK V F c m)
 |0=>gd h0
 |m+1=>(fV h0 (cV h0 m)).1
theorem lf (h0:ag V F c=0):∀m,LeX (fZ V F c) (aK V F c m)
 |0=>LeX.refl (gd h0)
 |m+1=>LeX.trans (gd h0) (cV h0 m) (cV h0 (m+1)) (lf h0 m) (fV h0 (cV h0 m)).2.1
theorem CV (h0:ag V F c=0)(h:XsOk V F c l):fB l<=200000000000000:=by
 obtain⟨G,hG⟩:∃G:Nat,G=2000000000000:=⟨_,rfl⟩;have h1:fB l<=l.length * G:=lq fi G λx hx=>by rw[hG];exact u8 h0 (h.ck x hx)
 have h2:=h.len;have h3:=(cK h0).len;have h4:l.length<=61:=by omega
 have h5:l.length * G<=61 * G:=Q7 _ h4;omega
theorem gq (h0:ag V F c=0):∀{m:Nat},(∀k,k < m->(cL c ((k+1:Nat):Int) (aK V F c k)).2=true)->m+fB (aK V F c m)<=200000000000000
 |0,_=>by have:=CV h0 (gd h0);simp only[aK];omega
 |m+1,h=>by
  have h1:=gq h0 (m:=m) λk hk=>h k (by omega);have h2:=(fV (n:=((m+1:Nat):Int)) h0 (cV h0 m)).2.2.2 (h m (by omega));have h3:fB (aK V F c (m+1)) < fB (aK V F c m):=h2;omega
def Ae (c:List Ins):List Int:=1::j1 c.length 0
theorem vq (h0:ag V F c=0):Due V F c 1 0 (fZ V F c) (Ae c):=by
 refine⟨gd h0,by simp[Ae],λk hk hd=> ?_⟩;rw[if_neg (by omega)] at hd;cases k with
 |zero=>exact absurd rfl hd
 |succ k=>
  intro e he;have:aI (fZ V F c) ((k+1:Nat):Int)=nonePic:=by
   rw[dm (by simp[fZ];omega)];simp[fZ]
  rw[this] at he;simp[bG,ah,nonePic] at he
def dP (V F:Int)(c:List Ins)(l:List Pic):Bool:=aH (aQ V F c) (aI l 0)&&(j3 c.length).all λi=>(bG c i (aI l i)).all λe=>aH e.pic (aI l e.tgt)
theorem fitsX_iff:dP V F c l=true↔aH (aQ V F c) (aI l 0)=true/\∀i,i < c.length->dd c l i:=by
 unfold dP dd;simp[X0]
theorem iE (h0:ag V F c=0){m:Nat}(h:SolvedAt V F c m):aK V F c (m+1)=aK V F c m/\dP V F c (aK V F c m)=true:=by
 have h1:=(fV (n:=((m+1:Nat):Int)) h0 (cV h0 m)).2.2.1 h.2;refine⟨h1.1,fitsX_iff.2 ⟨?_,h1.2⟩⟩;have:=(lf h0 m).2 0;exact this
end
end
section
open Go.RowKit
structure Ro where
  rs:oA
  rc:Nat
  l:List Gc
def roV (r:Ro):Value:=U r.rs r.l.length r.rc
def roG (r:Ro):List Gs:=r.l.map Gc.g
def roB (r:Ro):Option Nat:=(roV r).ownBlock
def RoOwn (w:World)(B:Nat)(r:Ro):Prop:=w.ownsRow B 61 7 (roV r) r.l.length (aF r.l)
theorem lF:∀{l:List Gc} {k j:Nat} {u:Value} {x':Gc} (hk:k < l.length) (_:j < 7) (_:ba x'=(ba l[k]).set j u),aF (l.set k x')=(aF l).set (k * 7+j) u
  |[],k,_,_,_,hk,_,_=>absurd hk (by simp)
  |x::r,0,j,u,x',_,hj,h=>by
    have e:∀y,aF (y::r)=ba y++aF r:=λ_=>rfl;simp only[X4] at h;rw[Qn,e,e,J6,j4,List.set_append_left _ _ (by rw[dl];exact hj),h]
  |x::r,k+1,j,u,x',hk,hj,h=>by
    have e:∀(y:Gc) (q:List Gc),aF (y::q)=ba y++aF q:=λ_ _=>rfl;simp only[List.getElem_cons_succ] at h;rw[Qo,e,e,lF (by simpa using hk) hj h,List.set_append_right _ _ (by rw[dl];omega),dl];congr 2;omega
section
variable {w w':World} {B:Nat} {r:Ro}
theorem RoOwn.form (h:RoOwn w B r)(h0:0 < r.l.length):∃b,r.rs=sO ⟨b,0,nO⟩/\roB r=sO b/\B<=b/\b < w.heap.size:=by
  obtain⟨rs,rc,l⟩:=r;rcases h.2 with⟨e,h1⟩|⟨g,cap,cur,e,hb,hg,_⟩
  · simp only at h0 h1;omega
  · simp only[roV,j0.injEq] at e
    exact⟨g,e.1,by unfold roB roV;rw[e.1];rfl,hb,(z4.1 hg).1⟩
theorem RoOwn.caps (h:RoOwn w B r):r.l.length<=r.rc/\r.rc<=maxLen:=by
  rcases h.2 with⟨e,h1⟩|⟨g,cap,cur,e,hb,hg,k1,k2,_⟩
  · simp only[roV,j0.injEq] at e
    exact⟨by omega,by rw[e.2.2];exact z8 _⟩
  · simp only[roV,j0.injEq] at e
    rw[e.2.2];exact⟨k1,k2⟩
theorem RoOwn.same (h:RoOwn w B r)(hs:∀b,roB r=sO b->w'.heap[b]? =w.heap[b]?):RoOwn w' B r:=cJ h hs
theorem RoOwn.lt (h:RoOwn w B r){b:Nat}(hb:roB r=sO b):b < w.heap.size/\B<=b:=aC h hb
theorem RoOwn.put (h:RoOwn w B r){b:Nat}(hb:r.rs=sO ⟨b,0,nO⟩){k j:Nat}{u:Value}{x':Gc}(hk:k < r.l.length)(hj:j < 7)(hx:ba x'=(ba r.l[k]).set j u):RoOwn (w.setCell ⟨b,k * 7+j,nO⟩ u) B ⟨r.rs,r.rc,r.l.set k x'⟩:=by
  obtain⟨rs,rc,l⟩:=r;simp only at hb hk hx;subst hb;have h1:=(Q9.stored h (k * 7+j) u).1;unfold RoOwn roV;simp only[z7];rw[lF hk hj hx];exact h1
theorem RoOwn.gets (h:RoOwn w B r){S:Nat->Prop}(hg:∀x∈r.l,bA S w x):GsIn (λb=>roB r=sO b\/S b) w r.rs (roG r):=by
  intro i hi;have hil:i < r.l.length:=by simpa[roG] using hi
  obtain⟨b,e,eb,hb,hz⟩:=h.form (by omega);have hx:=hg _ (gM hil);have ei:(roG r)[i]=r.l[i].g:=by simp[roG]
  rw[ei];have h1:w.ownsRow B 61 7 (U (sO ⟨b,0,nO⟩) r.l.length r.rc) r.l.length (aF r.l):=by rw[<-e];exact h
  refine⟨b,0,e,.inl eb,r.l[i].ss,r.l[i].cap,⟨?_,hz⟩,hx.1.mono λq hq _=>.inr hq,hx.2.1,hx.2.2⟩;have hc:∀j,j < 7->w.cell? ⟨b,i * 7+j,nO⟩=(ba r.l[i])[j]? :=λj hj=>by
    rw[<-dx r.l i hil j hj];exact Q9.cellAt h1 _ (by omega)
  simp only[j4];exact⟨hc 0 (by omega),hc 1 (by omega),hc 2 (by omega),hc 3 (by omega),hc 4 (by omega),hc 5 (by omega),hc 6 (by omega)⟩
theorem RoOwn.thaw (h:RoOwn w B r){b:Nat}(hb:r.rs=sO ⟨b,0,nO⟩)(j:Nat):w.frozen? ⟨b,j,nO⟩=false:=by
  have h1:w.ownsRow B 61 7 (U (sO ⟨b,0,nO⟩) r.l.length r.rc) r.l.length (aF r.l):=by rw[<-hb];exact h
  exact Q9.frozenAt h1 j
end
def Off (v:Ro)(fb:Option Nat)(L:List Ro)(b:Nat):Prop:=roB v≠sO b/\fb≠sO b/\∀r∈L,roB r≠sO b
structure PicG (T:Nat->Prop) (B:Nat) (w:World) (v:Ro) (fs:oA) (fc:Nat) (L:List Ro):Prop where
  vars:RoOwn w B v
  flds:w.ownsRow B 25 1 (U fs L.length fc) L.length (L.map roV)
  rows:∀r∈L,RoOwn w B r
  sv:∀g∈v.l,bA (λb=>T b/\Off v (j0 fs L.length fc).ownBlock L b) w g
  sf:∀r∈L,∀g∈r.l,bA (λb=>T b/\Off v (j0 fs L.length fc).ownBlock L b) w g
  dv:∀b,roB v=sO b->(j0 fs L.length fc).ownBlock≠sO b/\∀r∈L,roB r≠sO b
  df:∀b,(j0 fs L.length fc).ownBlock=sO b->∀r∈L,roB r≠sO b
  dr:L.Pairwise λr q=>∀b,roB r=sO b->roB q≠sO b
def aG (n:Bool)(v:Ro)(L:List Ro):Pic:=⟨n,roG v,L.map roG⟩
section
variable {T T':Nat->Prop} {B:Nat} {w w':World} {v:Ro} {fs:oA} {fc:Nat} {L:List Ro}
theorem PicG.mono (h:PicG T B w v fs fc L)(hT:∀b,T b->b < w.heap.size->T' b):PicG T' B w v fs fc L:=
  ⟨h.vars,h.flds,h.rows,λg hg=>⟨(h.sv g hg).1.mono λb hb hz=>⟨hT b hb.1 hz,hb.2⟩,(h.sv g hg).2⟩,λr hr g hg=>⟨(h.sf r hr g hg).1.mono λb hb hz=>⟨hT b hb.1 hz,hb.2⟩,(h.sf r hr g hg).2⟩,h.dv,h.df,h.dr⟩
theorem PicG.same (h:PicG T B w v fs fc L)(hs:∀b,T b\/B<=b->b < w.heap.size->w'.heap[b]? =w.heap[b]?)(hz:w.heap.size<=w'.heap.size):PicG T B w' v fs fc L:=
  ⟨h.vars.same λb hb=>hs b (.inr (h.vars.lt hb).2) (h.vars.lt hb).1,cJ h.flds λb hb=>hs b (.inr (aC h.flds hb).2) (aC h.flds hb).1,λr hr=>(h.rows r hr).same λb hb=>hs b (.inr ((h.rows r hr).lt hb).2) ((h.rows r hr).lt hb).1,
   λg hg=>⟨(h.sv g hg).1.same (λb hb hlt=>hs b (.inl hb.1) hlt) hz,(h.sv g hg).2⟩,λr hr g hg=>⟨(h.sf r hr g hg).1.same (λb hb hlt=>hs b (.inl hb.1) hlt) hz,(h.sf r hr g hg).2⟩,h.dv,h.df,h.dr⟩
theorem PicG.call (h:PicG T B w v fs fc L)(hb:Below w.heap.size w w'):PicG T B w' v fs fc L:=h.same (λb _ hlt=>hb.block b hlt) hb.size
theorem PicG.fcap (h:PicG T B w v fs fc L):L.length<=fc/\fc<=maxLen:=by
  rcases h.flds.2 with⟨e,h1⟩|⟨g,cap,cur,e,hb,hg,k1,k2,_⟩
  · simp only[j0.injEq] at e
    exact⟨by omega,by rw[e.2.2];exact z8 _⟩
  · simp only[j0.injEq] at e
    rw[e.2.2];exact⟨k1,k2⟩
theorem PicG.fform (h:PicG T B w v fs fc L)(h0:0 < L.length):∃b,fs=sO ⟨b,0,nO⟩/\B<=b/\b < w.heap.size/\∀k (hk:k < L.length),w.cell? ⟨b,k,nO⟩=sO (roV L[k]):=by
  rcases h.flds.2 with⟨e,h1⟩|⟨g,cap,cur,e,hb,hg,k1,k2,_⟩
  · omega
  · simp only[j0.injEq] at e
    obtain⟨e1,-,e3⟩:=e;subst e1 e3;refine⟨g,rfl,hb,(z4.1 hg).1,λk hk=> ?_⟩;have:=Q9.cellAt h.flds k (by omega);rw[this];simp[hk]
theorem PicG.at (h:PicG T B w v fs fc L)(n:Bool):PicAt w (aG n v L) v.rs fs:=by
  refine⟨(h.vars.gets h.sv).at,λi hi=> ?_⟩;have hil:i < L.length:=by simpa[aG] using hi
  obtain⟨b,e,hb,hz,hc⟩:=h.fform (by omega);have ei:(aG n v L).flds[i]=roG L[i]:=by simp[aG]
  rw[ei];have hm:=gM hil;have hcp:=(h.rows _ hm).caps;refine⟨b,0,e,hz,L[i].rs,L[i].rc,?_,by simpa[roG] using hcp.1,hcp.2,((h.rows _ hm).gets (h.sf _ hm)).at⟩;rw[j4,hc i hil];simp[roV,roG]
theorem PicG.on (h:PicG T B w v fs fc L)(n:Bool):PicOn (λb=>T b\/B<=b) w (aG n v L) v.rs fs:=λw2 hs hz=>(h.same hs hz).at n
theorem PicG.vcap (h:PicG T B w v fs fc L)(n:Bool):(aG n v L).vars.length<=v.rc/\v.rc<=maxLen:=by simpa[aG,roG] using h.vars.caps
theorem PicG.fcap' (h:PicG T B w v fs fc L)(n:Bool):(aG n v L).flds.length<=fc/\fc<=maxLen:=by simpa[aG] using h.fcap
theorem nj {S:Nat->Prop}{x:Gc}{a:Addr}{u:Value}(h:bA S w x)(hs:∀b,S b->b≠a.block):bA S (w.setCell a u) x:=⟨h.1.same (λb hb _=>hSe _ _ _ _ (hs b hb)) (by simp[z5]),h.2⟩
theorem PicG.putV (h:PicG T B w v fs fc L){b:Nat}(hb:v.rs=sO ⟨b,0,nO⟩){k j:Nat}{u:Value}{x':Gc}(hk:k < v.l.length)(hj:j < 7)(hx:ba x'=(ba v.l[k]).set j u)(hg:bA (λb=>T b/\Off v (j0 fs L.length fc).ownBlock L b) w x'):
    PicG T B (w.setCell ⟨b,k * 7+j,nO⟩ u) ⟨v.rs,v.rc,v.l.set k x'⟩ fs fc L:=by
  have eb:roB v=sO b:=by unfold roB roV;rw[hb];rfl
  have eb':roB ⟨v.rs,v.rc,v.l.set k x'⟩=roB v:=by unfold roB roV;rw[hb];rfl
  have eO:∀q,Off ⟨v.rs,v.rc,v.l.set k x'⟩ (j0 fs L.length fc).ownBlock L q=Off v (j0 fs L.length fc).ownBlock L q:=λq=>by unfold Off;rw[eb']
  have hd:=h.dv b eb;have hp:∀g,bA (λb=>T b/\Off v (j0 fs L.length fc).ownBlock L b) w g->bA (λb=>T b/\Off ⟨v.rs,v.rc,v.l.set k x'⟩ (j0 fs L.length fc).ownBlock L b) (w.setCell ⟨b,k * 7+j,nO⟩ u) g:=λg hg=>by
    simp only[eO];exact nj hg λq hq e=>hq.2.1 (by rw[eb];exact congrArg sO e.symm)
  refine⟨h.vars.put hb hk hj hx,cJ h.flds λq hq=>hSe _ _ _ _ λe=>hd.1 (by rw[hq];exact congrArg sO e),λr hr=>(h.rows r hr).same λq hq=>hSe _ _ _ _ λe=>hd.2 r hr (by rw[hq];exact congrArg sO e),λg hgm=>hp g ?_,λr hr g hgm=>hp g (h.sf r hr g hgm),by rw[eb'];exact h.dv,h.df,h.dr⟩;rcases Q2 hgm with hgm|rfl
  · exact h.sv g hgm
  · exact hg
theorem PicG.putF (h:PicG T B w v fs fc L){s:Nat}(hs:s < L.length){b:Nat}(hb:L[s].rs=sO ⟨b,0,nO⟩){k j:Nat}{u:Value}{x':Gc}(hk:k < L[s].l.length)(hj:j < 7)(hx:ba x'=(ba L[s].l[k]).set j u)(hg:bA (λb=>T b/\Off v (j0 fs L.length fc).ownBlock L b) w x'):
    PicG T B (w.setCell ⟨b,k * 7+j,nO⟩ u) v fs fc (L.set s ⟨L[s].rs,L[s].rc,L[s].l.set k x'⟩):=by
  have hm:=gM hs;have eb:roB L[s]=sO b:=by unfold roB roV;rw[hb];rfl
  have ebn:roB ⟨L[s].rs,L[s].rc,L[s].l.set k x'⟩=roB L[s]:=by unfold roB roV;rw[hb];rfl
  have evn:roV ⟨L[s].rs,L[s].rc,L[s].l.set k x'⟩=roV L[s]:=by unfold roV;simp
  have eL:(L.set s ⟨L[s].rs,L[s].rc,L[s].l.set k x'⟩).map roB=L.map roB:=by
    rw[X7,ebn,<-J8 (f:=roB) (h:=by simpa using hs),x8]
  have eV:(L.set s ⟨L[s].rs,L[s].rc,L[s].l.set k x'⟩).map roV=L.map roV:=by
    rw[X7,evn,<-J8 (f:=roV) (h:=by simpa using hs),x8]
  have allB:∀{M:List Ro} {q:Nat},(∀r∈M,roB r≠sO q)↔∀o∈M.map roB,o≠sO q:=by
    intro M q;simp only[x6,forall_exists_index,and_imp,forall_apply_eq_imp_iff₂]
  have eO:∀q,Off v (j0 fs L.length fc).ownBlock (L.set s ⟨L[s].rs,L[s].rc,L[s].l.set k x'⟩) q↔Off v (j0 fs L.length fc).ownBlock L q:=λq=>by
    unfold Off;rw[allB,allB,eL]
  have hp:∀g,bA (λb=>T b/\Off v (j0 fs L.length fc).ownBlock L b) w g->bA (λb=>T b/\Off v (j0 fs (L.set s ⟨L[s].rs,L[s].rc,L[s].l.set k x'⟩).length fc).ownBlock (L.set s ⟨L[s].rs,L[s].rc,L[s].l.set k x'⟩) b) (w.setCell ⟨b,k * 7+j,nO⟩ u) g:=λg hg=>by
    rw[z7];simp only[eO];exact nj hg λq hq e=>hq.2.2.2 _ hm (by rw[eb];exact congrArg sO e.symm)
  have pwB:∀{M:List Ro},M.Pairwise (λr q=>∀b,roB r=sO b->roB q≠sO b)↔(M.map roB).Pairwise λo p=>∀b,o=sO b->p≠sO b:=by
    intro M;rw[Z9]
  refine⟨h.vars.same λq hq=>hSe _ _ _ _ λe=>(h.dv q hq).2 _ hm (by rw[eb];exact congrArg sO e.symm),?_,λr hr=> ?_,λg hgm=>hp g (h.sv g hgm),λr hr g hgm=>hp g ?_,λq hq=> ?_,λq hq=> ?_,?_⟩
  · rw[z7,eV]
    exact cJ h.flds λq hq=>hSe _ _ _ _ λe=>h.df q hq _ hm (by rw[eb];exact congrArg sO e.symm)
  · rw[Qr] at hr
    obtain⟨i,hi,rfl⟩:=hr;rw[z7] at hi;rw[Qs];split
    · exact(h.rows _ hm).put hb hk hj hx
    · rename_i hne
      refine(h.rows _ (gM hi)).same λq hq=>hSe _ _ _ _ λe=> ?_;simp only at e;subst e;have pw:=List.pairwise_iff_getElem.1 h.dr;rcases Nat.lt_or_gt_of_ne hne with hlt|hlt
      · exact pw s i hs hi hlt q eb hq
      · exact pw i s hi hs hlt q hq eb
  · rw[Qr] at hr
    obtain⟨i,hi,rfl⟩:=hr;rw[z7] at hi;rw[Qs] at hgm;split at hgm
    · rcases Q2 hgm with hgm|rfl
      · exact h.sf _ hm g hgm
      · exact hg
    · exact h.sf _ (gM hi) g hgm
  · rw[z7,allB,eL,<-allB]
    exact h.dv q hq
  · rw[z7] at hq
    rw[allB,eL,<-allB];exact h.df q hq
  · rw[pwB,eL,<-pwB]
    exact h.dr
end
def VRow (S:Nat->Prop)(w:World)(B:Nat)(v:Value)(l:List Gc):Prop:=w.ownsRow B 61 7 v l.length (aF l)/\(∀b,v.ownBlock=sO b->S b)/\∀x∈l,bA (λb=>S b/\v.ownBlock≠sO b) w x
section
variable {S S':Nat->Prop} {w w':World} {B:Nat} {v:Value} {l:List Gc}
theorem VRow.same (h:VRow S w B v l)(hs:∀b,S b->b < w.heap.size->w'.heap[b]? =w.heap[b]?)(hz:w.heap.size<=w'.heap.size):VRow S w' B v l:=⟨cJ h.1 λb hb=>hs b (h.2.1 b hb) (aC h.1 hb).1,h.2.1,λx hx=>⟨(h.2.2 x hx).1.same (λb hb hlt=>hs b hb.1 hlt) hz,(h.2.2 x hx).2⟩⟩
theorem VRow.mono (h:VRow S w B v l)(hs:∀b,S b->b < w.heap.size->S' b):VRow S' w B v l:=⟨h.1,λb hb=>hs b (h.2.1 b hb) (aC h.1 hb).1,λx hx=>⟨(h.2.2 x hx).1.mono λb hb hlt=>⟨hs b hb.1 hlt,hb.2⟩,(h.2.2 x hx).2⟩⟩
theorem VRow.call (h:VRow S w B v l)(hb:Below w.heap.size w w'):VRow S w' B v l:=h.same (λb _ hlt=>hb.block b hlt) hb.size
theorem cX {e:TypeId}{z n:Nat}{xs:List Value}{C:Nat}(h:w.ownsRow C e z v n xs)(hB:B<=C):w.ownsRow B e z v n xs:=by
 refine⟨h.1,?_⟩;rcases h.2 with h2|⟨g,cap,cur,e1,hb,h3⟩
 ·exact .inl h2
 ·exact .inr ⟨g,cap,cur,e1,lT hB hb,h3⟩
theorem SRow.vrow (h:SRow w B v l):VRow (λb=>B<=b) w B v l:=⟨h.1,λb hb=>(aC h.1 hb).2,λx hx=>h.2 x hx⟩
theorem VRow.lower (h:VRow S w B v l){C:Nat}(hB:C<=B):VRow S w C v l:=⟨cX h.1 hB,h.2⟩
end
structure FRowS (w:World) (B:Nat) (v:Value) (L:List Ro):Prop where
 own:w.ownsRow B 25 1 v L.length (L.map roV)
 rows:∀r∈L,RoOwn w B r
 sites:∀r∈L,∀g∈r.l,bA (λb=>B<=b/\v.ownBlock≠sO b/\∀q∈L,roB q≠sO b) w g
 df:∀b,v.ownBlock=sO b->∀r∈L,roB r≠sO b
 dr:L.Pairwise λr q=>∀b,roB r=sO b->roB q≠sO b
section
variable {w w0 w':World} {B:Nat} {v v':Value} {L:List Ro}
theorem FRowS.nil (w:World)(B:Nat):FRowS w B (U nO 0 0) []:=⟨⟨rfl,.inl ⟨rfl,rfl⟩⟩,λr hr=>by simp at hr,λr hr=>by simp at hr,λb hb r hr=>by simp at hr,Q3.nil⟩
theorem FRowS.olden (h:FRowS w B v L)(hs:∀b,B<=b->b < w.heap.size->w'.heap[b]? =w.heap[b]?)(hz:w.heap.size<=w'.heap.size):FRowS w' B v L:=
 ⟨cJ h.own λb hb=>hs b (aC h.own hb).2 (aC h.own hb).1,λr hr=>(h.rows r hr).same λb hb=>hs b ((h.rows r hr).lt hb).2 ((h.rows r hr).lt hb).1,λr hr g hg=>⟨(h.sites r hr g hg).1.same (λb hb hlt=>hs b hb.1 hlt) hz,(h.sites r hr g hg).2⟩,h.df,h.dr⟩
theorem FRowS.call (h:FRowS w B v L)(hb:Below w.heap.size w w'):FRowS w' B v L:=h.olden (λb _ hlt=>hb.block b hlt) hb.size
theorem FRowS.grown (h0:FRowS w0 B v L)(hb:Below w0.heap.size w0 w)(hB:B<=w0.heap.size){x:Ro}(hx:VRow (λb=>w0.heap.size<=b) w w0.heap.size (roV x) x.l)(hr:w'.ownsRow B 25 1 v' (L.length+1) (L.map roV++[roV x]))(hg:w.grownBy w' v.ownBlock)(hv:v'.ownBlock=v.ownBlock\/v'.ownBlock=sO w.heap.size):FRowS w' B v' (L++[x]):=by
 have h:=h0.call hb;have hsz:=hb.size;have hxo:RoOwn w w0.heap.size x:=hx.1;have vlt:∀b,v.ownBlock=sO b->b < w0.heap.size:=λb hb=>(aC h0.own hb).1;have rlt:∀r∈L,∀b,roB r=sO b->b < w0.heap.size:=λr hr b hb=>((h0.rows r hr).lt hb).1;have xge:∀b,roB x=sO b->w0.heap.size<=b/\b < w.heap.size:=λb hb=>⟨(hxo.lt hb).2,(hxo.lt hb).1⟩;have keep:∀b,b < w.heap.size->v.ownBlock≠sO b->w'.heap[b]? =w.heap[b]? :=λb hb hne=>hg.block b hb λe=>hne e.symm;refine⟨by rw[x3,Qg];exact hr,λr hr=> ?_,λr hr g hgm=> ?_,λb hb r hr=> ?_,?_⟩
 ·rcases j6.1 hr with hr|hr
  ·exact(h.rows r hr).same λb hb=>keep b ((h.rows r hr).lt hb).1 λe=>h.df b e r hr hb
  ·rw[j2.1 hr]
   exact RoOwn.same (cX hxo hB) λb hb=>keep b (xge b hb).2 λe=>by have:=vlt b e;have:=(xge b hb).1;omega
 ·rcases j6.1 hr with hr|hr
  ·have h1:bA (λb=>(B<=b/\v.ownBlock≠sO b/\∀q∈L,roB q≠sO b)/\b < w0.heap.size) w g:=⟨((h0.sites r hr g hgm).1.mono λb hb hlt=>(⟨hb,hlt⟩:_/\b < w0.heap.size)).call hb,(h0.sites r hr g hgm).2⟩
   refine⟨(h1.1.same (λb hb hlt=>keep b hlt hb.1.2.1) hg.size).mono λb hb _=>⟨hb.1.1,?_,λq hq=> ?_⟩,h1.2⟩
   ·rcases hv with e|e
    ·rw[e];exact hb.1.2.1
    ·rw[e];intro e';cases e';have:=hb.2;omega
   ·rcases j6.1 hq with hq|hq
    ·exact hb.1.2.2 q hq
    ·rw[j2.1 hq]
     intro e;have:=(xge b e).1;have:=hb.2;omega
  ·rw[j2.1 hr] at hgm
   have h1:bA (λb=>(w0.heap.size<=b/\roB x≠sO b)/\b < w.heap.size) w g:=⟨(hx.2.2 g hgm).1.mono λb hb hlt=>⟨hb,hlt⟩,(hx.2.2 g hgm).2⟩;refine⟨(h1.1.same (λb hb hlt=>keep b hlt λe=>by have:=vlt b e;have:=hb.1.1;omega) hg.size).mono λb hb _=>⟨lT hB hb.1.1,?_,λq hq=> ?_⟩,h1.2⟩
   ·rcases hv with e|e
    ·rw[e];intro e';have:=vlt b e';have:=hb.1.1;omega
    ·rw[e];intro e';cases e';have:=hb.2;omega
   ·rcases j6.1 hq with hq|hq
    ·intro e
     have:=rlt q hq b e;have:=hb.1.1;omega
    ·rw[j2.1 hq]
     exact hb.1.2
 ·rcases hv with e|e
  ·rw[e] at hb
   rcases j6.1 hr with hr|hr
   ·exact h0.df b hb r hr
   ·rw[j2.1 hr]
    intro e';have:=vlt b hb;have:=(xge b e').1;omega
  ·rw[e] at hb
   cases hb;rcases j6.1 hr with hr|hr
   ·intro e'
    have:=rlt r hr _ e';omega
   ·rw[j2.1 hr]
    intro e';have:=(xge _ e').2;omega
 ·rw[List.pairwise_append]
  refine⟨h0.dr,Qm _ _,λr hr q hq b hb e=> ?_⟩;rw[j2.1 hq] at e;have:=rlt r hr b hb;have:=(xge b e).1;omega
theorem FRowS.form (h:FRowS w B v L):∃fs fc,v=U fs L.length fc:=by
 rcases h.own.2 with⟨e,h0⟩|⟨g,cap,cur,e,_⟩
 ·exact⟨nO,0,by rw[e,h0]⟩
 ·exact⟨sO ⟨g,0,nO⟩,cap,e⟩
theorem FRowS.pic {S:Nat->Prop}{C:Nat}{vs fs:oA}{vc fc:Nat}{l:List Gc}(h:FRowS w B (U fs L.length fc) L)(hv:VRow S w C (U vs l.length vc) l)(hS:∀b,S b->C<=b/\b < B)(hC:C<=B):PicG (λb=>C<=b) C w ⟨vs,vc,l⟩ fs fc L:=by
 have vlt:∀b,roB ⟨vs,vc,l⟩=sO b->b < B:=λb hb=>(hS b (hv.2.1 b hb)).2;have fge:∀b,(j0 fs L.length fc).ownBlock=sO b->B<=b:=λb hb=>(aC h.own hb).2;have rge:∀r∈L,∀b,roB r=sO b->B<=b:=λr hr b hb=>((h.rows r hr).lt hb).2;refine⟨hv.1,cX h.own hC,λr hr=>cX (h.rows r hr) hC,λg hg=>⟨(hv.2.2 g hg).1.mono λb hb _=>⟨(hS b hb.1).1,hb.2,λe=> ?_,λr hr e=> ?_⟩,(hv.2.2 g hg).2⟩,λr hr g hg=>⟨(h.sites r hr g hg).1.mono λb hb _=>⟨lT hC hb.1,λe=> ?_,hb.2.1,hb.2.2⟩,(h.sites r hr g hg).2⟩,λb hb=>⟨λe=> ?_,λr hr e=> ?_⟩,h.df,h.dr⟩
 ·have:=fge b e;have:=(hS b hb.1).2;omega
 ·have:=rge r hr b e;have:=(hS b hb.1).2;omega
 ·have:=vlt b e;have:=hb.1;omega
 ·have:=fge b e;have:=vlt b hb;omega
 ·have:=rge r hr b e;have:=vlt b hb;omega
end
theorem PicG.down {T:Nat->Prop}{B C:Nat}{w:World}{v:Ro}{fs:oA}{fc:Nat}{L:List Ro}(h:PicG T B w v fs fc L)(hC:C<=B):PicG T C w v fs fc L:=⟨cX h.vars hC,cX h.flds hC,λr hr=>cX (h.rows r hr) hC,h.sv,h.sf,h.dv,h.df,h.dr⟩
def PicS (B:Nat)(w':World)(e:Ending)(x:Pic)(er:Int):Prop:=∃v fs fc L,x=aG x.none v L/\e=Rt (Tu #[Ag #[Bb x.none,U v.rs v.l.length v.rc,U fs L.length fc],I Y er])/\PicG (λb=>B<=b) B w' v fs fc L
def wI (w w':World)(e:Ending)(l:List Gs):Prop:=∃rs rc gl,e=Rt (U rs gl.length rc)/\Hid (gl.map Gc.g=l)/\SRow w' w.heap.size (U rs gl.length rc) gl
theorem rl (B:Nat)(w:World):PicG (λb=>B<=b) B w ⟨nO,0,[]⟩ nO 0 []:=⟨⟨rfl,.inl ⟨rfl,rfl⟩⟩,⟨rfl,.inl ⟨rfl,rfl⟩⟩,λr hr=>by simp at hr,λg hg=>by simp at hg,λr hr=>by simp at hr,λb hb=>by simp[roB,roV,Value.ownBlock] at hb,λb hb r hr=>by simp at hr,Q3.nil⟩
def Cells (w:World)(b:Nat)(cs:List Value):Prop:=(∀(j:Nat) (v:Value),cs[j]? =sO v->w.cell? ⟨b,j,nO⟩=sO v)/\b < w.heap.size/\∀j,w.frozen? ⟨b,j,nO⟩=false
section
variable {w w':World} {b:Nat} {cs:List Value}
theorem Cells.same (h:Cells w b cs)(hb:w'.heap[b]? =w.heap[b]?)(hz:w.heap.size<=w'.heap.size):Cells w' b cs:=⟨λj v hj=>by rw[z9 (a:=⟨b,j,nO⟩) hb];exact h.1 j v hj,lL h.2.1 hz,λj=>by rw[Qc (a:=⟨b,j,nO⟩) hb];exact h.2.2 j⟩
theorem Cells.call (h:Cells w b cs)(hb:Below w.heap.size w w'):Cells w' b cs:=h.same (hb.block b h.2.1) hb.size
theorem Cells.far (h:Cells w b cs){a:Addr}(ha:b≠a.block)(u:Value):Cells (w.setCell a u) b cs:=h.same (hSe _ _ _ _ ha) (by simp[z5])
theorem Cells.put (h:Cells w b cs)(j:Nat)(hj:j < cs.length)(u:Value):Cells (w.setCell ⟨b,j,nO⟩ u) b (cs.set j u):=by
 refine⟨λk v hk=> ?_,by simpa[z5] using h.2.1,λk=>by rw[Z6];exact h.2.2 k⟩;by_cases e:k=j
 ·subst e
  rw[List.getElem?_set_self hj] at hk;cases hk;exact Z5 _ _ _ (h.1 k cs[k] (x4 hj))
 ·rw[List.getElem?_set_ne (Ne.symm e)] at hk
  rw[J1 _ _ _ _ (by intro e';cases e';exact e rfl)];exact h.1 k v hk
theorem Cells.new (w:World)(t:TypeId)(cs:List Value):Cells (w.alloc (Cc cs.toArray t)) w.heap.size cs:=by
 refine⟨λj v hj=> ?_,by simp,λj=> ?_⟩
 ·have:(w.alloc (Cc cs.toArray t)).cell? ⟨w.heap.size,j,nO⟩=cs.toArray[j]? :=World.cell?_alloc_mark w cs.toArray t (0,0) j
  rw[this];simpa using hj
 ·have:=World.frozen?_alloc_mark w cs.toArray t 0 0 j
  rw[this];simp
end
def aL (i:Ins)(V F:Int)(s:oA)(c:List Ins)(cap:Nat)(at_:Int)(x:Pic)(vs:oA)(vc:Nat)(fs:oA)(fc:Nat)(ev:Value)(wr fl:Bool):List Value:=
 [I Y i.k,I Y i.tgt,I Y i.a,I Y i.b,I Y i.n,I Y i.g,I Y V,I Y F,U s c.length cap,I Y at_,Bb x.none,U vs x.vars.length vc,U fs x.flds.length fc,ev,Bb wr,Bb fl]
structure Ed where
 tgt:Int
 pic:Pic
 vs:oA
 vc:Nat
 fs:oA
 fc:Nat
def cB (e:Ed):List Value:=[I Y e.tgt,Bb e.pic.none,U e.vs e.pic.vars.length e.vc,U e.fs e.pic.flds.length e.fc]
def edG (e:Ed):Edg:=⟨e.tgt,e.pic⟩
def ni (S:Nat->Prop)(w:World)(e:Ed):Prop:=PicOn S w e.pic e.vs e.fs/\(e.pic.vars.length<=e.vc/\e.vc<=maxLen)/\(e.pic.flds.length<=e.fc/\e.fc<=maxLen)
theorem iI (e:Ed):∀u∈cB e,u.oneCell'=true:=by
 intro u hu;simp only[cB,z3,Qa,or_false] at hu;rcases hu with rfl|rfl|rfl|rfl<;>rfl
theorem mE:∀(l:List Ed) (i:Nat) (h:i < l.length) (j:Nat) (_:j < 4),(l.flatMap cB)[i * 4+j]? =(cB l[i])[j]?
 |[],i,h,_,_=>absurd h (by simp)
 |x::r,0,_,j,hj=>by
  rw[Qt,J6,j4,Z2 (by simpa[cB] using hj)];rfl
 |x::r,i+1,h,j,hj=>by
  have e4:(cB x).length=4:=rfl;rw[Qt,Qb (by rw[e4];omega),e4];have:(i+1) * 4+j - 4=i * 4+j:=by omega
  rw[this,mE r i (by simpa using h) j hj];rfl
structure ERow (n sb:Nat) (w:World) (v:Value) (L:List Ed):Prop where
 own:w.ownsRow n 56 4 v L.length (L.flatMap cB)
 off:v.ownBlock≠sO sb
 pics:∀e∈L,ni (λb=>n<=b/\b≠sb/\v.ownBlock≠sO b) w e
section
variable {n sb:Nat} {w w':World} {v v':Value} {L:List Ed}
theorem ERow.nil (n sb:Nat)(w:World):ERow n sb w (U nO 0 0) []:=⟨⟨rfl,.inl ⟨rfl,rfl⟩⟩,(λh=>by cases h),λe he=>by simp at he⟩
theorem ERow.same (h:ERow n sb w v L)(hs:∀b,n<=b->b≠sb->b < w.heap.size->w'.heap[b]? =w.heap[b]?)(hz:w.heap.size<=w'.heap.size):ERow n sb w' v L:=
 ⟨cJ h.own λb hb=>hs b (aC h.own hb).2 (λe=>h.off (by rw[hb,e])) (aC h.own hb).1,h.off,λe he=>⟨((h.pics e he).1.same (λb hb hlt=>hs b hb.1 hb.2.1 hlt) hz).mono λb hb _=>hb.1,(h.pics e he).2⟩⟩
theorem ERow.call (h:ERow n sb w v L)(hb:Below w.heap.size w w'):ERow n sb w' v L:=h.same (λb _ _ hlt=>hb.block b hlt) hb.size
theorem ERow.grown (h:ERow n sb w v L){e:Ed}(he:ni (λb=>n<=b/\b≠sb/\v.ownBlock≠sO b) w e)(hr:w'.ownsRow n 56 4 v' (L.length+1) (L.flatMap cB++cB e))(hg:w.grownBy w' v.ownBlock)(hv:v'.ownBlock=v.ownBlock\/v'.ownBlock=sO w.heap.size)(hsb:sb < w.heap.size):ERow n sb w' v' (L++[e]):=by
 refine⟨by rw[x3,List.flatMap_append];simpa using hr,λe'=> ?_,λq hq=> ?_⟩
 ·rcases hv with hv|hv
  ·rw[hv] at e';exact h.off e'
  ·rw[hv] at e';cases e';exact absurd hsb (Z4 _)
 ·have hq':ni (λb=>n<=b/\b≠sb/\v.ownBlock≠sO b) w q:=by
   rcases j6.1 hq with hq|hq
   ·exact h.pics q hq
   ·rw[j2.1 hq];exact he
  refine⟨(hq'.1.same (λb hb hlt=>hg.block b hlt λe=>hb.2.2 e.symm) hg.size).mono λb hb _=>⟨hb.1.1,hb.1.2.1,?_⟩,hq'.2⟩;rcases hv with hv|hv
  ·rw[hv];exact hb.1.2.2
  ·rw[hv];intro e;cases e;exact absurd hb.2 (Z4 _)
theorem ERow.form (h:ERow n sb w v L):∃es ec,v=U es L.length ec/\L.length<=ec/\ec<=maxLen:=by
 rcases h.own.2 with⟨e,h0⟩|⟨g,cap,cur,e,_,_,k1,k2,_⟩
 ·exact⟨nO,0,by rw[e,h0],by omega,z8 _⟩
 ·exact⟨sO ⟨g,0,nO⟩,cap,e,k1,k2⟩
end
def ClT (n sb:Nat)(eb:Option Nat)(xb b:Nat):Prop:=n<=b/\b≠sb/\b≠xb/\eb≠sO b
def ik (n sb:Nat)(eb:Option Nat)(H:Nat)(w:World)(xb:Nat)(v:Ro)(gs:oA)(gc:Nat)(L:List Ro)(x:Pic):Prop:=
 H<=xb/\Cells w xb [Bb false,U v.rs v.l.length v.rc,U gs L.length gc]/\PicG (ClT n sb eb xb) H w v gs gc L/\Off v (j0 gs L.length gc).ownBlock L xb/\aG false v L=x
end
section
open Go.RowKit
attribute [local go_sem ↓] Go.wp_at_zero Go.wp_at_succ
theorem fS (sb:Nat)(at_:Int)(cs:List Value)(w:World)(h:Cells w sb cs)(h9:cs[9]? =sO (I Y at_))(h0:0<=at_)(h1:at_<=1000):
  Calls pG 48 #[Pp (sO ⟨sb,0,nO⟩)] w λe w'=>e=Rt (I Y (at_+1))/\w'=w:=by
 have c9:=h.1 9 _ h9;clear h h9;go_enter Tryz.func48,Tryz.ntmps48;go_wp2;go_ret;exact⟨bd (by go_num),rfl⟩
theorem t8 {s:Sp}(hs:s.Ok):bB s=(if (if s.lo=0 then au s ⟨false,1,2147483647⟩ else s).hi=0 then au (if s.lo=0 then au s ⟨false,1,2147483647⟩ else s) ⟨false,-2147483648,-1⟩ else(if s.lo=0 then au s ⟨false,1,2147483647⟩ else s)):=by
 obtain⟨⟨a1,a2⟩,⟨a3,a4⟩,a5,a6⟩:=hs;obtain⟨n,lo,hi⟩:=s;simp only at a1 a2 a3 a4 a5 a6;cases n with
 |true=>
  obtain⟨rfl,rfl⟩:=a5 rfl;rfl
 |false=>
  by_cases h1:lo=0
  ·subst h1
   by_cases h2:hi=0
   ·subst h2;rfl
   ·have e1:min hi 2147483647=hi:=by omega
    have e2:max (0:Int) 1=1:=by omega
    have e3:¬hi < 1:=by omega
    simp[bB,au,h2,e1,e2,e3]
  ·by_cases h2:hi=0
   ·subst h2
    have e1:min (0:Int) (-1)= -1:=by omega
    have e2:max lo (-2147483648)=lo:=by omega
    have e3:¬ -1 < lo:=by omega
    simp[bB,au,h1,e1,e2,e3]
   ·have e3:¬hi < lo:=by omega
    simp[bB,h1,h2,e3]
theorem Dt {s t:Sp}(hs:s.Ok)(ht:t.Ok):(au s t).Ok:=by
 obtain⟨⟨a1,a2⟩,⟨a3,a4⟩,a5,a6⟩:=hs;obtain⟨⟨b1,b2⟩,⟨b3,b4⟩,b5,b6⟩:=ht;unfold au;split
 ·exact d7
 ·rename_i h
  simp only[Q1,decide_eq_true_eq,not_or] at h;exact fO (by omega) (by omega) (by omega)
theorem ww {s t:Sp}(hs:s.Ok)(ht:t.Ok):bj s t=0:=ckSps_ok.2 ⟨hs,ht⟩
theorem pB (s:Sp)(w:World)(hs:s.Ok):
  Calls pG 84 #[sv s] w λe w'=>e=Rt (sv (bB s))/\Below w.heap.size w w':=by
 rw[t8 hs];have HM:Hid (∀(a b:Sp) wx,a.Ok->b.Ok->Calls pG 86 #[sv a,sv b] wx λe w'=>e=Rt (Tu #[sv (au a b),I Y 0])/\Below wx.heap.size wx w'):=λa b wx ha hb=>by
  have:=fY a b wx;rw[ww ha hb] at this;exact this
 have B0:Below w.heap.size w ((w.alloc (Cc #[Bb s.n,I Y s.lo,I Y s.hi] 58)).alloc (Cc #[Bb false,I Y 0,I Y 0] 58)):=by go_grown
 have A0:Cells ((w.alloc (Cc #[Bb s.n,I Y s.lo,I Y s.hi] 58)).alloc (Cc #[Bb false,I Y 0,I Y 0] 58)) w.heap.size [Bb s.n,I Y s.lo,I Y s.hi]:=(Cells.new w 58 [Bb s.n,I Y s.lo,I Y s.hi]).call (by go_grown);have R0:Cells ((w.alloc (Cc #[Bb s.n,I Y s.lo,I Y s.hi] 58)).alloc (Cc #[Bb false,I Y 0,I Y 0] 58)) (w.heap.size+1) [Bb false,I Y 0,I Y 0]:=by
  have:=Cells.new (w.alloc (Cc #[Bb s.n,I Y s.lo,I Y s.hi] 58)) 58 [Bb false,I Y 0,I Y 0];rw[zA] at this;exact this
 have HK1:Hid ((⟨false,1,2147483647⟩:Sp).Ok):=fO (by omega) (by omega) (by omega);have HK2:Hid ((⟨false,-2147483648,-1⟩:Sp).Ok):=fO (by omega) (by omega) (by omega);obtain⟨m1,hm1⟩:∃q,q=(if s.lo=0 then au s ⟨false,1,2147483647⟩ else s):=⟨_,rfl⟩;rw[<-hm1];have HO1:Hid (m1.Ok):=by
  show m1.Ok;rw[hm1];split
  ·exact Dt hs HK1.out
  ·exact hs
 have HM1:=aa hm1;clear hm1;obtain⟨m2,hm2⟩:∃q,q=(if m1.hi=0 then au m1 ⟨false,-2147483648,-1⟩ else m1):=⟨_,rfl⟩;rw[<-hm2];have HM2:=aa hm2;have HS:=aa hs;clear hm2 hs;go_enter Tryz.func84,Tryz.ntmps84
 go_upto_if 5 with fail
 generalize ((w.alloc (Cc #[Bb s.n,I Y s.lo,I Y s.hi] 58)).alloc (Cc #[Bb false,I Y 0,I Y 0] 58))=w0 at *
 go_cut [] (λwy=>Cells wy w.heap.size [Bb m1.n,I Y m1.lo,I Y m1.hi]/\Cells wy (w.heap.size+1) [Bb false,I Y 0,I Y 0]/\Below w.heap.size w wy)
 case first=>
  have a0:=A0.1 0 _ rfl;have a1:=A0.1 1 _ rfl;have a2:=A0.1 2 _ rfl;by_cases e:s.lo=0
  ·have e1:=HM1.out
   rw[if_pos e] at e1;have E1:=aa e1;have eb:(s.lo==0)=true:=by simpa using e
   clear e1 e;have HC:=aa (HM.out s ⟨false,1,2147483647⟩ w0 HS.out HK1.out);rw[<-E1.out] at HC;go_wp2_with (go_at_call 86;fail);refine HC.out.mono ?_;rintro e w1 ⟨rfl,hb1⟩;have A1:=A0.call hb1;have R1:=R0.call hb1;have B1:=B0.trans (hb1.mono B0.size);clear a0 a1 a2 hb1 A0 R0 B0 HC;have b0:=A1.1 0 _ rfl;have b1:=A1.1 1 _ rfl;have b2:=A1.1 2 _ rfl;have f0:=A1.2.2 0;have f1:=A1.2.2 1;have f2:=A1.2.2 2;go_wp2_with fail;go_meet;exact⟨((A1.put 0 (by simp) _).put 1 (by simp) _).put 2 (by simp) _,((R1.far (by simp only;omega) _).far (by simp only;omega) _).far (by simp only;omega) _,((B1.setCell (lR _) _).setCell (lR _) _).setCell (lR _) _⟩
  ·have e1:=HM1.out
   rw[if_neg e] at e1;have eb:(s.lo==0)=false:=by simpa using e
   clear e;subst e1;go_wp2_with fail;go_meet;exact⟨A0,R0,B0⟩
 obtain⟨A1,R1,B1⟩:=hcut;clear A0 R0 B0;generalize wc=w1 at *;clear wc;have a0:=A1.1 0 _ rfl;have a1:=A1.1 1 _ rfl;have a2:=A1.1 2 _ rfl
 go_upto_if 14 with fail
 go_cut [] (λwy=>Cells wy w.heap.size [Bb m2.n,I Y m2.lo,I Y m2.hi]/\Cells wy (w.heap.size+1) [Bb false,I Y 0,I Y 0]/\Below w.heap.size w wy)
 case first=>
  by_cases e:m1.hi=0
  ·have e1:=HM2.out
   rw[if_pos e] at e1;have E1:=aa e1;have eb:(m1.hi==0)=true:=by simpa using e
   clear e1 e;have HC:=aa (HM.out m1 ⟨false,-2147483648,-1⟩ w1 HO1.out HK2.out);rw[<-E1.out] at HC;go_wp2_with (go_at_call 86;fail);refine HC.out.mono ?_;rintro e w2 ⟨rfl,hb2⟩;have A2:=A1.call hb2;have R2:=R1.call hb2;have B2:=B1.trans (hb2.mono B1.size);clear a0 a1 a2 hb2 A1 R1 B1 HC;have b0:=A2.1 0 _ rfl;have b1:=A2.1 1 _ rfl;have b2:=A2.1 2 _ rfl;have f0:=A2.2.2 0;have f1:=A2.2.2 1;have f2:=A2.2.2 2;go_wp2_with fail;go_meet;exact⟨((A2.put 0 (by simp) _).put 1 (by simp) _).put 2 (by simp) _,((R2.far (by simp only;omega) _).far (by simp only;omega) _).far (by simp only;omega) _,((B2.setCell (lR _) _).setCell (lR _) _).setCell (lR _) _⟩
  ·have e1:=HM2.out
   rw[if_neg e] at e1;have eb:(m1.hi==0)=false:=by simpa using e
   clear e;subst e1;go_wp2_with fail;go_meet;exact⟨A1,R1,B1⟩
 obtain⟨A2,R2,B2⟩:=hcut;clear A1 R1 B1 a0 a1 a2;generalize wc=w2 at *;clear wc;have b0:=A2.1 0 _ rfl;have b1:=A2.1 1 _ rfl;have b2:=A2.1 2 _ rfl;have d0:=R2.1 0 _ rfl;have d1:=R2.1 1 _ rfl;have d2:=R2.1 2 _ rfl;have f0:=R2.2.2 0;have f1:=R2.2.2 1;have f2:=R2.2.2 2;go_wp2;refine bodyPost_ret (v:=sv m2) (by simp[results,Tryz.results84,go_sem,d0,d1,d2]) rfl ⟨rfl,?_⟩;exact((B2.setCell (by simp only;omega) _).setCell (by simp only;omega) _).setCell (by simp only;omega) _
end
section
open Go.RowKit
def bH (w:World)(b k:Nat)(x':Gc):World:=(((((((w.setCell ⟨b,k * 7,nO⟩ (Bb x'.g.n)).setCell ⟨b,k * 7+1,nO⟩ (Bb x'.g.sp.n)).setCell ⟨b,k * 7+2,nO⟩ (I Y x'.g.sp.lo)).setCell ⟨b,k * 7+3,nO⟩ (I Y x'.g.sp.hi)).setCell ⟨b,k * 7+4,nO⟩ (Bb x'.g.t)).setCell ⟨b,k * 7+5,nO⟩ (Bb x'.g.f)).setCell ⟨b,k * 7+6,nO⟩ (U x'.ss x'.g.s.length x'.cap))
section
variable {T:Nat->Prop} {B:Nat} {w w':World} {v:Ro} {fs:oA} {fc:Nat} {L:List Ro}
theorem Off.same {v v':Ro}{fb:Option Nat}{L:List Ro}{b:Nat}(hv:roB v'=roB v):Off v' fb L b↔Off v fb L b:=by unfold Off;rw[hv]
theorem eQ {v:Ro}{l:List Gc}(h:l.length=v.l.length):roB ⟨v.rs,v.rc,l⟩=roB v:=by unfold roB roV;rw[h]
theorem PicG.cellV (h:PicG T B w v fs fc L){b:Nat}(hb:v.rs=sO ⟨b,0,nO⟩){k:Nat}(hk:k < v.l.length){y z:Gc}(hy:PicG T B w' ⟨v.rs,v.rc,v.l.set k y⟩ fs fc L){j:Nat}{u:Value}(hj:j < 7)(hx:ba z=(ba y).set j u)(hg:bA (λb=>T b/\Off v (j0 fs L.length fc).ownBlock L b) w' z):
  PicG T B (w'.setCell ⟨b,k * 7+j,nO⟩ u) ⟨v.rs,v.rc,v.l.set k z⟩ fs fc L:=by
 have h1:=PicG.putV hy hb (k:=k) (j:=j) (u:=u) (x':=z) (by simpa using hk) hj (by simpa using hx) ⟨hg.1.mono λq hq _=>⟨hq.1,(Off.same (eQ (by simp))).2 hq.2⟩,hg.2⟩;simpa[Qu] using h1
theorem aA {S:Nat->Prop}{x:Gc}{b:Nat}{o:Nat}{u:Value}(h:bA S w x)(hs:¬S b):bA S (w.setCell ⟨b,o,nO⟩ u) x:=nj h λq hq e=>hs (by have e':q=b:=e;rw[<-e'];exact hq)
theorem PicG.setV (h:PicG T B w v fs fc L){b:Nat}(hb:v.rs=sO ⟨b,0,nO⟩){k:Nat}(hk:k < v.l.length){x':Gc}(hg:bA (λb=>T b/\Off v (j0 fs L.length fc).ownBlock L b) w x'):PicG T B (bH w b k x') ⟨v.rs,v.rc,v.l.set k x'⟩ fs fc L:=by
 have eb:roB v=sO b:=by unfold roB roV;rw[hb];rfl
 have nb:¬(λq=>T q/\Off v (j0 fs L.length fc).ownBlock L q) b:=λq=>q.2.1 eb;obtain⟨y,ey⟩:∃y,y=v.l[k]:=⟨_,rfl⟩;have gy:bA (λb=>T b/\Off v (j0 fs L.length fc).ownBlock L b) w y:=by rw[ey];exact h.sv _ (gM hk)
 have h0:PicG T B w ⟨v.rs,v.rc,v.l.set k y⟩ fs fc L:=by rw[ey,x8];exact h
 unfold bH;have h1:=h.cellV hb hk h0 (j:=0) (u:=Bb x'.g.n) (z:=⟨⟨x'.g.n,y.g.sp,y.g.t,y.g.f,y.g.s⟩,y.ss,y.cap⟩) (by omega) (by rfl) gy;have h2:=h.cellV hb hk h1 (j:=1) (u:=Bb x'.g.sp.n) (z:=⟨⟨x'.g.n,⟨x'.g.sp.n,y.g.sp.lo,y.g.sp.hi⟩,y.g.t,y.g.f,y.g.s⟩,y.ss,y.cap⟩) (by omega) (by rfl) (aA gy nb);have h3:=h.cellV hb hk h2 (j:=2) (u:=I Y x'.g.sp.lo) (z:=⟨⟨x'.g.n,⟨x'.g.sp.n,x'.g.sp.lo,y.g.sp.hi⟩,y.g.t,y.g.f,y.g.s⟩,y.ss,y.cap⟩) (by omega) (by rfl) (aA (aA gy nb) nb);have h4:=h.cellV hb hk h3 (j:=3) (u:=I Y x'.g.sp.hi) (z:=⟨⟨x'.g.n,⟨x'.g.sp.n,x'.g.sp.lo,x'.g.sp.hi⟩,y.g.t,y.g.f,y.g.s⟩,y.ss,y.cap⟩) (by omega) (by rfl) (aA (aA (aA gy nb) nb) nb);have h5:=h.cellV hb hk h4 (j:=4) (u:=Bb x'.g.t) (z:=⟨⟨x'.g.n,⟨x'.g.sp.n,x'.g.sp.lo,x'.g.sp.hi⟩,x'.g.t,y.g.f,y.g.s⟩,y.ss,y.cap⟩) (by omega) (by rfl) (aA (aA (aA (aA gy nb) nb) nb) nb);have h6:=h.cellV hb hk h5 (j:=5) (u:=Bb x'.g.f) (z:=⟨⟨x'.g.n,⟨x'.g.sp.n,x'.g.sp.lo,x'.g.sp.hi⟩,x'.g.t,x'.g.f,y.g.s⟩,y.ss,y.cap⟩) (by omega) (by rfl) (aA (aA (aA (aA (aA gy nb) nb) nb) nb) nb);have h7:=h.cellV hb hk h6 (j:=6) (u:=U x'.ss x'.g.s.length x'.cap) (z:=x') (by omega) (by rfl) (aA (aA (aA (aA (aA (aA hg nb) nb) nb) nb) nb) nb);exact h7
theorem PicG.cellF (h:PicG T B w v fs fc L){s:Nat}(hs:s < L.length){b:Nat}(hb:L[s].rs=sO ⟨b,0,nO⟩){k:Nat}(hk:k < L[s].l.length){y z:Gc}(hy:PicG T B w' v fs fc (L.set s ⟨L[s].rs,L[s].rc,L[s].l.set k y⟩)){j:Nat}{u:Value}(hj:j < 7)(hx:ba z=(ba y).set j u)(hg:bA (λb=>T b/\Off v (j0 fs L.length fc).ownBlock L b) w' z):
  PicG T B (w'.setCell ⟨b,k * 7+j,nO⟩ u) v fs fc (L.set s ⟨L[s].rs,L[s].rc,L[s].l.set k z⟩):=by
 have eL:∀q,(∀r∈L.set s ⟨L[s].rs,L[s].rc,L[s].l.set k y⟩,roB r≠sO q)↔∀r∈L,roB r≠sO q:=λq=>by
  have e1:(L.set s ⟨L[s].rs,L[s].rc,L[s].l.set k y⟩).map roB=L.map roB:=by
   rw[X7,eQ (v:=L[s]) (by simp),<-J8 (f:=roB) (h:=by simpa using hs),x8]
  have e2:∀M:List Ro,(∀r∈M,roB r≠sO q)↔∀o∈M.map roB,o≠sO q:=λM=>by simp only[x6,forall_exists_index,and_imp,forall_apply_eq_imp_iff₂]
  rw[e2,e1,<-e2]
 have h1:=PicG.putF hy (s:=s) (by simpa using hs) (b:=b) (by simpa using hb) (k:=k) (j:=j) (u:=u) (x':=z) (by simpa using hk) hj (by simpa using hx) ⟨hg.1.mono λq hq _=>⟨hq.1,hq.2.1,by rw[z7];exact hq.2.2.1,(eL q).2 hq.2.2.2⟩,hg.2⟩;simpa[Qu] using h1
theorem PicG.setF (h:PicG T B w v fs fc L){s:Nat}(hs:s < L.length){b:Nat}(hb:L[s].rs=sO ⟨b,0,nO⟩){k:Nat}(hk:k < L[s].l.length){x':Gc}(hg:bA (λb=>T b/\Off v (j0 fs L.length fc).ownBlock L b) w x'):PicG T B (bH w b k x') v fs fc (L.set s ⟨L[s].rs,L[s].rc,L[s].l.set k x'⟩):=by
 have hm:=gM hs;have eb:roB L[s]=sO b:=by unfold roB roV;rw[hb];rfl
 have nb:¬(λq=>T q/\Off v (j0 fs L.length fc).ownBlock L q) b:=λq=>q.2.2.2 _ hm eb;obtain⟨y,ey⟩:∃y,y=L[s].l[k]:=⟨_,rfl⟩;have gy:bA (λb=>T b/\Off v (j0 fs L.length fc).ownBlock L b) w y:=by rw[ey];exact h.sf _ hm _ (gM hk)
 have h0:PicG T B w v fs fc (L.set s ⟨L[s].rs,L[s].rc,L[s].l.set k y⟩):=by
  rw[ey,x8];have:(⟨L[s].rs,L[s].rc,L[s].l⟩:Ro)=L[s]:=rfl;rw[this,x8];exact h
 unfold bH;have h1:=h.cellF hs hb hk h0 (j:=0) (u:=Bb x'.g.n) (z:=⟨⟨x'.g.n,y.g.sp,y.g.t,y.g.f,y.g.s⟩,y.ss,y.cap⟩) (by omega) (by rfl) gy;have h2:=h.cellF hs hb hk h1 (j:=1) (u:=Bb x'.g.sp.n) (z:=⟨⟨x'.g.n,⟨x'.g.sp.n,y.g.sp.lo,y.g.sp.hi⟩,y.g.t,y.g.f,y.g.s⟩,y.ss,y.cap⟩) (by omega) (by rfl) (aA gy nb);have h3:=h.cellF hs hb hk h2 (j:=2) (u:=I Y x'.g.sp.lo) (z:=⟨⟨x'.g.n,⟨x'.g.sp.n,x'.g.sp.lo,y.g.sp.hi⟩,y.g.t,y.g.f,y.g.s⟩,y.ss,y.cap⟩) (by omega) (by rfl) (aA (aA gy nb) nb);have h4:=h.cellF hs hb hk h3 (j:=3) (u:=I Y x'.g.sp.hi) (z:=⟨⟨x'.g.n,⟨x'.g.sp.n,x'.g.sp.lo,x'.g.sp.hi⟩,y.g.t,y.g.f,y.g.s⟩,y.ss,y.cap⟩) (by omega) (by rfl) (aA (aA (aA gy nb) nb) nb);have h5:=h.cellF hs hb hk h4 (j:=4) (u:=Bb x'.g.t) (z:=⟨⟨x'.g.n,⟨x'.g.sp.n,x'.g.sp.lo,x'.g.sp.hi⟩,x'.g.t,y.g.f,y.g.s⟩,y.ss,y.cap⟩) (by omega) (by rfl) (aA (aA (aA (aA gy nb) nb) nb) nb);have h6:=h.cellF hs hb hk h5 (j:=5) (u:=Bb x'.g.f) (z:=⟨⟨x'.g.n,⟨x'.g.sp.n,x'.g.sp.lo,x'.g.sp.hi⟩,x'.g.t,x'.g.f,y.g.s⟩,y.ss,y.cap⟩) (by omega) (by rfl) (aA (aA (aA (aA (aA gy nb) nb) nb) nb) nb);have h7:=h.cellF hs hb hk h6 (j:=6) (u:=U x'.ss x'.g.s.length x'.cap) (z:=x') (by omega) (by rfl) (aA (aA (aA (aA (aA (aA hg nb) nb) nb) nb) nb) nb);exact h7
theorem cD {b k q:Nat}{x':Gc}(h:q≠b):(bH w b k x').heap[q]? =w.heap[q]? :=by
 unfold bH;rw[hSe _ _ _ _ h,hSe _ _ _ _ h,hSe _ _ _ _ h,hSe _ _ _ _ h,hSe _ _ _ _ h,hSe _ _ _ _ h,hSe _ _ _ _ h]
theorem cw {b k:Nat}{x':Gc}:(bH w b k x').heap.size=w.heap.size:=by simp[bH,z5]
theorem cI {A:Nat}{w0:World}{b k:Nat}{x':Gc}(h:Below A w0 w)(hb:A<=b):Below A w0 (bH w b k x'):=by
 unfold bH;exact((((((h.setCell hb _).setCell hb _).setCell hb _).setCell hb _).setCell hb _).setCell hb _).setCell hb _
end
end
section
theorem iz (i:Ins)(at_:Int)(x:Pic):(ah i at_ x).1.length<=2:=by
 unfold ah
 repeat' split
 all_goals simp
 all_goals (repeat' split)
 all_goals simp
end
section
open Go.RowKit Go
def CellsKept (W W':World):Prop:=W.heap.size<=W'.heap.size/\∀b o v,W.cell? ⟨b,o,nO⟩=sO v->W'.cell? ⟨b,o,nO⟩=sO v
section
variable {W W':World}
theorem CellsKept.ints (h:CellsKept W W'){s:oA}{l:List Int}(hi:IntsAt W s l):IntsAt W' s l:=by
 rcases hi with hi|⟨b,off,e,hb,hc⟩
 ·exact .inl hi
 ·exact .inr ⟨b,off,e,lL hb h.1,λk hk=>h.2 _ _ _ (hc k hk)⟩
theorem CellsKept.gs (h:CellsKept W W'){s:oA}{l:List Gs}(hi:GsAt W s l):GsAt W' s l:=λi hl=>by
 obtain⟨b,off,e,ss,cap,⟨⟨c0,c1,c2,c3,c4,c5,c6⟩,hz⟩,h2,h4⟩:=hi i hl;exact⟨b,off,e,ss,cap,⟨⟨h.2 _ _ _ c0,h.2 _ _ _ c1,h.2 _ _ _ c2,h.2 _ _ _ c3,h.2 _ _ _ c4,h.2 _ _ _ c5,h.2 _ _ _ c6⟩,lL hz h.1⟩,h.ints h2,h4⟩
theorem CellsKept.pic (h:CellsKept W W'){x:Pic}{vs fs:oA}(hp:PicAt W x vs fs):PicAt W' x vs fs:=⟨h.gs hp.1,λi hi=>by
 obtain⟨b,off,e,hz,rs,rc,h1,h2,h4,h5⟩:=hp.2 i hi;exact⟨b,off,e,lL hz h.1,rs,rc,h.2 _ _ _ h1,h2,h4,h.gs h5⟩⟩
theorem CellsKept.putObj {l:Nat}{o o':Obj}(h:W.heap[l]? =sO o)(hc:o.isCells=false):CellsKept W (W.putObj l o'):=by
 refine⟨by simp[X8],λb k v hv=> ?_⟩;by_cases e:b=l
 ·subst e
  exfalso;simp only[Z0,h] at hv;cases o<;>simp_all[Obj.isCells]
 ·rw[z9 (a:=⟨b,k,nO⟩) (Z1 e)]
  exact hv
theorem CellsKept.code (h:CellsKept W W'){s:oA}{c:List Ins}(hi:CodeAt W s c):CodeAt W' s c:=by
 rcases hi with hi|⟨b,off,e,hb,hc⟩
 ·exact .inl hi
 ·refine .inr ⟨b,off,e,lL hb h.1,λk hk=> ?_⟩
  obtain⟨h0,h1,h2,h3,h4,h5⟩:=hc k hk;exact⟨h.2 _ _ _ h0,h.2 _ _ _ h1,h.2 _ _ _ h2,h.2 _ _ _ h3,h.2 _ _ _ h4,h.2 _ _ _ h5⟩
theorem CellsKept.blocks (hz:W.heap.size<=W'.heap.size)(h:∀b,b < W.heap.size->W'.heap[b]? =W.heap[b]?):CellsKept W W':=⟨hz,λb k v hv=>by
 have hb:b < W.heap.size:=by
  apply Decidable.byContradiction;intro hn;have e:W.heap[b]? =none:=by simp;omega
  simp only[Z0,e] at hv;cases hv
 rw[z9 (a:=⟨b,k,nO⟩) (h b hb)];exact hv⟩
end
structure RoundAt (l:Nat) (W W':World):Prop where
 far:∀q,q≠l->W'.heap[q]? =W.heap[q]?
 size:W'.heap.size=W.heap.size
 kept:CellsKept W W'
 low:∀{B:Nat} {a:World},B<=l->Below B a W->Below B a W'
section
variable {W W' Wa W2 W3:World} {l D:Nat} {r r':Loop}
theorem LoopAt.put (h:LoopAt W l D r)(hD:D≠l)(r':Loop):LoopAt (W.putObj l (.loop r')) l D r':=⟨Qv (z4.1 h.lp).1,(Z1 hD).trans h.dfr⟩
theorem LoopAt.far (h:LoopAt W l D r)(hl:W'.heap[l]? =W.heap[l]?)(hD:W'.heap[D]? =W.heap[D]?):LoopAt W' l D r:=⟨hl.trans h.lp,hD.trans h.dfr⟩
theorem LoopAt.round (h:LoopAt W l D r)(o:Obj):RoundAt l W (W.putObj l o):=⟨λq hq=>Z1 hq,by simp[X8],CellsKept.putObj h.lp rfl,λ{B} {a} hB hb=>by
 refine hb.trans ((bR B W).grown (grownBy_putObj' W l o) (by have:=(z4.1 h.lp).1;omega) (λk e=>by cases e;omega))⟩
theorem mF {P:Program}{fn:FuncId}{tmps:Array Value}{ps:Array Tmp}{assign body:Code}{F:Fence}{m:Nat}{Q:Exit->Act->World->Prop}{a:Act}(hl:LoopAt W l D (cr fn tmps ps assign body D .ready nO))(hD:D≠l)(hb:Below W.heap.size W Wa)
  (h:∀W2,LoopAt W2 l D (cr fn tmps ps assign body D .busy nO)->RoundAt l Wa W2->body.wpIn F m P Q a W2):
  LoopAt Wa l D (cr fn tmps ps assign body D .ready nO)/\body.wpIn F m P Q a (Wa.putObj l (.loop (cr fn tmps ps assign body D .busy nO))):=
 ⟨hl.below hb,h _ ((hl.below hb).put hD _) ((hl.below hb).round _)⟩
theorem wZ (hl:LoopAt W l D r)(hb:Below W.heap.size W Wa)(hO:RoundAt l Wa W2)(h3:Below W2.heap.size W2 W3):W.heap.size<=(W3.putObj l (.loop r)).heap.size/\∀b,b < W.heap.size->(W3.putObj l (.loop r)).heap[b]? =W.heap[b]? :=by
 have z:W.heap.size<=W3.heap.size:=lT hb.size (by rw[<-hO.size];exact h3.size);have hlz:=(z4.1 hl.lp).1;refine⟨by simpa[X8] using z,λb hlt=> ?_⟩;by_cases e:b=l
 ·subst e
  rw[Qv (by omega),hl.lp]
 ·rw[Z1 e,h3.block b (by rw[hO.size];have:=hb.size;omega),hO.far b e,hb.block b hlt]
end
end
section
open Go.RowKit
def aO (w:World)(b:Nat):Nat->List Value->World
 |_,[]=>w
 |i,y::ys=>aO (w.setCell ⟨b,i,nO⟩ y) b (i+1) ys
theorem td (b k:Nat)(hk:k≠b):∀(ys:List Value) (i:Nat) (w:World),(aO w b i ys).heap[k]? =w.heap[k]?
 |[],_,_=>rfl
 |y::ys,i,w=>by
  show (aO (w.setCell ⟨b,i,nO⟩ y) b (i+1) ys).heap[k]? =_;rw[td b k hk ys (i+1) _,hSe _ _ _ _ hk]
theorem rr (b:Nat):∀(ys:List Value) (i:Nat) (w:World),(aO w b i ys).heap.size=w.heap.size
 |[],_,_=>rfl
 |y::ys,i,w=>by
  show (aO (w.setCell ⟨b,i,nO⟩ y) b (i+1) ys).heap.size=_;rw[rr b ys (i+1) _];simp[z5]
theorem oO {B:Nat}{a:World}(b:Nat)(hB:B<=b):∀(ys:List Value) (i:Nat) (w:World),Below B a w->Below B a (aO w b i ys)
 |[],_,_,h=>h
 |y::ys,i,w,h=>oO b hB ys (i+1) _ (h.setCell (p:=⟨b,i,nO⟩) hB y)
def fW:List Value->Nat->List Value->List Value
 |cs,_,[]=>cs
 |cs,o,y::ys=>fW (cs.set o y) (o+1) ys
structure Put (b:Nat) (w w':World) (cs:List Value):Prop where
 cells:Cells w' b cs
 far:∀q,q≠b->w'.heap[q]? =w.heap[q]?
 size:w.heap.size<=w'.heap.size
 low:∀{B:Nat} {a:World},B<=b->Below B a w->Below B a w'
section
variable {b:Nat} {w w':World} {cs:List Value}
theorem nX:∀(ys:List Value) (o:Nat) (w:World) (cs:List Value),Cells w b cs->o+ys.length<=cs.length->Cells (aO w b o ys) b (fW cs o ys)
 |[],_,_,_,h,_=>h
 |y::ys,o,w,cs,h,hl=>nX ys (o+1) _ _ (h.put o (by simp at hl;omega) y) (by simp at hl |-;omega)
theorem aZ (h:Cells w b cs)(o:Nat)(ys:List Value)(e:w'=aO w b o ys)(hl:o+ys.length<=cs.length:=by simp):Put b w w' (fW cs o ys):=by
 subst e;exact⟨nX ys o w cs h hl,λq hq=>td b q hq ys o w,by rw[rr];exact Nat.le_refl _,λhB hb=>oO b hB ys o w hb⟩
theorem Put.refl (h:Cells w b cs):Put b w w cs:=⟨h,λ_ _=>rfl,lR _,λ_ hb=>hb⟩
theorem Put.trans {w2:World}{ds:List Value}(p:Put b w w' cs)(q:Put b w' w2 ds):Put b w w2 ds:=⟨q.cells,λk hk=>(q.far k hk).trans (p.far k hk),lT p.size q.size,λhB hb=>q.low hB (p.low hB hb)⟩
theorem Put.keep (p:Put b w w' cs){q:Nat}{ds:List Value}(h:Cells w q ds)(hq:q≠b:=by omega):Cells w' q ds:=h.same (p.far q hq) p.size
theorem Put.ints (p:Put b w w' cs){S:Nat->Prop}{ss:oA}{l:List Int}(h:IntsIn S w ss l)(hS:∀q,S q->q≠b):IntsIn S w' ss l:=h.same (λq hq _=>p.far q (hS q hq)) p.size
end
end
section
open Go.RowKit
attribute [local go_sem ↓] Go.wp_at_zero Go.wp_at_succ
theorem uI (n:Nat)(x:Gc):(aF (j1 n x)).length=n * 7:=by rw[g9,List.length_replicate]
theorem mN (a b:Nat)(x:Gc):aF (j1 a x)++aF (j1 b x)=aF (j1 (a+b) x):=by rw[<-fJ,List.replicate_append_replicate]
theorem mK (m n:Nat)(x:Gc)(h:m<=n)(j:Nat)(u:Value)(hj:(aF (j1 m x))[j]? =sO u):(aF (j1 n x))[j]? =sO u:=by
 obtain⟨d,rfl⟩:∃d,n=m+d:=⟨n - m,by omega⟩;rw[<-mN,Z2 (Z3.1 hj).1];exact hj
theorem sd (l:List Gc):∀u∈aF l,u.oneCell'=true:=by
 intro u hu;obtain⟨x,hx,hu⟩:=Qd.1 hu;exact cM x u hu
def Filled (w:World)(b n k:Nat)(x:Gc):Prop:=k<=n/\∃cs:List Value,w.heap[b]? =sO (Cc cs.toArray 61 (0,0))/\cs.length=n * 7/\cs.take (k * 7)=aF (j1 k x)
theorem Filled.lt {w:World}{b n k:Nat}{x:Gc}(h:Filled w b n k x):b < w.heap.size:=by
 obtain⟨_,cs,h1,_⟩:=h;exact(z4.1 h1).1
theorem Filled.copy {P:Program}{w:World}{b n k:Nat}{x:Gc}(h:Filled w b n k x)(dT ty:TypeId)(a:Addr)(sLen sCap dCap m:Nat)(hu:P.underlying dT=sO (.slice 61))(hs:(P.info? 61).map (·.size)=sO 7)(hm:m=j8 sLen (n - k))
  (hsrc:∀j v,(aF (j1 m x))[j]? =sO v->w.cell? (a.add j)=sO v):
  ∃w',(Builtin.copy_ #[dT,dT] ty #[U (sO ⟨b,k * 7,nO⟩) (n - k) dCap,U (sO a) sLen sCap]).run P w=.ok (goInt m) w'/\Filled w' b n (k+m) x/\∀B w0,B<=b->Below B w0 w->Below B w0 w':=by
 obtain⟨hk,cs,h1,h2,h3⟩:=h;have hmn:m<=n - k:=by rw[hm];exact X9 _ _
 have hl:(aF (j1 m x)).length=m * 7:=uI m x;have hfit:k * 7+m * 7<=n * 7:=by omega
 refine⟨w.setRow b (cs.take (k * 7)++aF (j1 m x)++cs.drop (k * 7+(aF (j1 m x)).length)).toArray,?_,?_,λB w0 hB hb=>below_setRow hb hB _⟩
 ·have e:=rP w dT dT ty 61 b (k * 7) (n - k) dCap a sLen sCap 7 cs.toArray 61 (aF (j1 m x)) hu hs h1 (by rw[hl,hm]) hsrc (by rw[hl];simpa[h2] using hfit) (sd _)
  rw[<-hm] at e;exact e
 ·refine⟨by omega,cs.take (k * 7)++aF (j1 m x)++cs.drop (k * 7+(aF (j1 m x)).length),?_,?_,?_⟩
  ·exact setRow_heap w b cs.toArray _ _ _ h1
  ·simp only[x3,List.length_take,List.length_drop,hl,h2]
   omega
  ·rw[h3,mN]
   exact List.take_left' (by rw[uI])
theorem Filled.gets {w:World}{b n:Nat}{g:Gs}(hs:g.s=[])(h:Filled w b n n ⟨g,nO,0⟩):GsIn (λk=>k=b) w (sO ⟨b,0,nO⟩) (j1 n g):=by
 have hz:=h.lt;obtain⟨_,cs,h1,h2,h3⟩:=h;rw[List.take_of_length_le (by omega)] at h3;subst h3;intro i hi;have hin:i < n:=by simpa using hi
 have hc:∀j,j < 7->w.cell? ⟨b,i * 7+j,nO⟩=(ba ⟨g,nO,0⟩)[j]? :=λj hj=>by
  have e:=dx (j1 n (⟨g,nO,0⟩:Gc)) i (by simpa using hin) j hj;rw[Qw] at e;rw[<-e];simp[Z0,h1]
 refine⟨b,0,rfl,rfl,nO,0,⟨?_,hz⟩,.inl (by simp[hs]),by simp[hs],by unfold maxLen;omega⟩;simp only[Qw,j4];exact⟨hc 0 (by omega),hc 1 (by omega),hc 2 (by omega),hc 3 (by omega),hc 4 (by omega),hc 5 (by omega),hc 6 (by omega)⟩
theorem tW (g:Gs)(hs0:g.s=[])(n:Nat)(h8:n<=8)(b:Nat)(w:World)(hg:GuAt w b 0 g nO 0):
  Calls pG 98 #[U (sO ⟨b,0,nO⟩) 1 1,I Y (n:Int)] w λe w'=>(∃rs,e=Rt (U rs n n)/\GsIn (λb=>w.heap.size<=b) w' rs (j1 n g))/\Below w.heap.size w w':=by
 obtain⟨ti,hi,hz0,hz1,hz2⟩:=info_parts Tryz.info_guess;have HMU:Hid (Calls pG 128 #[.int .u64 1,.int .u64 (n:Int)] w λe w'=>e=Rt (Tu #[.int .u64 0,.int .u64 (n:Int)])/\w'=w):=by
  refine(Tryz.bits_Mul 1 n (by omega) (by omega) w).mono ?_;rintro e w1 ⟨rfl,rfl⟩;refine⟨?_,rfl⟩;have e1:1 * n / 18446744073709551616=0:=by omega
  have e2:1 * n % 18446744073709551616=n:=by omega
  rw[e1,e2];rfl
 have HMK:=run_makeSlice (P:=pG) w 25 61 ti (Ag #[Bb false,Bb false,I Y 0,I Y 0,Bb false,Bb false,U nO 0 0]) Tryz.underlying25 hi hz0 .i64 .i64 (n:Int) (n:Int) (by omega) (Int.le_refl _) (by rw[hz1];omega) (by rw[hz2];omega) (by omega);rw[Int.toNat_natCast,hz1] at HMK;have F0:Filled (w.alloc (Cc (madeCells (J5 (Ag #[Bb false,Bb false,I Y 0,I Y 0,Bb false,Bb false,U nO 0 0])) (n * 7)) 61)) w.heap.size n 0 ⟨g,nO,0⟩:=by
  refine⟨z8 _,(madeCells (J5 (Ag #[Bb false,Bb false,I Y 0,I Y 0,Bb false,Bb false,U nO 0 0])) (n * 7)).toList,heap_alloc_new _ _,by simp[size_madeCells],by simp[aF]⟩
 have hb0:Below w.heap.size w (w.alloc (Cc (madeCells (J5 (Ag #[Bb false,Bb false,I Y 0,I Y 0,Bb false,Bb false,U nO 0 0])) (n * 7)) 61)):=by go_grown
 have G0:=hg.alloc (Cc (madeCells (J5 (Ag #[Bb false,Bb false,I Y 0,I Y 0,Bb false,Bb false,U nO 0 0])) (n * 7)) 61);have hns:¬(n:Int) < 0:=by omega
 have N1:(n:Int)<=9223372036854775807:=by omega
 obtain⟨w2,HR,F2,HB2⟩:=F0.copy (P:=pG) 25 3 ⟨b,0,nO⟩ 1 1 n (j8 1 n) Tryz.underlying25 (by rw[hi];exact congrArg sO hz1) (by simp) (λj v hj=>by
  have hj':=mK (j8 1 n) 1 ⟨g,nO,0⟩ (Qx _ _) j v hj;have e1:aF (j1 1 (⟨g,nO,0⟩:Gc))=ba ⟨g,nO,0⟩:=by simp[aF]
  rw[e1] at hj';obtain⟨⟨g0,g1,g2,g3,g4,g5,g6⟩,-⟩:=G0;rw[Addr.add_lit];have hj7:j < 7:=by have:=(Z3.1 hj').1;rwa [dl] at this
  rw[<-hj'];rcases (show j=0\/j=1\/j=2\/j=3\/j=4\/j=5\/j=6 by omega) with rfl|rfl|rfl|rfl|rfl|rfl|rfl
  ·exact g0
  ·exact g1
  ·exact g2
  ·exact g3
  ·exact g4
  ·exact g5
  ·exact g6)
 have hb2:=HB2 w.heap.size w (lR _) hb0;simp only[J6,Nat.sub_zero,j4] at HR F2;clear HB2 F0 hb0 G0;generalize w.alloc (Cc (madeCells (J5 (Ag #[Bb false,Bb false,I Y 0,I Y 0,Bb false,Bb false,U nO 0 0])) (n * 7)) 61)=wA at *;have HNM:n<=1->j8 1 n=n:=λh=>Nat.min_eq_right h;have HM1:j8 1 n<=n:=X9 _ _;have HM2:1<=n->j8 1 n=1:=λh=>Nat.min_eq_left h;have m0:n=0\/1<=j8 1 n:=by by_cases h:n=0;exact .inl h;exact .inr (by rw[HM2 (by omega)];exact lR _)
 clear HNM HM2;generalize j8 1 n=m at *;go_enter Tryz.func98,Tryz.ntmps98;go_wp2_with (go_at_call 128;fail);refine HMU.out.mono ?_;rintro e w1 ⟨rfl,rfl⟩;clear HMU;go_wp2;clear HR HMK;go_loopw [8] (λi wr=>∃k:Nat,k<=n/\(n=0\/1<=k)/\i=I Y (k:Int)/\Filled wr w1.heap.size n k ⟨g,nO,0⟩/\Below w1.heap.size w1 wr) (λi _=>n - (intOf i).toNat)
 case atStart=>exact⟨m,HM1,m0,rfl,F2,hb2⟩
 case round=>
  clear F2 hb2 HM1 m0;obtain⟨k,hk,hk0,rfl,FK,BK⟩:=hrel;have FD:Filled wr.drew w1.heap.size n k ⟨g,nO,0⟩:=FK;have BD:=BK.drew;by_cases hlt:k < n
  ·have hk1:1<=k:=by omega
   have n0:(0:Int)<=(k:Int):=by omega
   have n1:(k:Int) < (n:Int):=by omega
   have n2:(k:Int)<=(n:Int):=by omega
   obtain⟨w3,HR,F3,HB3⟩:=FD.copy (P:=pG) 25 3 ⟨w1.heap.size,0,nO⟩ k n (n - k) (j8 k (n - k)) Tryz.underlying25 (by rw[hi];exact congrArg sO hz1) rfl (λj v hj=>by
    obtain⟨_,cs,c1,c2,c3⟩:=FD;have hj':=mK (j8 k (n - k)) k ⟨g,nO,0⟩ (Qx _ _) j v hj;rw[<-c3,List.getElem?_take] at hj';split at hj'
    ·rw[Addr.add_lit,j4]
     simp[Z0,c1,hj']
    ·cases hj')
   have B3:=HB3 w1.heap.size w1 (lR _) BD;have hm1:1<=j8 k (n - k):=Nat.le_min.2 ⟨hk1,by omega⟩;have hm2:j8 k (n - k)<=n - k:=X9 _ _;have HR':=aa HR;clear HR HB3 FK BK FD BD;generalize j8 k (n - k)=q at *;have HS1:∀wx,(Instr.sliceAt 25 (U (sO ⟨w1.heap.size,0,nO⟩) n n) (sO (I Y (k:Int))) nO nO).run pG wx=.ok (U (sO ⟨w1.heap.size,k * 7,nO⟩) (n - k) (n - k)) wx:=by
    intro wx;simp[go_sem];rw[if_pos (by omega),if_neg (by omega)]
   have HS2:∀wx,(Instr.sliceAt 25 (U (sO ⟨w1.heap.size,0,nO⟩) n n) nO (sO (I Y (k:Int))) nO).run pG wx=.ok (U (sO ⟨w1.heap.size,0,nO⟩) k n) wx:=by
    intro wx;simp[go_sem];intro h;omega
   go_upto_region 9 with fail
   refine am (S:=λ_=>True) [] (by kernel_rfl) trivial (λhHeld=> ?_);refine vZ 0 ?_ ?_;refine vZ 1 ?_ ?_;refine vZ 2 ?_ ?_;refine vZ 3 ?_ ?_;refine vZ 4 ?_ ?_;refine vZ 5 ?_ ?_;refine vZ 6 ?_ ?_;refine ai (i:=7) rfl (by kernel_rfl) (λK hK=> ?_);refine Lib.wp_copy_run _ _ _ 25 25 rfl _ _ rfl rfl HR'.out ?_;refine hK.out _ _ trivial (λhHeld=> ?_);clear hK K;refine sm ?_;refine vZ 8 ?_ ?_;refine vZ 9 ?_ ?_;refine aj (by kernel_rfl) ?_ _;clear HS1 HS2 HR';have EW:IntKind.i64.wrap ((k:Int)+(q:Int))=((k+q:Nat):Int):=by rw[IntKind.wrap_i64];omega
   rw[EW];clear EW;go_wp2;go_roundw
   case rel=>exact⟨k+q,by omega,.inr (by omega),by go_num,F3,B3⟩
   case measure=>simp[intOf];omega
  ·have n1:¬(k:Int) < (n:Int):=by omega
   have ek:k=n:=by omega
   subst ek;go_wp2;go_ret;exact⟨⟨_,rfl,(FK.gets hs0).mono λb h _=>by omega⟩,BK⟩
theorem sC (g:Gs)(hs0:g.s=[])(n:Nat)(h8:n<=8)(w:World):
  Calls pG 66 #[Ag #[Bb g.n,Bb g.sp.n,I Y g.sp.lo,I Y g.sp.hi,Bb g.t,Bb g.f,U nO 0 0],I Y (n:Int)] w λe w'=>(∃rs,e=Rt (U rs n n)/\GsIn (λb=>w.heap.size<=b) w' rs (j1 n g))/\Below w.heap.size w w':=by
 have hl0:g.s.length=0:=by rw[hs0];rfl
 have G1:=GuAt.new (w.alloc (Cc #[Bb g.n,Bb g.sp.n,I Y g.sp.lo,I Y g.sp.hi,Bb g.t,Bb g.f,U nO g.s.length 0] 61)) g nO 0;rw[hl0,zA] at G1;have HR:=aa (tW g hs0 n h8 _ _ G1);clear G1;have hb1:Below w.heap.size w ((w.alloc (Cc #[Bb g.n,Bb g.sp.n,I Y g.sp.lo,I Y g.sp.hi,Bb g.t,Bb g.f,U nO 0 0] 61)).alloc (Cc #[Bb g.n,Bb g.sp.n,I Y g.sp.lo,I Y g.sp.hi,Bb g.t,Bb g.f,U nO 0 0] 61)):=by go_grown
 go_enter Tryz.func66,Tryz.ntmps66;go_wp2_with (go_at_call 98;fail);refine HR.out.mono ?_;rintro e w2 ⟨⟨rs,rfl,GV⟩,hb2⟩;go_wp2;go_ret;exact⟨⟨rs,rfl,GV.mono λb h _=>lT hb1.size h⟩,hb1.trans (hb2.mono hb1.size)⟩
end
end Go.Proofs.YtmapdpcfanecdabGreat
