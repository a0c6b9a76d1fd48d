import Derived.Test.YtmapdpcfanecdabGreatDoorQ12
import Derived.Test.YtmapdpcfanecdabGreatDoorQ13
open List renaming length→X,drop_eq_getElem_cons→z6,foldl_append→J5,getElem?_append_right→J4,getElem?_eq_getElem→q5,getElem?_eq_none→x9,getElem?_set→j7,getElem_mem→gM,getElem_set_ne→x0,length→x6,length_append→x5,length_map→q8,length_replicate→q7,length_set→z8,map_append→q6,range→x4,replicate→j2,replicate_succ'→x7,take_of_length_le→j4,take_succ_eq_append_getElem→j8,zipWith→j5,zipWith_append→J0
open Array renaming size→R
open Go.World renaming heap→M,grownBy_alloc→j6,ownsRow_lit→j9,size_alloc→zA
open Go.IntKind renaming i64→Y
open Go.Ending renaming returned→Rt
open Go.Obj renaming cells→A
open Go.Proofs.Tryz renaming prog→pG,prog→f
open Go.RowKit.Below renaming heap_setCell→hSe,refl→bR
open Go.Value renaming agg→Ag,int→I,ownBlock→q9,pointer→Pp,slice→U,slice→j3,tuple→Tu,bool→O
open Int renaming eq_ofNat_of_zero_le→x8
open Nat renaming le_refl→lR,le_trans→lT,lt_of_lt_of_le→lL,zero_add→j0,zero_le→j1
open Option renaming none→nO,some→sO,some→z5,none→E,some→G
open Go.RowKit renaming Below→n4
open Go renaming Value→mh,World→C
open Bool renaming true→W5,false→d
set_option linter.all false
open Go.Proofs.Tryz
set_option maxHeartbeats 32000000
set_option maxRecDepth 100000
namespace Go.Proofs.YtmapdpcfanecdabGreatDoor
variable {B:Nat}{S:Nat->Prop}{w w1 W W4 w' W':C}{x:Pic}{V k F:Int}(bt:Bool){ls s vs:oA}{c:lI}{vc:Nat}{r:St}{ss fs:oA}{Z m fc:Nat}{h:Gs}{u:mh}{n:oA}(j:Gs->Gs->Gs){L:List Pic}(v:Nat)(RR:Gs->Gs->Prop)(a:List Gs){T cap b:Nat}{l:List Thg}
def nameW{α:Type}(x:α):∃z,RowKit.Hid (z=x):=⟨x,rfl⟩
variable {p:Prop}
section
open Go.RowKit
attribute [local go_sem ↓] Go.wp_at_zero Go.wp_at_succ
def dM(h:aA V F c=0):(1<=V/\V<=8)/\(0<=F/\F<=3)/\X c<=60:=by
 unfold aA at h;split at h
 .cases h
 .rename_i h3
  split at h
  .cases h
  .rename_i qA
   simp[btw] at h3;exact⟨⟨aa,aa⟩,⟨aa,aa⟩,aa⟩
def a8k (w:World)(ls:oA)(L:List Pic):Prop:=
 ∀i (h:i < X L),∃b off,ls=G ⟨b,off,E⟩/\b < R (M w)/\∃vs vc fs fc,(w.cell? ⟨b,off+i * 3,E⟩=G (O L[i].none)/\w.cell? ⟨b,off+i * 3+1,E⟩=G (U vs (X L[i].vq) vc)/\w.cell? ⟨b,off+i * 3+2,E⟩=G (U fs (X L[i].fq) fc))/\a4r w L[i] vs fs/\(X L[i].vq<=vc/\vc<=maxLen)/\(X L[i].fq<=fc/\fc<=maxLen)
def a8k.below(h:a8k w ls L)(r:n4 B w w')(s:R (M w)<=B):a8k w' ls L:=by
 intro i hi;obtain⟨b,o,e,u,g,vc,fs,fc,⟨N,m,l⟩,a,j⟩:=h i hi;exact⟨b,o,e,lL u r.size,g,vc,fs,fc,⟨by rw[r.cell (by simp only;omega)];exact N,by rw[r.cell (by simp only;omega)];exact m,by rw[r.cell (by simp only;omega)];exact l⟩,a.below r s,j⟩
def Ue (V F:Int)(c:lI)(L:List Pic)(k:Nat)(h:k < X L):cN V F c (L.drop k)=if aO V F c L[k]=0 then cN V F c (L.drop (k+1)) else aO V F c L[k]:=by
 rw[z6 h];rfl
end
section
open Go.RowKit Go
def a8f (S:Nat->Prop)(W:World)(pb:Nat)(L:List Pic):Prop:=∃cs,sT W pb cs/\X L * 3<=X cs/\∀i (h:i < X L),∃vs vc fs fc,(cs[i * 3]? =G (O L[i].none)/\cs[i * 3+1]? =G (U vs (X L[i].vq) vc)/\cs[i * 3+2]? =G (U fs (X L[i].fq) fc))/\a7d S W L[i] vs fs/\(X L[i].vq<=vc/\vc<=maxLen)/\(X L[i].fq<=fc/\fc<=maxLen)
def a8s (W:World)(db:Nat)(D:List Int):Prop:=∃cs,sT W db cs/\X D<=X cs/\∀i (h:i < X D),cs[i]? =G (I .i64 D[i])
section
variable {S:Nat->Prop} {W W':World} {pb db:Nat} {L:List Pic} {D:List Int}
def a8f.xs (h:a8f S W pb L):a8k W (G ⟨pb,0,E⟩) L:=λi hi=>by
 obtain⟨a,T,u,h⟩:=h;obtain⟨g,vc,fs,fc,⟨N,m,l⟩,t,hq⟩:=h i hi;refine⟨pb,0,rfl,T.2.1,g,vc,fs,fc,⟨?_,?_,?_⟩,t.at,hq⟩
 .rw[j0];exact T.1 _ _ N
 .rw[j0];exact T.1 _ _ m
 .rw[j0];exact T.1 _ _ l
def a8f.mono {S':Nat->Prop}(h:a8f S W pb L)(hs:∀b,S b->b < R (M W)->S' b):a8f S' W pb L:=by
 obtain⟨a,T,z,h⟩:=h;refine⟨a,T,z,λi hi=> ?_⟩;obtain⟨g,vc,fs,fc,N,t,hq⟩:=h i hi;exact⟨g,vc,fs,fc,N,t.mono hs,hq⟩
def a8f.far (h:a8f S W pb L)(t:W'.heap[pb]? =W.heap[pb]?)(hs:∀b,S b->b < R (M W)->W'.heap[b]? =W.heap[b]?)(u:R (M W)<=R (M W')):a8f S W' pb L:=by
 obtain⟨a,T,z,h⟩:=h;refine⟨a,T.same t u,z,λi hi=> ?_⟩;obtain⟨g,vc,fs,fc,N,t,hq⟩:=h i hi;exact⟨g,vc,fs,fc,N,(t.same hs u).mono λb r _=>r.1,hq⟩
def a8f.call (h:a8f S W pb L)(r:bl W W'):a8f S W' pb L:=h.far (r.block pb h.choose_spec.1.2.1) (λb _ T=>r.block b T) r.size
section
variable (h:a8s W db D)
def a8s.far(t:W'.heap[db]? =W.heap[db]?)(u:R (M W)<=R (M W')):a8s W' db D:=by
 obtain⟨a,T,h⟩:=h;exact⟨a,T.same t u,h⟩
def a8s.call(r:bl W W'):a8s W' db D:=h.far (r.block db h.choose_spec.1.2.1) r.size
def a8s.get{k:Nat}(H:k < X D):W.cell? ⟨db,k,E⟩=G (I Y D[k]):=by
 obtain⟨a,T,u,h⟩:=h;exact T.1 _ _ (h k H)
end
def a8f.cell (h:a8f S W pb L){k:Nat}(H:k < X L):∃vs vc fs fc,(W.cell? ⟨pb,k * 3,E⟩=G (O L[k].none)/\W.cell? ⟨pb,k * 3+1,E⟩=G (U vs (X L[k].vq) vc)/\W.cell? ⟨pb,k * 3+2,E⟩=G (U fs (X L[k].fq) fc))/\a7d S W L[k] vs fs/\(X L[k].vq<=vc/\vc<=maxLen)/\(X L[k].fq<=fc/\fc<=maxLen)/\pb < R (M W)/\∀j,W.frozen? ⟨pb,j,E⟩=false:=by
 obtain⟨a,T,u,h⟩:=h;obtain⟨vs,vc,fs,fc,⟨N,m,l⟩,t,Z,v⟩:=h k H;exact⟨vs,vc,fs,fc,⟨T.1 _ _ N,T.1 _ _ m,T.1 _ _ l⟩,t,Z,v,T.2⟩
def a8f.put (h:a8f S W pb L)(n:∀b,S b->b≠pb){k:Nat}(H:k < X L){y:Pic}{vs fs:oA}{vc fc:Nat}(g:a7d S W y vs fs)(Z:X y.vq<=vc/\vc<=maxLen)(v:X y.fq<=fc/\fc<=maxLen)(e:W'=bd W pb (k * 3) [O y.none,U vs (X y.vq) vc,U fs (X y.fq) fc]):
  a8f S W' pb (L.set k y)/\(∀q,q≠pb->W'.heap[q]? =W.heap[q]?)/\R (M W)<=R (M W')/\∀{B:Nat} {a:C},B<=pb->n4 B a W->n4 B a W':=by
 obtain⟨cs,T,u,h⟩:=h;have P:=bC T (k * 3) _ e au;refine⟨⟨_,P.cells,?_,λi hi=> ?_⟩,P.far,P.size,P.low⟩
 .simp[mj];omega
 .rw[z8] at hi
  by_cases j:k=i
  .subst j
   refine⟨vs,vc,fs,fc,?_,?_,?_,?_⟩
   .rw[List.getElem_set_self]
    simp only[mj,j7,z8];refine⟨?_,?_,?_⟩
    .rw[if_neg aa,if_neg aa,if_pos trivial,if_pos aa]
    .rw[if_neg aa,if_pos trivial,if_pos aa]
    .rw[if_pos trivial,if_pos aa]
   .simpa using(g.same (λb hb _=>P.far b (n b hb)) P.size).mono λb hb _=>hb.1
   .simpa using Z
   .simpa using v
  .obtain⟨r,s,K,z,⟨N,m,l⟩,t,hq⟩:=h i hi
   refine⟨r,s,K,z,?_,?_,?_⟩
   .rw[x0 j]
    refine⟨?_,?_,?_⟩
    .rw[<-N];simp only[mj,j7];repeat rw[if_neg aa]
    .rw[<-m];simp only[mj,j7];repeat rw[if_neg aa]
    .rw[<-l];simp only[mj,j7];repeat rw[if_neg aa]
   .rw[x0 j]
    exact(t.same (λb hb _=>P.far b (n b hb)) P.size).mono λb hb _=>hb.1
   .rw[x0 j];exact hq
def a8s.put (h:a8s W db D){k:Nat}{v:Int}(e:W'=bd W db k [I Y v])(H:k < X D):
  a8s W' db (D.set k v)/\(∀q,q≠db->W'.heap[q]? =W.heap[q]?)/\R (M W)<=R (M W')/\∀{B:Nat} {a:C},B<=db->n4 B a W->n4 B a W':=by
 obtain⟨cs,T,u,h⟩:=h;have P:=bC T k _ e au;refine⟨⟨_,P.cells,?_,λi hi=> ?_⟩,P.far,P.size,P.low⟩
 .simpa[mj] using u
 .rw[z8] at hi
  simp only[mj,j7,List.getElem_set];by_cases j:k=i
  .subst j
   rw[if_pos rfl,if_pos aa,if_pos rfl]
  .rw[if_neg j,if_neg j]
   exact h i hi
end
end
section
open Go.RowKit
def a9o (u v:Value):Prop:=v=u\/(∃a b,u=O a/\v=O b)\/(∃a b,u=I .i64 a/\v=I .i64 b)\/∃a b,u=.string a/\v=.string b
def a9o.trans{v t:mh}(h:a9o u v)(k:a9o v t):a9o u t:=by
 rcases h with rfl|⟨a,b,rfl,rfl⟩|⟨a,b,rfl,rfl⟩|⟨a,b,rfl,rfl⟩
 .exact k
 .rcases k with rfl|⟨c,y,e,rfl⟩|⟨c,y,e,-⟩|⟨c,y,e,-⟩
  .exact .inr (.inl ⟨_,_,rfl,rfl⟩)
  .exact .inr (.inl ⟨_,_,rfl,rfl⟩)
  .cases e
  .cases e
 .rcases k with rfl|⟨c,y,e,-⟩|⟨c,y,e,rfl⟩|⟨c,y,e,-⟩
  .exact .inr (.inr (.inl ⟨_,_,rfl,rfl⟩))
  .cases e
  .exact .inr (.inr (.inl ⟨_,_,rfl,rfl⟩))
  .cases e
 .rcases k with rfl|⟨c,y,e,-⟩|⟨c,y,e,-⟩|⟨c,y,e,rfl⟩
  .exact .inr (.inr (.inr ⟨_,_,rfl,rfl⟩))
  .cases e
  .cases e
  .exact .inr (.inr (.inr ⟨_,_,rfl,rfl⟩))
structure a7m (B:Nat) (w w':World):Prop where
 low:Below B w w'
 like:∀b o u,w.cell? ⟨b,o,E⟩=G u->∃v,w'.cell? ⟨b,o,E⟩=G v/\a9o u v
 thw:∀b,b < w.heap.size->Thw w b->Thw w' b
section
variable {S:Nat->Prop} {B:Nat} {w w':World}
def a7m.refl (B:Nat)(w:C):a7m B w w:=⟨bR _ _,λ_ _ u h=>⟨u,h,.inl rfl⟩,λ_ _ h=>h⟩
def a7m.trans {z:C}(h:a7m B w w')(k:a7m B w' z):a7m B w z:=by
 refine⟨h.low.trans k.low,λb o u P=> ?_,λb r K=>k.thw b (lL r h.low.size) (h.thw b r K)⟩;obtain⟨v,Z,j⟩:=h.like b o u P;obtain⟨t,K,l⟩:=k.like b o v Z;exact⟨t,K,j.trans l⟩
def a7m.call (r:bl w w')(s:B<=R (M w)):a7m B w w':=⟨r.mono s,λb o u P=>⟨u,by rw[r.cell (World.block_lt_of_cell? w ⟨b,o,E⟩ P)];exact P,.inl rfl⟩,λb T K=>K.same (r.block b T)⟩
def a7m.set {b o:Nat}{u v:mh}(T:w.cell? ⟨b,o,E⟩=G u)(z:a9o u v)(s:B<=b):a7m B w (w.setCell ⟨b,o,E⟩ v):=by
 refine⟨(bR _ _).setCell s v,λg h a P=> ?_,λg r K j=>by rw[World.frozen?_setCell];exact K j⟩;by_cases e:(⟨g,h,E⟩:Addr)=⟨b,o,E⟩
 .rw[e] at P |-
  rw[T] at P;cases P;exact⟨v,World.cell?_setCell_same _ _ _ T,z⟩
 .exact⟨a,by rw[World.cell?_setCell_other _ _ _ _ (Ne.symm e)];exact P,.inl rfl⟩
section
variable (h:a7m B w w'){b o:Nat}
def a7m.slice{n c:Nat}{s:oA}(T:w.cell? ⟨b,o,E⟩=G (U s n c)):w'.cell? ⟨b,o,E⟩=G (U s n c):=by
 obtain⟨v,Z,rfl|⟨_,_,e,-⟩|⟨_,_,e,-⟩|⟨_,_,e,-⟩⟩:=h.like _ _ _ T
 .exact Z
 .cases e
 .cases e
 .cases e
def a7m.bool{a:Bool}(T:w.cell? ⟨b,o,E⟩=G (O a)):∃r,w'.cell? ⟨b,o,E⟩=G (O r):=by
 obtain⟨v,Z,rfl|⟨_,_,e,rfl⟩|⟨_,_,e,-⟩|⟨_,_,e,-⟩⟩:=h.like _ _ _ T
 .exact⟨_,Z⟩
 .exact⟨_,Z⟩
 .cases e
 .cases e
def a7m.int{a:Int}(T:w.cell? ⟨b,o,E⟩=G (I Y a)):∃r,w'.cell? ⟨b,o,E⟩=G (I Y r):=by
 obtain⟨v,Z,rfl|⟨_,_,e,-⟩|⟨_,_,e,rfl⟩|⟨_,_,e,-⟩⟩:=h.like _ _ _ T
 .exact⟨_,Z⟩
 .cases e
 .exact⟨_,Z⟩
 .cases e
def a7m.string{a:ByteArray}(T:w.cell? ⟨b,o,E⟩=G (.string a)):∃r,w'.cell? ⟨b,o,E⟩=G (.string r):=by
 obtain⟨v,Z,rfl|⟨_,_,e,-⟩|⟨_,_,e,-⟩|⟨_,_,e,rfl⟩⟩:=h.like _ _ _ T
 .exact⟨_,Z⟩
 .cases e
 .cases e
 .exact⟨_,Z⟩
end
def a9i (B:Nat)(w:World)(ss:oA)(n:Nat):Prop:=∀k,k < n->∃b off z,ss=G ⟨b,off,E⟩/\B<=b/\b < R (M w)/\Thw w b/\w.cell? ⟨b,off+k,E⟩=G (I .i64 z)
def a9l (B:Nat)(w:World)(rs:oA)(n:Nat):Prop:=∀k,k < n->∃b off a ss m c,rs=G ⟨b,off,E⟩/\B<=b/\b < R (M w)/\Thw w b/\w.cell? ⟨b,off+k * 7,E⟩=G (O a)/\w.cell? ⟨b,off+k * 7+6,E⟩=G (U ss m c)/\(m<=maxLen/\a9i B w ss m)
def a9p (B:Nat)(w:World)(fs:oA)(n:Nat):Prop:=∀k,k < n->∃b off rs m c,fs=G ⟨b,off,E⟩/\b < R (M w)/\w.cell? ⟨b,off+k,E⟩=G (U rs m c)/\(m<=maxLen/\a9l B w rs m)
def a9g (B:Nat)(w:World)(vs:oA)(n:Nat)(fs:oA)(m:Nat):Prop:=a9l B w vs n/\a9p B w fs m
section
variable (h:a7m B w w')
def a9i.soft{ss:oA}{n:Nat}(hi:a9i B w ss n):a9i B w' ss n:=λk H=>by
 obtain⟨b,o,z,e,s,r,K,T⟩:=hi k H;obtain⟨a,u⟩:=h.int T;exact⟨b,o,a,e,s,lL r h.low.size,h.thw b r K,u⟩
def a9l.soft{rs:oA}{n:Nat}(hi:a9l B w rs n):a9l B w' rs n:=λk H=>by
 obtain⟨b,o,a,p,m,c,e,s,r,K,N,j,Q,hs⟩:=hi k H;obtain⟨l,g⟩:=h.bool N;exact⟨b,o,l,p,m,c,e,s,lL r h.low.size,h.thw b r K,g,h.slice j,Q,hs.soft h⟩
def a9p.soft{fs:oA}{n:Nat}(hi:a9p B w fs n):a9p B w' fs n:=λk H=>by
 obtain⟨b,o,Z,m,c,e,r,T,Q,q⟩:=hi k H;exact⟨b,o,Z,m,c,e,lL r h.low.size,h.slice T,Q,q.soft h⟩
def a9g.soft{vs fs:oA}{n m:Nat}(t:a9g B w vs n fs m):a9g B w' vs n fs m:=⟨t.1.soft h,t.2.soft h⟩
end
def a9i.mono {C:Nat}(g:C<=B){ss:oA}{n:Nat}(hi:a9i B w ss n):a9i C w ss n:=λk H=>by
 obtain⟨b,o,z,e,s,h⟩:=hi k H;exact⟨b,o,z,e,lT g s,h⟩
def a9l.mono {C:Nat}(g:C<=B){rs:oA}{n:Nat}(hi:a9l B w rs n):a9l C w rs n:=λk H=>by
 obtain⟨b,o,a,p,m,c,e,s,r,K,N,j,Q,hs⟩:=hi k H;exact⟨b,o,a,p,m,c,e,lT g s,r,K,N,j,Q,hs.mono g⟩
def a9g.mono {C:Nat}{vs fs:oA}{n m:Nat}(t:a9g B w vs n fs m)(g:C<=B):a9g C w vs n fs m:=⟨t.1.mono g,λk H=>by
 obtain⟨b,o,Z,m,c,e,r,T,Q,q⟩:=t.2 k H;exact⟨b,o,Z,m,c,e,r,T,Q,q.mono g⟩⟩
def a7c.g {ss:oA}{l:List Int}(h:a7c S w ss l)(n:∀b,S b->B<=b):a9i B w ss (X l):=λk H=>by
 rcases h with rfl|⟨b,o,e,r,u,T⟩
 .cases H
 .exact⟨b,o,_,e,n b r,u.1,u.2,T k H⟩
def a8b.g {ls:oA}{L:List Gs}(h:a8b S w ls L)(n:∀b,S b->B<=b):a9l B w ls (X L):=λk H=>by
 obtain⟨b,o,e,r,p,g,⟨⟨a,-,-,-,-,-,j⟩,u⟩,l,t,q⟩:=h k H;exact⟨b,o,_,p,_,g,e,n b r.1,u,r.2,a,j,lT t q,l.g n⟩
def a7d.g {x:Pic}{vs fs:oA}(h:a7d S w x vs fs)(n:∀b,S b->B<=b):a9g B w vs (X x.vq) fs (X x.fq):=by
 refine⟨h.in.1.g n,λk H=> ?_⟩;obtain⟨b,o,e,-,r,Z,a,m,l,t,q⟩:=h.in.2 k H;exact⟨b,o,Z,_,a,e,r,m,lT l t,q.g n⟩
end
end
variable {g:Gs}
section
open Go.RowKit
attribute [local go_sem ↓] Go.wp_at_zero Go.wp_at_succ
def a3A {α:Type}(y:α){n:Nat}{R:Nat->α->Prop}(h:∀i,i < n->∃q,R i q):∃f:Nat->α,∀i,i < n->R i (f i):=⟨λi=>if hi:i < n then Classical.choose (h i hi) else y,λi hi=>by simp only[dif_pos hi];exact Classical.choose_spec (h i hi)⟩
def a9p.heads(h:a9p B w fs m):∃hs:List mh,X hs=m/\(fs=none->hs=[])/\(∀g,fs=G g->∀j u,hs[j]? =G u->w.cell? (g.add j)=G u)/\∀u∈hs,∃rs n c,u=U rs n c/\n<=maxLen/\a9l B w rs n:=by
 obtain⟨f,v⟩:=a3A (R:=λk u=>∃b o rs n c,u=j3 rs n c/\fs=G ⟨b,o,E⟩/\w.cell? ⟨b,o+k,E⟩=G u/\n<=maxLen/\a9l B w rs n) Value.nilIface λk H=>by
  obtain⟨b,o,rs,n,c,e,r,T,Q,q⟩:=h k H;exact⟨_,b,o,rs,n,c,rfl,e,T,Q,q⟩
 refine⟨(x4 m).map f,ae,λe=> ?_,λg e j u s=> ?_,λu P=> ?_⟩
 .cases m with
  |zero=>rfl
  |succ m=>
   obtain⟨b,o,rs,n,c,-,y,-⟩:=v 0 aa;rw[e] at y;cases y
 .have z:j < m:=by
   apply Decidable.byContradiction;intro a;rw[x9 au] at s;cases s
  obtain⟨b,o,rs,n,c,-,y,T,-⟩:=v j z;rw[e] at y;cases y;have N:f j=u:=by simpa[z] using s
  rw[<-N];have K:(⟨b,o,E⟩:Addr).add j=⟨b,o+j,E⟩:=By;rw[K];exact T
 .obtain⟨k,H,rfl⟩:=List.mem_map.1 P
  obtain⟨b,o,rs,n,c,Z,-,-,l,t⟩:=v k (List.mem_range.1 H);exact⟨rs,n,c,Z,l,t⟩
def Tryz.info_rowX:(Tryz.prog.info? 25).map (λi=>(i.zero,i.size,i.bytes))=G (G (U E 0 0),1,24):=ac
def yR (B:Nat)(nn:Bool)(vs:oA)(vn vc:Nat)(fs:oA)(fn fc:Nat)(w:C)(t:a9g B w vs vn fs fn)(s:B<=R (M w))(Z:vn<=maxLen)(bb:fn<=1000):
  Calls f 37 #[Ag #[O nn,U vs vn vc,U fs fn fc]] w λe w'=>(∃v,e=Rt v)/\a7m B w w':=by
 obtain⟨tk,H,a4,a6,a5⟩:=info_parts Tryz.info_rowX;have B0:n4 (R (M w)) w (w.alloc (A #[O nn,U vs vn vc,U fs fn fc] 28)):=ai;have P0:sT (w.alloc (A #[O nn,U vs vn vc,U fs fn fc] 28)) (R (M w)) [O nn,U vs vn vc,U fs fn fc]:=sT.new w _ [_,_,_];have HP:=ag (t.soft (a7m.call B0 s));clear t;go_enter func37,ntmps37;go_upto_region 1 with fail
 generalize w.alloc _=w1 at *;have z1:=B0.size;have ak:n4 (R (M w1)) w1 (w1.alloc (A #[U vs vn vc] 25)):=ai;obtain⟨hs,m,l,h3,h4⟩:=HP.out.2.heads;have az:=j9 (base:=R (M w1)) (e:=25) (size:=1) w1 #[U vs vn vc] 1 ae an rfl;have P1:=P0.call ak;have p1:=P0.1 1 _ rfl;have p2:=P1.1 2 _ rfl;have mx:(1000:Nat)+1<=maxLen:=an;go_wp2_with (at_builtin;refine bn _ rfl _ _ 26 rfl (R (M w1)) 25 tk (U E 0 0) 1 24 underlying26 H a4 a6 a5 rfl an _ _ _ rfl az fs fn fc hs rfl ?qc1 ?qc0 ?qc2 ?qc3 ?qc4 ?qc5 ?qc6 ?_);(try case qc1=>omega)
 case qc0=>exact λe=>by rw[<-m,l e];rfl
 case qc2=>exact λad e j u hj=>Lib.cell?_alloc_some _ (h3 ad e j u hj)
 case qc3=>intro u hu;obtain⟨rs,n,c,rfl,-⟩:=h4 u hu;rfl
 case qc4=>omega
 case qc5=>omega
 (try case qc6=>simp);intro v' w3 af ah bf;have ay:bl w1 w3:=ak.grown ah ae (λk H=>by cases H;exact lR _);have SW:Hid (a7m B w w3):=a7m.call (B0.trans (ay.mono z1)) s;have ax:=a7m.call ay (lT s z1);rcases af.2 with⟨_,h⟩|⟨ab,cp,bm,rfl,-⟩
 .omega
 obtain⟨N,hN⟩:∃N,N=1+fn:=⟨_,rfl⟩;rw[<-hN] at af |-;obtain⟨ao,al⟩:∃o:Nat,o=0:=⟨_,rfl⟩;have HH:Hid (∀i,i < N->∃rs n c,w3.cell? ⟨ab,ao+i,E⟩=G (U rs n c)/\n<=maxLen/\a9l B w3 rs n):=λi hi=>by
  have T:=af.cellAt i aa;rw[al,j0];cases i with
  |zero=>exact⟨vs,vn,vc,T,Z,HP.out.1.soft ax⟩
  |succ i=>
   have hl:i < X hs:=aa;obtain⟨rs,n,c,e,h5,h6⟩:=h4 _ (gM hl);rw[List.getElem?_cons_succ,q5 hl,e] at T;exact⟨rs,n,c,T,h5,h6.soft ax⟩
 rw[<-al];have bv:N<=1001:=aa;clear al hN af ah bf m l h3 h4 az ak P0 P1 p1 p2 HP ax ay B0 bb H a4 a6 a5;have mx:=iT;go_wp2;go_loopw [3] (λi wr=>∃k:Nat,k<=N/\i=I Y k/\a7m B w3 wr) (λi _=>N - (intOf i).toNat)
 case atStart=>exact⟨0,j1 _,rfl,a7m.refl _ _⟩
 case round=>
  obtain⟨k,H,rfl,SR⟩:=hrel;by_cases bg:k < N;rotate_left
  .have n1:¬(k:Int) < (N:Int):=by omega
   go_wp2;first|go_end0|refine bodyPost_ret (results_none rfl _ _ _) rfl ?_
   exact⟨⟨_,rfl⟩,SW.out.trans SR⟩
  have n0:=bG;have n1:(k:Int) < (N:Int):=aa;obtain⟨rs,n,c,T,hm,hr⟩:=HH.out k bg;have HC:=ag T;have HR:=ag hr;clear T hr;generalize wr=wA at *;clear wr;go_wp2;go_loopw [4] (λi wr=>∃q:Nat,q<=n/\i=I Y q/\a7m B w3 wr) (λi _=>n - (intOf i).toNat)
  case atStart=>exact⟨0,j1 _,rfl,SR⟩
  case round=>
   clear SR wA;obtain⟨q,hq,rfl,SR⟩:=hrel;have c0:=SR.slice HC.out;by_cases a8:q < n;rotate_left
   .have m1:¬(q:Int) < (n:Int):=by omega
    go_wp2;go_roundw
    case rel=>exact⟨k+1,aa,aJ,SR⟩
    case measure=>exact aK
   have m0:=fO;have m1:(q:Int) < (n:Int):=aa;obtain⟨b,ar,a,ss,sn,sc,e,a2,a0,a3,ha,h6,bt,a1⟩:=HR.out q a8;subst e;have HA:=ag ha;have H6:=ag h6;have be:=ag a1;have ap:=ag (And.intro a2 (And.intro a0 a3));clear ha h6 a1 a2 a0 a3;generalize wr=wA at *;clear wr;go_wp2;clear c0;go_loopw [5] (λi wr=>∃p:Nat,p<=sn/\i=I Y p/\a7m B w3 wr) (λi _=>sn - (intOf i).toNat)
   case atStart=>exact⟨0,j1 _,rfl,SR⟩
   case round=>
    clear SR wA;obtain⟨p,t,rfl,SR⟩:=hrel;have c0:=SR.slice HC.out;have c6:=SR.slice H6.out;by_cases ba:p < sn
    .have p0:(0:Int)<=(p:Int):=by omega
     have p1:(p:Int) < (sn:Int):=aa;obtain⟨g,so,z,e,bc,bs,a9,hz⟩:=(be.out.soft SR) p ba;subst e;have hf:=a9 (so+p);have SX:=ag (SR.trans (a7m.set (v:=I Y (-7)) hz (.inr (.inr (.inl ⟨_,_,rfl,rfl⟩))) bc));go_wp2;go_roundw
     case rel=>exact⟨p+1,aa,aJ,SX.out⟩
     case measure=>exact aK
    .have p1:¬(p:Int) < (sn:Int):=by omega
     have zB:=lT s (lT SW.out.low.size SR.low.size);have SD:=SR.trans (a7m.call ((bR (R (M wr)) wr).drew) zB);have d0:=SD.slice HC.out;obtain⟨r,am⟩:=SD.bool HA.out;have hf:=SD.thw b ap.out.2.1 ap.out.2.2 (ar+q * 7);have SX:=ag (SD.trans (a7m.set (v:=O (!r)) am (.inr (.inl ⟨_,_,rfl,rfl⟩)) ap.out.1));go_wp2;clear c0 c6;refine aC (S:=(λy=>y.cell? ⟨ab,ao+k,E⟩=G (U (G ⟨b,ar,E⟩) n c)/\y.cell? ⟨b,ar+q * 7,E⟩=G (O r))) [16] ac ⟨d0,am⟩ (λa7=> ?_);clear SD;generalize wr.drew=wq at *;refine QQ ?_;refine QS ?_;refine XH ?_;refine aM (i:=16) rfl ac ac (λK hK=> ?_);go_simp;refine hK.out _ _ ?_;clear hK K;refine sm ?_;refine aB ac ?_ _;clear d0 am hf;go_wp2;go_roundw
     case rel=>exact⟨q+1,aa,aJ,SX.out⟩
     case measure=>exact aK
def Ti(f:Nat)(s:oA)(c:lI)(cap:Nat)(w:C)(a:v<=8)(t:f<=3)(o:X c<=60):
  Calls pG 69 #[pv (v:Int) (f:Int) s c cap] w λe w'=>a3i (R (M w)) w' e (bK (v:Int) (f:Int) c)/\bl w w':=by
 have a6:=Nn;rw[a6];clear a6;obtain⟨ti,hi,y,ax,ar⟩:=lH;obtain⟨tk,hk,T,bz,bg⟩:=rq;have HN:=tz;have ap:n4 (R (M w)) w (((w.alloc (A #[I Y (v:Int),I Y (f:Int),U s (X c) cap] 24)).alloc (A #[O d,U E 0 0,U E 0 0] 28)).alloc (A #[O d,U E 0 0,U E 0 0] 28)):=ai;have P0:=(a7w.new w (v:Int) (f:Int) s c cap).call (w':=(((w.alloc (A #[I Y (v:Int),I Y (f:Int),U s (X c) cap] 24)).alloc (A #[O d,U E 0 0,U E 0 0] 28)).alloc (A #[O d,U E 0 0,U E 0 0] 28))) ai;have A0:=(X3.new (w.alloc (A #[I Y (v:Int),I Y (f:Int),U s (X c) cap] 24)) 28 (O d) (U E 0 0) (U E 0 0)).call (w':=(((w.alloc (A #[I Y (v:Int),I Y (f:Int),U s (X c) cap] 24)).alloc (A #[O d,U E 0 0,U E 0 0] 28)).alloc (A #[O d,U E 0 0,U E 0 0] 28))) ai;have Z0:=X3.new ((w.alloc (A #[I Y (v:Int),I Y (f:Int),U s (X c) cap] 24)).alloc (A #[O d,U E 0 0,U E 0 0] 28)) 28 (O d) (U E 0 0) (U E 0 0);have z0:R (M w)+1+1+1<=R (M (((w.alloc (A #[I Y (v:Int),I Y (f:Int),U s (X c) cap] 24)).alloc (A #[O d,U E 0 0,U E 0 0] 28)).alloc (A #[O d,U E 0 0,U E 0 0] 28))):=ae;rw[zA] at A0;rw[zA,zA] at Z0;go_enter func69,ntmps69;go_upto_region 2 with fail
 generalize (((w.alloc (A #[I Y (v:Int),I Y (f:Int),U s (X c) cap] 24)).alloc (A #[O d,U E 0 0,U E 0 0] 28)).alloc (A #[O d,U E 0 0,U E 0 0] 28))=w1 at *;go_wp2;go_loopw [4] (λi wr=>∃(k:Nat) (g:oA) (vc:Nat) (l:List Gc),k<=v/\i=I Y k/\a7w wr (R (M w)) (v:Int) (f:Int) s c cap/\X3 wr (R (M w)+1) (O d) (U E 0 0) (U E 0 0)/\X3 wr (R (M w)+1+1) (O d) (U g (X l) vc) (U E 0 0)/\a8i wr (R (M w)+1+1+1) (U g (X l) vc) l/\Hid (l.map Gc.g=j2 k dt)/\bl w wr/\R (M w)+1+1+1<=R (M wr)) (λi _=>v - (intOf i).toNat)
 case atStart=>exact⟨0,E,0,[],j1 _,rfl,P0,A0,Z0,a8i.nil _ _,rfl,ap,z0⟩
 case round=>
  obtain⟨k,g,vc,l,b5,rfl,PR,AR,ZR,P,HL,BR,zr⟩:=hrel;clear P0 A0 Z0 ap z0;obtain⟨⟨p0,p1,p2⟩,pz⟩:=id PR;have LL:Hid (X l=k):=Vy;by_cases xy:k < v
  .have n1:(k:Int) < (v:Int):=aa;go_wp2_with fail;refine(HN.out _).mono ?_;rintro e w2 ⟨rfl,xj⟩;clear p0 p1 p2;have xp:=Pv;have G3:a7b (w2.alloc (A #[O W5,O W5,I Y 0,I Y 0,O d,O d,U E 0 0] 91)) (R (M w2)) 0 dt E 0:=a7b.new w2 dt E 0;have ad:=vU;go_upto_region 7 with fail
   generalize w2.alloc (A #[O W5,O W5,I Y 0,I Y 0,O d,O d,U E 0 0] 91)=w3 at *;generalize (R (M w2))=gb at *;have P3:=PR.call ad;have A3:=AR.call ad;have Z3:=ZR.call ad;have S3:=P.call ad;have B3:=BR.trans (ad.mono BR.size);have z3:R (M w)+1+1+1<=R (M w3):=lT zr ad.size;clear PR AR ZR P BR zr ad xj xp;obtain⟨⟨y0,y1,y2⟩,yz,yf⟩:=id Z3;obtain⟨⟨g0,H,g2,g3,g4,g5,g6⟩,gz⟩:=id G3;simp only[dt,List.length_nil,j0] at g0 H g2 g3 g4 g5 g6;have S4:=S3.call (w':=w3.alloc (A #[O W5,O W5,I Y 0,I Y 0,O d,O d,U E 0 0] 91)) ai;go_wp2_with (at_builtin;refine bn _ rfl _ _ 25 rfl (R (M w)+1+1+1) 91 ti (Ag #[O d,O d,I Y 0,I Y 0,O d,O d,U E 0 0]) 7 64 underlying25 hi y ax ar rfl an _ _ _ rfl S4.1 (G ⟨R (M w3),0,E⟩) 1 1 (bJ ⟨dt,E,0⟩) rfl rfl (λh=>bU) ?qa2 (eE _) ?qa4 ?qa5 ?qa6 ?_);(try (case qa2=>exact rG w3 ⟨dt,E,0⟩ #[O W5,O W5,I Y 0,I Y 0,O d,O d,U E 0 0] _ rfl))
   case qa4=>unfold maxLen;have:=LL.out;omega
   case qa5=>have:=LL.out;omega
   (try (case qa6=>first|omega|(rw[zA];omega)|(simp;omega)|simp));intro n w4 z xJ xY;have S5:=S4.grown (x:=⟨dt,E,0⟩) ⟨.inl rfl,lR _,by unfold maxLen;simp⟩ z xJ iB;have ab:n4 (R (M w)+1+1+1) w3 w4:=((bR _ w3).alloc z3 _).grown xJ au (λk hk=>(aU S4.1 hk).2);obtain⟨bt,b0,rfl,-,-,-⟩:=S5.in;clear z xJ xY S4 S3 y0 y1 y2 yz yf g0 H g2 g3 g4 g5 g6 G3;have P4:a7w w4 (R (M w)) (v:Int) (f:Int) s c cap:=P3.low ab aa;have A4:X3 w4 (R (M w)+1) (O d) (U E 0 0) (U E 0 0):=A3.same (ab.block _ aa) ab.size;have Z4:X3 w4 (R (M w)+1+1) (O d) (U g (X l) vc) (U E 0 0):=Z3.same (ab.block _ aa) ab.size;have B4:=B3.trans (ab.mono aa);have z4:R (M w)+1+1+1<=R (M w4):=lT z3 ab.size;clear P3 A3 Z3 B3 z3 ab;obtain⟨⟨y0,y1,y2⟩,yz,yf⟩:=id Z4;have b8:=yf 1;clear yf;go_wp2;go_roundw
   case rel=>exact⟨k+1,bt,b0,l++[⟨dt,E,0⟩],aa,aJ,P4.far aw _,A4.far aw _,by rw[x5];exact Z4.put1 _,S5.old (BU aw _).1 (BU aw _).2 (B:=R (M w)+1+1+1),K5,B4.setCell aw _,AQ⟩
   case measure=>exact aK
  .have n1:¬(k:Int) < (v:Int):=by omega
   have ek:k=v:=aa;obtain⟨b7,ca,e0,K,q,al⟩:=P.in;cases e0;have LV:Hid (X l=v):=by show _=_;rw[LL.out,ek]
   rw[HL.out,ek] at al;have GV:a8b (λb=>R (M w)+1+1+1<=b/\b < R (M wr)) wr g (j2 v dt):=al.mono λb h1 h2=>⟨h1,h2⟩;have bm:Hid (X l<=vc/\vc<=maxLen):=⟨K,q⟩;clear al P LL HL K q;have zn:R (M w)+1+1+1<=R (M wr):=zr;generalize hN:R (M wr)=N at *;have HNN:=ag hN;clear hN;go_wp2;clear p0 p1 p2;go_loopw [6] (λi wx=>∃(k:Nat) (fs:oA) (fc:Nat) (L:List Rw),k<=X c/\i=I Y k/\a7w wx (R (M w)) (v:Int) (f:Int) s c cap/\X3 wx (R (M w)+1) (O d) (U E 0 0) (U E 0 0)/\X3 wx (R (M w)+1+1) (O d) (U g (X l) vc) (U fs (X L) fc)/\a8t wx N (U fs (X L) fc) L/\Hid (L.map Rw.l=j2 k (j2 f a4q))/\a8b (λb=>R (M w)+1+1+1<=b/\b < N) wx g (j2 v dt)/\bl w wx/\N<=R (M wx)) (λi _=>X c - (intOf i).toNat)
   case atStart=>exact⟨0,E,0,[],j1 _,rfl,PR,AR,ZR,a8t.nil _ _,rfl,GV,BR,KE⟩
   case round=>
    clear PR AR ZR GV BR zr HNN;obtain⟨k2,fs,fc,L,b4,rfl,PR,AR,ZR,FR,HL,GV,BR,zr⟩:=hrel;generalize wr=w6 at *;clear wr;have LL:Hid (X L=k2):=Vy;obtain⟨⟨p0,p1,p2⟩,pz⟩:=id PR;by_cases b1:k2 < X c
    .have n2:(k2:Int) < (X c:Int):=by omega
     go_wp2;clear p0 p1 p2;go_loopw [7,8] (λr j wo=>∃(m:Nat) (Z:oA) (rc:Nat) (lr:List Gc),m<=f/\r=U Z (X lr) rc/\j=I Y m/\bl w6 wo/\a8i wo (R (M w6)) (U Z (X lr) rc) lr/\Hid (lr.map Gc.g=j2 m a4q)) (λ_ j _=>f - (intOf j).toNat)
     case atStart=>exact⟨0,E,0,[],j1 _,rfl,rfl,bR _ _,a8i.nil _ _,rfl⟩
     case round=>
      obtain⟨m,Z,rc,lr,Q,rfl,rfl,xL,P,HM⟩:=hrel;have LM:Hid (X lr=m):=by show _=_;have:=congrArg x6 HM.out;simpa using this
      obtain⟨⟨p0,p1,p2⟩,pz⟩:=id (PR.call xL);by_cases b2:m < f
      .have m1:(m:Int) < (f:Int):=by omega
       go_wp2_with fail;refine(HN.out _).mono ?_;rintro e w7 ⟨rfl,ao⟩;clear p0 p1 p2;have S7:=(P.call ao).call (w':=w7.alloc (A #[O d,O W5,I Y 0,I Y 0,O d,O d,U E 0 0] 91)) ai;have ah:=xL.trans (ao.mono xL.size);have be:R (M w6)<=R (M w7):=ah.size;go_wp2_with (at_builtin;refine bn _ rfl _ _ 25 rfl (R (M w6)) 91 ti (Ag #[O d,O d,I Y 0,I Y 0,O d,O d,U E 0 0]) 7 64 underlying25 hi y ax ar rfl an _ _ _ rfl S7.1 (G ⟨R (M w7),0,E⟩) 1 1 (bJ ⟨a4q,E,0⟩) rfl rfl (λh=>bU) ?qb2 (eE _) ?qb4 ?qb5 ?qb6 ?_);(try (case qb2=>exact rG w7 ⟨a4q,E,0⟩ #[O d,O W5,I Y 0,I Y 0,O d,O d,U E 0 0] _ rfl))
       case qb4=>unfold maxLen;have:=LM.out;omega
       case qb5=>have:=LM.out;omega
       (try (case qb6=>first|omega|(rw[zA];omega)|(simp;omega)|simp));intro n w8 z xJ xY;have S8:=S7.grown (x:=⟨a4q,E,0⟩) ⟨.inl rfl,lR _,by unfold maxLen;simp⟩ z xJ iB;have bb:bl w6 w8:=(ah.alloc be _).grown xJ au (λk hk=>(aU S7.1 hk).2);obtain⟨a9,bs,rfl,-,-,-⟩:=S8.in;clear z xJ xY S7 P ao xL ah;go_wp2;go_roundw
       case rel=>exact⟨m+1,a9,bs,lr++[⟨a4q,E,0⟩],aa,sZ,aJ,bb,S8,by show _=_;rw[q6,HM.out,x7];rfl⟩
       case measure=>exact aK
      .have m1:¬(m:Int) < (f:Int):=by omega
       have em:m=f:=aa;obtain⟨b6,b3,e0,K,q,GR⟩:=P.in;cases e0;rw[HM.out,em] at GR;have a3:Hid (X lr=X (j2 f a4q)):=by show _=_;rw[LM.out,em,q7]
       have A9:=AR.call xL;have Z9:=ZR.call xL;have F9:=FR.call xL;have P9:=PR.call xL;have V9:=GV.call xL;have B9:=BR.trans (xL.mono BR.size);have z9:=Fk;have RX:Ai (λb=>N<=b/\(j3 fs (X L) fc).ownBlock≠G b) wr ⟨Z,rc,j2 f a4q⟩:=⟨GR.mono λb h1 _=>⟨lT zr h1,λe=>by have:=(aU FR.1 e).1;omega⟩,by rw[a3.out] at K;exact K,q⟩
       clear AR ZR FR PR GV BR P GR xL zr K q em LM HM p0 p1 p2;generalize wr=w9 at *;clear wr;obtain⟨⟨y0,y1,y2⟩,yz,yf⟩:=id Z9;obtain⟨⟨p0,p1,p2⟩,pz⟩:=id P9;have jB:=F9.call (w':=w9.alloc (A #[U Z (X lr) rc] 25)) ai;have a4:Ai (λb=>N<=b/\(j3 fs (X L) fc).ownBlock≠G b) (w9.alloc (A #[U Z (X lr) rc] 25)) ⟨Z,rc,j2 f a4q⟩:=⟨RX.1.call ai,RX.2⟩;go_wp2_with (at_builtin;refine bn _ rfl _ _ 26 rfl N 25 tk (U E 0 0) 1 24 underlying26 hk T bz bg rfl an _ _ _ rfl jB.1 (G ⟨R (M w9),0,E⟩) 1 1 [U Z (X lr) rc] rfl rfl (λh=>bU) ?qc2 s8 ?qc4 ?qc5 ?qc6 ?_);(try (case qc2=>exact Hp w9 _ _))
       case qc4=>unfold maxLen;have:=LL.out;omega
       case qc5=>have:=LL.out;omega
       (try (case qc6=>first|omega|(rw[zA];omega)|(simp;omega)|simp));intro n xM z xJ xY;rw[a3.out] at z;have ay:=jB.grown (x:=⟨Z,rc,j2 f a4q⟩) a4 z xJ iB;have xN:=Ry;obtain⟨bc,bf,rfl,-,-,-⟩:=ay.rows;clear z xJ xY jB F9 a4 RX y0 y1 y2 yz yf p0 p1 p2;have P4:a7w xM (R (M w)) (v:Int) (f:Int) s c cap:=P9.low xN aa;have A4:X3 xM (R (M w)+1) (O d) (U E 0 0) (U E 0 0):=A9.same (xN.block _ aa) xN.size;have Z4:X3 xM (R (M w)+1+1) (O d) (U g (X l) vc) (U fs (X L) fc):=Z9.same (xN.block _ aa) xN.size;have V4:a8b (λb=>R (M w)+1+1+1<=b/\b < N) xM g (j2 v dt):=V9.same (λb hS _=>xN.block b hS.2) xN.size;have B4:=B9.trans (xN.mono aa);have z4:=Ds;clear P9 A9 Z9 V9 B9 z9 xN;obtain⟨⟨y0,y1,y2⟩,yz,yf⟩:=id Z4;have cb:=yf 2;clear yf;go_wp2;go_roundw
       case rel=>exact⟨k2+1,bc,bf,L++[⟨Z,rc,j2 f a4q⟩],aa,aJ,P4.far aw _,A4.far aw _,by rw[x5];exact Z4.put2 _,ay.old (BU aw _).1 (BU aw _).2 (B:=N),K5,V4.same (λb hS _=>hSe _ _ _ _ aw) bI,B4.setCell aw _,AQ⟩
       case measure=>exact aK
    .have n2:¬(k2:Int) < (X c:Int):=by omega
     have a7:k2=X c:=aa;have a5:Hid (X L=X c):=by show _=_;rw[LL.out,a7]
     have a8:Hid (X L<=fc/\fc<=maxLen):=by
      obtain⟨bv,bx,e0,K,q,-⟩:=FR.rows;cases e0;exact⟨K,q⟩
     have ak:∀b,b≠R (M w)+1->(((w6.setCell ⟨R (M w)+1,0,E⟩ (O d)).setCell ⟨R (M w)+1,1,E⟩ (U g (X l) vc)).setCell ⟨R (M w)+1,2,E⟩ (U fs (X L) fc)).heap[b]? =w6.heap[b]? :=λb hb=>sG;have am:R (M w6)<=R (M (((w6.setCell ⟨R (M w)+1,0,E⟩ (O d)).setCell ⟨R (M w)+1,1,E⟩ (U g (X l) vc)).setCell ⟨R (M w)+1,2,E⟩ (U fs (X L) fc))):=bI;have FX:=FR.old (w':=(((w6.setCell ⟨R (M w)+1,0,E⟩ (O d)).setCell ⟨R (M w)+1,1,E⟩ (U g (X l) vc)).setCell ⟨R (M w)+1,2,E⟩ (U fs (X L) fc))) (λb hb=>ak b aa) am;have GX:=GV.same (w':=(((w6.setCell ⟨R (M w)+1,0,E⟩ (O d)).setCell ⟨R (M w)+1,1,E⟩ (U g (X l) vc)).setCell ⟨R (M w)+1,2,E⟩ (U fs (X L) fc))) (λb hS _=>ak b aa) am;have BX:bl w (((w6.setCell ⟨R (M w)+1,0,E⟩ (O d)).setCell ⟨R (M w)+1,1,E⟩ (U g (X l) vc)).setCell ⟨R (M w)+1,2,E⟩ (U fs (X L) fc)):=((BR.setCell ae _).setCell ae _).setCell ae _;have ba:Hid (∀wz:C,(∀b,R (M w)<=b->b < R (M (((w6.setCell ⟨R (M w)+1,0,E⟩ (O d)).setCell ⟨R (M w)+1,1,E⟩ (U g (X l) vc)).setCell ⟨R (M w)+1,2,E⟩ (U fs (X L) fc)))->wz.heap[b]? =(((w6.setCell ⟨R (M w)+1,0,E⟩ (O d)).setCell ⟨R (M w)+1,1,E⟩ (U g (X l) vc)).setCell ⟨R (M w)+1,2,E⟩ (U fs (X L) fc)).heap[b]?)->R (M (((w6.setCell ⟨R (M w)+1,0,E⟩ (O d)).setCell ⟨R (M w)+1,1,E⟩ (U g (X l) vc)).setCell ⟨R (M w)+1,2,E⟩ (U fs (X L) fc)))<=R (M wz)->a8b (λ_=>True) wz g (j2 v dt)/\a8p (λ_=>True) wz fs (j2 (X c) (j2 f a4q))):=λwz hs hz=>by
      obtain⟨bv,bx,e0,K,q,RW0⟩:=CZ;cases e0;rw[HL.out,a7] at RW0;exact Eo
     obtain⟨⟨y0,y1,y2⟩,yz,yf⟩:=id ZR;obtain⟨⟨a0,a1,a2⟩,az,af⟩:=id AR;have f0:=af 0;have f1:=af 1;have f2:=af 2;clear af yf ak am FX GX;go_wp2;refine bodyPost_ret (v:=Ag #[O d,U g (X l) vc,U fs (X L) fc]) (by simp[results,results69,go_sem,a0,a1,a2]) rfl ⟨⟨g,vc,fs,fc,?_,(λwz hs hz=>ba.out wz hs hz),?_,?_⟩,BX⟩
     .rw[LV.out,a5.out]
      simp only[q7]
     .simp only[q7]
      rw[<-LV.out];exact bm.out
     .simp only[q7]
      rw[<-a5.out];exact a8.out
end
section
open Go.RowKit
def dy (op:Sp->Sp->Sp)(g h:Gs):Gs:=⟨g.n||h.n,op g.sp h.sp,g.t||h.t,g.f||h.f,dd [g,h]⟩

def wH(H:aY V F c [g,h]=0):aA V F c=0/\aH c g=0/\aH c h=0:=by
 unfold aY at H;split at H
 .rename_i hp
  simp only[cG] at H;split at H
  .rename_i hg
   split at H
   .rename_i hh
    exact⟨hp,hg,hh⟩
   .contradiction
  .contradiction
 .contradiction

def kD{g h:Gs}(H:aY V F c [g,h]=0):((∀x∈g.s,0<=x/\x < 60)/\dQ g.s=W5)/\((∀x∈h.s,0<=x/\x < 60)/\dQ h.s=W5):=by
 obtain⟨a,b,y⟩:=wH H;have z:X c<=60:=by
  unfold aA at a;split at a
  .contradiction
  .split at a
   .contradiction
   .omega
 exact⟨dY z b,dY z y⟩

def a3P (V F:Int)(s:oA)(c:lI)(cap:Nat)(g:Gs)(ss:oA)(Z:Nat)(h:Gs)(n:oA)(T:Nat)(w:C)(o:a2r w s c)(hs:yv w ss g.s)(m:X g.s<=Z)(l:Z<=maxLen)(K:yv w n h.s)(t:X h.s<=T)(q:T<=maxLen):
  Calls f 161 #[pv V F s c cap,gv g ss Z,gv h n T] w λe w'=>e=Rt (Tu #[O (if aY V F c [g,h]=0 then dX g h else d),I Y (aY V F c [g,h])])/\bl w w':=by
 by_cases u:aY V F c [g,h]=0
 .refine(Hi V F s c cap g ss Z h n T w o hs m l K t q u).mono ?_
  rintro e w' ⟨rfl,r⟩;exact⟨by rw[if_pos u,u],r⟩
 .refine(Uf V F s c cap g ss Z h n T w o hs m l K t q u).mono ?_
  rintro e w' ⟨rfl,r⟩;exact⟨by rw[if_neg u],r⟩

end
section
open Go.RowKit
attribute [local go_sem ↓] Go.wp_at_zero Go.wp_at_succ
def l8 {j K:C}{q:C}{B N:Nat}{js:oA}{jc:Nat}{g:Gs}{v:mh}(t:yv j js g.s)(m:X g.s<=jc)(l:jc<=maxLen)(hF:∀a,js=G a->R (M q)<=a.block/\Thw j a.block)(s:B<=N)(Z:∀{k},v.ownBlock=G k->k < N)(r:bl j K)(n:N<=R (M q)):cK (λb=>B<=b/\v.ownBlock≠G b) K ⟨g,js,jc⟩:=by
 refine⟨?_,m,l⟩;rcases t with h|⟨b,o,e,u,T⟩
 .exact cA
 .have z:=hF _ e
  simp only at z;exact .inr ⟨b,o,e,⟨aa,λy=>by have:=Z y;omega⟩,⟨lL u r.size,z.2.same (r.block b u)⟩,λk H=>by rw[r.cell (by simp only;exact u)];exact T k H⟩
def mq(b:List Gs)(k:Nat)(h:k < X a)(o:k < X b):aX j (a.take (k+1)) (b.take (k+1))=aX j (a.take k) (b.take k)++[j a[k] b[k]]:=by
 unfold aX;rw[j8 h,j8 o,J0 au];rfl
def yC(a b:List (List Gs))(k:Nat)(h:k < X a)(o:k < X b):j5 (aX j) (a.take (k+1)) (b.take (k+1))=j5 (aX j) (a.take k) (b.take k)++[aX j a[k] b[k]]:=by
 rw[j8 h,j8 o,J0 au];rfl
def Mw (wide:Bool)(j:Gs->Gs->Gs)(RR:Gs->Gs->Prop):Prop:=∀(g:Gs) (ss:oA) (gc:Nat) (h:Gs) (st:oA) (hc:Nat) (wx:World),yv wx ss g.s->yv wx st h.s->RR g h->Calls f 114 #[gv g ss gc,gv h st hc,O wide] wx λe w'=>∃js jc,e=Rt (gv (j g h) js jc)/\yv w' js (j g h).s/\X (j g h).s<=jc/\jc<=maxLen/\(∀a,js=G a->R (M wx)<=a.block/\Thw w' a.block)/\bl wx w'

def vD(h:p:=by
 rw[List.length_map,List.length_zipWith,List.length_take,List.length_take] at h1;omega):=h
def Dg(hJ:Mw bt j RR)(vx vy:List Gs)(fx H:List (List Gs))(a4:oA)(ah:Nat)(ap:oA)(ad:Nat)(a6:oA)(am:Nat)(a3:oA)(ak:Nat)(w:C)(hx:a4r w ⟨d,vx,fx⟩ a4 ap)(hy:a4r w ⟨d,vy,H⟩ a6 a3)(hv:X vx=X vy)(el:X vx<=8)(hf:X fx=X H)(ee:X fx<=60)(hr:∀i (h:i < X fx) (o:i < X H),fx[i].length=H[i].length/\fx[i].length<=3)(cs:∀i (h:i < X vx) (o:i < X vy),RR vx[i] vy[i])(ch:∀i (h:i < X fx) (o:i < X H) k (hk:k < fx[i].length) (eu:k < H[i].length),RR fx[i][k] H[i][k]):
  Calls f 70 #[xv ⟨d,vx,fx⟩ a4 ah ap ad,xv ⟨d,vy,H⟩ a6 am a3 ak,O bt] w λe w'=>a3i (R (M w)) w' e ⟨d,aX j vx vy,j5 (aX j) fx H⟩/\bl w w':=by
 obtain⟨ti,hi,cg,cc,cb⟩:=lH;obtain⟨tk,hk,c7,ea,d3⟩:=rq;have HJ:Hid (∀(g:Gs) (ss:oA) (Z:Nat) (h:Gs) (st:oA) (T:Nat) (y:C),yv y ss g.s->yv y st h.s->RR g h->Calls f 114 #[gv g ss Z,gv h st T,O bt] y λe w'=>∃js jc,e=Rt (gv (j g h) js jc)/\yv w' js (j g h).s/\(j g h).s.length<=jc/\jc<=maxLen/\(∀a,js=G a->R (M y)<=a.block/\Thw w' a.block)/\bl y w'):=hJ;have HV:=ag hv;have HF:=ag hf;have HR:=ag hr;have c5:=ag cs;have d5:=ag ch;have HX:=cX;have HY:=ag hy;clear hJ hv hf hr cs ch hx hy;obtain⟨w1,jv⟩:=nameW ((((w.alloc (A #[O d,U a4 (X vx) ah,U ap (X fx) ad] 28)).alloc (A #[O d,U a6 (X vy) am,U a3 (X H) ak] 28)).alloc (A #[O d,U E 0 0,U E 0 0] 28)).alloc (A #[O d,U E 0 0,U E 0 0] 28));have co:n4 (R (M w)) w w1:=sC;have A0:=(XAt.new w ⟨d,vx,fx⟩ a4 ah ap ad).call (w':=w1) sC;have B0:=(XAt.new (w.alloc (A #[O d,U a4 (X vx) ah,U ap (X fx) ad] 28)) ⟨d,vy,H⟩ a6 am a3 ak).call (w':=w1) sC;have C0:=(X3.new ((w.alloc (A #[O d,U a4 (X vx) ah,U ap (X fx) ad] 28)).alloc (A #[O d,U a6 (X vy) am,U a3 (X H) ak] 28)) 28 (O d) (U E 0 0) (U E 0 0)).call (w':=w1) sC;have D0:=X3.new (((w.alloc (A #[O d,U a4 (X vx) ah,U ap (X fx) ad] 28)).alloc (A #[O d,U a6 (X vy) am,U a3 (X H) ak] 28)).alloc (A #[O d,U E 0 0,U E 0 0] 28)) 28 (O d) (U E 0 0) (U E 0 0);have z0:R (M w)+1+1+1+1<=R (M w1):=by rw[jv.out];simp
 rw[zA] at B0;rw[zA,zA] at C0;rw[zA,zA,zA] at D0;(try simp only at A0 B0);go_enter func70,ntmps70;go_upto_region 6 with fail
 simp only[<-jv.out] at *;clear jv;go_wp2;go_loopw [8] (λi wr=>∃(k:Nat) (vs:oA) (vc:Nat) (l:List Gc),k<=X vx/\i=I Y k/\XAt wr (R (M w)) ⟨d,vx,fx⟩ a4 ah ap ad/\XAt wr (R (M w)+1) ⟨d,vy,H⟩ a6 am a3 ak/\X3 wr (R (M w)+1+1) (O d) (U E 0 0) (U E 0 0)/\X3 wr (R (M w)+1+1+1) (O d) (U vs (X l) vc) (U E 0 0)/\a8i wr (R (M w)+1+1+1+1) (U vs (X l) vc) l/\Hid (l.map Gc.g=aX j (vx.take k) (vy.take k))/\bl w wr/\R (M w)+1+1+1+1<=R (M wr)) (λi _=>X vx - (intOf i).toNat)
 case atStart=>exact⟨0,E,0,[],j1 _,rfl,A0,B0,C0,D0,a8i.nil _ _,rfl,co,z0⟩
 case round=>
  obtain⟨k,vs,vc,l,et,rfl,AR,BR,CR,ZR,SR,HL,LR,zr⟩:=hrel;clear A0 B0 C0 D0 co z0;have LL:Hid (X l=k):=by
   show _=_;have h1:=ki;have h2:=HV.out;unfold aX at h1;exact vD
  by_cases xy:k < X vx
  .have n0:=cQ
   have n1:(k:Int) < (X vx:Int):=aa;have ba:k < X vy:=by have:=HV.out;omega
   have n2:(k:Int) < (X vy:Int):=aa;obtain⟨b1,o1,e1,a8,g1,G1,I1,_⟩:=(HX.out.1.below LR (lR _)) k xy;obtain⟨b2,o2,e2,a7,g2,G2,I2,k2,m2⟩:=(HY.out.1.below LR (lR _)) k ba;subst e1 e2;have b5:=c5.out k xy ba;(try simp only at G1 G2 I1 I2);have ds:=sD (HX.out.1) k xy;have c9:=sD (HY.out.1) k ba;obtain⟨⟨a0,a1,a2⟩,az,-⟩:=id AR;obtain⟨⟨c0,c1,c2⟩,cz,-⟩:=id BR;obtain⟨⟨y0,y1,y2⟩,yz,-⟩:=id ZR;have ar:Hid (∀y,n4 (R (M w)+1+1+1+1) wr y->y.cell? ⟨R (M w)+1+1+1,1,E⟩=G (U vs (X l) vc)/\(y.cell? ⟨R (M w),1,E⟩=G (U (G ⟨b1,o1,E⟩) (X vx) ah)/\(y.cell? ⟨b1,o1+k * 7,E⟩=G (O vx[k].n)/\y.cell? ⟨b1,o1+k * 7+1,E⟩=G (O vx[k].sp.n)/\y.cell? ⟨b1,o1+k * 7+2,E⟩=G (I Y vx[k].sp.lo)/\y.cell? ⟨b1,o1+k * 7+3,E⟩=G (I Y vx[k].sp.hi)/\y.cell? ⟨b1,o1+k * 7+4,E⟩=G (O vx[k].t)/\y.cell? ⟨b1,o1+k * 7+5,E⟩=G (O vx[k].f)/\y.cell? ⟨b1,o1+k * 7+6,E⟩=G (U a8 vx[k].s.length g1)))/\(y.cell? ⟨R (M w)+1,1,E⟩=G (U (G ⟨b2,o2,E⟩) (X vy) am)/\(y.cell? ⟨b2,o2+k * 7,E⟩=G (O vy[k].n)/\y.cell? ⟨b2,o2+k * 7+1,E⟩=G (O vy[k].sp.n)/\y.cell? ⟨b2,o2+k * 7+2,E⟩=G (I Y vy[k].sp.lo)/\y.cell? ⟨b2,o2+k * 7+3,E⟩=G (I Y vy[k].sp.hi)/\y.cell? ⟨b2,o2+k * 7+4,E⟩=G (O vy[k].t)/\y.cell? ⟨b2,o2+k * 7+5,E⟩=G (O vy[k].f)/\y.cell? ⟨b2,o2+k * 7+6,E⟩=G (U a7 vy[k].s.length g2)))):=λy hx=>⟨by rw[hx.cell (by simp only;omega)];exact y1,⟨by rw[hx.cell (by simp only;omega)];exact a1,(G1.low hx aa).1⟩,by rw[hx.cell (by simp only;omega)];exact c1,(G2.low hx aa).1⟩;have HD:=dS;go_wp2;clear a1 a2 c1 c2 y0 y1 y2;refine XK [17] ac ar.out (HD.mono zr) (λab=> ?_);refine QQ ?_;refine QV ?_;refine QN 11 ?_;refine QN 12 ?_;refine av (i:=13) rfl ac (λK hK=> ?_);go_simp;go_at_call 114;go_call HJ.out vx[k] a8 g1 vy[k] a7 g2 _ (I1.call HD) (I2.call HD) b5 as e w5 ⟨js,jc,rfl,bg,b6,bz,bf,xw⟩;have zW:=m9;have cm:=zW.mono zr;go_wp2_with fail;refine hK.out _ _ (ar.out _ cm) (λab=> ?_);clear hK K;refine sm ?_;refine av (i:=14) rfl ac (λK hK=> ?_);go_simp;have bx:bl wr (w5.alloc (A #[O (j vx[k] vy[k]).n,O (j vx[k] vy[k]).sp.n,I Y (j vx[k] vy[k]).sp.lo,I Y (j vx[k] vy[k]).sp.hi,O (j vx[k] vy[k]).t,O (j vx[k] vy[k]).f,U js (j vx[k] vy[k]).s.length jc] 91)):=zW.alloc zW.size _;have ca:=bx.mono zr;refine hK.out _ _ (ar.out _ ca) (λab=> ?_);clear hK K;refine sm ?_;refine av (i:=15) rfl ac (λK hK=> ?_);have S6:=SR.call bx;have GX:cK (λb=>R (M w)+1+1+1+1<=b/\(j3 vs (X l) vc).ownBlock≠G b) (w5.alloc (A #[O (j vx[k] vy[k]).n,O (j vx[k] vy[k]).sp.n,I Y (j vx[k] vy[k]).sp.lo,I Y (j vx[k] vy[k]).sp.hi,O (j vx[k] vy[k]).t,O (j vx[k] vy[k]).f,U js (j vx[k] vy[k]).s.length jc] 91)) ⟨j vx[k] vy[k],js,jc⟩:=l8 bg b6 bz bf zr (λe=>(aU SR.1 e).1) ai (HD.size);refine fe _ rfl _ _ 25 rfl (R (M w)+1+1+1+1) 91 ti (Ag #[O d,O d,I Y 0,I Y 0,O d,O d,U E 0 0]) 7 64 underlying25 hi cg cc cb rfl an _ _ _ rfl S6.1 (G ⟨R (M w5),0,E⟩) 1 1 (bJ ⟨j vx[k] vy[k],js,jc⟩) rfl rfl (λh=>bU) (rG w5 ⟨j vx[k] vy[k],js,jc⟩ #[O (j vx[k] vy[k]).n,O (j vx[k] vy[k]).sp.n,I Y (j vx[k] vy[k]).sp.lo,I Y (j vx[k] vy[k]).sp.hi,O (j vx[k] vy[k]).t,O (j vx[k] vy[k]).f,U js (j vx[k] vy[k]).s.length jc] _ rfl) (eE _) AU AN lX ?_;intro v' w7 z xJ xY;have S7:=S6.grown (x:=⟨j vx[k] vy[k],js,jc⟩) GX z xJ xY;have xF:n4 (R (M w)+1+1+1+1) wr w7:=ca.grown xJ lX (λk hk=>(aU S6.1 hk).2);obtain⟨bc,bs,rfl,-,-,-⟩:=S7.in;refine hK.out _ _ (ar.out _ xF) (λab=> ?_);clear hK K z xJ xY S6 GX ca bx cm zW bg bf;refine sm ?_;refine QN 16 ?_;refine aM (i:=17) rfl ac ac (λK hK=> ?_);have Z7:X3 w7 (R (M w)+1+1+1) (O d) (U vs (X l) vc) (U E 0 0):=ZR.same (xF.block _ aa) xF.size;obtain⟨⟨y0,y1,y2⟩,yz,yf⟩:=id Z7;have c8:=yf 1;clear yf;go_simp;refine hK.out _ _ ?_;clear hK K;refine sm ?_;refine aB ac ?_ _;clear y0 y1 y2 c8;have A7:XAt w7 (R (M w)) ⟨d,vx,fx⟩ _ ah ap ad:=AR.same (xF.block _ aa) xF.size;have B7:XAt w7 (R (M w)+1) ⟨d,vy,H⟩ _ am a3 ak:=BR.same (xF.block _ aa) xF.size;have C7:X3 w7 (R (M w)+1+1) (O d) (U E 0 0) (U E 0 0):=CR.same (xF.block _ aa) xF.size;have L7:=wM;have z7:=lT zr xF.size;have e7:∀b,b≠R (M w)+1+1+1->(w7.setCell ⟨R (M w)+1+1+1,1,E⟩ (U bc (X (l++[(⟨j vx[k] vy[k],js,jc⟩:Gc)])) bs)).heap[b]? =w7.heap[b]? :=λb hb=>hSe _ _ _ _ hb;have s7:R (M w7)<=R (M (w7.setCell ⟨R (M w)+1+1+1,1,E⟩ (U bc (X (l++[(⟨j vx[k] vy[k],js,jc⟩:Gc)])) bs))):=bI;clear AR BR CR ZR SR LR zr ar;go_wp2;go_roundw
   case rel=>exact⟨k+1,bc,bs,l++[⟨j vx[k] vy[k],js,jc⟩],aa,aJ,Vd,by first|exact B7.same (e7 _ (by omega)) s7|(simpa using B7.same (e7 _ (by omega)) s7),Vi,by first|exact Z7.put1 _|(simpa using Z7.put1 (U bc (X (l++[(⟨j vx[k] vy[k],js,jc⟩:Gc)])) bs)),UT,by show _=_;rw[q6,HL.out,mq j vx vy k xy ba];rfl,by first|exact L7.setCell (by simp only;omega) _|(simpa using L7.setCell (p:=⟨R (M w)+1+1+1,1,E⟩) (by simp only;omega) (U bc (X (l++[(⟨j vx[k] vy[k],js,jc⟩:Gc)])) bs)),Br⟩
   case measure=>exact aK
  .obtain⟨eg,ej,e0,a5,af,b7⟩:=SR.in;cases e0;have ek:k=X vx:=aa;have al:vx.take k=vx:=j4 aa;have ao:vy.take k=vy:=j4 (by have:=HV.out;omega)
   have LV:Hid (X l=X (aX j vx vy)):=by
    show _=_;have h1:=ki;rw[al,ao,q8] at h1;exact h1
   rw[HL.out,al,ao] at b7;have GV:a8b (λb=>R (M w)+1+1+1+1<=b/\b < R (M wr)) wr vs (aX j vx vy):=b7.mono λb h1 h2=>⟨h1,h2⟩;have d4:Hid (X l<=vc/\vc<=maxLen):=⟨a5,af⟩;clear b7 SR LL HL a5 af al ao;have zn:R (M w)+1+1+1+1<=R (M wr):=zr;obtain⟨⟨a0,a1,a2⟩,az,-⟩:=id AR;generalize hN:R (M wr)=N at *;have HNN:=ag hN;clear hN;go_wp2;clear a1 a2;go_loopw [9] (λi wr=>∃(k:Nat) (fs:oA) (fc:Nat) (L:List Rw),k<=X fx/\i=I Y k/\XAt wr (R (M w)) ⟨d,vx,fx⟩ a4 ah ap ad/\XAt wr (R (M w)+1) ⟨d,vy,H⟩ a6 am a3 ak/\X3 wr (R (M w)+1+1) (O d) (U E 0 0) (U E 0 0)/\X3 wr (R (M w)+1+1+1) (O d) (U vs (X l) vc) (U fs (X L) fc)/\a8t wr N (U fs (X L) fc) L/\Hid (L.map Rw.l=j5 (aX j) (fx.take k) (H.take k))/\a8b (λb=>R (M w)+1+1+1+1<=b/\b < N) wr vs (aX j vx vy)/\bl w wr/\N<=R (M wr)) (λi _=>X fx - (intOf i).toNat)
   case atStart=>exact⟨0,E,0,[],j1 _,rfl,AR,BR,CR,ZR,a8t.nil _ _,rfl,GV,LR,KE⟩
   case round=>
    clear AR BR CR ZR GV LR zr HNN;obtain⟨k2,fs,fc,L,ep,rfl,AR,BR,CR,ZR,FR,HL,GV,LR,zr⟩:=hrel;generalize wr=w6 at *;clear wr;have LL:Hid (X L=k2):=by
     show _=_;have h1:=ki;have h2:=HF.out;exact vD
    obtain⟨⟨a0,a1,a2⟩,az,-⟩:=id AR;by_cases bb:k2 < X fx
    .have n0:=uR
     have d6:(k2:Int) < (X fx:Int):=aa;have ax:k2 < X H:=Cb;have en:(k2:Int) < (X H:Int):=aa;go_wp2;clear a1 a2;go_loopw [10,11] (λr i2 wo=>∃(m:Nat) (rs:oA) (rc:Nat) (lr:List Gc),m<=fx[k2].length/\r=U rs (X lr) rc/\i2=I Y m/\bl w6 wo/\a8i wo (R (M w6)) (U rs (X lr) rc) lr/\Hid (lr.map Gc.g=aX j (fx[k2].take m) (H[k2].take m))) (λ_ i2 _=>fx[k2].length - (intOf i2).toNat)
     case atStart=>exact⟨0,E,0,[],j1 _,rfl,rfl,bR _ _,a8i.nil _ _,rfl⟩
     case round=>
      obtain⟨m,rs,rc,lr,hm,rfl,rfl,xL,SR,HM⟩:=hrel;have bm:=HR.out k2 bb ax;have b8:=ag bm.1;have h3:=bm.2;clear bm;have LM:Hid (X lr=m):=by
       show _=_;have h1:=congrArg x6 HM.out;have h2:=b8.out;unfold aX at h1;exact vD
      obtain⟨⟨a0,a1,a2⟩,az,-⟩:=id (AR.call xL);obtain⟨⟨c0,c1,c2⟩,cz,-⟩:=id (BR.call xL);obtain⟨p1,q1,e1,zp1,r1,rc1,C1,k1,m1,J1⟩:=HX.out.2 k2 bb;obtain⟨p2,q2,e2,dr,r2,bv,C2,ei,m2,J2⟩:=HY.out.2 k2 ax;have qM:=LR.trans (xL.mono LR.size);have D1:=PW;have D2:wr.cell? ⟨p2,q2+k2,E⟩=G (U r2 H[k2].length bv):=by rw[qM.cell (by simp only;exact dr)];exact C2
      subst e1 e2;clear C1 C2;by_cases a9:m < fx[k2].length
      .have m0:(0:Int)<=(m:Int):=by omega
       have d8:(m:Int) < (fx[k2].length:Int):=aa;have ay:m < H[k2].length:=by have:=b8.out;omega
       have eo:(m:Int) < (H[k2].length:Int):=aa;obtain⟨b1,o1,e1,a8,g1,G1,I1,_⟩:=(J1.below qM (lR _)) m a9;obtain⟨b2,o2,e2,a7,g2,G2,I2,_⟩:=(J2.below qM (lR _)) m ay;subst e1 e2;have ds:=sD J1 m a9;have c9:=sD J2 m ay;have b5:=d5.out k2 bb ax m a9 ay;have ec:=lT zn zr;have b3:Hid (∀y,n4 (R (M w6)) wr y->(y.cell? ⟨R (M w),2,E⟩=G (U (G ⟨p1,q1,E⟩) (X fx) ad)/\y.cell? ⟨p1,q1+k2,E⟩=G (U (G ⟨b1,o1,E⟩) fx[k2].length rc1)/\(y.cell? ⟨b1,o1+m * 7,E⟩=G (O fx[k2][m].n)/\y.cell? ⟨b1,o1+m * 7+1,E⟩=G (O fx[k2][m].sp.n)/\y.cell? ⟨b1,o1+m * 7+2,E⟩=G (I Y fx[k2][m].sp.lo)/\y.cell? ⟨b1,o1+m * 7+3,E⟩=G (I Y fx[k2][m].sp.hi)/\y.cell? ⟨b1,o1+m * 7+4,E⟩=G (O fx[k2][m].t)/\y.cell? ⟨b1,o1+m * 7+5,E⟩=G (O fx[k2][m].f)/\y.cell? ⟨b1,o1+m * 7+6,E⟩=G (U a8 fx[k2][m].s.length g1)))/\(y.cell? ⟨R (M w)+1,2,E⟩=G (U (G ⟨p2,q2,E⟩) (X H) ak)/\y.cell? ⟨p2,q2+k2,E⟩=G (U (G ⟨b2,o2,E⟩) H[k2].length bv)/\(y.cell? ⟨b2,o2+m * 7,E⟩=G (O H[k2][m].n)/\y.cell? ⟨b2,o2+m * 7+1,E⟩=G (O H[k2][m].sp.n)/\y.cell? ⟨b2,o2+m * 7+2,E⟩=G (I Y H[k2][m].sp.lo)/\y.cell? ⟨b2,o2+m * 7+3,E⟩=G (I Y H[k2][m].sp.hi)/\y.cell? ⟨b2,o2+m * 7+4,E⟩=G (O H[k2][m].t)/\y.cell? ⟨b2,o2+m * 7+5,E⟩=G (O H[k2][m].f)/\y.cell? ⟨b2,o2+m * 7+6,E⟩=G (U a7 H[k2][m].s.length g2)))):=λy hx=>⟨⟨by rw[hx.cell (by simp only;omega)];exact a2,by rw[hx.cell (by simp only;omega)];exact D1,(G1.low hx aa).1⟩,by rw[hx.cell (by simp only;omega)];exact c2,by rw[hx.cell (by simp only;omega)];exact D2,(G2.low hx aa).1⟩;have ar:Hid (∀y,bl wr y->(y.cell? ⟨R (M w),2,E⟩=G (U (G ⟨p1,q1,E⟩) (X fx) ad)/\y.cell? ⟨p1,q1+k2,E⟩=G (U (G ⟨b1,o1,E⟩) fx[k2].length rc1)/\(y.cell? ⟨b1,o1+m * 7,E⟩=G (O fx[k2][m].n)/\y.cell? ⟨b1,o1+m * 7+1,E⟩=G (O fx[k2][m].sp.n)/\y.cell? ⟨b1,o1+m * 7+2,E⟩=G (I Y fx[k2][m].sp.lo)/\y.cell? ⟨b1,o1+m * 7+3,E⟩=G (I Y fx[k2][m].sp.hi)/\y.cell? ⟨b1,o1+m * 7+4,E⟩=G (O fx[k2][m].t)/\y.cell? ⟨b1,o1+m * 7+5,E⟩=G (O fx[k2][m].f)/\y.cell? ⟨b1,o1+m * 7+6,E⟩=G (U a8 fx[k2][m].s.length g1)))/\(y.cell? ⟨R (M w)+1,2,E⟩=G (U (G ⟨p2,q2,E⟩) (X H) ak)/\y.cell? ⟨p2,q2+k2,E⟩=G (U (G ⟨b2,o2,E⟩) H[k2].length bv)/\(y.cell? ⟨b2,o2+m * 7,E⟩=G (O H[k2][m].n)/\y.cell? ⟨b2,o2+m * 7+1,E⟩=G (O H[k2][m].sp.n)/\y.cell? ⟨b2,o2+m * 7+2,E⟩=G (I Y H[k2][m].sp.lo)/\y.cell? ⟨b2,o2+m * 7+3,E⟩=G (I Y H[k2][m].sp.hi)/\y.cell? ⟨b2,o2+m * 7+4,E⟩=G (O H[k2][m].t)/\y.cell? ⟨b2,o2+m * 7+5,E⟩=G (O H[k2][m].f)/\y.cell? ⟨b2,o2+m * 7+6,E⟩=G (U a7 H[k2][m].s.length g2)))):=λy hx=>b3.out y (hx.mono xL.size);have HD:=dS;go_wp2;clear a1 a2 c1 c2 D1 D2;refine XK [] ac ar.out HD (λab=> ?_);refine QQ ?_;refine QS ?_;refine XH ?_;refine QN 16 ?_;refine QN 17 ?_;refine av (i:=18) rfl ac (λK hK=> ?_);go_simp;go_at_call 114;go_call HJ.out fx[k2][m] a8 g1 H[k2][m] a7 g2 _ (I1.call HD) (I2.call HD) b5 as e w7 ⟨js,jc,rfl,bg,b6,bz,bf,eb⟩;have HW7:=HD.trans (eb.mono HD.size);go_wp2_with fail;refine hK.out _ _ (ar.out _ HW7) (λab=> ?_);clear hK K;refine sm ?_;refine av (i:=19) rfl ac (λK hK=> ?_);go_simp;have be:bl wr (w7.alloc (A #[O (j fx[k2][m] H[k2][m]).n,O (j fx[k2][m] H[k2][m]).sp.n,I Y (j fx[k2][m] H[k2][m]).sp.lo,I Y (j fx[k2][m] H[k2][m]).sp.hi,O (j fx[k2][m] H[k2][m]).t,O (j fx[k2][m] H[k2][m]).f,U js (j fx[k2][m] H[k2][m]).s.length jc] 91)):=HW7.alloc HW7.size _;refine hK.out _ _ (ar.out _ be) (λab=> ?_);clear hK K;refine sm ?_;refine av (i:=20) rfl ac (λK hK=> ?_);have S8:=SR.call be;have c3:=xL.size;have GX:cK (λb=>R (M w6)<=b/\(j3 rs (X lr) rc).ownBlock≠G b) (w7.alloc (A #[O (j fx[k2][m] H[k2][m]).n,O (j fx[k2][m] H[k2][m]).sp.n,I Y (j fx[k2][m] H[k2][m]).sp.lo,I Y (j fx[k2][m] H[k2][m]).sp.hi,O (j fx[k2][m] H[k2][m]).t,O (j fx[k2][m] H[k2][m]).f,U js (j fx[k2][m] H[k2][m]).s.length jc] 91)) ⟨j fx[k2][m] H[k2][m],js,jc⟩:=l8 bg b6 bz bf c3 (λe=>(aU SR.1 e).1) ai (HD.size);refine fe _ rfl _ _ 25 rfl (R (M w6)) 91 ti (Ag #[O d,O d,I Y 0,I Y 0,O d,O d,U E 0 0]) 7 64 underlying25 hi cg cc cb rfl an _ _ _ rfl S8.1 (G ⟨R (M w7),0,E⟩) 1 1 (bJ ⟨j fx[k2][m] H[k2][m],js,jc⟩) rfl rfl (λh=>bU) (rG w7 ⟨j fx[k2][m] H[k2][m],js,jc⟩ #[O (j fx[k2][m] H[k2][m]).n,O (j fx[k2][m] H[k2][m]).sp.n,I Y (j fx[k2][m] H[k2][m]).sp.lo,I Y (j fx[k2][m] H[k2][m]).sp.hi,O (j fx[k2][m] H[k2][m]).t,O (j fx[k2][m] H[k2][m]).f,U js (j fx[k2][m] H[k2][m]).s.length jc] _ rfl) (eE _) (by unfold maxLen;have:=LM.out;omega) (by have:=LM.out;omega) KX ?_;intro v' w9 z xJ xY;have S9:=S8.grown (x:=⟨j fx[k2][m] H[k2][m],js,jc⟩) GX z xJ xY;have d9:bl w6 w9:=(xL.trans (be.mono xL.size)).grown xJ KX (λk hk=>(aU S8.1 hk).2);have cl:n4 (R (M w6)) wr w9:=(be.mono xL.size).grown xJ KX (λk hk=>(aU S8.1 hk).2);obtain⟨dq,c4,rfl,-,-,-⟩:=S9.in;refine hK.out _ _ (b3.out _ cl) (λab=> ?_);clear hK K z xJ xY S8 GX be HW7 bg bf;refine sm ?_;refine QN 21 ?_;refine aB ac ?_ _;clear SR xL ar b3 cl;go_wp2;go_roundw
       case rel=>exact⟨m+1,dq,c4,lr++[⟨j fx[k2][m] H[k2][m],js,jc⟩],aa,sZ,aJ,d9,S9,by show _=_;rw[q6,HM.out,mq j fx[k2] H[k2] m a9 ay];rfl⟩
       case measure=>exact aK
      .have d8:¬(m:Int) < (fx[k2].length:Int):=by omega
       have al:fx[k2].take m=fx[k2]:=j4 aa;have ao:H[k2].take m=H[k2]:=j4 (by have:=b8.out;omega)
       obtain⟨ef,es,e0,a5,af,GR⟩:=SR.in;cases e0;have cp:Hid (X lr=X (aX j fx[k2] H[k2])):=by
        show _=_;have h1:=congrArg x6 HM.out;rw[al,ao,q8] at h1;exact h1
       rw[HM.out,al,ao] at GR;have A9:=AR.call xL;have B9:=BR.call xL;have C9:=CR.call xL;have Z9:=ZR.call xL;have F9:=FR.call xL;have V9:=GV.call xL;have L9:=qM;have z9:=Fk;have RX:Ai (λb=>N<=b/\(j3 fs (X L) fc).ownBlock≠G b) wr ⟨rs,rc,aX j fx[k2] H[k2]⟩:=⟨GR.mono λb h1 _=>⟨lT zr h1,λe=>by have:=(aU FR.1 e).1;omega⟩,by rw[cp.out] at a5;exact a5,af⟩
       clear AR BR CR ZR FR GV LR SR GR xL zr a5 af LM HM qM al ao;generalize wr=w9 at *;clear wr;obtain⟨⟨y0,y1,y2⟩,yz,yf⟩:=id Z9;have jB:=F9.call (w':=w9.alloc (A #[U rs (X lr) rc] 25)) ai;have cr:Ai (λb=>N<=b/\(j3 fs (X L) fc).ownBlock≠G b) (w9.alloc (A #[U rs (X lr) rc] 25)) ⟨rs,rc,aX j fx[k2] H[k2]⟩:=⟨RX.1.call ai,RX.2⟩;go_wp2_with (at_builtin;refine bn _ rfl _ _ 26 rfl N 25 tk (U E 0 0) 1 24 underlying26 hk c7 ea d3 rfl an _ _ _ rfl jB.1 (G ⟨R (M w9),0,E⟩) 1 1 [U rs (X lr) rc] rfl rfl (λh=>bU) ?qc2 s8 ?qc4 ?qc5 ?qc6 ?_);(try (case qc2=>exact Hp w9 _ _))
       case qc4=>unfold maxLen;have:=LL.out;omega
       case qc5=>have:=LL.out;omega
       (try (case qc6=>first|omega|(rw[zA];omega)|(simp;omega)|simp));intro v' xM z xJ xY;rw[cp.out] at z;have ce:=jB.grown (x:=⟨rs,rc,aX j fx[k2] H[k2]⟩) cr z xJ iB;have xN:=Ry;obtain⟨cv,dv,rfl,-,-,-⟩:=ce.rows;clear z xJ xY jB F9 cr RX y0 y1 y2 yf a1 a2 c1 c2 D1 D2;have A4:XAt xM (R (M w)) ⟨d,vx,fx⟩ _ ah _ ad:=A9.same (xN.block _ aa) xN.size;have B4:XAt xM (R (M w)+1) ⟨d,vy,H⟩ _ am _ ak:=B9.same (xN.block _ aa) xN.size;have C4:X3 xM (R (M w)+1+1) (O d) (U E 0 0) (U E 0 0):=C9.same (xN.block _ aa) xN.size;have Z4:X3 xM (R (M w)+1+1+1) (O d) (U vs (X l) vc) (U fs (X L) fc):=Z9.same (xN.block _ aa) xN.size;have V4:a8b (λb=>R (M w)+1+1+1+1<=b/\b < N) xM vs (aX j vx vy):=V9.same (λb hS _=>xN.block b hS.2) xN.size;have L4:=L9.trans (xN.mono aa);have z4:=Ds;clear A9 B9 C9 Z9 V9 L9 z9 xN;obtain⟨⟨y0,y1,y2⟩,yz,yf⟩:=id Z4;have ev:=yf 2;clear yf;have e7:∀(x:mh) b,b≠R (M w)+1+1+1->(xM.setCell ⟨R (M w)+1+1+1,2,E⟩ x).heap[b]? =xM.heap[b]? :=λx b hb=>hSe _ _ _ _ hb;have s7:∀(x:mh),R (M xM)<=R (M (xM.setCell ⟨R (M w)+1+1+1,2,E⟩ x)):=λx=>bI;have E7:=ag e7;have S7:=ag s7;clear e7 s7;go_wp2;go_roundw
       case rel=>exact⟨k2+1,cv,dv,L++[⟨rs,rc,aX j fx[k2] H[k2]⟩],aa,aJ,A4.same (E7.out _ _ aa) (S7.out _),B4.same (E7.out _ _ aa) (S7.out _),C4.same (E7.out _ _ aa) (S7.out _),by rw[x5];exact Z4.put2 _,ce.old (λb hb=>E7.out _ b aa) (S7.out _),by show _=_;rw[q6,HL.out,yC j fx H k2 bb ax];rfl,V4.same (λb hS _=>E7.out _ b aa) (S7.out _),L4.setCell aw _,AQ⟩
       case measure=>exact aK
    .have d6:¬(k2:Int) < (X fx:Int):=by omega
     have al:fx.take k2=fx:=j4 aa;have ao:H.take k2=H:=j4 Cb;have cf:Hid (X L=X (j5 (aX j) fx H)):=by
      show _=_;have h1:=ki;rw[al,ao,q8] at h1;exact h1
     have dc:Hid (X L<=fc/\fc<=maxLen):=by
      obtain⟨c6,d7,e0,a5,af,-⟩:=FR.rows;cases e0;exact⟨a5,af⟩
     have b0:∀b,b≠R (M w)+1+1->(((w6.setCell ⟨R (M w)+1+1,0,E⟩ (O d)).setCell ⟨R (M w)+1+1,1,E⟩ (U vs (X l) vc)).setCell ⟨R (M w)+1+1,2,E⟩ (U fs (X L) fc)).heap[b]? =w6.heap[b]? :=λb hb=>sG;have b4:R (M w6)<=R (M (((w6.setCell ⟨R (M w)+1+1,0,E⟩ (O d)).setCell ⟨R (M w)+1+1,1,E⟩ (U vs (X l) vc)).setCell ⟨R (M w)+1+1,2,E⟩ (U fs (X L) fc))):=bI;have FX:=FR.old (w':=(((w6.setCell ⟨R (M w)+1+1,0,E⟩ (O d)).setCell ⟨R (M w)+1+1,1,E⟩ (U vs (X l) vc)).setCell ⟨R (M w)+1+1,2,E⟩ (U fs (X L) fc))) (λb hb=>b0 b aa) b4;have GX:=GV.same (w':=(((w6.setCell ⟨R (M w)+1+1,0,E⟩ (O d)).setCell ⟨R (M w)+1+1,1,E⟩ (U vs (X l) vc)).setCell ⟨R (M w)+1+1,2,E⟩ (U fs (X L) fc))) (λb hS _=>b0 b aa) b4;have BX:bl w (((w6.setCell ⟨R (M w)+1+1,0,E⟩ (O d)).setCell ⟨R (M w)+1+1,1,E⟩ (U vs (X l) vc)).setCell ⟨R (M w)+1+1,2,E⟩ (U fs (X L) fc)):=((LR.setCell aw _).setCell aw _).setCell aw _;have ct:Hid (∀wz:C,(∀b,R (M w)<=b->b < R (M (((w6.setCell ⟨R (M w)+1+1,0,E⟩ (O d)).setCell ⟨R (M w)+1+1,1,E⟩ (U vs (X l) vc)).setCell ⟨R (M w)+1+1,2,E⟩ (U fs (X L) fc)))->wz.heap[b]? =(((w6.setCell ⟨R (M w)+1+1,0,E⟩ (O d)).setCell ⟨R (M w)+1+1,1,E⟩ (U vs (X l) vc)).setCell ⟨R (M w)+1+1,2,E⟩ (U fs (X L) fc)).heap[b]?)->R (M (((w6.setCell ⟨R (M w)+1+1,0,E⟩ (O d)).setCell ⟨R (M w)+1+1,1,E⟩ (U vs (X l) vc)).setCell ⟨R (M w)+1+1,2,E⟩ (U fs (X L) fc)))<=R (M wz)->a8b (λ_=>True) wz vs (aX j vx vy)/\a8p (λ_=>True) wz fs (j5 (aX j) fx H)):=λwz hs hz=>by
      obtain⟨c6,d7,e0,a5,af,RW0⟩:=CZ;cases e0;rw[HL.out,al,ao] at RW0;exact Eo
     obtain⟨⟨y0,y1,y2⟩,yz,yf⟩:=id ZR;obtain⟨⟨d0,d1,d2⟩,dz,df⟩:=id CR;have f0:=df 0;have f1:=df 1;have f2:=df 2;clear df yf b0 b4 FX GX al ao;go_wp2;refine bodyPost_ret (v:=Ag #[O d,U vs (X l) vc,U fs (X L) fc]) (by simp[results,results70,go_sem,d0,d1,d2]) rfl ⟨⟨vs,vc,fs,fc,?_,(λwz hs hz=>ct.out wz hs hz),?_,?_⟩,BX⟩
     .rw[LV.out,cf.out]
     .rw[<-LV.out]
      exact d4.out
     .rw[<-cf.out]
      exact dc.out
structure a7l (V F:Int) (c:lI) (x:Pic) (vc fc:Nat) (i:Ins) (at_:Int):Prop where
 h0:aA V F c=0
 kx:a7y V F c x
 hi:i=bS c at_
 a0:0<=at_
 a1:at_ < c.length
 cv:x.vq.length<=vc/\vc<=maxLen
 cf:x.fq.length<=fc/\fc<=maxLen
section
variable {V F:Int} {c:lI} {x:Pic} {vc fc:Nat} {i:Ins} {at_:Int}
section
variable (K:a7l V F c x vc fc i at_)
def a7l.one:bo V F (X c) i=0:=by rw[K.hi];exact(cU K.h0).each _ (nJ K.a0 K.a1)
def a7l.lens:X x.vq<=8/\X c<=60/\X x.fq=X c/\0<=F/\F<=3/\0<=V:=by
 have t:=cU K.h0;have:=t.v1;have:=t.v8;have:=t.f0;have:=t.f3;have:=t.len;have:=K.kx.vq;have:=K.kx.fq;omega
end
def la {x:Pic}{k:Nat}(h:k < X x.vq):gAt x (k:Int)=x.vq[k]:=by unfold gAt;simp[List.getD,q5 h]
def vR(h:p:=by
 have hv:=K.kx.vq;obtain⟨k,hk⟩:=Int.eq_ofNat_of_zero_le this.1;exact⟨k,hk,aa⟩):=h
section
variable (K:a7l V F c x vc fc i at_)
def a7l.varA(b:nA i.k=W5):∃k:Nat,i.a=k/\k < X x.vq:=by
 have:=(b9 K.one).2.2.1 b;exact vR
def a7l.varB(s:nB i.k=W5):∃k:Nat,i.b=k/\k < X x.vq:=by
 have:=(b9 K.one).2.2.2.1 s;exact vR
def a7l.varTo(a:nTo i.k=W5):∃k:Nat,i.tgt=k/\k < X x.vq:=by
 have:=(b9 K.one).2.1 a;exact vR
def a7l.uno{g:Gs}(P:aH c g=0):aY V F c [g]=0:=by unfold aY;rw[if_pos K.h0];unfold cG;rw[if_pos P];rfl
def a7l.duo{g h:Gs}(P:aH c g=0)(N:aH c h=0):aY V F c [g,h]=0:=by unfold aY;rw[if_pos K.h0];unfold cG;rw[if_pos P];unfold cG;rw[if_pos N];rfl
end
end
def FB (g:Nat)(i:Ins)(V F:Int)(s:oA)(c:lI)(cap:Nat)(at_:Int)(x:Pic)(vs:oA)(vc:Nat)(fs:oA)(fc:Nat)(m:mh)(wr fl:Bool)(w:C)(hS:sT w g (bk i V F s c cap at_ x vs vc fs fc m wr fl))(T:a2r w s c)(N:a4r w x vs fs)(K:a7l V F c x vc fc i at_)(b:nA i.k=W5):
  Calls f 95 #[Pp (G ⟨g,0,E⟩)] w λe w'=>e=Rt (Tu #[O (cM (gAt x i.a)),O (dp (gAt x i.a))])/\bl w w':=by
 obtain⟨k,ek,H⟩:=K.varA b;have eg:gAt x i.a=x.vq[k]:=by rw[ek,la H]
 rw[eg];have af:=K.kx.gv _ (gM H);obtain⟨u,j,e1,Z,g1,G1,I1,k1,m1⟩:=N.1 k H;subst e1;have n0:=bG;have n1:(k:Int) < (X x.vq:Int):=aa;have HT:=ag λy (r:bl w y)=>Yu V F s c cap _ Z g1 y (T.call r) (I1.call r) k1 m1 (K.uno af);have ab:Hid (∀y,bl w y->(y.cell? ⟨g,6,E⟩=G (I Y V)/\y.cell? ⟨g,7,E⟩=G (I Y F)/\y.cell? ⟨g,8,E⟩=G (U s (X c) cap))/\(y.cell? ⟨g,2,E⟩=G (I Y (k:Int))/\y.cell? ⟨g,11,E⟩=G (U (G ⟨u,j,E⟩) (X x.vq) vc))/\(y.cell? ⟨u,j+k * 7,E⟩=G (O x.vq[k].n)/\y.cell? ⟨u,j+k * 7+1,E⟩=G (O x.vq[k].sp.n)/\y.cell? ⟨u,j+k * 7+2,E⟩=G (I Y x.vq[k].sp.lo)/\y.cell? ⟨u,j+k * 7+3,E⟩=G (I Y x.vq[k].sp.hi)/\y.cell? ⟨u,j+k * 7+4,E⟩=G (O x.vq[k].t)/\y.cell? ⟨u,j+k * 7+5,E⟩=G (O x.vq[k].f)/\y.cell? ⟨u,j+k * 7+6,E⟩=G (U Z (X x.vq[k].s) g1))):=λy r=>⟨⟨(hS.call r).1 6 _ rfl,(hS.call r).1 7 _ rfl,(hS.call r).1 8 _ rfl⟩,⟨by rw[<-ek];exact(hS.call r).1 2 _ rfl,(hS.call r).1 11 _ rfl⟩,(G1.call r).1⟩;clear hS T N eg ek b;go_enter func95,ntmps95;go_upto_region 1 with fail
 have B1:=pI;refine XL ac ab.out B1 (λl=> ?_);generalize w.drew=w1 at *;refine QT ?_;refine XF ?_;refine QO 15 ?_;refine rH1 16 λK hK=> ?_;go_simp;go_call HT.out w1 B1 as e z ⟨rfl,xj⟩;have B2:=lN;refine hK.out _ _ (ab.out _ B2) (λad=> ?_);clear hK K xj B1;refine sm ?_;refine QO 17 ?_;refine QO 18 ?_;refine QO 19 ?_;refine QO 20 ?_;refine QO 21 ?_;refine QO 22 ?_;refine QO 23 ?_;refine wpAnyH_done ac ?_ _;go_wp2;refine bodyPost_ret (v:=Tu #[O (cM x.vq[k]),O (dp x.vq[k])]) (by simp[results,results95,go_sem]) rfl ⟨rfl,B2⟩
def a7v (sb:Nat)(w w':World):Prop:=Below sb w w'/\∀b,b < R (M w)->b≠sb->w'.heap[b]? =w.heap[b]?
def a7v.of {g:Nat}{w w':C}(h:bl w w')(hs:g < R (M w)):a7v g w w':=⟨h.mono (Nat.le_of_lt hs),λb r _=>h.block b r⟩
def a7v.trans {g:Nat}{w w1 z:C}(h:a7v g w w1)(o:a7v g w1 z):a7v g w z:=⟨h.1.trans o.1,λb r l=>by rw[o.2 b (lL r h.1.size) l,h.2 b r l]⟩
def a7v.put {g:Nat}{w w1:C}(h:a7v g w w1)(j:Nat)(u:mh):a7v g w (w1.setCell ⟨g,j,E⟩ u):=⟨h.1.setCell (lR _) _,λb r l=>by rw[hSe _ _ _ _ l];exact h.2 b r l⟩
def FY (g:Nat)(i:Ins)(V F:Int)(s:oA)(c:lI)(cap:Nat)(at_:Int)(x:Pic)(vs:oA)(vc:Nat)(fs:oA)(fc:Nat)(m:mh)(wr z:Bool)(w0 w:C)(hS:sT w g (bk i V F s c cap at_ x vs vc fs fc m wr z))(ap:a2r w0 s c)(T:a4r w0 x vs fs)(az:R (M w0)<=g)(ao:bl w0 w)(K:a7l V F c x vc fc i at_)(b:nA i.k=W5):
  Calls f 154 #[Pp (G ⟨g,0,E⟩)] w λe w'=>(∃ss Z,e=Rt (U ss (X (gAt x i.a).s) Z)/\yv w0 ss (gAt x i.a).s/\X (gAt x i.a).s<=Z/\Z<=maxLen)/\sT w' g (bk i V F s c cap at_ x vs vc fs fc m (ci (gAt x i.a)) z)/\a7v g w w':=by
 have N:=T;obtain⟨k,ek,H⟩:=K.varA b;have eg:gAt x i.a=x.vq[k]:=by rw[ek,la H]
 rw[eg];obtain⟨u,j,e1,ad,g1,G1,I1,k1,m1⟩:=N.1 k H;subst e1;have n0:=bG;have n1:(k:Int) < (X x.vq:Int):=aa;have I0:=I1;have af:Hid (∀y,bl w y->(y.cell? ⟨g,2,E⟩=G (I Y (k:Int))/\y.cell? ⟨g,11,E⟩=G (U (G ⟨u,j,E⟩) (X x.vq) vc))/\(y.cell? ⟨u,j+k * 7,E⟩=G (O x.vq[k].n)/\y.cell? ⟨u,j+k * 7+1,E⟩=G (O x.vq[k].sp.n)/\y.cell? ⟨u,j+k * 7+2,E⟩=G (I Y x.vq[k].sp.lo)/\y.cell? ⟨u,j+k * 7+3,E⟩=G (I Y x.vq[k].sp.hi)/\y.cell? ⟨u,j+k * 7+4,E⟩=G (O x.vq[k].t)/\y.cell? ⟨u,j+k * 7+5,E⟩=G (O x.vq[k].f)/\y.cell? ⟨u,j+k * 7+6,E⟩=G (U ad (X x.vq[k].s) g1))):=λy r=>⟨⟨by rw[<-ek];exact(hS.call r).1 2 _ rfl,(hS.call r).1 11 _ rfl⟩,((G1.call ao).call r).1⟩;have ah:=ag hS;clear hS ap N T eg ek b G1;go_enter func154,ntmps154;go_upto_region 1 with fail
 go_cut [3] (λt3 wc=>∃ab,t3=Pp (G ⟨ab,0,E⟩)/\R (M w)<=ab/\sT wc ab [O x.vq[k].n,O x.vq[k].sp.n,I Y x.vq[k].sp.lo,I Y x.vq[k].sp.hi,O x.vq[k].t,O x.vq[k].f,U ad (X x.vq[k].s) g1]/\bl w wc)
 case first=>
  rename_i J1 K1 hJ1 hK1;have B1:=pI;refine XL ac af.out B1 (λl=> ?_);generalize w.drew=w1 at *;refine QT ?_;refine rH1 12 λK hK=> ?_;go_simp;have xj:n4 (R (M w1)) w1 (w1.alloc (A #[O d,O d,I Y 0,I Y 0,O d,O d,U E 0 0] 91)):=ai;have B2:=lN;have A2:=sT.new w1 91 [O d,O d,I Y 0,I Y 0,O d,O d,U E 0 0];have ak:=B1.size;clear B1;refine hK.out _ _ (af.out _ B2) (λam=> ?_);clear hK K xj;refine sm ?_;generalize w1.alloc _=w2 at *;generalize (R (M w1))=ab at *;refine rH1 13 λK hK=> ?_;obtain⟨r0,r1,r2,r3,r4,r5,r6⟩:=A2.c7;have f0:=A2.2.2 0;have f1:=A2.2.2 1;have f2:=A2.2.2 2;have f3:=A2.2.2 3;have f4:=A2.2.2 4;have f5:=A2.2.2 5;have f6:=A2.2.2 6;go_simp;have A3:sT (((((((w2.setCell ⟨ab,0,E⟩ (O x.vq[k].n)).setCell ⟨ab,1,E⟩ (O x.vq[k].sp.n)).setCell ⟨ab,2,E⟩ (I Y x.vq[k].sp.lo)).setCell ⟨ab,3,E⟩ (I Y x.vq[k].sp.hi)).setCell ⟨ab,4,E⟩ (O x.vq[k].t)).setCell ⟨ab,5,E⟩ (O x.vq[k].f)).setCell ⟨ab,6,E⟩ (U ad (X x.vq[k].s) g1)) ab [O x.vq[k].n,O x.vq[k].sp.n,I Y x.vq[k].sp.lo,I Y x.vq[k].sp.hi,O x.vq[k].t,O x.vq[k].f,U ad (X x.vq[k].s) g1]:=(((((((A2.put 0 ae _).put 1 ae _).put 2 ae _).put 3 ae _).put 4 ae _).put 5 ae _).put 6 ae _);have B3:bl w (((((((w2.setCell ⟨ab,0,E⟩ (O x.vq[k].n)).setCell ⟨ab,1,E⟩ (O x.vq[k].sp.n)).setCell ⟨ab,2,E⟩ (I Y x.vq[k].sp.lo)).setCell ⟨ab,3,E⟩ (I Y x.vq[k].sp.hi)).setCell ⟨ab,4,E⟩ (O x.vq[k].t)).setCell ⟨ab,5,E⟩ (O x.vq[k].f)).setCell ⟨ab,6,E⟩ (U ad (X x.vq[k].s) g1)):=(((((((B2.setCell aw _).setCell aw _).setCell aw _).setCell aw _).setCell aw _).setCell aw _).setCell aw _);refine hK.out _ _ (af.out _ B3) (λal=> ?_);clear hK K r0 f0 r1 f1 r2 f2 r3 f3 r4 f4 r5 f5 r6 f6 A2 B2;refine sm ?_;generalize (((((((w2.setCell _ _).setCell _ _).setCell _ _).setCell _ _).setCell _ _).setCell _ _).setCell _ _)=w3 at *;refine wpAnyH_done ac ?_ _;first|refine hK1 _ _ (Met.intro (hJ1 _ _ ?_))|refine Met.intro (hJ1 _ _ ?_)|refine hJ1 _ _ ?_
  (repeat apply Exists.intro)
  refine⟨?_,rfl⟩;exact⟨ab,rfl,ak,A3,B3⟩
 obtain⟨ab,rfl,ak,A1,B1⟩:=hcut;have S1:=ah.out.call B1;have M1:=a7v.of B1 ah.out.2.1;have a0:=A1.1 0 _ rfl;have a1:=A1.1 1 _ rfl;have a4:=A1.1 4 _ rfl;have a5:=A1.1 5 _ rfl;have a6:=A1.1 6 _ rfl;have ax:=S1.1 14 _ rfl;have a2:=S1.2.2 14;cases hn:x.vq[k].n with
 |true=>
  rw[hn] at a0;go_wp2;go_ret;exact⟨⟨ad,g1,rfl,I0,k1,m1⟩,by rw[show ci x.vq[k]=W5 by simp[ci,hn]];exact S1.put 14 (by simp[bk]) _,M1.put 14 _⟩
 |false=>
  rw[hn] at a0;cases hp:x.vq[k].sp.n with
  |false=>
   rw[hp] at a1;go_wp2;go_ret;exact⟨⟨ad,g1,rfl,I0,k1,m1⟩,by rw[show ci x.vq[k]=W5 by simp[ci,hn,hp]];exact S1.put 14 (by simp[bk]) _,M1.put 14 _⟩
  |true=>
   rw[hp] at a1;cases ht:x.vq[k].t with
   |true=>
    rw[ht] at a4;go_wp2;go_ret;exact⟨⟨ad,g1,rfl,I0,k1,m1⟩,by rw[show ci x.vq[k]=W5 by simp[ci,hn,hp,ht]];exact S1.put 14 (by simp[bk]) _,M1.put 14 _⟩
   |false=>
    rw[ht] at a4;cases hf:x.vq[k].f with
    |true=>
     rw[hf] at a5;go_wp2;go_ret;exact⟨⟨ad,g1,rfl,I0,k1,m1⟩,by rw[show ci x.vq[k]=W5 by simp[ci,hn,hp,ht,hf]];exact S1.put 14 (by simp[bk]) _,M1.put 14 _⟩
    |false=>
     rw[hf] at a5;go_wp2;go_ret;exact⟨⟨ad,g1,rfl,I0,k1,m1⟩,by rw[show ci x.vq[k]=d by simp[ci,hn,hp,ht,hf]];exact S1.put 14 (by simp[bk]) _,M1.put 14 _⟩
end
section
open Go.RowKit
def doE (u k:Int):Int:=if u=0 then(if k < 4\/10 < k then 6 else 0) else u

def uk(a:aq g=W5)(H:aH c g=0):g=a4q:=by
 have e:=ckSp_ok.mp (mb H);clear H;obtain⟨n,⟨b,lo,hi⟩,t,f,s⟩:=g;cases s with
 |cons x r=>simp[aq,aT] at a
 |nil=>
  simp[aq,aT] at a;obtain⟨rfl,rfl,rfl,rfl⟩:=a;obtain⟨j,l⟩:=e.2.2.1 rfl;simp only at j l;subst j l;rfl
def MF (g h:Gs):de 4 g h=(g,d):=by simp[de]
def Ii (g h:Gs):de 10 g h=(⟨d,⟨W5,0,0⟩,dp g,cM g,[]⟩,d):=by simp[de]
def sy(H:k=5\/k=6\/k=7\/k=8\/k=9)(a:(aq g||aq h)=W5):de k g h=(a4q,d):=by
 unfold de;rw[if_neg aa,if_neg aa,if_pos a]
def Sv(H:k=5\/k=6\/k=7)(a:(aq g||aq h)=d):de k g h=(⟨d,cT k g.sp h.sp,d,d,[]⟩,aT g||aT h):=by
 unfold de;rw[if_neg aa,if_neg aa,if_neg (by rw[a];simp),if_neg aa,if_neg aa]
def a2s(a:(aq g||aq h)=d):de 8 g h=(⟨d,⟨W5,0,0⟩,!(g.sp.n||h.sp.n)&&decide (g.sp.lo < h.sp.hi),!(g.sp.n||h.sp.n)&&decide (h.sp.lo<=g.sp.hi),[]⟩,aT g||aT h):=by
 unfold de;rw[if_neg aa,if_neg aa,if_neg (by rw[a];simp),if_neg aa,if_pos rfl]
def a2c(a:(aq g||aq h)=d):de 9 g h=(⟨d,⟨W5,0,0⟩,(g.n&&h.n)||(!(aS g.sp h.sp).n||((g.t&&h.t)||((g.f&&h.f)||g.s.any λx=>h.s.contains x))),!dw g h,[]⟩,d):=by
 unfold de;rw[if_neg aa,if_neg aa,if_neg (by rw[a];simp),if_pos rfl]
def Lh(h:aq g=W5):g.sp.n=true:=by
 unfold aq at h;cases e:g.sp.n
 .rw[e] at h;simp at h
 .rfl
def Hw(hn:(aq g||aq h)=W5):(g.sp.n||h.sp.n)=true:=by
 cases e:aq g
 .rw[e] at hn
  rw[Lh (g:=h) mQ];simp
 .rw[Lh e];rfl
def pA (f:Gs->Bool)(g h:Gs):[g,h].any f=(f g||f h):=ae
def a3y(H:k=5\/k=6\/k=7):de k g h=(⟨d,cT k g.sp h.sp,d,d,[]⟩,[g,h].any aT&& ![g,h].any aq):=by
 rw[pA,pA];cases hn:(aq g||aq h)
 .rw[Sv H hn];simp
 .rw[sy aa hn]
  have e:cT k g.sp h.sp=⟨W5,0,0⟩:=by unfold cT;rw[if_pos (Hw hn)]
  rw[e];simp[a4q]
def a6v:de 8 g h=(⟨d,⟨W5,0,0⟩,!(g.sp.n||h.sp.n)&&decide (g.sp.lo < h.sp.hi),!(g.sp.n||h.sp.n)&&decide (h.sp.lo<=g.sp.hi),[]⟩,[g,h].any aT&& ![g,h].any aq):=by
 rw[pA,pA];cases hn:(aq g||aq h)
 .rw[a2s hn];simp
 .rw[sy aa hn,Hw hn];simp[a4q]
def no_none:dp a4q=d/\cM a4q=false:=an

def wW(h:p:=by
 rintro e w' ⟨rfl,hb⟩;exact⟨_,E,0,_,rfl,by rw[if_pos rfl,a3y (by omega)],.inl rfl,Nat.zero_le _,Nat.zero_le _,(λa ha=>kU),λhn=>absurd rfl hn,hb⟩):=h
def doU (V F:Int)(s:oA)(c:lI)(cap:Nat)(g:Gs)(ss:oA)(Z:Nat)(h:Gs)(n:oA)(T:Nat)(k:Int)(w:C)(o:a2r w s c)(hs:yv w ss g.s)(m:X g.s<=Z)(l:Z<=maxLen)(K:yv w n h.s)(t:X h.s<=T)(q:T<=maxLen):
  Calls f 164 #[pv V F s c cap,I Y k,gv g ss Z,gv h n T] w λe w'=>∃r js jc wr,e=Rt (Tu #[gv r js jc,O wr,I Y (doE (aY V F c [g,h]) k)])/\(r,wr)=(if doE (aY V F c [g,h]) k=0 then de k g h else(bT,d))/\yv w' js r.s/\X r.s<=jc/\jc<=maxLen/\(∀a,js=G a->R (M w)<=a.block/\Thw w' a.block)/\(doE (aY V F c [g,h]) k≠0->js=E/\jc=0)/\bl w w':=by
 by_cases u:aY V F c [g,h]=0
 .obtain⟨-,P,N⟩:=wH u
  have ak:=ckSp_ok.mp (mb P);have af:=ckSp_ok.mp (mb N);by_cases H:k < 4\/10 < k
  .have he:doE (aY V F c [g,h]) k=6:=by unfold doE;rw[if_pos u,if_pos H]
   rw[he];have ab:∀j:Int,4<=j->j<=10->(k==j)=false:=λj a b=>au;go_call a1J V F s c cap g ss Z h n T k w o hs m l K t q u (ab 4 aa aa) (ab 5 aa aa) (ab 6 aa aa) (ab 7 aa aa) (ab 8 aa aa) (ab 9 aa aa) (ab 10 aa aa) as e w' ⟨rfl,hb⟩;exact⟨bT,E,0,d,rfl,by rw[if_neg (by omega)],.inl rfl,j1 _,j1 _,(λa ha=>kU),λ_=>⟨rfl,rfl⟩,hb⟩
  .have he:doE (aY V F c [g,h]) k=0:=by unfold doE;rw[if_pos u,if_neg H]
   rw[he];have h7:=OG;rcases h7 with rfl|rfl|rfl|rfl|rfl|rfl|rfl
   .have z:=(kD u).1
    have l1:=dJ z.2 z.1;go_call a6B V F s c cap g ss Z h n T w o hs m l K t q u aa as e w' ⟨v,rfl,xK,hb⟩;obtain⟨js,jc,rfl,hi,al,Q,ah⟩:=kv;exact⟨g,js,jc,d,rfl,by rw[if_pos rfl,MF],hi,al,Q,ah,λhn=>absurd rfl hn,hb⟩
   .refine(a5W V F s c cap g ss Z h n T w o hs m l K t q u).mono ?_
    exact wW
   .refine(a6k V F s c cap g ss Z h n T w o hs m l K t q u).mono ?_
    exact wW
   .refine(a6z V F s c cap g ss Z h n T w o hs m l K t q u).mono ?_
    exact wW
   .refine(a6C V F s c cap g ss Z h n T w o hs m l K t q u).mono ?_
    rintro e w' ⟨rfl,hb⟩;exact⟨_,E,0,_,rfl,by rw[if_pos rfl,a6v],.inl rfl,j1 _,j1 _,(λa ha=>kU),λhn=>absurd rfl hn,hb⟩
   .have mx:maxLen<=9223372036854775807:=by decide
    cases hn:(aq g||aq h)
    .refine(a3l V F s c cap g ss Z h n T w o hs m l K t q u _ _ (λy ad=>Y6 g ss Z h n T y (hs.below ad (lR _)) aa (K.below ad (lR _)) aa (ckSps_ok.mpr ⟨ak,af⟩) (by rw[pA];exact hn))).mono ?_
     rintro e w' ⟨rfl,hb⟩;exact⟨_,E,0,_,rfl,by rw[if_pos rfl,a2c hn],.inl rfl,j1 _,j1 _,(λa ha=>kU),λhn=>absurd rfl hn,hb⟩
    .refine(a3l V F s c cap g ss Z h n T w o hs m l K t q u _ _ (λy ad=>Yx g ss Z h n T y (by rw[pA];exact hn))).mono ?_
     rintro e w' ⟨rfl,hb⟩;exact⟨_,E,0,_,rfl,by rw[if_pos rfl,sy (by omega) hn];rfl,.inl rfl,j1 _,j1 _,(λa ha=>kU),λhn=>absurd rfl hn,hb⟩
   .refine(a5E V F s c cap g ss Z h n T w o hs m l K t q u (mb P)).mono ?_
    rintro e w' ⟨rfl,hb⟩;exact⟨_,E,0,_,rfl,by rw[if_pos rfl,Ii],.inl rfl,j1 _,j1 _,(λa ha=>kU),λhn=>absurd rfl hn,hb⟩
 .have he:doE (aY V F c [g,h]) k=aY V F c [g,h]:=by unfold doE;rw[if_neg u]
  rw[he];go_call a3F V F s c cap g ss Z h n T k w o hs m l K t q u as e w' ⟨rfl,hb⟩;exact⟨bT,E,0,d,rfl,by rw[if_neg u],.inl rfl,j1 _,j1 _,(λa ha=>kU),λ_=>⟨rfl,rfl⟩,hb⟩
end
section
open Go.RowKit
attribute [local go_sem ↓] Go.wp_at_zero Go.wp_at_succ
def Tryz.info_pic:(Tryz.prog.info? 28).map (λi=>(i.zero,i.size,i.bytes))=G (G (Ag #[O d,U E 0 0,U E 0 0]),3,56):=ac
def Tryz.info_intV:(Tryz.prog.info? 3).map (λi=>(i.zero,i.size,i.bytes))=G (G (I Y 0),1,8):=ac
def npC:List Value:=[O true,U E 0 0,U E 0 0]
def lq (x:Pic)(vs:oA)(vc:Nat)(fs:oA)(fc k:Nat):List Value:=[O x.none,U vs (X x.vq) vc,U fs (X x.fq) fc]++(j2 k npC).flatten
def pM (k:Nat):List Value:=I .i64 1::j2 k (I .i64 0)
def CB{k:Nat}:lq x vs vc fs fc k++npC=lq x vs vc fs fc (k+1):=by
 unfold lq;rw[List.append_assoc,x7,List.flatten_append];rfl
def Tr {k:Nat}:pM k++[I Y 0]=pM (k+1):=by
 unfold pM;rw[x7];rfl
def a5S {k i j:Nat}(hi:i < k)(s:j < 3):(j2 k npC).flatten[i * 3+j]? =npC[j]? :=by
 induction k generalizing i with
 |zero=>omega
 |succ k ih=>
  rw[List.replicate_succ,List.flatten_cons];cases i with
  |zero=>rw[List.getElem?_append_left (by simp[npC];omega)];simp
  |succ i=>
   rw[J4 (by simp[npC];omega)];have e:(i+1) * 3+j - X npC=i * 3+j:=by simp[npC];omega
   rw[e];exact ih aa
def Lf{B z g k cap:Nat}{e:TypeId}{xs:List mh}(h:W.ownsRow B e z (U (G ⟨g,0,E⟩) k cap) k xs):sT W g xs:=by
 have b:=h.1;refine⟨λj v s=> ?_,(h.lt g rfl).2,λj=>h.frozenAt j⟩;have:j < X xs:=by
  apply Decidable.byContradiction;intro a;rw[x9 aa] at s;cases s
 rw[h.cellAt j aa];exact s
def a1j (W:C):a9s W a7q E none:=⟨λi hi=>absurd hi pu,λi hi=>absurd hi pu⟩
def PO{B g k cap:Nat}{e:TypeId}{x:Pic}{vs:oA}{vc:Nat}{fs:oA}{fc:Nat}(h:W.ownsRow B e 3 (U (G ⟨g,0,E⟩) (k+1) cap) (k+1) (lq x vs vc fs fc k))(r:bl w W)(N:a7d S w x vs fs)(m:X x.vq<=vc/\vc<=maxLen)(l:X x.fq<=fc/\fc<=maxLen):a8f (λb=>S b/\b < R (M w)) W g (x::j2 k a7q):=by
 refine⟨_,Lf h,by rw[h.1];simp,λi hi=> ?_⟩;cases i with
 |zero=>exact⟨vs,vc,fs,fc,⟨rfl,rfl,rfl⟩,λz l u=>N z (λb n T=>(l b ⟨n,T⟩ (lL T r.size)).trans (r.block b T)) (lT r.size u),m,l⟩
 |succ i=>
  have o:i < k:=gA;have a:(x::j2 k a7q)[i+1]=a7q:=ae;rw[a];have q:∀j,j < 3->(lq x vs vc fs fc k)[(i+1) * 3+j]? =npC[j]? :=λj s=>by
   unfold lq;rw[J4 au];have e:(i+1) * 3+j - [Value.bool x.none,U vs (X x.vq) vc,U fs (X x.fq) fc].length=i * 3+j:=au;rw[e];exact a5S o s
  exact⟨E,0,E,0,⟨q 0 aa,q 1 aa,q 2 aa⟩,λz _ _=>a1j z,⟨lR _,j1 _⟩,⟨lR _,j1 _⟩⟩
def a1B{B g k cap:Nat}{e:TypeId}(h:W.ownsRow B e 1 (U (G ⟨g,0,E⟩) (k+1) cap) (k+1) (pM k)):a8s W g (1::j2 k 0):=by
 refine⟨_,Lf h,by rw[h.1];simp,λi hi=> ?_⟩;cases i with
 |zero=>rfl
 |succ i=>
  have o:i < k:=gA;simp[pM,o]
structure a9j (w:World) (V F:Int) (s:oA) (c:lI) (cap:Nat) (x:Pic) (vs:oA) (vc:Nat) (fs:oA) (fc:Nat) (i j pb pc db dc:Nat) (W:World):Prop where
 st:sT W (w.heap.size+1+1+1+1) [I .i64 V,I .i64 F,U s c.length cap,U (G ⟨pb,0,E⟩) (i+1) pc,U (G ⟨db,0,E⟩) (j+1) dc]
 pr:W.ownsRow (w.heap.size+1+1) 28 3 (U (G ⟨pb,0,E⟩) (i+1) pc) (i+1) (lq x vs vc fs fc i)
 dr:W.ownsRow (w.heap.size+1+1) 3 1 (U (G ⟨db,0,E⟩) (j+1) dc) (j+1) (pM j)
 ne:pb≠db/\pb≠w.heap.size+1+1+1+1/\db≠w.heap.size+1+1+1+1
 lo:bl w W
 sz:w.heap.size+1+1+1+1 < W.heap.size
def Dc (w:C)(t:TypeId)(cs:List mh):∀g,G (⟨R (M w),0,E⟩:Addr)=G g->∀j u,cs[j]? =G u->(w.alloc (A cs.toArray t)).cell? (g.add j)=G u:=by
 intro g e j u s;cases e;have K:=Sk;rw[K];exact(sT.new w t cs).1 j u s
section
variable {x:Pic}{vs:oA}{vc:Nat}{fs:oA}{fc i j pb v db:Nat}
def a9j.growP{t:Nat}{O:Obj}{n:mh}(N:a9j w V F s c cap x vs vc fs fc i j pb v db t W)(z:W4.ownsRow (R (M w)+1+1) 28 3 n (i+1+1) (lq x vs vc fs fc i++npC))(xJ:(W.alloc O).grownBy W4 (G pb))(m:n.ownBlock=G pb\/n.ownBlock=G (R (M (W.alloc O)))):
  ∃g a,n=U (G ⟨g,0,E⟩) (i+1+1) a/\sT W4 (R (M w)+1+1+1+1) [I Y V,I Y F,U s (X c) cap,U (G ⟨pb,0,E⟩) (i+1) v,U (G ⟨db,0,E⟩) (j+1) t]/\∀r,r=bd W4 (R (M w)+1+1+1+1) 3 [n]->a9j w V F s c cap x vs vc fs fc (i+1) j g a db t r:=by
 have N':=N;obtain⟨y,K,n3,Q,n5,n6⟩:=N;have al:=n3.lt db rfl;have ah:=K.lt pb rfl;have u:=Dp;have ak:=xJ.size;have far:∀b,b < R (M W)->b≠pb->W4.heap[b]? =W.heap[b]? :=λb hb l=>(xJ.block b aa (λe=>l (by cases e;rfl))).trans (Below.heap_alloc _ _ _ hb);have T:=y.same (far _ n6 (Ne.symm Q.2.1)) aa;have ad:=(n3.kept (j6 W O E) (.inr kL)).kept xJ (.inr (λe=>Q.1 (by cases e;rfl)));have ab:=NH;rcases z.2 with⟨_,h⟩|⟨g,a,af,rfl,-⟩
 .omega
 have H:g≠db/\g≠R (M w)+1+1+1+1:=by
  rcases m with h|h
  .simp only[q9,z5.injEq] at h
   rw[h];exact⟨Q.1,Q.2.1⟩
  .simp only[q9,z5.injEq] at h
   rw[h,u];exact⟨aa,aa⟩
 refine⟨g,a,rfl,T,λr e=> ?_⟩;have Z:=bC T 3 _ e;refine⟨Z.cells,?_,?_,⟨H.1,H.2,Q.2.2⟩,Z.low aa ab,by have:=Z.size;omega⟩
 .rw[CB] at z
  exact aG z (λk hk=>by cases hk;exact Z.far _ H.2)
 .exact aG ad (λk hk=>by cases hk;exact Z.far _ Q.2.2)
def a9j.growD{t:Nat}{O:Obj}{n:mh}(N:a9j w V F s c cap x vs vc fs fc i j pb v db t W)(z:W4.ownsRow (R (M w)+1+1) 3 1 n (j+1+1) (pM j++[I Y 0]))(xJ:(W.alloc O).grownBy W4 (G db))(m:n.ownBlock=G db\/n.ownBlock=G (R (M (W.alloc O)))):
  ∃g a,n=U (G ⟨g,0,E⟩) (j+1+1) a/\sT W4 (R (M w)+1+1+1+1) [I Y V,I Y F,U s (X c) cap,U (G ⟨pb,0,E⟩) (i+1) v,U (G ⟨db,0,E⟩) (j+1) t]/\∀r,r=bd W4 (R (M w)+1+1+1+1) 4 [n]->a9j w V F s c cap x vs vc fs fc i (j+1) pb v g a r:=by
 obtain⟨y,K,n3,Q,n5,n6⟩:=N;have al:=n3.lt db rfl;have ah:=K.lt pb rfl;have u:=Dp;have ak:=xJ.size;have far:∀b,b < R (M W)->b≠db->W4.heap[b]? =W.heap[b]? :=λb hb l=>(xJ.block b aa (λe=>l (by cases e;rfl))).trans (Below.heap_alloc _ _ _ hb);have T:=y.same (far _ n6 (Ne.symm Q.2.2)) aa;have ad:=(K.kept (j6 W O E) (.inr kL)).kept xJ (.inr (λe=>Q.1 (by cases e;rfl)));have ab:=NH;rcases z.2 with⟨_,h⟩|⟨g,a,af,rfl,-⟩
 .omega
 have H:pb≠g/\g≠R (M w)+1+1+1+1:=by
  rcases m with h|h
  .simp only[q9,z5.injEq] at h
   rw[h];exact⟨Q.1,Q.2.2⟩
  .simp only[q9,z5.injEq] at h
   rw[h,u];exact⟨aa,aa⟩
 refine⟨g,a,rfl,T,λr e=> ?_⟩;have Z:=bC T 4 _ e;refine⟨Z.cells,?_,?_,⟨H.1,Q.2.1,H.2⟩,Z.low aa ab,by have:=Z.size;omega⟩
 .exact aG ad (λk hk=>by cases hk;exact Z.far _ Q.2.1)
 .rw[Tr] at z
  exact aG z (λk hk=>by cases hk;exact Z.far _ H.2)
end
def a5F (S:Nat->Prop)(w:World)(V F:Int)(s:oA)(c:lI)(cap:Nat)(x:Pic)(e:Ending)(w':World):Prop:=∃pb pc db dc,e=Rt (Pp (G ⟨R (M w)+1+1+1+1,0,E⟩))/\sT w' (R (M w)+1+1+1+1) [I .i64 V,I .i64 F,U s (X c) cap,U (G ⟨pb,0,E⟩) (X c+1) pc,U (G ⟨db,0,E⟩) (X c+1) dc]/\a8f (λb=>S b/\b < R (M w)) w' pb (x::j2 (X c) a7q)/\a8s w' db (1::j2 (X c) 0)/\(R (M w)<=pb/\R (M w)<=db)/\(pb≠db/\pb≠R (M w)+1+1+1+1/\db≠R (M w)+1+1+1+1)/\bl w w'
def a1F(V F:Int)(s:oA)(c:lI)(cap:Nat)(x:Pic)(vs:oA)(vc:Nat)(fs:oA)(fc:Nat)(w:C)(hx:a7d S w x vs fs)(m:X x.vq<=vc/\vc<=maxLen)(l:X x.fq<=fc/\fc<=maxLen)(o:X c<=60):
  Calls f 48 #[pv V F s c cap,xv x vs vc fs fc] w λe w'=>a5F S w V F s c cap x e w':=by
 obtain⟨ti,hi,y,al,ak⟩:=info_parts Tryz.info_pic;obtain⟨tk,H,ap,ax,ar⟩:=info_parts Tryz.info_intV;have HX:=cX;clear hx;have N0:a9j w V F s c cap x vs vc fs fc 0 0 (R (M w)+1+1) 1 (R (M w)+1+1+1) 1 (((((w.alloc (A #[I Y V,I Y F,U s (X c) cap] 24)).alloc (A #[O x.none,U vs (X x.vq) vc,U fs (X x.fq) fc] 28)).alloc (A #[O x.none,U vs (X x.vq) vc,U fs (X x.fq) fc] 28)).alloc (A #[I Y 1] 3)).alloc (A #[I Y V,I Y F,U s (X c) cap,U (G ⟨R (M w)+1+1,0,E⟩) 1 1,U (G ⟨R (M w)+1+1+1,0,E⟩) 1 1] 106)):=by
  have B:n4 (R (M w)) w (((((w.alloc (A #[I Y V,I Y F,U s (X c) cap] 24)).alloc (A #[O x.none,U vs (X x.vq) vc,U fs (X x.fq) fc] 28)).alloc (A #[O x.none,U vs (X x.vq) vc,U fs (X x.fq) fc] 28)).alloc (A #[I Y 1] 3)).alloc (A #[I Y V,I Y F,U s (X c) cap,U (G ⟨R (M w)+1+1,0,E⟩) 1 1,U (G ⟨R (M w)+1+1+1,0,E⟩) 1 1] 106)):=ai;refine⟨?_,?_,?_,⟨aa,aa,aa⟩,B,ae⟩
  .have h:=sT.new (((((w.alloc (A #[I Y V,I Y F,U s (X c) cap] 24)).alloc (A #[O x.none,U vs (X x.vq) vc,U fs (X x.fq) fc] 28)).alloc (A #[O x.none,U vs (X x.vq) vc,U fs (X x.fq) fc] 28)).alloc (A #[I Y 1] 3))) 106 [I Y V,I Y F,U s (X c) cap,U (G ⟨R (M w)+1+1,0,E⟩) 1 1,U (G ⟨R (M w)+1+1+1,0,E⟩) 1 1]
   rw[zA,zA,zA,zA] at h;exact h
  .have h:=j9 (base:=R (M w)+1+1) (e:=28) (size:=3) ((w.alloc (A #[I Y V,I Y F,U s (X c) cap] 24)).alloc (A #[O x.none,U vs (X x.vq) vc,U fs (X x.fq) fc] 28)) #[O x.none,U vs (X x.vq) vc,U fs (X x.fq) fc] 1 ae an rfl
   rw[zA,zA] at h;exact(h.kept (j6 _ _ E) (.inr kL)).kept (j6 _ _ E) (.inr kL)
  .have h:=j9 (base:=R (M w)+1+1) (e:=3) (size:=1) (((w.alloc (A #[I Y V,I Y F,U s (X c) cap] 24)).alloc (A #[O x.none,U vs (X x.vq) vc,U fs (X x.fq) fc] 28)).alloc (A #[O x.none,U vs (X x.vq) vc,U fs (X x.fq) fc] 28)) #[I Y 1] 1 ae an rfl
   rw[zA,zA,zA] at h;exact h.kept (j6 _ _ E) (.inr kL)
 have P0:sT (((((w.alloc (A #[I Y V,I Y F,U s (X c) cap] 24)).alloc (A #[O x.none,U vs (X x.vq) vc,U fs (X x.fq) fc] 28)).alloc (A #[O x.none,U vs (X x.vq) vc,U fs (X x.fq) fc] 28)).alloc (A #[I Y 1] 3)).alloc (A #[I Y V,I Y F,U s (X c) cap,U (G ⟨R (M w)+1+1,0,E⟩) 1 1,U (G ⟨R (M w)+1+1+1,0,E⟩) 1 1] 106)) (R (M w)) [I Y V,I Y F,U s (X c) cap]:=(sT.new w _ [_,_,_]).call ai;go_enter func48,ntmps48;go_upto_region 2 with fail
 generalize ((((w.alloc _).alloc _).alloc _).alloc _).alloc _=w5 at *;have j:=P0.1 2 _ rfl;go_wp2;clear j P0;go_loopw [15] (λi wr=>∃k pb v db t:Nat,k<=X c/\i=I Y k/\Hid (a9j w V F s c cap x vs vc fs fc k k pb v db t wr)) (λi _=>X c - (intOf i).toNat)
 case atStart=>exact⟨0,_,_,_,_,j1 _,rfl,N0⟩
 case round=>
  clear N0;obtain⟨k,pb,v,db,t,az,rfl,HN⟩:=hrel;by_cases T:k < X c;rotate_left
  .have n1:=vM
   have ek:k=X c:=aa;subst ek;go_wp2;go_ret;have N:=HN.out;have ay:=N.pr.lt pb rfl;have a0:=N.dr.lt db rfl;exact⟨pb,v,db,t,rfl,N.st,PO N.pr N.lo HX.out m l,a1B N.dr,⟨aa,aa⟩,N.ne,N.lo⟩
  have n1:=kA;have q3:=HN.out.st.1 3 _ rfl;have S4:=Nz;have zw:=HN.out.sz;go_wp2_with (at_builtin;refine bn _ rfl _ _ 47 rfl (R (M w)+1+1) 28 ti (Ag #[O d,U E 0 0,U E 0 0]) 3 56 underlying47 hi y al ak rfl an _ _ _ rfl S4 (G ⟨R (M wr),0,E⟩) 1 1 npC rfl rfl (λh=>bU) ?qa2 ?qa3 ?qa4 ?qa5 ?qa6 ?_)
  case qa2=>exact Dc wr 28 npC
  case qa3=>intro u P;simp[npC] at P;rcases P with rfl|rfl<;>rfl
  case qa4=>unfold maxLen;omega
  case qa5=>omega
  case qa6=>rw[zA];omega
  intro n w4 z b xY;obtain⟨g,a,rfl,ab,Z⟩:=HN.out.growP z b iB;have Z:=ag Z;clear z b xY S4 q3 HN zw;have q3:=ab.1 3 _ rfl;have ao:=ab.2.2 3;go_upto_region 5 with fail
  obtain⟨r,ad⟩:∃q,q=bd w4 (R (M w)+1+1+1+1) 3 [U (G ⟨g,0,E⟩) (k+1+1) a]:=⟨_,rfl⟩;have N5:=ag (Z.out r ad);simp only[bd] at ad;rw[<-ad];clear ad Z q3 ao ab;have q4:=N5.out.st.1 4 _ rfl;have S4:=N5.out.dr.kept (j6 r (A #[I Y 0] 3) E) (.inr kL);have zw:=N5.out.sz;go_wp2_with (at_builtin;refine bn _ rfl _ _ 34 rfl (R (M w)+1+1) 3 tk (I Y 0) 1 8 underlying34 H ap ax ar rfl an _ _ _ rfl S4 (G ⟨R (M r),0,E⟩) 1 1 [I Y 0] rfl rfl (λh=>bU) ?qb2 ?qb3 ?qb4 ?qb5 ?qb6 ?_)
  case qb2=>exact Dc r 3 [I Y 0]
  case qb3=>intro u P;simp at P;rw[P];rfl
  case qb4=>unfold maxLen;omega
  case qb5=>omega
  case qb6=>rw[zA];omega
  intro n K z b xY;obtain⟨Q,ah,rfl,ab,Z⟩:=N5.out.growD z b iB;have Z:=ag Z;clear z b xY S4 q4 N5 zw;have q4:=ab.1 4 _ rfl;have am:=ab.2.2 4;go_upto_region 6 with fail
  obtain⟨wz,af⟩:∃q,q=bd K (R (M w)+1+1+1+1) 4 [U (G ⟨Q,0,E⟩) (k+1+1) ah]:=⟨_,rfl⟩;have N6:=ag (Z.out wz af);simp only[bd] at af;rw[<-af];clear af Z q4 am ab;go_wp2;go_roundw
  case rel=>exact⟨k+1,g,a,Q,ah,aa,aJ,N6.out⟩
  case measure=>exact aK
def DN (a b:List Pic)(s1:oA)(c1:Nat)(s2:oA)(c2:Nat)(w:C)(ha:X a<=maxLen)(m:a8k w s1 a)(l:a8k w s2 b):
  Calls f 36 #[U s1 (X a) c1,U s2 (X b) c2] w λe w'=>a7u e (a=b)/\bl w w':=by
 have hm:=iT;by_cases hl:X a=X b
 .rw[<-hl]
  have HL:=ag hl;clear hl;go_enter func36,ntmps36;go_wp2;go_loopw [5] (λi wr=>∃k:Nat,k<=X a/\i=I Y k/\Hid (a.take k=b.take k)/\bl w wr) (λi _=>X a - (intOf i).toNat)
  case atStart=>exact⟨0,j1 _,rfl,rfl,bR _ _⟩
  case round=>
   obtain⟨k,H,rfl,HE,xA⟩:=hrel;by_cases xy:k < X a
   .have n0:=cQ
    have n1:=vJ;have hlb:k < X b:=sX;obtain⟨u,j,rfl,z1,z,n,s,g,⟨p0,p1,p2⟩,J1,k1,m1⟩:=m.below xA (lR _) k xy;obtain⟨b2,T,rfl,z2,Z,r,t,o,⟨q0,q1,q2⟩,J2,-⟩:=l.below xA (lR _) k hlb;have ah:Aa a[k]:=⟨lT k1.1 k1.2,lT m1.1 m1.2⟩;have ak:Hid (∀y,bl wr y->(y.cell? ⟨u,j+k * 3,E⟩=G (O a[k].none)/\y.cell? ⟨u,j+k * 3+1,E⟩=G (U z (X a[k].vq) n)/\y.cell? ⟨u,j+k * 3+2,E⟩=G (U s (X a[k].fq) g))/\(y.cell? ⟨b2,T+k * 3,E⟩=G (O b[k].none)/\y.cell? ⟨b2,T+k * 3+1,E⟩=G (U Z (X b[k].vq) r)/\y.cell? ⟨b2,T+k * 3+2,E⟩=G (U t (X b[k].fq) o))):=λy N=>⟨⟨by rw[N.cell (by simp only;exact z1)];exact p0,by rw[N.cell (by simp only;exact z1)];exact p1,by rw[N.cell (by simp only;exact z1)];exact p2⟩,by rw[N.cell (by simp only;exact z2)];exact q0,by rw[N.cell (by simp only;exact z2)];exact q1,by rw[N.cell (by simp only;exact z2)];exact q2⟩;have HD:=dS;clear p0 p1 p2 q0 q1 q2;go_wp2;refine XK [] ac ak.out HD (λad=> ?_);refine QQ ?_;refine av (i:=8) rfl ac (λK hK=> ?_);go_simp;go_at_call 34;go_call mk _ _ z n s g Z r t o _ ah (J1.call HD) (J2.call HD) as e w5 ⟨⟨bb,rfl,ab⟩,xw⟩;have af:=ag ab;clear ab;have qi:=m9;go_wp2_with fail;refine hK.out _ _ (ak.out _ qi) (λad=> ?_);clear hK K;refine sm ?_;refine QN 9 ?_;refine aB ac ?_ _;rcases Bool.eq_false_or_eq_true bb with e1|e1
    .have HQ:=ag (af.out.1 e1)
     subst e1;go_wp2;go_roundw
     case rel=>exact⟨k+1,aa,aJ,Vf,xA.trans (qi.mono xA.size)⟩
     case measure=>exact aK
    .have HQ:Hid (¬a[k]=b[k]):=λh=>by rw[af.out.2 h] at e1;cases e1
     subst e1;go_wp2;go_ret;exact MU
   .have n1:=wf
    go_wp2;go_ret;exact⟨a7u.yes KT,xA⟩
 .have e1:=ET
  have HL:=ag hl;clear hl;go_enter func36,ntmps36;go_wp2;go_ret;exact⟨a7u.no λe=>HL.out mH,bR _ _⟩
def Pc:Prop:=∀(V F:Int) (s:oA) (c:lI) (cap:Nat) (w:World),aA V F c=0->Calls f 69 #[pv V F s c cap] w λe w'=>(∃vs vc fs fc,e=Rt (Ag #[O (bK V F c).none,U vs (X (bK V F c).vq) vc,U fs (X (bK V F c).fq) fc])/\a7d (λ_=>True) w' (bK V F c) vs fs/\(X (bK V F c).vq<=vc/\vc<=maxLen)/\(X (bK V F c).fq<=fc/\fc<=maxLen))/\bl w w'
structure a8z (w1:World) (x:Pic) (vs:oA) (vc:Nat) (fs:oA) (fc k g cp:Nat) (W:World):Prop where
 pr:W.ownsRow w1.heap.size 28 3 (U (G ⟨g,0,E⟩) (k+1) cp) (k+1) (lq x vs vc fs fc k)
 lo:bl w1 W
def a8z.new:a8z w1 x vs vc fs fc 0 (R (M w1)) 1 (w1.alloc (A #[O x.none,U vs (X x.vq) vc,U fs (X x.fq) fc] 28)):=by
 refine⟨?_,ai⟩;exact j9 (base:=R (M w1)) (e:=28) (size:=3) w1 #[O x.none,U vs (X x.vq) vc,U fs (X x.fq) fc] 1 ae an rfl
def a8z.grow{l:C}{x:Pic}{vs:oA}{vc:Nat}{fs:oA}{fc k g a:Nat}{O:Obj}{n:mh}(N:a8z w1 x vs vc fs fc k g a W)(z:l.ownsRow (R (M w1)) 28 3 n (k+1+1) (lq x vs vc fs fc k++npC))(b:(W.alloc O).grownBy l (G g)):
  ∃j e,n=U (G ⟨j,0,E⟩) (k+1+1) e/\a8z w1 x vs vc fs fc (k+1) j e l:=by
 obtain⟨y,K⟩:=N;have P:=y.lt g rfl;have u:=Dp;have m:bl w1 l:=(K.alloc (by have:=K.size;omega) O).grown b (by have:=K.size;omega) (λk H=>by cases H;omega)
 rcases z.2 with⟨_,h⟩|⟨j,e,o,rfl,-⟩
 .omega
 rw[CB] at z;exact⟨j,e,rfl,z,m⟩
structure a9a (w:World) (V F:Int) (s:oA) (c:lI) (cap pb:Nat) (L:List Pic) (W:World):Prop where
 pr:a8f (λb=>b≠pb) W pb L
 pg:a7w W w.heap.size V F s c cap
 lo:bl w W
def a8z.doc{vs:oA}{vc:Nat}{fs:oA}{fc g a:Nat}(h:a8z w1 (bK V F c) vs vc fs fc (X c) g a W)(N:a7d (λ_=>True) w1 (bK V F c) vs fs)(m:X (bK V F c).vq<=vc/\vc<=maxLen)(l:X (bK V F c).fq<=fc/\fc<=maxLen)(t:a7w w1 (R (M w)) V F s c cap)(r:bl w w1)(u:R (M w) < R (M w1)):a9a w V F s c cap g (bj V F c 0) W/\R (M w) < g:=by
 have P:=h.pr.lt g rfl;exact⟨⟨(PO h.pr h.lo N m l).mono λb r _=>aa,t.low h.lo u,r.trans (h.lo.mono r.size)⟩,aa⟩
def UN:Prop:=∀(T:Nat->Prop) (V F:Int) (s:oA) (c:lI) (cap:Nat) (at_:Int) (x:Pic) (vs:oA) (vc:Nat) (fs:oA) (fc:Nat) (w:World),a2r w s c->a7d T w x vs fs->aA V F c=0->aO V F c x=0->0<=at_->at_ < X c->X x.vq<=vc/\vc<=maxLen->X x.fq<=fc/\fc<=maxLen->Calls f 59 #[pv V F s c cap,I .i64 at_,xv x vs vc fs fc] w λe w'=>cC (λb=>T b\/R (M w)<=b) w' e (aD (bS c at_) at_ x)/\bl w w'
def Vt:Prop:=∀(S:Nat->Prop) (V F:Int) (c:lI) (wide:Bool) (x y:Pic) (xh:oA) (xf:Nat) (xk:oA) (xi:Nat) (xq:oA) (xm:Nat) (xr:oA) (xo:Nat) (w:World),a7d S w x xh xk->a7d S w y xq xr->X x.vq<=xf/\xf<=maxLen->X x.fq<=xi/\xi<=maxLen->X y.vq<=xm/\xm<=maxLen->X y.fq<=xo/\xo<=maxLen->aA V F c=0->aO V F c x=0->aO V F c y=0->Calls f 70 #[xv x xh xf xk xi,xv y xq xm xr xo,O wide] w λe w'=>(∃us uc gs gc,e=Rt (Ag #[O (aI (aj wide) x y).none,U us (X (aI (aj wide) x y).vq) uc,U gs (X (aI (aj wide) x y).fq) gc])/\a7d (λb=>S b\/R (M w)<=b) w' (aI (aj wide) x y) us gs/\(X (aI (aj wide) x y).vq<=uc/\uc<=maxLen)/\(X (aI (aj wide) x y).fq<=gc/\gc<=maxLen))/\bl w w'
def a9a.call{g:Nat}{L:List Pic}(h:a9a w V F s c cap g L W)(r:bl W W'):a9a w V F s c cap g L W':=⟨h.pr.call r,h.pg.call r,h.lo.trans (r.mono h.lo.size)⟩
structure b0a (w:World) (g yb:Nat) (y:Pic) (us:oA) (uc:Nat) (gs:oA) (gc:Nat) (W:World):Prop where
 cell:sT W yb [O y.none,U us y.vq.length uc,U gs y.fq.length gc]
 pic:a7d (λb=>b≠g) W y us gs
 c1:y.vq.length<=uc/\uc<=maxLen
 c2:y.fq.length<=gc/\gc<=maxLen
 lo:bl w W
def T7(N:aA V F c=0){n i:Int}{E:List Edg}(j:∀e∈E,kT V F c e){L a:List Pic}{b g:Bool}(k:a8c V F c L)(q:Nat)(h:(E.take q).foldl (cB n i) (L,b)=(a,g)):a8c V F c a:=by
 have:=(y8 (n:=n) (i:=i) N (L:=E.take q) (s:=(L,b)) k λe l=>j e (List.mem_of_mem_take l)).1;rw[h] at this;exact this
def Ug {n i:Int}{E:List Edg}{s t:List Pic×Bool}{q:Nat}(hq:q < X E)(h:(E.take q).foldl (cB n i) s=t):(E.take (q+1)).foldl (cB n i) s=cB n i t E[q]:=by
 rw[j8 hq,J5,h];rfl
section
variable (N:aA V F c=0){n i:Int}{L:List Pic}{b:Bool}
def WB{t:Nat}{y z:Pic}(u:bp L (t:Int)=z)(m:aO V F c z=0)(l:aO V F c y=0)(h:aI (aj (dV n i t)) z y=z):cB n i (L,b) ⟨(t:Int),y⟩=(L,b):=by
 unfold cB;rw[if_pos (by simp only[u];exact(sr N m l).1 h)]
def a0X{t:Nat}{y z:Pic}(u:bp L (t:Int)=z)(m:aO V F c z=0)(l:aO V F c y=0)(h:¬aI (aj (dV n i t)) z y=z):cB n i (L,b) ⟨(t:Int),y⟩=(L.set t (aI (aj (dV n i t)) z y),W5):=by
 unfold cB;rw[if_neg (by simp only[u];exact λk=>h ((sr N m l).2 k))];simp only[u,Int.toNat_natCast]
end
def RM (V F:Int)(c:lI)(e:Ending)(w':World):Prop:=∃(m pb pc:Nat),a7x V F c m/\m<=200000000000000/\e=Rt (Tu #[U (G ⟨pb,0,E⟩) (X c+1) pc,I .i64 ((m+1:Nat):Int)])/\a8k w' (G ⟨pb,0,E⟩) (bj V F c m)
def a9t (V F:Int)(c:lI)(m:Nat)(b:Bool):Prop:=(b=true/\∀k,k < m->(eC c ((k+1:Nat):Int) (bj V F c k)).2=true)\/(b=false/\∃m',m=m'+1/\a7x V F c m')
def a9t.next{b:Bool}(h:∀k,k < m->(eC c ((k+1:Nat):Int) (bj V F c k)).2=W5)(q:eC c ((m+1:Nat):Int) (bj V F c m)=(L,b)):a9t V F c (m+1) b:=by
 cases b with
 |true=>exact .inl ⟨rfl,λk H=>by
   by_cases e:k=m
   .rw[e,q]
   .exact h k aa⟩
 |false=>exact .inr ⟨rfl,m,rfl,h,by rw[q]⟩
def SI(N:aA V F c=0)(h:a7x V F c m):m<=200000000000000:=by
 have:=n8 N h.1;omega
def FP(h:p:=by
 refine QO 15 ?_;refine wpAnyH_ready (rs:=[16,17]) ac ae ?_;refine AllReadyH.cons rfl (λK hK=> ?_) (AllReadyH.cons rfl (λK hK=> ?_) AllReadyH.nil)
 .go_simp
  refine(HJN.out _ w6 B6).mono ?_;rintro e w7 ⟨⟨Y,js,jc,ks,kc,HYE,rfl,JP,JC1,JC2⟩,ql⟩;have B7:=B6.trans (ql.mono (B6.size));have J7:a7d (λb=>b≠g) w7 Y js ks:=JP.mono λb hb _=>by
   rcases hb with h|h
   .exact h.1
   .have:=B6.size;omega
  clear JP;refine hK.out _ _ (xP.out _ B7) (λQK=> ?_);clear hK K ql B6;refine sm ?_;refine rH1 17 λK hK=> ?_;go_simp;have zJ:Below w7.heap.size w7 (w7.alloc (A #[O false,U nO 0 0,U nO 0 0] 28)):=ai;have B8:=B7.trans (zJ.mono (B7.size));have A8:sT (w7.alloc (A #[O false,U nO 0 0,U nO 0 0] 28)) w7.heap.size [O false,U nO 0 0,U nO 0 0]:=sT.new w7 28 [O false,U nO 0 0,U nO 0 0];have zyb:wr.heap.size<=w7.heap.size:=B7.size;have J8:a7d (λb=>b≠g/\b≠w7.heap.size) (w7.alloc (A #[O false,U nO 0 0,U nO 0 0] 28)) Y js ks:=(J7.mono λb hb xy=>⟨hb,Nat.ne_of_lt xy⟩).call zJ;clear J7;clear B7;refine hK.out _ _ (xP.out _ B8) (λQE=> ?_);clear hK K zJ;refine sm ?_;generalize w7.alloc (A #[O false,U nO 0 0,U nO 0 0] 28)=w8 at *;generalize w7.heap.size=yb at *;refine rH1 18 λK hK=> ?_;have r0:=A8.1 0 _ rfl;have r1:=A8.1 1 _ rfl;have r2:=A8.1 2 _ rfl;have f0:=A8.2.2 0;have f1:=A8.2.2 1;have f2:=A8.2.2 2;go_simp;have A9:=Of;have B9:=Pi;have xV:=OV;have xT:=Sn;have J9:=OD;refine hK.out _ _ (xP.out _ B9) (λQF=> ?_);clear hK K r0 r1 r2 f0 f1 f2 A8 B8 J8 xV xT;refine sm ?_;generalize (((w8.setCell ⟨yb,0,nO⟩ (O Y.none)).setCell ⟨yb,1,nO⟩ (U js Y.vq.length jc)).setCell ⟨yb,2,nO⟩ (U ks Y.fq.length kc))=w9 at *;refine wpAnyH_done ac ?_ _;first|refine hK1 _ _ (Met.intro (hJ1 _ _ ?_))|refine Met.intro (hJ1 _ _ ?_)|refine hJ1 _ _ ?_
  (repeat apply Exists.intro)
  refine⟨?_,rfl⟩;exact⟨yb,js,jc,ks,kc,rfl,VD⟩
 .go_simp
  have ql:Below w6.heap.size w6 (w6.alloc (A #[O false,U nO 0 0,U nO 0 0] 28)):=ai;have B7:=B6.trans (ql.mono (B6.size));have A7:sT (w6.alloc (A #[O false,U nO 0 0,U nO 0 0] 28)) w6.heap.size [O false,U nO 0 0,U nO 0 0]:=sT.new w6 28 [O false,U nO 0 0,U nO 0 0];have zyb:wr.heap.size<=w6.heap.size:=B6.size;clear B6;refine hK.out _ _ (xP.out _ B7) (λQK=> ?_);clear hK K ql;refine sm ?_;generalize w6.alloc (A #[O false,U nO 0 0,U nO 0 0] 28)=w7 at *;generalize w6.heap.size=yb at *;refine rH1 16 λK hK=> ?_;go_simp;refine(HJN.out _ w7 B7).mono ?_;rintro e w8 ⟨⟨Y,js,jc,ks,kc,HYE,rfl,JP,JC1,JC2⟩,zJ⟩;have A8:=A7.call zJ;have B8:=B7.trans (zJ.mono (B7.size));have J8:a7d (λb=>b≠g/\b≠yb) w8 Y js ks:=JP.mono λb hb _=>by
   rcases hb with h|h
   .exact⟨h.1,aa⟩
   .exact⟨by have:=B7.size;omega,by have:=A7.2.1;omega⟩
  clear JP;refine hK.out _ _ (xP.out _ B8) (λQE=> ?_);clear hK K zJ A7 B7;refine sm ?_;refine rH1 18 λK hK=> ?_;have r0:=A8.1 0 _ rfl;have r1:=A8.1 1 _ rfl;have r2:=A8.1 2 _ rfl;have f0:=A8.2.2 0;have f1:=A8.2.2 1;have f2:=A8.2.2 2;go_simp;have A9:=Of;have B9:=Pi;have xV:=OV;have xT:=Sn;have J9:=OD;refine hK.out _ _ (xP.out _ B9) (λQF=> ?_);clear hK K r0 r1 r2 f0 f1 f2 A8 B8 J8 xV xT;refine sm ?_;generalize (((w8.setCell ⟨yb,0,nO⟩ (O Y.none)).setCell ⟨yb,1,nO⟩ (U js Y.vq.length jc)).setCell ⟨yb,2,nO⟩ (U ks Y.fq.length kc))=w9 at *;refine wpAnyH_done ac ?_ _;first|refine hK1 _ _ (Met.intro (hJ1 _ _ ?_))|refine Met.intro (hJ1 _ _ ?_)|refine hJ1 _ _ ?_
  (repeat apply Exists.intro)
  refine⟨?_,rfl⟩;exact⟨yb,js,jc,ks,kc,rfl,VD⟩):=h
def Wt (hF:Pc)(hS:UN)(hJ:Vt)(V F:Int)(s:oA)(c:lI)(cap:Nat)(w:C)(T:a2r w s c)(h0:aA V F c=0):
  Calls f 31 #[pv V F s c cap] w λe w'=>RM V F c e w'/\bl w w':=by
 obtain⟨⟨e3,e0⟩,⟨ey,e4⟩,ew⟩:=fX;obtain⟨ti,hi,c7,c0,a3⟩:=info_parts Tryz.info_pic;have P0:=nz;have B0:=mY;have z0:w.heap.size < (w.alloc (A #[I .i64 V,I .i64 F,U s (X c) cap] 24)).heap.size:=ae;have HC:=ag T;have HZ:=ag h0;have HF:=ag (λwx=>hF V F s c cap wx h0);have eb:=ag hS;have eu:=ag hJ;clear T h0 hF hS hJ;go_enter func31,ntmps31;go_upto_region 1 with fail
 generalize w.alloc _=w0 at *;obtain⟨⟨p0,p1,p2⟩,pz⟩:=id P0;go_wp2_with fail;go_call HF.out w0 as e w1 ⟨⟨vs,vc,fs,fc,rfl,N,cc,c4⟩,vZ⟩;have P1:=gF;have B1:=it;have z1:=lL z0 vZ.size;have HD:=ag (λ(g cp:Nat) (W:C) (h:a8z w1 (bK V F c) vs vc fs fc (X c) g cp W)=>h.doc N cc c4 P1 B1 z1);have co:=ag (λ(k g cp:Nat) (W:C) (h:a8z w1 (bK V F c) vs vc fs fc k g cp W)=>(P1.low h.lo z1:a7w W w.heap.size V F s c cap));obtain⟨x,ex⟩:∃x,x=(bK V F c):=⟨_,rfl⟩;rw[<-ex] at HD co |-;clear P0 B0 z0 vZ HF p0 p1 p2 N cc c4 P1 B1 z1 ex;have N0:=a8z.new (w1:=w1) (x:=x) (vs:=vs) (vc:=vc) (fs:=fs) (fc:=fc);go_upto_region 2 with fail
 generalize w1.alloc _=w2 at *;obtain⟨g1,df⟩:∃g,g=w1.heap.size:=⟨_,rfl⟩;rw[<-df] at N0 |-;clear df;go_wp2;go_loopw [4,5] (λl i wr=>∃k g cp:Nat,k<=X c/\i=I .i64 k/\l=U (G ⟨g,0,nO⟩) (k+1) cp/\Hid (a8z w1 x vs vc fs fc k g cp wr)) (λ_ i _=>X c - (intOf i).toNat)
 case atStart=>exact⟨0,g1,1,j1 _,rfl,rfl,N0⟩
 case round=>
  clear N0;obtain⟨k,g,cp,cv,rfl,rfl,HN⟩:=hrel;obtain⟨⟨p0,p1,p2⟩,pz⟩:=id (co.out k g cp wr HN.out);by_cases xy:k < X c
  .have n0:=cQ
   have n1:=kA;have S4:=Nz;have zw:=HN.out.lo.size;go_wp2_with (at_builtin;refine bn _ rfl _ _ 47 rfl w1.heap.size 28 ti (Ag #[O d,U nO 0 0,U nO 0 0]) 3 56 underlying47 hi c7 c0 a3 rfl an _ _ _ rfl S4 (G ⟨wr.heap.size,0,nO⟩) 1 1 npC rfl rfl (λh=>bU) ?qa2 ?qa3 ?qa4 ?qa5 ?qa6 ?_)
   case qa2=>exact Dc wr 28 npC
   case qa3=>intro u hu;simp[npC] at hu;rcases hu with rfl|rfl<;>rfl
   case qa4=>unfold maxLen;omega
   case qa5=>omega
   case qa6=>rw[zA];omega
   intro v' w4 b4 ar eo;obtain⟨g',d5,rfl,N4⟩:=HN.out.grow b4 ar;have em:=ag N4;clear b4 ar eo S4 HN zw N4 p0 p1 p2;go_wp2;go_roundw
   case rel=>exact⟨k+1,g',d5,aa,aJ,rfl,em.out⟩
   case measure=>exact aK
  have n1:¬(k:Int) < (X c:Int):=aa;have ek:k=X c:=aa;subst ek;obtain⟨D0,hg⟩:=HD.out g cp wr HN.out;clear HN HD co cv xy;go_wp2;clear p0 p1 p2 hi c7 c0 a3;obtain⟨M,hM⟩:∃M:Nat,M=200000000000003:=⟨_,rfl⟩;have HM:=ag hM;clear hM;go_loopw [6,7] (λn ch wr=>∃(m:Nat) (b:Bool),n=I .i64 (m:Int)/\ch=O b/\Hid (a9a w V F s c cap g (bj V F c m) wr)/\Hid (a9t V F c m b)) (λn _ _=>M - (intOf n).toNat)
  case atStart=>exact⟨0,W5,rfl,rfl,D0,.inl ⟨rfl,λk h=>absurd h aa⟩⟩
  case round=>
   clear D0;obtain⟨m,b,rfl,rfl,HW,HR⟩:=hrel;rcases HR.out with⟨rfl,az⟩|⟨rfl,m',rfl,hS⟩;rotate_left
   .have HA:Hid (RM V F c (Rt (Tu #[U (G ⟨g,0,nO⟩) (X c+1) cp,I .i64 ((m'+1:Nat):Int)])) wr):=by
     refine⟨m',g,cp,hS,SI HZ.out hS,rfl,?_⟩;rw[<-(sd HZ.out hS).1];exact HW.out.pr.xs
    have HL:=ag HW.out.lo;clear HW HR hS;go_wp2;refine bodyPost_ret (v:=Tu #[U (G ⟨g,0,nO⟩) (X c+1) cp,I .i64 ((m'+1:Nat):Int)]) (by simp[results,results31,go_sem]) rfl ?_;exact⟨HA.out,HL.out⟩
   have c9:=n8 HZ.out az;have e5:(m:Int)<=200000000000000:=aa;have et:Hid (m+2 < M):=by show _ < _;rw[HM.out];exact Nat.lt_of_le_of_lt (Nat.add_le_add_right (show m<=200000000000000 by omega) 2) (by decide)
   have ds:=ag az;have en:=ag (λ(k:Nat) (H:k<=X c)=>(y9 (n:=((m+1:Nat):Int)) HZ.out H (s:=(bj V F c m,d)) (eJ HZ.out m)).1);clear c9 az HR;go_wp2;go_loopw [7,8] (λch i wr=>∃(k:Nat) (L:List Pic) (b:Bool),k<=X c/\i=I .i64 k/\ch=O b/\Hid ((x4 k).foldl (eT c ((m+1:Nat):Int)) (bj V F c m,d)=(L,b))/\Hid (a9a w V F s c cap g L wr)) (λ_ i _=>X c - (intOf i).toNat)
   case atStart=>exact⟨0,_,_,j1 _,rfl,rfl,rfl,HW.out⟩
   case round=>
    clear HW;obtain⟨k,L,b,cv,rfl,rfl,HK,HW⟩:=hrel;have bf:=HW.out.pg;obtain⟨⟨p0,p1,p2⟩,pz⟩:=id bf;by_cases xy:k < X c;rotate_left
    .have n1:=vM
     have ek:k=X c:=aa;subst ek;have b6:Hid (eC c ((m+1:Nat):Int) (bj V F c m)=(L,b)):=HK.out;have eg:Hid (a9t V F c (m+1) b):=a9t.next ds.out b6.out;have ea:Hid (a9a w V F s c cap g (bj V F c (m+1)) wr):=by
      show a9a _ _ _ _ _ _ _ _ _;rw[show bj V F c (m+1)=L from congrArg Prod.fst b6.out];exact HW.out
     clear bf HW HK b6;go_wp2;go_roundw
     case rel=>exact⟨m+1,b,aJ,rfl,ea.out,eg.out⟩
     case measure=>have:=et.out;simp[intOf];omega
    have bx:a8c V F c L:=by have h:=en.out k cv;rw[HK.out] at h;exact h
    have ce:k < X L:=by have:=bx.len;omega
    obtain⟨b0,bt,bz,bs,⟨q0,q1,q2⟩,cs,cb,cf,zg,-⟩:=HW.out.pr.cell ce;obtain⟨x3,ex⟩:∃x,x=L[k]:=⟨_,rfl⟩;have ay:aO V F c x3=0:=by rw[ex];exact bx.ck _ (gM ce)
    have dc:bp L (k:Int)=x3:=by rw[ex];exact ku ce
    rw[<-ex] at q0 q1 q2 cs cb cf;have bc:=kW HZ.out ay xy;have bv:=rU (bS c (k:Int)) (k:Int) x3;obtain⟨⟨E,f1,f2⟩,er⟩:∃r,r=aD (bS c (k:Int)) (k:Int) x3:=⟨_,rfl⟩;have el:Hid (∀t:List Pic×Bool,E.foldl (cB ((m+1:Nat):Int) (k:Int)) (L,b)=t->(x4 (k+1)).foldl (eT c ((m+1:Nat):Int)) (bj V F c m,d)=t):=λt h=>by
     rw[List.range_succ,J5,HK.out];show (cZ c k (bp L k)).foldl _ _=t;rw[dc];unfold cZ;rw[<-er];exact h
    have HE:Hid ((∀e∈E,kT V F c e)/\X E<=10):=by
     unfold cZ at bc;rw[<-er] at bc bv;exact⟨bc,lT bv an⟩
    have dz:Hid (∀wx,bl wr wx->Calls f 59 #[pv V F s c cap,I .i64 (k:Int),xv x3 b0 bt bz bs] wx λe w'=>(∃es ec,e=Rt (Tu #[U es (X E) ec,O f1,O f2])/\a8e (λb=>b≠g) w' es E)/\bl wx w'):=λwx hb=>by
     have h:=eb.out (λb=>b≠g) V F s c cap (k:Int) x3 b0 bt bz bs wx (HC.out.below (HW.out.lo.trans (hb.mono HW.out.lo.size)) (lR _)) (cs.call hb) HZ.out ay aa aa cb cf;rw[<-er] at h;go_call h as e w' ⟨⟨es,ec,rfl,hE⟩,cr⟩;exact⟨⟨es,ec,rfl,hE.mono λb vZ _=>by have:=hb.size;omega⟩,cr⟩
    have xP:Hid (∀wx,bl wr wx->(wx.cell? ⟨w.heap.size,0,nO⟩=G (I .i64 V)/\wx.cell? ⟨w.heap.size,1,nO⟩=G (I .i64 F)/\wx.cell? ⟨w.heap.size,2,nO⟩=G (U s (X c) cap))/\(wx.cell? ⟨g,k * 3,nO⟩=G (O x3.none)/\wx.cell? ⟨g,k * 3+1,nO⟩=G (U b0 (X x3.vq) bt)/\wx.cell? ⟨g,k * 3+2,nO⟩=G (U bz (X x3.fq) bs))):=λwx hb=>by
     refine⟨(bf.call hb).1,?_,?_,?_⟩
     .rw[hb.cell (by simp only;exact zg)];exact q0
     .rw[hb.cell (by simp only;exact zg)];exact q1
     .rw[hb.cell (by simp only;exact zg)];exact q2
    have d8:=ag bx;have xW:=dS;have n0:=bG;have n1:=kA;have n3:(k:Int) < (X c:Int)+1:=aa;clear er dc ay cs cb cf q0 q1 q2 bc bv bx ex;go_upto_region 14 with fail
    refine XK [] ac xP.out xW (λab=> ?_);generalize wr.drew=w4 at *;refine QU ?_;refine QN 5 ?_;refine av (i:=6) rfl ac (λK hK=> ?_);go_simp;go_at_call 59;go_call dz.out w4 xW as e w5 ⟨⟨es,ec,rfl,dq⟩,xw⟩;have c5:=ag dq;clear dq;go_wp2_with fail;refine hK.out _ _ (xP.out _ (xW.trans (xw.mono xW.size))) (λab=> ?_);clear hK K;refine sm ?_;refine QN 7 ?_;refine QS ?_;refine aB ac ?_ _;have B5:=tG;have cz:=ag (HW.out.call B5);clear ab xP dz xW B5 xw HW bf p0 p1 p2;go_wp2;generalize w5=wA at *;clear w5;go_loopw [7,12] (λch j wr=>∃(q:Nat) (L':List Pic) (b':Bool),q<=X E/\j=I .i64 q/\ch=O b'/\Hid ((E.take q).foldl (cB ((m+1:Nat):Int) (k:Int)) (L,b)=(L',b'))/\Hid (a9a w V F s c cap g L' wr)/\Hid (a8e (λb=>b≠g) wr es E)) (λ_ j _=>X E - (intOf j).toNat)
    case atStart=>exact⟨0,L,b,j1 _,rfl,rfl,rfl,cz.out,c5.out⟩
    case round=>
     clear cz c5;obtain⟨q,L',b',cc,rfl,rfl,HQ,HD,HS⟩:=hrel;have b1:=T7 HZ.out HE.out.1 d8.out q HQ.out;have bv:=HE.out.2;by_cases cg:q < X E;rotate_left
     .have n3:¬(q:Int) < (X E:Int):=by omega
      have d6:=ag (el.out (L',b') (by have h:=HQ.out;rwa [j4 (by omega)] at h))
      clear HQ HS b1;go_wp2;go_roundw
      case rel=>exact⟨k+1,L',b',aa,aJ,rfl,d6.out,HD.out⟩
      case measure=>exact aK
     have m0:=fO;have m1:(q:Int) < (X E:Int):=aa;obtain⟨b2,o2,rfl,e6,a3,us,uc,gs,Z,⟨d0,d1,d2,d3⟩,a5,b3,bg⟩:=HS.out q cg;have c8:=HE.out.1 _ (gM cg);have a7:=ag (Ug cg HQ.out);obtain⟨⟨tq,y⟩,ee⟩:∃e,e=E[q]:=⟨_,rfl⟩;rw[<-ee] at d0 d1 d2 d3 a5 b3 bg c8 a7;clear ee;obtain⟨ba,t0,t1⟩:=c8;simp only at d0 d1 d2 d3 a5 b3 bg ba t0 t1;obtain⟨t,rfl⟩:=x8 t0;have ax:t < X L':=by have:=b1.len;omega
     obtain⟨af,ak,ah,ad,⟨r0,r1,r2⟩,a8,ca,b8,d9,-⟩:=HD.out.pr.cell ax;obtain⟨z,ez⟩:∃z,z=L'[t]:=⟨_,rfl⟩;have xT:aO V F c z=0:=by rw[ez];exact b1.ck _ (gM ax)
     have ct:Hid (bp L' (t:Int)=z):=by show _=_;rw[ez];exact ku ax
     rw[<-ez] at r0 r1 r2 a8 ca b8;clear ez;have HJN:Hid (∀(al:Bool) wx,bl wr wx->Calls f 70 #[xv z af ak ah ad,xv y us uc gs Z,O al] wx λe w'=>(∃Y js jc ks kc,Hid (Y=aI (aj al) z y)/\e=Rt (Ag #[O Y.none,U js (X Y.vq) jc,U ks (X Y.fq) kc])/\a7d (λb=>(b≠g/\b < wr.heap.size)\/wx.heap.size<=b) w' Y js ks/\(X Y.vq<=jc/\jc<=maxLen)/\(X Y.fq<=kc/\kc<=maxLen))/\bl wx w'):=λal wx hb=>by
      go_call eu.out (λb=>b≠g/\b < wr.heap.size) V F c al z y af ak ah ad us uc gs Z wx ((a8.mono λb h hl=>⟨h,hl⟩).call hb) ((a5.mono λb h hl=>⟨h,hl⟩).call hb) ca b8 b3 bg HZ.out xT ba as e w' ⟨⟨js,jc,ks,kc,rfl,h1,h2⟩,cr⟩;exact⟨⟨_,js,jc,ks,kc,rfl,rfl,h1,h2⟩,cr⟩
     have xP:Hid (∀wx,bl wr wx->(wx.cell? ⟨g,t * 3,nO⟩=G (O z.none)/\wx.cell? ⟨g,t * 3+1,nO⟩=G (U af (X z.vq) ak)/\wx.cell? ⟨g,t * 3+2,nO⟩=G (U ah (X z.fq) ad))/\(wx.cell? ⟨b2,o2+q * 4+1,nO⟩=G (O y.none)/\wx.cell? ⟨b2,o2+q * 4+2,nO⟩=G (U us (X y.vq) uc)/\wx.cell? ⟨b2,o2+q * 4+3,nO⟩=G (U gs (X y.fq) Z))):=λwx hb=>by
      have c1:=λj=>hb.cell (p:=⟨g,j,nO⟩) (by simp only;exact d9);have c2:=λj=>hb.cell (p:=⟨b2,j,nO⟩) (by simp only;exact a3);exact⟨⟨(c1 _).trans r0,(c1 _).trans r1,(c1 _).trans r2⟩,(c2 _).trans d1,(c2 _).trans d2,(c2 _).trans d3⟩
     have c3:=ag (λwx hb=>(xP.out wx hb).1);have dv:=ag (λwx (hb:bl wr wx)=>(a8.call hb).at);have ap:=ag (And.intro xT ba);have m2:=gG;have m4:(t:Int) < (X c:Int)+1:=aa;clear a5 b3 bg ba xT a8 ca b8 d1 d2 d3 b1 t0 t1 r0 r1 r2;go_upto_region 19 with fail
     clear d0;go_cut [14] (λej wc=>∃(yb:Nat) (js:oA) (jc:Nat) (ks:oA) (kc:Nat),ej=Pp (G ⟨yb,0,nO⟩)/\Hid (b0a wr g yb (aI (aj (dV ((m+1:Nat):Int) (k:Int) (t:Int))) z y) js jc ks kc wc))
     case first=>
      rename_i J1 K1 hJ1 hK1;have B6:=dS;by_cases ev:(4:Int)<=(m:Int)+1
      .have HWD:Hid (dV ((m+1:Nat):Int) (k:Int) (t:Int)=decide ((t:Int)<=(k:Int))):=by show _=_;unfold dV;rw[decide_eq_true (by omega:(4:Int)<=((m+1:Nat):Int)),Bool.true_and]
       refine XL ac xP.out B6 (λab=> ?_);generalize wr.drew=w6 at *;refine QT ?_;refine XF ?_;exact FP
      .have HWD:Hid (dV ((m+1:Nat):Int) (k:Int) (t:Int)=d):=by show _=_;unfold dV;rw[decide_eq_false (by omega:¬(4:Int)<=((m+1:Nat):Int)),Bool.false_and]
       refine XL ac xP.out B6 (λab=> ?_);generalize wr.drew=w6 at *;refine QT ?_;refine uH 12 ?_;refine sm ?_;refine uH 13 ?_;refine sm ?_;refine uH 14 ?_;refine sm ?_;exact FP
     obtain⟨yb,js,jc,ks,kc,rfl,HY⟩:=hcut;have a9:Hid (aI (aj (dV ((m+1:Nat):Int) (k:Int) (t:Int))) z y=z->(E.take (q+1)).foldl (cB ((m+1:Nat):Int) (k:Int)) (L,b)=(L',b')):=λh=>a7.out.trans (WB HZ.out ct.out ap.out.1 ap.out.2 h);have be:Hid (¬aI (aj (dV ((m+1:Nat):Int) (k:Int) (t:Int))) z y=z->(E.take (q+1)).foldl (cB ((m+1:Nat):Int) (k:Int)) (L,b)=(L'.set t (aI (aj (dV ((m+1:Nat):Int) (k:Int) (t:Int))) z y),W5)):=λh=>a7.out.trans (a0X HZ.out ct.out ap.out.1 ap.out.2 h);obtain⟨Y,eY⟩:∃Y,Y=aI (aj (dV ((m+1:Nat):Int) (k:Int) (t:Int))) z y:=⟨_,rfl⟩;rw[<-eY] at HY a9 be;clear eY a7 HJN xP ct ap HQ;have dr:=ag (HD.out.call HY.out.lo);have c6:=ag (HS.out.call HY.out.lo);have d4:=ag λwx (hb:bl wc wx)=>mk Y z js jc ks kc af ak ah ad wx ⟨lT HY.out.c1.1 HY.out.c1.2,lT HY.out.c2.1 HY.out.c2.2⟩ (HY.out.pic.call hb).at (dv.out wx (HY.out.lo.trans (hb.mono HY.out.lo.size)));have xP:Hid (∀wx,bl wc wx->(wx.cell? ⟨yb,0,nO⟩=G (O Y.none)/\wx.cell? ⟨yb,1,nO⟩=G (U js (X Y.vq) jc)/\wx.cell? ⟨yb,2,nO⟩=G (U ks (X Y.fq) kc))/\(wx.cell? ⟨g,t * 3,nO⟩=G (O z.none)/\wx.cell? ⟨g,t * 3+1,nO⟩=G (U af (X z.vq) ak)/\wx.cell? ⟨g,t * 3+2,nO⟩=G (U ah (X z.fq) ad))):=λwx hb=>by
      have a:=HY.out.cell.call hb;exact⟨⟨a.1 0 _ rfl,a.1 1 _ rfl,a.1 2 _ rfl⟩,c3.out wx (HY.out.lo.trans (hb.mono HY.out.lo.size))⟩
     have B7:bl wc wc.drew:=(bR _ _).drew;clear dv;go_upto_region 20 with fail
     refine XK [] ac xP.out B7 (λab=> ?_);generalize wc.drew=w7 at *;refine QU ?_;refine av (i:=5) rfl ac (λK hK=> ?_);go_simp;go_at_call 34;go_call d4.out w7 B7 as e w8 ⟨⟨bb,rfl,b5⟩,zJ⟩;have bm:=ag b5;clear b5;go_wp2_with fail;refine hK.out _ _ (xP.out _ (B7.trans (zJ.mono B7.size))) (λab=> ?_);clear hK K;refine sm ?_;refine QN 6 ?_;refine aB ac ?_ _;have B9:=B7.trans (zJ.mono B7.size);have am:=ag (dr.out.call B9);have b7:=ag (c6.out.call B9);have ao:Hid (sT w8 yb [O Y.none,U js (X Y.vq) jc,U ks (X Y.fq) kc]/\a7d (λb=>b≠g) w8 Y js ks):=⟨HY.out.cell.call B9,HY.out.pic.call B9⟩;have a4:=ag (And.intro HY.out.c1 HY.out.c2);have cm:=ag (xP.out w8 B9).2;clear dr c6 d4 xP ab B7 zJ HY HD HS B9 c3;rcases Bool.eq_false_or_eq_true bb with e1|e1
     .have cl:=ag (a9.out (bm.out.1 e1))
      subst e1;clear bm a9 be ao cm a4;go_wp2;go_roundw
      case rel=>exact⟨q+1,L',b',aa,aJ,rfl,cl.out,am.out,b7.out⟩
      case measure=>exact aK
     .have cl:=ag (be.out (λh=>by rw[bm.out.2 h] at e1;cases e1))
      subst e1;clear bm a9 be;have a0:=ao.out.1.1 0 _ rfl;have a1:=ao.out.1.1 1 _ rfl;have a2:=ao.out.1.1 2 _ rfl;obtain⟨r0,r1,r2⟩:=cm.out;obtain⟨_,_,_,_,_,_,_,_,_,fz⟩:=am.out.pr.cell ax;have f0:=fz (t * 3);have d7:=fz (t * 3+1);have ep:=fz (t * 3+2);clear fz cm;go_upto_region 22 with fail
      obtain⟨wq,a6⟩:∃q',q'=bd w8 g (t * 3) [O Y.none,U js (X Y.vq) jc,U ks (X Y.fq) kc]:=⟨_,rfl⟩;have PT:=ag (am.out.pr.put (λb hb=>hb) ax ao.out.2 a4.out.1 a4.out.2 a6);simp only[bd] at a6;rw[<-a6];clear a6 a0 a1 a2 r0 r1 r2 f0 d7 ep;have ef:Hid (a9a w V F s c cap g (L'.set t Y) wq):=by
       obtain⟨T1,T2,T3,T4⟩:=PT.out;exact⟨T1,am.out.pg.low (T4 (lR g) (bR g w8)) hg,T4 (Nat.le_of_lt hg) am.out.lo⟩
      have ei:=ag (b7.out.same (λb hb _=>PT.out.2.1 b hb) PT.out.2.2.1);clear PT am b7 ao a4;go_wp2;go_roundw
      case rel=>exact⟨q+1,L'.set t Y,W5,aa,aJ,rfl,cl.out,ef.out,ei.out⟩
      case measure=>exact aK
end
section
open Go.RowKit
def DG (w:World)(g:Gs)(ss:oA)(gc:Nat)(h:Gs)(st:oA)(hc:Nat)(ob:Nat)(o:Gs)(wx:World):Prop:=
 a7b wx (R (M w)) 0 g ss gc/\a7b wx (R (M w)+1) 0 h st hc/\a7b wx (R (M w)+1+1) 0 bT E 0/\Fr7 wx (R (M w)+1+1)/\a7b wx ob 0 o E 0/\Fr7 wx ob/\bl w wx/\R (M w)+1+1 < ob
def DG.call{o:Gs}{wx K:C}(y:DG w g ss Z h n T b o wx)(r:bl wx K):DG w g ss Z h n T b o K:=
 ⟨y.1.call r,y.2.1.call r,y.2.2.1.call r,y.2.2.2.1.call r,y.2.2.2.2.1.call r,y.2.2.2.2.2.1.call r,y.2.2.2.2.2.2.1.trans (r.mono y.2.2.2.2.2.2.1.size),y.2.2.2.2.2.2.2⟩
def DG.drew{o:Gs}{wx:C}(y:DG w g ss Z h n T b o wx):DG w g ss Z h n T b o wx.drew:=y.call (bR _ _).drew

def a5v (w:C)(g:Gs)(ss:oA)(Z:Nat)(h:Gs)(n:oA)(T:Nat):a7b (((w.alloc (A #[O g.n,O g.sp.n,I Y g.sp.lo,I Y g.sp.hi,O g.t,O g.f,U ss (X g.s) Z] 91)).alloc (A #[O h.n,O h.sp.n,I Y h.sp.lo,I Y h.sp.hi,O h.t,O h.f,U n (X h.s) T] 91)).alloc (A #[O d,O d,I Y 0,I Y 0,O d,O d,U E 0 0] 91)) (R (M w)) 0 g ss Z/\a7b (((w.alloc (A #[O g.n,O g.sp.n,I Y g.sp.lo,I Y g.sp.hi,O g.t,O g.f,U ss (X g.s) Z] 91)).alloc (A #[O h.n,O h.sp.n,I Y h.sp.lo,I Y h.sp.hi,O h.t,O h.f,U n (X h.s) T] 91)).alloc (A #[O d,O d,I Y 0,I Y 0,O d,O d,U E 0 0] 91)) (R (M w)+1) 0 h n T/\a7b (((w.alloc (A #[O g.n,O g.sp.n,I Y g.sp.lo,I Y g.sp.hi,O g.t,O g.f,U ss (X g.s) Z] 91)).alloc (A #[O h.n,O h.sp.n,I Y h.sp.lo,I Y h.sp.hi,O h.t,O h.f,U n (X h.s) T] 91)).alloc (A #[O d,O d,I Y 0,I Y 0,O d,O d,U E 0 0] 91)) (R (M w)+1+1) 0 bT E 0/\Fr7 (((w.alloc (A #[O g.n,O g.sp.n,I Y g.sp.lo,I Y g.sp.hi,O g.t,O g.f,U ss (X g.s) Z] 91)).alloc (A #[O h.n,O h.sp.n,I Y h.sp.lo,I Y h.sp.hi,O h.t,O h.f,U n (X h.s) T] 91)).alloc (A #[O d,O d,I Y 0,I Y 0,O d,O d,U E 0 0] 91)) (R (M w)+1+1)/\bl w (((w.alloc (A #[O g.n,O g.sp.n,I Y g.sp.lo,I Y g.sp.hi,O g.t,O g.f,U ss (X g.s) Z] 91)).alloc (A #[O h.n,O h.sp.n,I Y h.sp.lo,I Y h.sp.hi,O h.t,O h.f,U n (X h.s) T] 91)).alloc (A #[O d,O d,I Y 0,I Y 0,O d,O d,U E 0 0] 91)):=by
 obtain⟨l,m,a⟩:=RU w g ss Z h n T;have k:=a7b.new ((w.alloc (A #[O g.n,O g.sp.n,I Y g.sp.lo,I Y g.sp.hi,O g.t,O g.f,U ss (X g.s) Z] 91)).alloc (A #[O h.n,O h.sp.n,I Y h.sp.lo,I Y h.sp.hi,O h.t,O h.f,U n (X h.s) T] 91)) bT E 0;rw[zA,zA] at k;exact⟨l.alloc _,m.alloc _,k,⟨λj=>aE,ae⟩,ai⟩
def pq{w1:C}(r:n4 (R (M (((w.alloc (A #[O g.n,O g.sp.n,I Y g.sp.lo,I Y g.sp.hi,O g.t,O g.f,U ss (X g.s) Z] 91)).alloc (A #[O h.n,O h.sp.n,I Y h.sp.lo,I Y h.sp.hi,O h.t,O h.f,U n (X h.s) T] 91)).alloc (A #[O d,O d,I Y 0,I Y 0,O d,O d,U E 0 0] 91)))) (((w.alloc (A #[O g.n,O g.sp.n,I Y g.sp.lo,I Y g.sp.hi,O g.t,O g.f,U ss (X g.s) Z] 91)).alloc (A #[O h.n,O h.sp.n,I Y h.sp.lo,I Y h.sp.hi,O h.t,O h.f,U n (X h.s) T] 91)).alloc (A #[O d,O d,I Y 0,I Y 0,O d,O d,U E 0 0] 91)) w1):DG w g ss Z h n T (R (M w1)) a4q (w1.alloc (A #[O a4q.n,O a4q.sp.n,I Y a4q.sp.lo,I Y a4q.sp.hi,O a4q.t,O a4q.f,U E (X a4q.s) 0] 91)):=by
 obtain⟨l,m,k,q,a⟩:=a5v w g ss Z h n T;have b:=(l.call r).alloc (A #[O a4q.n,O a4q.sp.n,I Y a4q.sp.lo,I Y a4q.sp.hi,O a4q.t,O a4q.f,U E (X a4q.s) 0] 91);have s:=(m.call r).alloc (A #[O a4q.n,O a4q.sp.n,I Y a4q.sp.lo,I Y a4q.sp.hi,O a4q.t,O a4q.f,U E (X a4q.s) 0] 91);have z:=(k.call r).2;have o:=(k.call r).alloc (A #[O a4q.n,O a4q.sp.n,I Y a4q.sp.lo,I Y a4q.sp.hi,O a4q.t,O a4q.f,U E (X a4q.s) 0] 91);have t:=(q.call r).alloc (A #[O a4q.n,O a4q.sp.n,I Y a4q.sp.lo,I Y a4q.sp.hi,O a4q.t,O a4q.f,U E (X a4q.s) 0] 91);have e:=a.trans (r.mono a.size);exact⟨b,s,o,t,a7b.new w1 a4q E 0,⟨λj=>aE,ae⟩,e.alloc e.size _,z⟩
def DG.out{o o':Gs}{wx K:C}(y:DG w g ss Z h n T b o wx)(r:∀k,k≠b->K.heap[k]? =wx.heap[k]?)(u:R (M K)=R (M wx))(v:Fr7 K b)(e:a7b K b 0 o' E 0)(s:bl w K):DG w g ss Z h n T b o' K:=by
 have P:∀{k:Nat} {x:Gs} {xs:oA} {xc:Nat},k≠b->a7b wx k 0 x xs xc->a7b K k 0 x xs xc:=by
  intro k x xs xc H P;obtain⟨⟨N,m,l,t,q,Q,h6⟩,ab⟩:=P;have T:∀j,K.cell? ⟨k,j,E⟩=wx.cell? ⟨k,j,E⟩:=λj=>World.cell?_of_block (a:=⟨k,j,E⟩) (r k H);exact⟨⟨(T _).trans N,(T _).trans m,(T _).trans l,(T _).trans t,(T _).trans q,(T _).trans Q,(T _).trans h6⟩,by rw[u];exact ab⟩
 have z:=y.2.2.2.2.2.2.2;refine⟨P aa y.1,P aa y.2.1,P aa y.2.2.1,⟨λj=> ?_,by rw[u];exact y.2.2.2.1.2⟩,e,v,s,z⟩;rw[World.frozen?_of_block (a:=⟨R (M w)+1+1,j,E⟩) (r _ (by show R (M w)+1+1≠b;omega))];exact y.2.2.2.1.1 j
def Hd(h:p:=by
 obtain⟨⟨h0,h1,h2,h3,h4,h5,h6⟩,hz⟩:=d.2.2.2.2.1;simp only[Nat.zero_add] at h0 h1 h2 h3 h4 h5 h6;exact⟨⟨by simp[go_sem,h0],by simp[go_sem,h1],by simp[go_sem,h2],by simp[go_sem,h3],by simp[go_sem,h4],by simp[go_sem,h5],by simp[go_sem,h6]⟩,mT⟩):=h
def Hx(h:p:=by
 have z:=d.2.2.2.2.2.2.2;refine d.out (λk hk=>hSe _ _ _ _ hk) ae d.2.2.2.2.2.1.set ?_ (d.2.2.2.2.2.2.1.setCell au _);exact Hd):=h
section
variable {o:Gs}{wx:C}{y:Bool}(d:DG w g ss Z h n T b o wx)
def DG.t:DG w g ss Z h n T b ⟨o.n,o.sp,y,o.f,o.s⟩ (wx.setCell ⟨b,4,E⟩ (O y)):=by
 exact Hx
def DG.f:DG w g ss Z h n T b ⟨o.n,o.sp,o.t,y,o.s⟩ (wx.setCell ⟨b,5,E⟩ (O y)):=by
 exact Hx
end
def DG.sp{o:Gs}{wx:C}{s:Sp}(d:DG w g ss Z h n T b o wx):DG w g ss Z h n T b ⟨o.n,s,o.t,o.f,o.s⟩ (((wx.setCell ⟨b,1,E⟩ (O s.n)).setCell ⟨b,2,E⟩ (I Y s.lo)).setCell ⟨b,3,E⟩ (I Y s.hi)):=by
 have z:=d.2.2.2.2.2.2.2;refine d.out (λk H=>by rw[hSe _ _ _ _ H,hSe _ _ _ _ H,hSe _ _ _ _ H]) ae d.2.2.2.2.2.1.set.set.set ?_ (((d.2.2.2.2.2.2.1.setCell au _).setCell au _).setCell au _);exact Hd
def a5V (w:C)(g:Gs)(ss:oA)(gc:Nat)(h:Gs)(st:oA)(hc:Nat):
  Calls f 115 #[I Y 4,gv g ss gc,gv h st hc] w λe w'=>e=Rt (if aq g=W5 then Tu #[gv a4q E 0,O d] else Tu #[gv g ss gc,O d])/\bl w w':=by
 generalize hnn:aq g=nn;have qa:=ag hnn;clear hnn;have P:=kg;generalize aq g=ng at *;generalize aq h=nh at *;go_enter func115,ntmps115;go_upto_region 1 with fail
 go_cut [8] (λt K=>∃b,t=Pp (G ⟨b,0,E⟩)/\DG w g ss gc h st hc b a4q K)
 case first=>
  go_wp2_with fail;go_call gN _ as e m ⟨rfl,af⟩;have a:=pq af;go_wp2_with fail;go_meet;refine⟨R (M m),rfl,?_⟩;exact a
 obtain⟨b,rfl,a⟩:=hcut;obtain⟨⟨s,H,Q,r,n,o,q⟩,N⟩:=id a.1;simp only[j0] at s H Q r n o q;have y:=a.2.2.2.1.1;go_upto_region 2 with fail
 go_cut [27] (λt K=>t=O nn/\DG w g ss gc h st hc b a4q K)
 case first=>
  go_wp2_with fail;go_call P.out _ as e z ⟨rfl,ab⟩;have D2:=a.call ab;clear s H Q r n o q y;cases ng with
  |true=>
   go_wp2_with fail;go_meet;exact lF
  |false=>
   go_wp2_with fail;go_meet;exact lF
 obtain⟨rfl,D2⟩:=hcut;clear s H Q r n o q y a P qa;cases nn with
 |true=>
  obtain⟨⟨s,H,Q,r,n,o,q⟩,N⟩:=id D2.1;simp only[j0] at s H Q r n o q;obtain⟨⟨r0,r1,r2,r3,r4,r5,r6⟩,rz⟩:=id D2.2.2.1;simp only[j0] at r0 r1 r2 r3 r4 r5 r6;obtain⟨⟨o0,j,T,o3,o4,o5,o6⟩,oz⟩:=id D2.2.2.2.2.1;simp only[j0] at o0 j T o3 o4 o5 o6;simp only[bT] at r0 r1 r2 r3 r4 r5 r6;have y:=D2.2.2.2.1.1;simp only[a4q] at o0 j T o3 o4 o5 o6;go_wp2;refine bodyPost_ret (v:=Tu #[gv a4q E 0,O d]) sH rfl ⟨?_,?_⟩
  .rfl
  .exact rm
 |false=>
  obtain⟨⟨s,H,Q,r,n,o,q⟩,N⟩:=id D2.1;simp only[j0] at s H Q r n o q;obtain⟨⟨r0,r1,r2,r3,r4,r5,r6⟩,rz⟩:=id D2.2.2.1;simp only[j0] at r0 r1 r2 r3 r4 r5 r6;simp only[bT] at r0 r1 r2 r3 r4 r5 r6;have y:=D2.2.2.2.1.1;go_wp2;refine bodyPost_ret (v:=Tu #[gv g ss gc,O d]) l9 rfl ⟨?_,?_⟩
  .rfl
  .exact rm
def Kz (b ob:Nat)(g:Gs)(ss:oA)(gc:Nat)(h:Gs)(st:oA)(hc:Nat)(o:Gs)(w':World):Prop:=
 (w'.cell? ⟨b,0,E⟩=G (O g.n)/\w'.cell? ⟨b,1,E⟩=G (O g.sp.n)/\w'.cell? ⟨b,2,E⟩=G (I .i64 g.sp.lo)/\w'.cell? ⟨b,3,E⟩=G (I .i64 g.sp.hi)/\w'.cell? ⟨b,4,E⟩=G (O g.t)/\w'.cell? ⟨b,5,E⟩=G (O g.f)/\w'.cell? ⟨b,6,E⟩=G (U ss (X g.s) gc))/\(w'.cell? ⟨b+1,0,E⟩=G (O h.n)/\w'.cell? ⟨b+1,1,E⟩=G (O h.sp.n)/\w'.cell? ⟨b+1,2,E⟩=G (I .i64 h.sp.lo)/\w'.cell? ⟨b+1,3,E⟩=G (I .i64 h.sp.hi)/\w'.cell? ⟨b+1,4,E⟩=G (O h.t)/\w'.cell? ⟨b+1,5,E⟩=G (O h.f)/\w'.cell? ⟨b+1,6,E⟩=G (U st (X h.s) hc))/\(w'.cell? ⟨ob,0,E⟩=G (O o.n)/\w'.cell? ⟨ob,1,E⟩=G (O o.sp.n)/\w'.cell? ⟨ob,2,E⟩=G (I .i64 o.sp.lo)/\w'.cell? ⟨ob,3,E⟩=G (I .i64 o.sp.hi)/\w'.cell? ⟨ob,4,E⟩=G (O o.t)/\w'.cell? ⟨ob,5,E⟩=G (O o.f)/\w'.cell? ⟨ob,6,E⟩=G (U E (X o.s) 0))

def Vr {a b:Sp}(m:(a.n==b.n)=W5)(l:(a.lo==b.lo)=W5)(t:(a.hi==b.hi)=W5):a=b:=by
 obtain⟨g,h,k⟩:=a;obtain⟨u,e,j⟩:=b;simp only[beq_iff_eq] at m l t;rw[m,l,t]
def yx (b:Nat)(g:Gs)(ss:oA)(gc:Nat)(h:Gs)(st:oA)(hc:Nat)(w':World):Prop:=
 (w'.cell? ⟨b,0,E⟩=G (O g.n)/\w'.cell? ⟨b,1,E⟩=G (O g.sp.n)/\w'.cell? ⟨b,2,E⟩=G (I .i64 g.sp.lo)/\w'.cell? ⟨b,3,E⟩=G (I .i64 g.sp.hi)/\w'.cell? ⟨b,4,E⟩=G (O g.t)/\w'.cell? ⟨b,5,E⟩=G (O g.f)/\w'.cell? ⟨b,6,E⟩=G (U ss (X g.s) gc))/\(w'.cell? ⟨b+1,0,E⟩=G (O h.n)/\w'.cell? ⟨b+1,1,E⟩=G (O h.sp.n)/\w'.cell? ⟨b+1,2,E⟩=G (I .i64 h.sp.lo)/\w'.cell? ⟨b+1,3,E⟩=G (I .i64 h.sp.hi)/\w'.cell? ⟨b+1,4,E⟩=G (O h.t)/\w'.cell? ⟨b+1,5,E⟩=G (O h.f)/\w'.cell? ⟨b+1,6,E⟩=G (U st (X h.s) hc))
def vG(h:p:=by
 go_wp2_with fail;refine(HM.out _).mono ?_;rintro e w5 ⟨rfl,xw⟩;have D5:=DR.call xw;clear g0 g1 g2 g3 g4 g5 g6 gz k0 k1 k2 k3 k4 k5 k6 kz fz fo zo o0 o1 o2 o3 o4 o5 o6 oz;have fz:=D5.2.2.2.1.1;have fo:=D5.2.2.2.2.2.1.1;have zo:=D5.2.2.2.2.2.2.2;have o0:=D5.2.2.2.2.1.1;simp only[a4q,Nat.zero_add] at o0;obtain⟨o0,o1,o2,o3,o4,o5,o6⟩:=o0;go_wp2_with fail;go_meet;rw[Ey.out];exact D5.t):=h
def Fx(h:p:=by
 have jM:=Hn1.out;have en2:=Hn2.out;cases cb with
 |true=>
  have Ey:Hid (y=true):=Ks;go_wp2_with fail;go_meet;rw[Ey.out];exact DR.t
 |false=>
  have h3:(g.t=true/\h.t=true)\/g.t=false\/(g.t=true/\h.t=false):=by cases g.t<;>cases h.t<;>simp
  rcases h3 with⟨et1,et2⟩|et1|⟨et1,et2⟩
  .have Ey:Hid (y=true):=by show _=_;rw[<-Hy.out,et1,et2];simp
   go_wp2_with fail;go_meet;rw[Ey.out];exact DR.t
  .have h3:=PI
   rcases h3 with⟨ef1,ef2⟩|ef1|⟨ef1,ef2⟩
   .have Ey:Hid (y=true):=by show _=_;rw[<-Hy.out,ef1,ef2];simp
    go_wp2_with fail;go_meet;rw[Ey.out];exact DR.t
   .have Ey:Hid (y= !ms.n):=by show _=_;first|(rw[<-Hy.out,<-HA.out,jM,en2,et1,ef1];simp;done)|(rw[<-Hy.out,<-HA.out,jM,et1,ef1];simp)
    exact vG
   .have Ey:Hid (y= !ms.n):=by show _=_;first|(rw[<-Hy.out,<-HA.out,jM,en2,et1,ef1,ef2];simp;done)|(rw[<-Hy.out,<-HA.out,jM,et1,ef1,ef2];simp)
    exact vG
  .have h3:=PI
   rcases h3 with⟨ef1,ef2⟩|ef1|⟨ef1,ef2⟩
   .have Ey:Hid (y=true):=by show _=_;rw[<-Hy.out,ef1,ef2];simp
    go_wp2_with fail;go_meet;rw[Ey.out];exact DR.t
   .have Ey:Hid (y= !ms.n):=by show _=_;first|(rw[<-Hy.out,<-HA.out,jM,en2,et1,et2,ef1];simp;done)|(rw[<-Hy.out,<-HA.out,jM,et1,et2,ef1];simp)
    exact vG
   .have Ey:Hid (y= !ms.n):=by show _=_;first|(rw[<-Hy.out,<-HA.out,jM,en2,et1,et2,ef1,ef2];simp;done)|(rw[<-Hy.out,<-HA.out,jM,et1,et2,ef1,ef2];simp)
    go_wp2_with fail;refine(HM.out _).mono ?_;rintro e w5 ⟨rfl,xw⟩;have D5:=DR.call xw;clear g0 g1 g2 g3 g4 g5 g6 gz k0 k1 k2 k3 k4 k5 k6 kz fz fo zo o0 o1 o2 o3 o4 o5 o6 oz;have fz:=D5.2.2.2.1.1;have fo:=D5.2.2.2.2.2.1.1;have zo:=D5.2.2.2.2.2.2.2;have o0:=D5.2.2.2.2.1.1;simp only[a4q,Nat.zero_add] at o0;obtain⟨o0,o1,o2,o3,o4,o5,o6⟩:=o0;go_wp2_with fail;go_meet;rw[Ey.out];exact D5.t):=h
def oa(h:p:=by
 have JR:=ht.below DR.2.2.2.2.2.2.1 (lR _);obtain⟨b,off,rfl,hb,QG⟩:=IR.get k xy;have c0:=QG k xy;have n0:=bG;have n1:(k:Int) < (X g.s:Int):=aa;clear QG;cases cb with
 |true=>
  have HN:Hid (true=(g.s.take (k+1)).any λx=>h.s.contains x):=by
   show _=_;rw[List.take_add_one,List.any_append,<-HC.out];rfl
  go_wp2;refine wp_region_held_drew (S:=λ_=>True) ac trivial (λxX=> ?_);refine QO 0 ?_;refine QO 1 ?_;refine uH 2 ?_;refine sm ?_;refine uH 3 ?_;refine sm ?_;refine uH 4 ?_;refine sm ?_;refine uH 5 ?_;refine sm ?_;refine uH 6 ?_;refine sm ?_;refine uH 7 ?_;refine sm ?_;refine uH 8 ?_;refine sm ?_;refine uH 9 ?_;refine sm ?_;refine QO 10 ?_;refine QO 11 ?_;refine wpAnyH_done ac ?_ _;go_wp2;go_roundw
  case rel=>exact⟨k+1,true,aa,aJ,rfl,HN,DR.drew⟩
  case measure=>exact aK
 |false=>
  have HN:Hid (decide (g.s[k]∈h.s)=(g.s.take (k+1)).any λx=>h.s.contains x):=by
   show _=_;rw[List.take_add_one,List.any_append,<-HC.out,List.getElem?_eq_getElem xy];simp
  go_wp2;go_region_held3 (λwx=>wx.cell? ⟨R (M w),6,E⟩=G (U (G ⟨b,off,E⟩) (X g.s) gc)/\wx.cell? ⟨R (M w)+1,6,E⟩=G (U st (X h.s) hc)/\wx.cell? ⟨b,off+k,E⟩=G (I Y g.s[k]))
   (exact⟨g6,k6,c0⟩)
   ((go_at_call 168;refine(Dt g.s[k] st hc h.s _ hhl JR.drew).mono ?_;rintro e w2 ⟨rfl,hw2⟩;have hw3:=hw2.symm;subst hw3))
  go_wp2;go_roundw
  case rel=>exact⟨k+1,decide (g.s[k]∈h.s),aa,aJ,rfl,HN,DR.drew⟩
  case measure=>exact aK):=h
def oy(h:p:=by
 go_wp2_with fail;refine(qI.out _).mono ?_;rintro e w2 ⟨rfl,xj⟩;have D2:=D1.call xj;clear g0 g1 g2 g3 g4 g5 g6 gz k0 k1 k2 k3 k4 k5 k6 kz fz fo;cases ng with
 |true=>
  go_wp2_with fail;go_meet;exact lF
 |false=>
  obtain⟨⟨k0,k1,k2,k3,k4,k5,k6⟩,kz⟩:=id D2.2.1;simp only[Nat.zero_add] at k0 k1 k2 k3 k4 k5 k6;have fz:=D2.2.2.2.1.1;have fo:=D2.2.2.2.2.2.1.1;have zo2:=D2.2.2.2.2.2.2.2;go_wp2_with fail;refine(qJ.out _).mono ?_;rintro e w3 ⟨rfl,xp⟩;have D3:=D2.call xp;go_wp2_with fail;go_meet;exact⟨by rw[<-qa.out];first|done|rfl|simp,D3⟩):=h
def oM(h:p:=by
 obtain⟨⟨g0,g1,g2,g3,g4,g5,g6⟩,gz⟩:=id D2.1;simp only[Nat.zero_add] at g0 g1 g2 g3 g4 g5 g6;obtain⟨⟨r0,r1,r2,r3,r4,r5,r6⟩,rz⟩:=id D2.2.2.1;simp only[Nat.zero_add] at r0 r1 r2 r3 r4 r5 r6;obtain⟨⟨o0,o1,o2,o3,o4,o5,o6⟩,oz⟩:=id D2.2.2.2.2.1;simp only[Nat.zero_add] at o0 o1 o2 o3 o4 o5 o6;simp only[bT] at r0 r1 r2 r3 r4 r5 r6;have fz:=D2.2.2.2.1.1;have fo:=D2.2.2.2.2.2.1.1;have zo:=D2.2.2.2.2.2.2.2;simp only[a4q] at o0 o1 o2 o3 o4 o5 o6;go_wp2;refine bodyPost_ret (v:=Tu #[gv a4q E 0,O false]) sH rfl ⟨?_,?_⟩
 .rfl
 .exact bP D2.2.2.2.2.2.2.1 aa):=h
def uI(h:p:=by
 go_wp2_with fail;refine(gN _).mono ?_;rintro e w1 ⟨rfl,vZ⟩;have D1:=pq vZ;go_wp2_with fail;go_meet;refine⟨R (M w1),rfl,?_⟩;exact D1):=h
def Ra(h:p:=by
 have HM:=tw;have HSg:=wu;have HSh:=ua;generalize hy:((g.n&&h.n)||(!(aS g.sp h.sp).n||((g.t&&h.t)||((g.f&&h.f)||g.s.any λx=>h.s.contains x))))=y;have Hy:=ag hy;generalize hal:(!dw g h)=al;have qX:=vt;clear hy hal;generalize cx g=x1 at *;generalize cx h=x2 at *;generalize aS g.sp h.sp=ms at *;have hfld:=yc;generalize hnn:(aq g||aq h)=nn;have qa:=ag hnn;clear hnn;have qI:=kg;have qJ:=ko;generalize aq g=ng at *;generalize aq h=nh at *;go_enter func115,ntmps115;go_upto_region 1 with fail
 go_cut [8] (λt wy=>∃ob,t=Pp (G ⟨ob,0,E⟩)/\DG w g ss gc h st hc ob a4q wy)
 case first=>
  exact uI
 obtain⟨ob,rfl,D1⟩:=hcut;obtain⟨⟨g0,g1,g2,g3,g4,g5,g6⟩,gz⟩:=id D1.1;simp only[Nat.zero_add] at g0 g1 g2 g3 g4 g5 g6;obtain⟨⟨k0,k1,k2,k3,k4,k5,k6⟩,kz⟩:=id D1.2.1;simp only[Nat.zero_add] at k0 k1 k2 k3 k4 k5 k6;have fz:=D1.2.2.2.1.1;have fo:=D1.2.2.2.2.2.1.1;have zo:=D1.2.2.2.2.2.2.2;go_upto_region 2 with fail
 go_cut [27] (λt wy=>t=O nn/\DG w g ss gc h st hc ob a4q wy)
 case first=>
  exact oy
 obtain⟨rfl,D2⟩:=hcut;clear g0 g1 g2 g3 g4 g5 g6 gz k0 k1 k2 k3 k4 k5 k6 kz fz fo zo D1 qI qJ qa;cases nn with
 |true=>
  exact oM
 |false=>
  go_wp2_with fail;go_loopw [11,12] (λcm i wr=>∃(k:Nat) (cb:Bool),k<=X g.s/\i=I Y k/\cm=O cb/\Hid (cb=(g.s.take k).any λx=>h.s.contains x)/\DG w g ss gc h st hc ob a4q wr) (λ_ i _=>X g.s - (intOf i).toNat)
  case atStart=>exact⟨0,false,Nat.zero_le _,rfl,rfl,iZ,D2⟩
  case round=>
   obtain⟨k,cb,hk,rfl,rfl,HC,DR⟩:=hrel;clear D2;obtain⟨⟨g0,g1,g2,g3,g4,g5,g6⟩,gz⟩:=id DR.1;simp only[Nat.zero_add] at g0 g1 g2 g3 g4 g5 g6;obtain⟨⟨k0,k1,k2,k3,k4,k5,k6⟩,kz⟩:=id DR.2.1;simp only[Nat.zero_add] at k0 k1 k2 k3 k4 k5 k6;have fz:=DR.2.2.2.1.1;have fo:=DR.2.2.2.2.2.1.1;have zo:=DR.2.2.2.2.2.2.2;by_cases xy:k < X g.s
   .have IR:=uS
    exact oa
   .have ek:k=X g.s:=by omega
    have HA:=ym;subst ek;clear xy;clear HC;obtain⟨⟨o0,o1,o2,o3,o4,o5,o6⟩,oz⟩:=id DR.2.2.2.2.1;simp only[Nat.zero_add] at o0 o1 o2 o3 o4 o5 o6;simp only[a4q] at o0 o1 o2 o3 o4 o5 o6;go_upto_region 17 with fail
    go_cut [11,98] (λt t' wy=>DG w g ss gc h st hc ob ⟨false,⟨true,0,0⟩,y,false,[]⟩ wy)
    case first=>
     exact Fx
    have D6:=hcut;clear DR g0 g1 g2 g3 g4 g5 g6 gz k0 k1 k2 k3 k4 k5 k6 kz fz fo zo o0 o1 o2 o3 o4 o5 o6 oz hcut Hy HA HM;go_wp2_with fail;have KS:=vd;generalize wc=w6 at *;have D7:=D6.drew;refine wp_region_held_drew (S:=yx (R (M w)) g ss gc h st hc) ac (KS _ D7) (λxX=> ?_);unfold yx at xX KS |-;clear D6;generalize w6.drew=w7 at *;refine QO 0 ?_;refine rH1 1 λK hK=> ?_;go_simp;refine(HSg.out _).mono ?_;rintro e w8 ⟨rfl,zJ⟩;have D8:=D7.call zJ;refine hK.out _ _ (KS _ D8) (λQE=> ?_);clear hK K zJ D7;refine sm ?_;refine QO 2 ?_;have qd:∃lt:Bool,Hid (decide (x1 < 0)=lt):=⟨_,rfl⟩;obtain⟨lt,qd⟩:=qd;rw[qd.out];cases lt with
    |true=>
     have qj:Hid (al=true):=by show _=_;rw[qX.out,qd.out];rfl
     refine QO 3 ?_;refine uH 4 ?_;refine sm ?_;refine uH 5 ?_;refine sm ?_;refine uH 6 ?_;refine sm ?_;refine uH 7 ?_;refine sm ?_;refine uH 8 ?_;refine sm ?_;refine QO 9 ?_;refine QO 10 ?_;refine uH 11 ?_;refine sm ?_;refine uH 12 ?_;refine sm ?_;refine uH 13 ?_;refine sm ?_;refine uH 14 ?_;refine sm ?_;refine uH 15 ?_;refine sm ?_;refine XG ?_;obtain⟨⟨o0,o1,o2,o3,o4,o5,o6⟩,oz⟩:=id D8.2.2.2.2.1;simp only[Nat.zero_add] at o0 o1 o2 o3 o4 o5 o6;have fo:=D8.2.2.2.2.2.1.1;have D9:=D8.f (y:=true);refine rH1 18 λK hK=> ?_;go_simp;refine hK.out _ (w8.setCell ⟨ob,5,E⟩ (O true)) (KS _ D9) (λjH=> ?_);clear hK K o0 o1 o2 o3 o4 o5 o6 oz fo D8;refine sm ?_;generalize w8.setCell ⟨ob,5,E⟩ (O true)=w9 at *;refine wpAnyH_done ac ?_ _;obtain⟨⟨r0,r1,r2,r3,r4,r5,r6⟩,rz⟩:=id D9.2.2.1;simp only[Nat.zero_add] at r0 r1 r2 r3 r4 r5 r6;obtain⟨⟨o0,o1,o2,o3,o4,o5,o6⟩,oz⟩:=id D9.2.2.2.2.1;simp only[Nat.zero_add] at o0 o1 o2 o3 o4 o5 o6;simp only[bT] at r0 r1 r2 r3 r4 r5 r6;have fz:=D9.2.2.2.1.1;have fo:=D9.2.2.2.2.2.1.1;have zo:=D9.2.2.2.2.2.2.2;go_wp2;refine bodyPost_ret (v:=Tu #[gv ⟨false,⟨true,0,0⟩,y,true,[]⟩ E 0,O false]) l9 rfl ⟨?_,?_⟩
     .rw[show al=true from qj.out]
     .exact bP D9.2.2.2.2.2.2.1 aa
    |false=>
     have zk:x1≠x2:=by
      rcases hS.out with h|h
      .exact absurd h (of_decide_eq_false qd.out)
      .exact h
     refine XE ?_;refine QO 6 ?_;refine rH1 5 λK hK=> ?_;go_simp;refine(HSg.out _).mono ?_;rintro e w9 ⟨rfl,ji⟩;have D9:=D8.call ji;refine hK.out _ _ (KS _ D9) (λQF=> ?_);clear hK K ji D8;refine sm ?_;refine rH1 7 λK hK=> ?_;go_simp;refine(HSh.out _).mono ?_;rintro e xM ⟨rfl,xN⟩;have zV:=D9.call xN;refine hK.out _ _ (KS _ zV) (λQM=> ?_);clear hK K xN D9;refine sm ?_;have hneb:(x1 !=x2)=true:=by simpa using zk
     have qj:Hid (al=true):=UX;refine XD ?_;refine uH 11 ?_;refine sm ?_;refine uH 12 ?_;refine sm ?_;refine uH 13 ?_;refine sm ?_;refine uH 14 ?_;refine sm ?_;refine uH 15 ?_;refine sm ?_;refine XG ?_;obtain⟨⟨o0,o1,o2,o3,o4,o5,o6⟩,oz⟩:=id zV.2.2.2.2.1;simp only[Nat.zero_add] at o0 o1 o2 o3 o4 o5 o6;have fo:=zV.2.2.2.2.2.1.1;have D9:=zV.f (y:=true);refine rH1 18 λK hK=> ?_;go_simp;refine hK.out _ (xM.setCell ⟨ob,5,E⟩ (O true)) (KS _ D9) (λjH=> ?_);clear hK K o0 o1 o2 o3 o4 o5 o6 oz fo zV;refine sm ?_;generalize xM.setCell ⟨ob,5,E⟩ (O true)=w9 at *;refine wpAnyH_done ac ?_ _;obtain⟨⟨r0,r1,r2,r3,r4,r5,r6⟩,rz⟩:=id D9.2.2.1;simp only[Nat.zero_add] at r0 r1 r2 r3 r4 r5 r6;obtain⟨⟨o0,o1,o2,o3,o4,o5,o6⟩,oz⟩:=id D9.2.2.2.2.1;simp only[Nat.zero_add] at o0 o1 o2 o3 o4 o5 o6;simp only[bT] at r0 r1 r2 r3 r4 r5 r6;have fz:=D9.2.2.2.1.1;have fo:=D9.2.2.2.2.2.1.1;have zo:=D9.2.2.2.2.2.2.2;go_wp2;refine bodyPost_ret (v:=Tu #[gv ⟨false,⟨true,0,0⟩,y,true,[]⟩ E 0,O false]) l9 rfl ⟨?_,?_⟩
     .rw[show al=true from qj.out]
     .exact bP D9.2.2.2.2.2.2.1 aa):=h
def kM(h:p:=by
 refine QO 15 ?_;refine XG ?_;obtain⟨⟨o0,o1,o2,o3,o4,o5,o6⟩,oz⟩:=id zV.2.2.2.2.1;simp only[Nat.zero_add] at o0 o1 o2 o3 o4 o5 o6;have fo:=zV.2.2.2.2.2.1.1;have D9:=zV.f (y:=true);refine rH1 18 λK hK=> ?_;go_simp;refine hK.out _ (xM.setCell ⟨ob,5,E⟩ (O true)) (KS _ D9) (λjH=> ?_);clear hK K o0 o1 o2 o3 o4 o5 o6 oz fo zV;refine sm ?_;generalize xM.setCell ⟨ob,5,E⟩ (O true)=w9 at *;refine wpAnyH_done ac ?_ _;obtain⟨⟨r0,r1,r2,r3,r4,r5,r6⟩,rz⟩:=id D9.2.2.1;simp only[Nat.zero_add] at r0 r1 r2 r3 r4 r5 r6;obtain⟨⟨o0,o1,o2,o3,o4,o5,o6⟩,oz⟩:=id D9.2.2.2.2.1;simp only[Nat.zero_add] at o0 o1 o2 o3 o4 o5 o6;simp only[bT] at r0 r1 r2 r3 r4 r5 r6;have fz:=D9.2.2.2.1.1;have fo:=D9.2.2.2.2.2.1.1;have zo:=D9.2.2.2.2.2.2.2;go_wp2;refine bodyPost_ret (v:=Tu #[gv ⟨false,⟨true,0,0⟩,y,true,[]⟩ E 0,O false]) l9 rfl ⟨?_,?_⟩
 .rw[show al=true from qj.out]
 .exact bP D9.2.2.2.2.2.2.1 aa):=h
def Nl(h:p:=by
 have HM:=tw;have HSg:=wu;have HSh:=ua;generalize hy:((g.n&&h.n)||(!(aS g.sp h.sp).n||((g.t&&h.t)||((g.f&&h.f)||g.s.any λx=>h.s.contains x))))=y;have Hy:=ag hy;generalize hal:(!dw g h)=al;have qX:=vt;clear hy hal;generalize cx g=x1 at *;generalize cx h=x2 at *;generalize aS g.sp h.sp=ms at *;have hfld:=yc;generalize hnn:(aq g||aq h)=nn;have qa:=ag hnn;clear hnn;have qI:=kg;have qJ:=ko;generalize aq g=ng at *;generalize aq h=nh at *;go_enter func115,ntmps115;go_upto_region 1 with fail
 go_cut [8] (λt wy=>∃ob,t=Pp (G ⟨ob,0,E⟩)/\DG w g ss gc h st hc ob a4q wy)
 case first=>
  exact uI
 obtain⟨ob,rfl,D1⟩:=hcut;obtain⟨⟨g0,g1,g2,g3,g4,g5,g6⟩,gz⟩:=id D1.1;simp only[Nat.zero_add] at g0 g1 g2 g3 g4 g5 g6;obtain⟨⟨k0,k1,k2,k3,k4,k5,k6⟩,kz⟩:=id D1.2.1;simp only[Nat.zero_add] at k0 k1 k2 k3 k4 k5 k6;have fz:=D1.2.2.2.1.1;have fo:=D1.2.2.2.2.2.1.1;have zo:=D1.2.2.2.2.2.2.2;go_upto_region 2 with fail
 go_cut [27] (λt wy=>t=O nn/\DG w g ss gc h st hc ob a4q wy)
 case first=>
  exact oy
 obtain⟨rfl,D2⟩:=hcut;clear g0 g1 g2 g3 g4 g5 g6 gz k0 k1 k2 k3 k4 k5 k6 kz fz fo zo D1 qI qJ qa;cases nn with
 |true=>
  exact oM
 |false=>
  go_wp2_with fail;go_loopw [11,12] (λcm i wr=>∃(k:Nat) (cb:Bool),k<=X g.s/\i=I Y k/\cm=O cb/\Hid (cb=(g.s.take k).any λx=>h.s.contains x)/\DG w g ss gc h st hc ob a4q wr) (λ_ i _=>X g.s - (intOf i).toNat)
  case atStart=>exact⟨0,false,Nat.zero_le _,rfl,rfl,iZ,D2⟩
  case round=>
   obtain⟨k,cb,hk,rfl,rfl,HC,DR⟩:=hrel;clear D2;obtain⟨⟨g0,g1,g2,g3,g4,g5,g6⟩,gz⟩:=id DR.1;simp only[Nat.zero_add] at g0 g1 g2 g3 g4 g5 g6;obtain⟨⟨k0,k1,k2,k3,k4,k5,k6⟩,kz⟩:=id DR.2.1;simp only[Nat.zero_add] at k0 k1 k2 k3 k4 k5 k6;have fz:=DR.2.2.2.1.1;have fo:=DR.2.2.2.2.2.1.1;have zo:=DR.2.2.2.2.2.2.2;by_cases xy:k < X g.s
   .have IR:=uS
    exact oa
   .have ek:k=X g.s:=by omega
    have HA:=ym;subst ek;clear xy;clear HC;obtain⟨⟨o0,o1,o2,o3,o4,o5,o6⟩,oz⟩:=id DR.2.2.2.2.1;simp only[Nat.zero_add] at o0 o1 o2 o3 o4 o5 o6;simp only[a4q] at o0 o1 o2 o3 o4 o5 o6;go_upto_region 17 with fail
    go_cut [11,98] (λt t' wy=>DG w g ss gc h st hc ob ⟨false,⟨true,0,0⟩,y,false,[]⟩ wy)
    case first=>
     exact Fx
    have D6:=hcut;clear DR g0 g1 g2 g3 g4 g5 g6 gz k0 k1 k2 k3 k4 k5 k6 kz fz fo zo o0 o1 o2 o3 o4 o5 o6 oz hcut Hy HA HM;go_wp2_with fail;have KS:=vd;generalize wc=w6 at *;have D7:=D6.drew;refine wp_region_held_drew (S:=yx (R (M w)) g ss gc h st hc) ac (KS _ D7) (λxX=> ?_);unfold yx at xX KS |-;clear D6;generalize w6.drew=w7 at *;refine QO 0 ?_;refine rH1 1 λK hK=> ?_;go_simp;refine(HSg.out _).mono ?_;rintro e w8 ⟨rfl,zJ⟩;have D8:=D7.call zJ;refine hK.out _ _ (KS _ D8) (λQE=> ?_);clear hK K zJ D7;refine sm ?_;refine QO 2 ?_;have qd:Hid (decide (x1 < 0)=false):=decide_eq_false (by have:=hS0.out;omega)
    rw[qd.out];have zk:=hS1.out;clear hS0 hS1
    .
     refine XE ?_;refine QO 6 ?_;refine rH1 5 λK hK=> ?_;go_simp;refine(HSg.out _).mono ?_;rintro e w9 ⟨rfl,ji⟩;have D9:=D8.call ji;refine hK.out _ _ (KS _ D9) (λQF=> ?_);clear hK K ji D8;refine sm ?_;refine rH1 7 λK hK=> ?_;go_simp;refine(HSh.out _).mono ?_;rintro e xM ⟨rfl,xN⟩;have zV:=D9.call xN;refine hK.out _ _ (KS _ zV) (λQM=> ?_);clear hK K xN D9;refine sm ?_;subst zk;refine XD ?_;refine QO 11 ?_;refine XF ?_;have h4:(g.sp.n==h.sp.n)=false\/((g.sp.n==h.sp.n)=true/\(g.sp.lo==h.sp.lo)=false)\/((g.sp.n==h.sp.n)=true/\(g.sp.lo==h.sp.lo)=true/\(g.sp.hi==h.sp.hi)=false)\/((g.sp.n==h.sp.n)=true/\(g.sp.lo==h.sp.lo)=true/\(g.sp.hi==h.sp.hi)=true):=by
      cases (g.sp.n==h.sp.n)<;>cases (g.sp.lo==h.sp.lo)<;>cases (g.sp.hi==h.sp.hi)<;>simp
     rcases h4 with q1|⟨q1,q2⟩|⟨q1,q2,q3⟩|⟨q1,q2,q3⟩
     .have qj:Hid (al=true):=by show _=_;rw[qX.out,qd.out,@decide_eq_true (g.sp≠h.sp) (@instDecidableNot _ (g.sp.dq h.sp)) (λe=>by rw[e] at q1;simp at q1)];simp
      exact kM
     .have qj:Hid (al=true):=by show _=_;rw[qX.out,qd.out,@decide_eq_true (g.sp≠h.sp) (@instDecidableNot _ (g.sp.dq h.sp)) (λe=>by rw[e] at q2;simp at q2)];simp
      exact kM
     .have qj:Hid (al=true):=by show _=_;rw[qX.out,qd.out,@decide_eq_true (g.sp≠h.sp) (@instDecidableNot _ (g.sp.dq h.sp)) (λe=>by rw[e] at q3;simp at q3)];simp
      exact kM
     .have qj:Hid (al=false):=by show _=_;rw[qX.out,qd.out,Vr q1 q2 q3];simp
      refine QO 15 ?_;refine XG ?_;obtain⟨⟨o0,o1,o2,o3,o4,o5,o6⟩,oz⟩:=id zV.2.2.2.2.1;simp only[Nat.zero_add] at o0 o1 o2 o3 o4 o5 o6;have fo:=zV.2.2.2.2.2.1.1;have D9:=zV.f (y:=false);refine rH1 18 λK hK=> ?_;go_simp;refine hK.out _ (xM.setCell ⟨ob,5,E⟩ (O false)) (KS _ D9) (λjH=> ?_);clear hK K o0 o1 o2 o3 o4 o5 o6 oz fo zV;refine sm ?_;generalize xM.setCell ⟨ob,5,E⟩ (O false)=w9 at *;refine wpAnyH_done ac ?_ _;obtain⟨⟨r0,r1,r2,r3,r4,r5,r6⟩,rz⟩:=id D9.2.2.1;simp only[Nat.zero_add] at r0 r1 r2 r3 r4 r5 r6;obtain⟨⟨o0,o1,o2,o3,o4,o5,o6⟩,oz⟩:=id D9.2.2.2.2.1;simp only[Nat.zero_add] at o0 o1 o2 o3 o4 o5 o6;simp only[bT] at r0 r1 r2 r3 r4 r5 r6;have fz:=D9.2.2.2.1.1;have fo:=D9.2.2.2.2.2.1.1;have zo:=D9.2.2.2.2.2.2.2;go_wp2;refine bodyPost_ret (v:=Tu #[gv ⟨false,⟨true,0,0⟩,y,false,[]⟩ E 0,O false]) l9 rfl ⟨?_,?_⟩
      .rw[show al=false from qj.out]
      .exact bP D9.2.2.2.2.2.2.1 aa):=h
def ww(h:p:=by
 generalize hnn:(aq g||aq h)=nn;have qa:=ag hnn;clear hnn;have qI:=kg;have qJ:=ko;generalize aq g=ng at *;generalize aq h=nh at *;go_enter func115,ntmps115;go_upto_region 1 with fail
 go_cut [8] (λt wy=>∃ob,t=Pp (G ⟨ob,0,E⟩)/\DG w g ss gc h st hc ob a4q wy)
 case first=>
  exact uI
 obtain⟨ob,rfl,D1⟩:=hcut;obtain⟨⟨g0,g1,g2,g3,g4,g5,g6⟩,gz⟩:=id D1.1;simp only[Nat.zero_add] at g0 g1 g2 g3 g4 g5 g6;obtain⟨⟨k0,k1,k2,k3,k4,k5,k6⟩,kz⟩:=id D1.2.1;simp only[Nat.zero_add] at k0 k1 k2 k3 k4 k5 k6;have fz:=D1.2.2.2.1.1;have fo:=D1.2.2.2.2.2.1.1;have zo:=D1.2.2.2.2.2.2.2;go_upto_region 2 with fail
 go_cut [27] (λt wy=>t=O nn/\DG w g ss gc h st hc ob a4q wy)
 case first=>
  go_wp2_with fail;refine(qI.out _).mono ?_;rintro e w2 ⟨rfl,xj⟩;have D2:=D1.call xj;clear g0 g1 g2 g3 g4 g5 g6 gz k0 k1 k2 k3 k4 k5 k6 kz fz fo;cases ng with
  |true=>
   go_wp2_with fail;go_meet;exact lF
  |false=>
   obtain⟨⟨k0,k1,k2,k3,k4,k5,k6⟩,kz⟩:=id D2.2.1;simp only[Nat.zero_add] at k0 k1 k2 k3 k4 k5 k6;have fz:=D2.2.2.2.1.1;have fo:=D2.2.2.2.2.2.1.1;have zo2:=D2.2.2.2.2.2.2.2;go_wp2_with fail;refine(qJ.out _).mono ?_;rintro e w3 ⟨rfl,xp⟩;have D3:=D2.call xp;go_wp2_with fail;go_meet;exact⟨by rw[<-qa.out];first|done|rfl|simp,D3⟩
 obtain⟨rfl,D2⟩:=hcut;clear g0 g1 g2 g3 g4 g5 g6 gz k0 k1 k2 k3 k4 k5 k6 kz fz fo zo D1 qI qJ qa;cases nn with
 |true=>
  obtain⟨⟨g0,g1,g2,g3,g4,g5,g6⟩,gz⟩:=id D2.1;simp only[Nat.zero_add] at g0 g1 g2 g3 g4 g5 g6;obtain⟨⟨r0,r1,r2,r3,r4,r5,r6⟩,rz⟩:=id D2.2.2.1;simp only[Nat.zero_add] at r0 r1 r2 r3 r4 r5 r6;obtain⟨⟨o0,o1,o2,o3,o4,o5,o6⟩,oz⟩:=id D2.2.2.2.2.1;simp only[Nat.zero_add] at o0 o1 o2 o3 o4 o5 o6;simp only[bT] at r0 r1 r2 r3 r4 r5 r6;have fz:=D2.2.2.2.1.1;have fo:=D2.2.2.2.2.2.1.1;have zo:=D2.2.2.2.2.2.2.2;simp only[a4q] at o0 o1 o2 o3 o4 o5 o6;go_wp2;refine bodyPost_ret (v:=Tu #[gv a4q E 0,O false]) sH rfl ⟨?_,?_⟩
  .rfl
  .exact rm
 |false=>
  obtain⟨⟨g0,g1,g2,g3,g4,g5,g6⟩,gz⟩:=id D2.1;simp only[Nat.zero_add] at g0 g1 g2 g3 g4 g5 g6;obtain⟨⟨k0,k1,k2,k3,k4,k5,k6⟩,kz⟩:=id D2.2.1;simp only[Nat.zero_add] at k0 k1 k2 k3 k4 k5 k6;have fz:=D2.2.2.2.1.1;have fo:=D2.2.2.2.2.2.1.1;have zo:=D2.2.2.2.2.2.2.2;go_upto_region 25 with fail
  go_cut [159] (λt wy=>DG w g ss gc h st hc ob ⟨false,sp,false,false,[]⟩ wy)
  case first=>
   go_wp2_with fail;refine(HD.out _).mono ?_;rintro e w3 ⟨rfl,xp⟩;have D3:=D2.call xp;clear xp D2 g0 g1 g2 g3 g4 g5 g6 gz k0 k1 k2 k3 k4 k5 k6 kz fz fo zo;obtain⟨⟨o0,o1,o2,o3,o4,o5,o6⟩,oz⟩:=id D3.2.2.2.2.1;simp only[Nat.zero_add] at o0 o1 o2 o3 o4 o5 o6;have fz:=D3.2.2.2.1.1;have fo:=D3.2.2.2.2.2.1.1;have zo:=D3.2.2.2.2.2.2.2;simp only[a4q] at o0 o1 o2 o3 o4 o5 o6;go_wp2_with fail;go_meet;exact D3.sp
  have D3:=hcut;clear D2 g0 g1 g2 g3 g4 g5 g6 gz k0 k1 k2 k3 k4 k5 k6 kz fz fo zo hcut;generalize ho:(⟨false,sp,false,false,[]⟩:Gs)=o at D3;have HO:Hid (Ending.returned (Tu #[gv o E 0,O wr])=Ending.returned (Tu #[gv ⟨false,sp,false,false,[]⟩ E 0,O wr])):=by show _=_;rw[<-ho]
  clear ho;go_wp2_with fail;generalize wc=w3 at *;have KS:=MW;have KSp:=No;have D4:=D3.drew;refine wp_region_held_drew (S:=Kz (R (M w)) ob g ss gc h st hc o) ac (KS _ D4) (λxX=> ?_);unfold Kz at xX KS KSp |-;clear D3;generalize w3.drew=w4 at *;refine QO 0 ?_;refine QO 1 ?_;refine rH1 2 λK hK=> ?_;go_simp;refine(HOg.out _).mono ?_;rintro e w5 ⟨rfl,xw⟩;have D5:=D4.call xw;refine hK.out _ _ (KS _ D5) (λQv=> ?_);clear hK K xw D4;refine sm ?_;cases og with
  |true=>
   have ewr:wr=true:=BH;subst ewr;refine QO 3 ?_;refine uH 4 ?_;refine sm ?_;refine uH 5 ?_;refine sm ?_;refine QO 6 ?_;obtain⟨⟨r0,r1,r2,r3,r4,r5,r6⟩,rz⟩:=id D5.2.2.1;simp only[Nat.zero_add] at r0 r1 r2 r3 r4 r5 r6;simp only[bT] at r0 r1 r2 r3 r4 r5 r6;have fz:=D5.2.2.2.1.1;have zo:=D5.2.2.2.2.2.2.2;refine rH1 7 λK hK=> ?_;go_simp;refine hK.out _ (Go.Proofs.YtmapdpcfanecdabGreatDoor.lP w5 (R (M w)+1+1) (O o.n) (O o.sp.n) (I Y o.sp.lo) (I Y o.sp.hi) (O o.t) (O o.f) (U E (X o.s) 0)) (KSp _ D5) (λjH=> ?_);clear hK K;refine sm ?_;refine QO 8 ?_;refine wpAnyH_done ac ?_ _;go_wp2;refine bodyPost_ret (v:=Tu #[gv o E 0,O true]) AO rfl ⟨HO.out,?_⟩;exact bP D5.2.2.2.2.2.2.1 aa
  |false=>
   have ewr:wr=oh:=BH;subst ewr;refine XE ?_;refine rH1 5 λK hK=> ?_;go_simp;refine(HOh.out _).mono ?_;rintro e w6 ⟨rfl,zI⟩;have D6:=D5.call zI;refine hK.out _ _ (KS _ D6) (λQJ=> ?_);clear hK K zI D5;refine sm ?_;refine QO 6 ?_;obtain⟨⟨r0,r1,r2,r3,r4,r5,r6⟩,rz⟩:=id D6.2.2.1;simp only[Nat.zero_add] at r0 r1 r2 r3 r4 r5 r6;simp only[bT] at r0 r1 r2 r3 r4 r5 r6;have fz:=D6.2.2.2.1.1;have zo:=D6.2.2.2.2.2.2.2;refine rH1 7 λK hK=> ?_;go_simp;refine hK.out _ (Go.Proofs.YtmapdpcfanecdabGreatDoor.lP w6 (R (M w)+1+1) (O o.n) (O o.sp.n) (I Y o.sp.lo) (I Y o.sp.hi) (O o.t) (O o.f) (U E (X o.s) 0)) (KSp _ D6) (λjH=> ?_);clear hK K;refine sm ?_;refine QO 8 ?_;refine wpAnyH_done ac ?_ _;go_wp2;refine bodyPost_ret (v:=Tu #[gv o E 0,O wr]) AO rfl ⟨HO.out,?_⟩;exact bP D6.2.2.2.2.2.2.1 aa):=h
def a5r (w:C)(g:Gs)(ss:oA)(gc:Nat)(h:Gs)(st:oA)(hc:Nat):
  Calls f 115 #[I Y 10,gv g ss gc,gv h st hc] w λe w'=>e=Rt (if aq g=W5 then Tu #[gv a4q E 0,O d] else Tu #[gv ⟨d,⟨W5,0,0⟩,dp g,cM g,[]⟩ E 0,O d])/\bl w w':=by
 have HT:=ag (λw=>Cn g ss gc w);generalize cM g=yy at *;generalize dp g=no at *;generalize hnn:aq g=nn;have qa:=ag hnn;clear hnn;have P:=kg;generalize aq g=ng at *;generalize aq h=nh at *;go_enter func115,ntmps115;go_upto_region 1 with fail
 go_cut [8] (λt K=>∃b,t=Pp (G ⟨b,0,E⟩)/\DG w g ss gc h st hc b a4q K)
 case first=>
  go_wp2_with fail;go_call gN _ as e m ⟨rfl,ah⟩;have a:=pq ah;go_wp2_with fail;go_meet;refine⟨R (M m),rfl,?_⟩;exact a
 obtain⟨b,rfl,a⟩:=hcut;obtain⟨⟨s,H,Q,r,n,o,q⟩,N⟩:=id a.1;simp only[j0] at s H Q r n o q;have y:=a.2.2.2.1.1;have Z:=a.2.2.2.2.2.1.1;have zo:=a.2.2.2.2.2.2.2;go_upto_region 2 with fail
 go_cut [27] (λt K=>t=O nn/\DG w g ss gc h st hc b a4q K)
 case first=>
  go_wp2_with fail;go_call P.out _ as e z ⟨rfl,ad⟩;have D2:=a.call ad;clear s H Q r n o q y Z;cases ng with
  |true=>
   go_wp2_with fail;go_meet;exact lF
  |false=>
   go_wp2_with fail;go_meet;exact lF
 obtain⟨rfl,D2⟩:=hcut;clear s H Q r n o q y Z zo a P qa;cases nn with
 |true=>
  obtain⟨⟨s,H,Q,r,n,o,q⟩,N⟩:=id D2.1;simp only[j0] at s H Q r n o q;obtain⟨⟨r0,r1,r2,r3,r4,r5,r6⟩,rz⟩:=id D2.2.2.1;simp only[j0] at r0 r1 r2 r3 r4 r5 r6;obtain⟨⟨o0,j,T,o3,o4,o5,o6⟩,oz⟩:=id D2.2.2.2.2.1;simp only[j0] at o0 j T o3 o4 o5 o6;simp only[bT] at r0 r1 r2 r3 r4 r5 r6;have y:=D2.2.2.2.1.1;have Z:=D2.2.2.2.2.2.1.1;have zo:=D2.2.2.2.2.2.2.2;simp only[a4q] at o0 j T o3 o4 o5 o6;go_wp2;refine bodyPost_ret (v:=Tu #[gv a4q E 0,O d]) sH rfl ⟨?_,?_⟩
  .rfl
  .exact rm
 |false=>
  obtain⟨⟨s,H,Q,r,n,o,q⟩,N⟩:=id D2.1;simp only[j0] at s H Q r n o q;have y:=D2.2.2.2.1.1;have Z:=D2.2.2.2.2.2.1.1;have zo:=D2.2.2.2.2.2.2.2;go_wp2_with fail;go_call HT.out _ as e w3 ⟨rfl,ab⟩;have D3:=D2.call ab;clear ab D2 s H Q r n o q y Z zo;obtain⟨⟨r0,r1,r2,r3,r4,r5,r6⟩,rz⟩:=id D3.2.2.1;simp only[j0] at r0 r1 r2 r3 r4 r5 r6;obtain⟨⟨o0,j,T,o3,o4,o5,o6⟩,oz⟩:=id D3.2.2.2.2.1;simp only[j0] at o0 j T o3 o4 o5 o6;simp only[bT] at r0 r1 r2 r3 r4 r5 r6;have y:=D3.2.2.2.1.1;have Z:=D3.2.2.2.2.2.1.1;have zo:=D3.2.2.2.2.2.2.2;simp only[a4q] at o0 j T o3 o4 o5 o6;go_wp2;refine bodyPost_ret (v:=Tu #[gv ⟨d,⟨W5,0,0⟩,no,yy,[]⟩ E 0,O d]) l9 rfl ⟨?_,?_⟩
  .rfl
  .exact bP ((D3.2.2.2.2.2.2.1.setCell au _).setCell au _) aa
end
section
open Go.RowKit
attribute [local go_sem ↓] Go.wp_at_zero Go.wp_at_succ
def o9 (l:List Thg)(v:Val):Int:=if v.k=3 then(l.getD v.n.toNat ⟨0,[]⟩).site else 0
def OE{v:Val}(h:cS (X r.things) v):AF g v.k v.n (o9 r.things v)=rB r g v:=by
 unfold rB AF o9 a3m;rcases h with⟨h,_⟩|⟨h,_⟩|⟨h,_⟩|⟨h,_⟩
 .rw[if_pos h,if_pos h]
 .rw[if_neg aa,if_pos h,if_neg aa,if_pos h]
 .rw[if_neg aa,if_neg aa,if_pos h,if_neg aa,if_neg aa,if_pos h]
 .simp[h]
def Mf (r:St)(a:List Gs)(b:List Val)(k:Nat)(h:k < X a)(o:k < X b):cq r (a.drop k) (b.drop k)=(rB r a[k] b[k]&&cq r (a.drop (k+1)) (b.drop (k+1))):=by
 unfold cq;rw[z6 h,z6 o];rfl
def a7z.get(h:a7z w s l)(k:Nat)(H:k < X l):∃b o,s=G ⟨b,o,E⟩/\b < R (M w)/\∀k (h:k < X l),w.cell? ⟨b,o+k * 2,E⟩=G (I Y l[k].site)/\∃f fc,w.cell? ⟨b,o+k * 2+1,E⟩=G (U f (X l[k].fs) fc)/\a7j w f l[k].fs:=by
 rcases h with rfl|h
 .exact absurd H ae
 .exact h
def a7z.call(h:a7z w s l)(r:bl w w'):a7z w' s l:=h.below r (lR _)
section
variable {l:List Val}(h:a7j w s l)
def a7j.get(k:Nat)(H:k < X l):∃b o,s=G ⟨b,o,E⟩/\b < R (M w)/\w.cell? ⟨b,o+k * 2,E⟩=G (I Y l[k].k)/\w.cell? ⟨b,o+k * 2+1,E⟩=G (I Y l[k].n):=by
 rcases h with rfl|⟨b,o,e,r,h⟩
 .exact absurd H ae
 .exact⟨b,o,e,r,h k H⟩
def a7j.call(r:bl w w'):a7j w' s l:=h.below r (lR _)
end
def TM (v:Val)(m:oA)(l:List Thg)(z:Nat)(w:C)(K:a7z w m l)(Z:cS (X l) v):
  Calls f 82 #[Ag #[I Y v.k,I Y v.n],U m (X l) z] w λe w'=>e=Rt (I Y (o9 l v))/\bl w w':=by
 have g:n4 (R (M w)) w (w.alloc (A #[I Y v.k,I Y v.n] 82)):=ai;by_cases t:v.k=3
 .have s:(v.k !=3)=false:=by rw[t];rfl
  have a:0<=v.n/\v.n < X l:=by unfold cS at Z;omega
  obtain⟨q,hq⟩:=x8 a.1;have n:q < X l:=aa;obtain⟨b,o,rfl,u,T⟩:=K.get q n;have r:=(T q n).1;have j:o9 l v=l[q].site:=by unfold o9;rw[if_pos t,hq];simp[List.getD,q5 n]
  rw[j,hq];rw[hq] at g;have k:=fO;have y:(q:Int) < (X l:Int):=aa;generalize v.k=vk at *;clear T K Z a j hq;go_enter func82,ntmps82;go_wp2;go_ret;exact cP
 .have s:(v.k !=3)=true:=by simpa using t
  have j:o9 l v=0:=by unfold o9;rw[if_neg t]
  rw[j];clear j t Z;go_enter func82,ntmps82;go_wp2;go_ret;exact cP
def Mg (V F:Int)(s:oA)(c:lI)(cap:Nat)(r:St)(L:List Gs)(gs:oA)(Z:Nat)(vl:List Val)(vs:oA)(vc:Nat)(m:oA)(b:Nat)(w:C)(o:a2r w s c)(hG:a7r w gs L)(hV:a7j w vs vl)(hT:a7z w m r.things)(N:aA V F c=0)(hR:∀g∈L,aH c g=0)(hO:∀v∈vl,cS (X r.things) v)(z:X L=X vl)(hm:X vl<=1000)(hN:∀v∈vl,v.k=0):
  Calls f 44 #[pv V F s c cap,U gs (X L) Z,U vs (X vl) vc,U m (X r.things) b] w λe w'=>e=Rt (O (cq r L vl))/\bl w w':=by
 have HN:=ag hN;have HR:=ag hR;have HO:=ag hO;have a3:=ag z;obtain⟨a4,ax,am⟩:∃q,Hid (q=cq r L vl)/\cq r L vl=q:=⟨_,rfl,rfl⟩;rw[am];clear am hR hO z hN;have P0:=nz;have B0:=mY;go_enter func44,ntmps44;go_upto_region 2 with fail
 generalize w.alloc _=w1 at *;go_wp2;go_loopw [15] (λi wr=>∃k:Nat,k<=X vl/\i=I Y k/\bl w1 wr/\Hid (a4=cq r (L.drop k) (vl.drop k))) (λi _=>X vl - (intOf i).toNat)
 case atStart=>exact⟨0,j1 _,rfl,bR _ _,ax⟩
 case round=>
  obtain⟨k,H,rfl,ao,HK⟩:=hrel;have LR:=B0.trans (ao.mono B0.size);by_cases T:k < X vl
  .have n0:=cQ
   have n1:(k:Int) < (X vl:Int):=aa;have af:k < X L:=by have:=a3.out;omega
   have n2:=il;obtain⟨u,j,e1,ah,g1,G1,I1,k1,m1⟩:=(hG.below LR (lR _)) k af;obtain⟨b2,o2,e2,a5,V1,V2⟩:=(hV.below LR (lR _)).get k T;subst e1 e2;have az:=HR.out _ (gM af);have ar:=HO.out _ (gM T);have HS:=ag (Mf r L vl k af T);have ad:n4 (R (M wr)) wr (wr.alloc (A #[I Y vl[k].k,I Y vl[k].n] 82)):=ai;have Q4:(wr.alloc (A #[I Y vl[k].k,I Y vl[k].n] 82)).cell? ⟨R (M wr),0,E⟩=G (I Y vl[k].k)/\(wr.alloc (A #[I Y vl[k].k,I Y vl[k].n] 82)).cell? ⟨R (M wr),1,E⟩=G (I Y vl[k].n):=aE;have q4:R (M wr) < R (M (wr.alloc (A #[I Y vl[k].k,I Y vl[k].n] 82))):=ae;have I4:=I1.call ad;have G4:=G1.call ad;have T4:=(hT.below LR (lR _)).call ad;have C4:=(o.below LR (lR _)).call ad;have ab:=ao.trans (ad.mono ao.size);go_upto_region 4 with fail
   generalize wr.alloc _=w4 at *;generalize (R (M wr))=qb at *;clear V1 V2 G1 I1;have ap:Hid (∀y,bl w4 y->(y.cell? ⟨R (M w),0,E⟩=G (I Y V)/\y.cell? ⟨R (M w),1,E⟩=G (I Y F)/\y.cell? ⟨R (M w),2,E⟩=G (U s (X c) cap))/\(y.cell? ⟨u,j+k * 7,E⟩=G (O L[k].n)/\y.cell? ⟨u,j+k * 7+1,E⟩=G (O L[k].sp.n)/\y.cell? ⟨u,j+k * 7+2,E⟩=G (I Y L[k].sp.lo)/\y.cell? ⟨u,j+k * 7+3,E⟩=G (I Y L[k].sp.hi)/\y.cell? ⟨u,j+k * 7+4,E⟩=G (O L[k].t)/\y.cell? ⟨u,j+k * 7+5,E⟩=G (O L[k].f)/\y.cell? ⟨u,j+k * 7+6,E⟩=G (U ah L[k].s.length g1))/\(y.cell? ⟨qb,0,E⟩=G (I Y vl[k].k)/\y.cell? ⟨qb,1,E⟩=G (I Y vl[k].n))):=λy hx=>⟨((P0.call ab).call hx).1,(G4.call hx).1,UV,Vb⟩;have HD:=nr;have eK:=OE (g:=L[k]) ar;have a1:Hid (∀y,bl w4 y->Calls f 81 #[pv V F s c cap,gv L[k] ah g1,Ag #[I Y vl[k].k,I Y vl[k].n],I Y (o9 r.things vl[k])] y λe w'=>e=Rt (Tu #[O (rB r L[k] vl[k]),I Y 0])/\bl y w'):=λy hx=>by
    have e0:aY V F c [L[k]]=0:=by unfold aY;rw[if_pos N];unfold cG;rw[if_pos az];rfl
    have kk:=HN.out _ (gM T);rw[<-eK];unfold AF;rw[if_pos kk,kk];exact Tg V F s c cap L[k] ah g1 vl[k].n (o9 r.things vl[k]) y (C4.call hx) (I4.call hx) k1 m1 e0
   clear eK;refine XK [] ac ap.out HD (λl=> ?_);refine QQ ?_;refine av (i:=8) rfl ac (λK hK=> ?_);go_simp;go_at_call 82;go_call TM _ m _ b _ (T4.call HD) ar as e w5 ⟨rfl,xw⟩;have ak:=vi;go_wp2_with fail;refine hK.out _ _ (ap.out _ ak) (λl=> ?_);clear hK K;refine sm ?_;refine av (i:=9) rfl ac (λK hK=> ?_);go_simp;go_at_call 81;go_call a1.out _ ak as e w6 ⟨rfl,a2⟩;have ay:=ak.trans (a2.mono ak.size);go_wp2_with fail;refine hK.out _ _ (ap.out _ ay) (λl=> ?_);clear hK K;refine sm ?_;refine QN 10 ?_;refine QN 11 ?_;refine QN 12 ?_;refine QN 13 ?_;refine QN 14 ?_;refine aB ac ?_ _;have al:=ab.trans (ay.mono ab.size);rcases (show rB r L[k] vl[k]=d\/rB r L[k] vl[k]=W5 by cases rB r L[k] vl[k]<;>simp) with hs|hs<;>have HSG:=ag hs<;>rw[hs]<;>clear hs
   .go_wp2
    go_ret;refine⟨?_,B0.trans (al.mono B0.size)⟩;rw[HK.out,HS.out,HSG.out];rfl
   .go_wp2
    go_roundw
    case rel=>exact⟨k+1,aa,aJ,al,KJ⟩
    case measure=>exact aK
  .have n1:¬(k:Int) < (X vl:Int):=by omega
   go_wp2;go_ret;refine⟨?_,LR⟩;rw[HK.out,List.drop_eq_nil_of_le (show X vl<=k by omega)];simp[cq]
