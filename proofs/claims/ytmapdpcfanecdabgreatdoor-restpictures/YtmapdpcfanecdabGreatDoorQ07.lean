import Derived.Test.YtmapdpcfanecdabGreatDoorQ06
import Derived.Lib.MinMax
import Derived.Laws.EntriesVeiled
open List renaming length→X,all_cons→x8,any_cons→x7,eq_of_mem_replicate→q6,ext_getElem→z4,flatMap_cons→x2,foldl_append→z7,foldl_cons→j3,foldl_nil→z8,getD→j6,getElem?_eq_getElem→z9,getElem?_eq_none→J2,getElem?_set→J3,getElem_cons_zero→J1,getElem_mem→gM,getElem_zipWith→z6,length_cons→z3,length_zipWith→z5,map_cons→j9,mem_append→q8,mem_cons→j2,mem_map→x9,mem_singleton→q9,pairwise_cons→j8,range→j1,range_succ→J4,replicate→q5,set→j0,sum_cons→q3
open Array renaming size→R
open Go.World renaming heap→M,cell?_setCell_far→J0,cell?_setCell_other→q7,size_alloc→zA
open Bool renaming false_eq_true→j5,false→BT,false→d,true→W5
open Go.Ending renaming returned→Rt
open Go.IntKind renaming i64→Y
open Go.Obj renaming cells→A
open Go.Proofs.Tryz renaming prog→pG
open Go.RowKit.Below renaming heap_setCell→hSe,refl→bR
open Go.Value renaming agg→Ag,int→I,pointer→Pp,slice→U,tuple→Tu,bool→O
open Nat renaming le_refl→lR,le_trans→lT,lt_irrefl→x6,lt_of_lt_of_le→lL,mul_le_mul_right→q4,zero_add→j4,zero_le→j7
open Option renaming none→E,some→G
open Go.RowKit renaming Below→n4
open Go renaming Value→mh,World→C
set_option linter.all false
open Go.Proofs.Tryz
set_option maxHeartbeats 8000000
set_option maxRecDepth 100000
namespace Go.Proofs.YtmapdpcfanecdabGreatDoor
variable (m F:Nat)(x:Thg)(r s t:Sp)(f ls:oA){a:Int}(l L:List Gs)(fc B sb q lc:Nat)(y:Bool)(g:Gs){c:lI}(b:Bool)(ss:oA)(at_ V:Int)(i gc:Nat)(cs:List mh)(w:C)
variable {p:Prop}
section
open Go.RowKit
def sT (w:World)(b:Nat)(cs:List Value):Prop:=(∀(j:Nat) (v:Value),cs[j]? =G v->w.cell? ⟨b,j,E⟩=G v)/\b < R (M w)/\∀j,w.frozen? ⟨b,j,E⟩=false
section
variable {w:World}{b:Nat}{v0 v1 v2:Value}
def sT.c3{r:List Value}(h:sT w b (v0::v1::v2::r)):w.cell? ⟨b,0,E⟩=G v0/\w.cell? ⟨b,1,E⟩=G v1/\w.cell? ⟨b,2,E⟩=G v2:=⟨h.1 0 _ rfl,h.1 1 _ rfl,h.1 2 _ rfl⟩
def sT.c7{v3 v4 v5 v6:Value}{r:List Value}(h:sT w b (v0::v1::v2::v3::v4::v5::v6::r)):w.cell? ⟨b,0,E⟩=G v0/\w.cell? ⟨b,1,E⟩=G v1/\w.cell? ⟨b,2,E⟩=G v2/\w.cell? ⟨b,3,E⟩=G v3/\w.cell? ⟨b,4,E⟩=G v4/\w.cell? ⟨b,5,E⟩=G v5/\w.cell? ⟨b,6,E⟩=G v6:=⟨h.1 0 _ rfl,h.1 1 _ rfl,h.1 2 _ rfl,h.1 3 _ rfl,h.1 4 _ rfl,h.1 5 _ rfl,h.1 6 _ rfl⟩
end
section
variable {w w':World} {b:Nat} {cs:List Value}
section
variable (h:sT w b cs)
def sT.same(Z:w'.heap[b]? =w.heap[b]?)(t:R (M w)<=R (M w')):sT w' b cs:=⟨λj v q=>by rw[World.cell?_of_block (a:=⟨b,j,E⟩) Z];exact h.1 j v q,lL h.2.1 t,λj=>by rw[World.frozen?_of_block (a:=⟨b,j,E⟩) Z];exact h.2.2 j⟩
def sT.call(Z:bl w w'):sT w' b cs:=h.same (Z.block b h.2.1) Z.size
def sT.far{a:Addr}(j:b≠a.block)(u:mh):sT (w.setCell a u) b cs:=h.same (hSe _ _ _ _ j) bI
def sT.put(j:Nat)(q:j < X cs)(u:mh):sT (w.setCell ⟨b,j,E⟩ u) b (cs.set j u):=by
 refine⟨λk v N=> ?_,by simpa[World.setCell] using h.2.1,λk=>by rw[World.frozen?_setCell];exact h.2.2 k⟩;by_cases e:k=j
 .subst e
  rw[List.getElem?_set_self q] at N;cases N;exact World.cell?_setCell_same _ _ _ (h.1 k cs[k] (z9 q))
 .rw[List.getElem?_set_ne (Ne.symm e)] at N
  rw[q7 _ _ _ _ (by intro m;cases m;exact e rfl)];exact h.1 k v N
end
def sT.new (w:C)(t:TypeId)(cs:List mh):sT (w.alloc (A cs.toArray t)) (R (M w)) cs:=by
 refine⟨λj v q=> ?_,ae,λj=> ?_⟩
 .have:(w.alloc (A cs.toArray t)).cell? ⟨R (M w),j,E⟩=cs.toArray[j]? :=World.cell?_alloc_mark w cs.toArray t (0,0) j
  rw[this];simpa using q
 .have:=World.frozen?_alloc_mark w cs.toArray t 0 0 j
  rw[this];simp
end
def bk (i:Ins)(V F:Int)(s:oA)(c:lI)(cap:Nat)(at_:Int)(x:Pic)(vs:oA)(vc:Nat)(fs:oA)(fc:Nat)(ev:Value)(wr fl:Bool):List Value:=
 [I Y i.k,I Y i.tgt,I Y i.a,I Y i.b,I Y i.n,I Y i.g,I Y V,I Y F,U s (X c) cap,I Y at_,O x.none,U vs (X x.vq) vc,U fs (X x.fq) fc,ev,O wr,O fl]
structure Ed where
 tgt:Int
 pic:Pic
 vs:oA
 vc:Nat
 fs:oA
 fc:Nat
def dN (e:Ed):List Value:=[I Y e.tgt,O e.pic.none,U e.vs (X e.pic.vq) e.vc,U e.fs (X e.pic.fq) e.fc]
def edG (e:Ed):Edg:=⟨e.tgt,e.pic⟩
def Fl (S:Nat->Prop)(w:World)(e:Ed):Prop:=a7d S w e.pic e.vs e.fs/\(X e.pic.vq<=e.vc/\e.vc<=maxLen)/\(X e.pic.fq<=e.fc/\e.fc<=maxLen)
def rW (e:Ed):∀u∈dN e,u.oneCell'=true:=by
 intro u a;simp only[dN,j2,List.not_mem_nil,or_false] at a;rcases a with rfl|rfl|rfl|rfl<;>rfl
def CO:∀(l:List Ed) (i:Nat) (h:i < X l) (j:Nat) (_:j < 4),(l.flatMap dN)[i * 4+j]? =(dN l[i])[j]?
 |[],i,h,_,_=>absurd h ae
 |x::r,0,_,j,hj=>by
  rw[x2,Nat.zero_mul,j4,List.getElem?_append_left (by simpa[dN] using hj)];rfl
 |x::r,i+1,h,j,hj=>by
  have s:X (dN x)=4:=rfl;rw[x2,List.getElem?_append_right (by rw[s];omega),s];have:(i+1) * 4+j - 4=i * 4+j:=aa;rw[this,CO r i cn j hj];rfl
structure a7t (n sb:Nat) (w:World) (v:Value) (L:List Ed):Prop where
 own:w.ownsRow n 45 4 v L.length (L.flatMap dN)
 off:v.ownBlock≠G sb
 pics:∀e∈L,Fl (λb=>n<=b/\b≠sb/\v.ownBlock≠G b) w e
section
variable {n sb:Nat} {w w':World} {v v':Value} {L:List Ed}
def a7t.nil (n sb:Nat)(w:C):a7t n sb w (U E 0 0) []:=⟨⟨rfl,.inl ⟨rfl,rfl⟩⟩,(λh=>bU),λe r=>by simp at r⟩
section
variable (h:a7t n sb w v L)
def a7t.same(hs:∀b,n<=b->b≠sb->b < R (M w)->w'.heap[b]? =w.heap[b]?)(t:R (M w)<=R (M w')):a7t n sb w' v L:=
 ⟨dZ h.own λb Z=>hs b (aU h.own Z).2 (λe=>h.off (by rw[Z,e])) (aU h.own Z).1,h.off,λe r=>⟨((h.pics e r).1.same (λb Z i=>hs b Z.1 Z.2.1 i) t).mono λb Z _=>Z.1,(h.pics e r).2⟩⟩
def a7t.call(Z:bl w w'):a7t n sb w' v L:=h.same (λb _ _ i=>Z.block b i) Z.size
def a7t.grown{e:Ed}(r:Fl (λb=>n<=b/\b≠sb/\v.ownBlock≠G b) w e)(B:w'.ownsRow n 45 4 v' (X L+1) (L.flatMap dN++dN e))(a:w.grownBy w' v.ownBlock)(N:v'.ownBlock=v.ownBlock\/v'.ownBlock=G (R (M w)))(j:sb < R (M w)):a7t n sb w' v' (L++[e]):=by
 refine⟨by rw[List.length_append,List.flatMap_append];simpa using B,λm=> ?_,λq hq=> ?_⟩
 .rcases N with N|N
  .rw[N] at m;exact h.off m
  .rw[N] at m;cases m;exact absurd j (x6 _)
 .have o:Fl (λb=>n<=b/\b≠sb/\v.ownBlock≠G b) w q:=by
   rcases q8.1 hq with hq|hq
   .exact h.pics q hq
   .rw[q9.1 hq];exact r
  refine⟨(o.1.same (λb Z i=>a.block b i λe=>Z.2.2 e.symm) a.size).mono λb Z _=>⟨Z.1.1,Z.1.2.1,?_⟩,o.2⟩;rcases N with N|N
  .rw[N];exact Z.1.2.2
  .rw[N];intro e;cases e;exact absurd Z.2 (x6 _)
def a7t.form:∃a i,v=U a (X L) i/\X L<=i/\i<=maxLen:=by
 rcases h.own.2 with⟨e,j⟩|⟨g,Z,o,e,_,_,m,K,_⟩
 .exact⟨E,0,by rw[e,j],aa,j7 _⟩
 .exact⟨G ⟨g,0,E⟩,Z,e,m,K⟩
end
end
def ClT (n sb:Nat)(eb:Option Nat)(xb b:Nat):Prop:=n<=b/\b≠sb/\b≠xb/\eb≠G b
def rC (n sb:Nat)(eb:Option Nat)(H:Nat)(w:World)(xb:Nat)(v:Ro)(gs:oA)(gc:Nat)(L:List Ro)(x:Pic):Prop:=
 H<=xb/\sT w xb [O false,U v.rs (X v.l) v.rc,U gs (X L) gc]/\a7e (ClT n sb eb xb) H w v gs gc L/\Off v (Value.slice gs (X L) gc).ownBlock L xb/\bh false v L=x
def mj:List Value->Nat->List Value->List Value
 |cs,_,[]=>cs
 |cs,o,y::ys=>mj (cs.set o y) (o+1) ys
structure Put (b:Nat) (w w':World) (cs:List Value):Prop where
 cells:sT w' b cs
 far:∀q,q≠b->w'.heap[q]? =w.heap[q]?
 size:w.heap.size<=w'.heap.size
 low:∀{B:Nat} {a:World},B<=b->Below B a w->Below B a w'
section
variable {b:Nat} {w w':World} {cs:List Value}
def Io:∀(a:List mh) (o:Nat) (w:C) (cs:List mh),sT w b cs->o+X a<=X cs->sT (bd w b o a) b (mj cs o a)
 |[],_,_,_,h,_=>h
 |y::a,o,w,cs,h,hl=>Io a (o+1) _ _ (h.put o (by simp at hl;omega) y) (by simp at hl |-;omega)
def bC(h:sT w b cs)(o:Nat)(ys:List Value)(e:w'=bd w b o ys)(hl:o+ys.length<=cs.length:=by simp):Put b w w' (mj cs o ys):=by
 subst e;exact⟨Io ys o w cs h hl,λq hq=>Em b q hq ys o w,by rw[Li];exact lR _,λhB hb=>wL b hB ys o w hb⟩
def Put.refl (h:sT w b cs):Put b w w cs:=⟨h,λ_ _=>rfl,lR _,λ_ Z=>Z⟩
def Put.trans {o:C}{a:List mh}(p:Put b w w' cs)(q:Put b w' o a):Put b w o a:=⟨q.cells,λk N=>(q.far k N).trans (p.far k N),lT p.size q.size,λW Z=>q.low W (p.low W Z)⟩
def Put.keep(p:Put b w w' cs){q:Nat}{ds:List Value}(h:sT w q ds)(hq:q≠b:=by omega):sT w' q ds:=h.same (p.far q hq) p.size
def Put.ints (p:Put b w w' cs){S:Nat->Prop}{ss:oA}{l:List Int}(h:a7c S w ss l)(a:∀q,S q->q≠b):a7c S w' ss l:=h.same (λq hq _=>p.far q (a q hq)) p.size
end
def Ia(h:(s.n||t.n)=W5):
  Calls pG 167 #[sv s,sv t,O b] w λe w'=>e=Rt (sv (bw s t))/\bl w w':=by
 obtain⟨n,lo,hi⟩:=s;obtain⟨j,i,B⟩:=t;cases n with
 |true=>
  go_enter func167,ntmps167;go_wp2
  go_returns
  exact cP
 |false=>
  cases j with
  |true=>
   go_enter func167,ntmps167;go_wp2
   go_returns
   exact cP
  |false=>exact absurd h ae

def a4K {lo hi i B a b:Int}(j:a=if i < lo then -2147483648 else lo)(Z:b=if hi < B then 2147483647 else hi):bH ⟨d,lo,hi⟩ ⟨d,i,B⟩=⟨d,a,b⟩:=by
 subst j Z;rfl
abbrev gR (e:Int)(r:Sp):Sp:=if e=0 then r else dP

def a2C:
  Calls pG 181 #[sv s,sv t,.func (.func 182) #[] #[]] w λe w'=>e=Rt (Tu #[sv (gR (bO s t) (bw s t)),I Y (bO s t)])/\bl w w':=by
 by_cases h:bO s t=0
 .rw[h];exact LE s t w h
 .unfold gR;rw[if_neg h];exact pX _ s t w h

def yp(h:p:=by
 exact((H1.setCell au _).setCell au _).setCell au _):=h
def a0q:
  Calls pG 124 #[sv s,sv t] w λe w'=>e=Rt (Tu #[sv (gR (bO s t) (bw s t)),I Y (bO s t)])/\bl w w':=by
 have a:=a2C s t;generalize gR (bO s t) (bw s t)=r at a |-;generalize bO s t=c at a |-;obtain⟨n,lo,hi⟩:=s;obtain⟨n',xt,xu⟩:=t;obtain⟨P,q,i⟩:=r;go_enter func124,ntmps124;go_wp2_with fail;go_call a _ as e w1 ⟨rfl,vZ⟩;obtain⟨-,-,⟨o,B,D⟩,⟨m,j,u⟩,_⟩:=gO;have H1:=gI;simp only[dP] at o B D;clear vZ a;go_wp2;refine bodyPost_ret (v:=Tu #[sv ⟨P,q,i⟩,I Y c]) (by simp[results,results124,go_sem,o,B,D]) rfl ⟨rfl,?_⟩;exact yp

def a2N:
  Calls pG 181 #[sv s,sv t,.func (.func 197) #[] #[]] w λe w'=>e=Rt (Tu #[sv (gR (bO s t) (aS s t)),I Y (bO s t)])/\bl w w':=by
 by_cases h:bO s t=0
 .rw[h];exact LD s t w h
 .unfold gR;rw[if_neg h];exact pX _ s t w h

def nR:
  Calls pG 159 #[sv s,sv t] w λe w'=>e=Rt (Tu #[sv (gR (bO s t) (aS s t)),I Y (bO s t)])/\bl w w':=by
 have a:=a2N s t;generalize gR (bO s t) (aS s t)=r at a |-;generalize bO s t=c at a |-;obtain⟨n,lo,hi⟩:=s;obtain⟨n',xt,xu⟩:=t;obtain⟨P,q,i⟩:=r;go_enter func159,ntmps159;go_wp2_with fail;go_call a _ as e w1 ⟨rfl,vZ⟩;obtain⟨-,-,⟨o,B,D⟩,⟨m,j,u⟩,_⟩:=gO;have H1:=gI;simp only[dP] at o B D;clear vZ a;go_wp2;refine bodyPost_ret (v:=Tu #[sv ⟨P,q,i⟩,I Y c]) (by simp[results,results159,go_sem,o,B,D]) rfl ⟨rfl,?_⟩;exact yp

def a0y:
  Calls pG 181 #[sv s,sv t,.func (.func 183) #[] #[]] w λe w'=>e=Rt (Tu #[sv (gR (bO s t) (bH s t)),I Y (bO s t)])/\bl w w':=by
 by_cases h:bO s t=0
 .rw[h];exact Kb s t w h
 .unfold gR;rw[if_neg h];exact pX _ s t w h

def Wc:
  Calls pG 125 #[sv s,sv t] w λe w'=>e=Rt (Tu #[sv (gR (bO s t) (bH s t)),I Y (bO s t)])/\bl w w':=by
 have a:=a0y s t;generalize gR (bO s t) (bH s t)=r at a |-;generalize bO s t=c at a |-;obtain⟨n,lo,hi⟩:=s;obtain⟨n',xt,xu⟩:=t;obtain⟨P,q,i⟩:=r;go_enter func125,ntmps125;go_wp2_with fail;go_call a _ as e w1 ⟨rfl,vZ⟩;obtain⟨-,-,⟨o,B,D⟩,⟨m,j,u⟩,_⟩:=gO;have H1:=gI;simp only[dP] at o B D;clear vZ a;go_wp2;refine bodyPost_ret (v:=Tu #[sv ⟨P,q,i⟩,I Y c]) (by simp[results,results125,go_sem,o,B,D]) rfl ⟨rfl,?_⟩;exact yp

def Yp(h:bO s t≠0):
  Calls pG 201 #[sv s,sv t] w λe w'=>e=Rt (Tu #[O d,I Y (bO s t)])/\bl w w':=by
 have a:=nR s t;have o:(bO s t==0)=false:=cn;generalize gR (bO s t) (aS s t)=r at a;generalize bO s t=c at a h o |-;obtain⟨n,lo,hi⟩:=s;obtain⟨n',xt,xu⟩:=t;obtain⟨P,q,i⟩:=r;have j:=Pw;go_enter func201,ntmps201;go_wp2_with fail;go_call a _ as e H ⟨rfl,vZ⟩;have D:bl w H:=j.trans (vZ.mono au);have z0:R (M w) < R (M H):=lV;clear vZ a;go_wp2
 go_ret2
 exact⟨rfl,D.alloc aa _⟩

def a3r:@decide _ (r.dq s)=(r.n==s.n&&(r.lo==s.lo&&r.hi==s.hi)):=by
 obtain⟨n,lo,hi⟩:=r;obtain⟨j,i,B⟩:=s;rw[Bool.eq_iff_iff];simp

def a0n(h:bO s t=0):
  Calls pG 201 #[sv s,sv t] w λe w'=>e=Rt (Tu #[O (@decide _ ((aS s t).dq s)),I Y 0])/\bl w w':=by
 have a:=nR s t;rw[h] at a;have o:gR 0 (aS s t)=aS s t:=rfl;rw[o] at a;rw[a3r];clear o h;generalize aS s t=r at a |-;obtain⟨n,lo,hi⟩:=s;obtain⟨n',xt,xu⟩:=t;obtain⟨P,q,i⟩:=r;have j:=Pw;go_enter func201,ntmps201;go_wp2_with fail;go_call a _ as e H ⟨rfl,vZ⟩;obtain⟨K,u,N,_⟩:=Az vZ ae;have D:bl w H:=j.trans (vZ.mono au);have z0:R (M w) < R (M H):=lV;clear vZ a;go_wp2;all_goals go_ret2
 all_goals exact⟨UI (by simp_all),D.alloc aa _⟩

def VY:
  Calls pG 201 #[sv s,sv t] w λe w'=>e=Rt (Tu #[O (decide (bO s t=0)&&@decide _ ((aS s t).dq s)),I Y (bO s t)])/\bl w w':=by
 by_cases h:bO s t=0
 .have:=a0n s t w h
  rw[h];simpa using this
 .have:=Yp s t w h
  simpa[h] using this
@[go_sem] theorem run_min4 {P:Program} (w:World) (ts:Array TypeId) (t:TypeId) (a b c d:Int):
  (Builtin.min_ ts t #[I Y a,I Y b,I Y c,I Y d]).run P w=.ok (I Y (fF a b c d)) w:=by
 have e:∀x y:Int,(if y < x then y else x)=min x y:=λx y=>sW;simp[Builtin.min_,Builtin.min2,e,fF]

@[go_sem] theorem run_max4 {P:Program} (w:World) (ts:Array TypeId) (t:TypeId) (a b c d:Int):
  (Builtin.max_ ts t #[I Y a,I Y b,I Y c,I Y d]).run P w=.ok (I Y (fK a b c d)) w:=by
 have e:∀x y:Int,(if x < y then y else x)=max x y:=λx y=>sW;simp[Builtin.max_,Builtin.max2,e,fK]

def Ib(h:p:=by
 go_enter func228,ntmps228;go_wp2_with (go_at_call 226;refine(KA _).mono ?_;rintro e w1 ⟨rfl,rfl⟩)
 go_returns
 exact⟨rfl,ai⟩):=h
def sq(h:(s.n||t.n)=W5):
  Calls pG 228 #[sv s,sv t,.func (.func F) #[] #[]] w λe w'=>e=Rt (sv ⟨W5,0,0⟩)/\bl w w':=by
 obtain⟨n,lo,hi⟩:=s;obtain⟨j,i,B⟩:=t;cases n with
 |true=>
  exact Ib
 |false=>
  cases j with
  |true=>
   exact Ib
  |false=>simp at h

def Va{b c e:Int}(u:bA (fF a b c e))(D:bA (fK a b c e)):i7 a b c e=⟨d,fF a b c e,fK a b c e⟩:=if_pos ⟨u,D⟩
def a4f{b c e:Int}(u:¬bA (fF a b c e)):i7 a b c e=⟨d,-2147483648,2147483647⟩:=if_neg (λh=>u h.1)
def a4b{b c e:Int}(u:¬bA (fK a b c e)):i7 a b c e=⟨d,-2147483648,2147483647⟩:=if_neg (λh=>u h.2)
def um(h:p:=by
 clear h1 h2 h3 h4;go_enter func228,ntmps228;go_wp2
 go_quiet (first|exact Calls.quiet_of (k1 _)|exact Calls.quiet_of (k2 _)|exact Calls.quiet_of (k3 _)|exact Calls.quiet_of (k4 _))
 clear k1 k2 k3 k4;by_cases h1:bA (fF a b c d)
 .have e1:decide (bA (fF a b c d))=true:=decide_eq_true h1
  by_cases h2:bA (fK a b c d)
  .have e2:decide (bA (fK a b c d))=true:=decide_eq_true h2
   go_wp2_with (go_at_call 225;refine(kR _ _).mono ?_;rintro e w' ⟨rfl,rfl⟩)
   go_returns
   exact⟨kq (Va h1 h2),Bo⟩
  .have e2:decide (bA (fK a b c d))=false:=decide_eq_false h2
   go_wp2_with (first|(go_at_call 225;refine(kR _ _).mono ?_;rintro e w' ⟨rfl,rfl⟩)|(go_at_call 245;refine(a0p _).mono ?_;rintro e w' ⟨rfl,rfl⟩))
   go_returns
   exact⟨kq (a4b h2),Bo⟩
 .have e1:decide (bA (fF a b c d))=false:=decide_eq_false h1
  go_wp2_with (first|(go_at_call 225;refine(kR _ _).mono ?_;rintro e w' ⟨rfl,rfl⟩)|(go_at_call 245;refine(a0p _).mono ?_;rintro e w' ⟨rfl,rfl⟩))
  go_returns
  exact⟨kq (a4f h1),Bo⟩):=h
section
variable (lo hi i B:Int)(w:C)
def V5(h1:wrap64 (lo+i)=lo+i)(h2:wrap64 (lo+B)=lo+B)(h3:wrap64 (hi+i)=hi+i)(h4:wrap64 (hi+B)=hi+B):
  Calls pG 228 #[sv ⟨BT,lo,hi⟩,sv ⟨BT,i,B⟩,.func (.func 229) #[] #[]] w λe w'=>e=Rt (sv (i7 (lo+i) (lo+B) (hi+i) (hi+B)))/\bl w w':=by
 have k1:∀w:C,Calls pG 229 #[I Y lo,I Y i] w λe w'=>e=Rt (I Y (lo+i))/\∃n,w'=w.drewN n:=λw=>(BO lo i w h1).mono gU;have k2:∀w:C,Calls pG 229 #[I Y lo,I Y B] w λe w'=>e=Rt (I Y (lo+B))/\∃n,w'=w.drewN n:=λw=>(BO lo B w h2).mono gU;have k3:∀w:C,Calls pG 229 #[I Y hi,I Y i] w λe w'=>e=Rt (I Y (hi+i))/\∃n,w'=w.drewN n:=λw=>(BO hi i w h3).mono gU;have k4:∀w:C,Calls pG 229 #[I Y hi,I Y B] w λe w'=>e=Rt (I Y (hi+B))/\∃n,w'=w.drewN n:=λw=>(BO hi B w h4).mono gU;generalize lo+i=a at k1 |-;generalize lo+B=b at k2 |-;generalize hi+i=c at k3 |-;generalize hi+B=d at k4 |-;exact um
def Yg(h1:wrap64 (lo - i)=lo - i)(h2:wrap64 (lo - B)=lo - B)(h3:wrap64 (hi - i)=hi - i)(h4:wrap64 (hi - B)=hi - B):
  Calls pG 228 #[sv ⟨BT,lo,hi⟩,sv ⟨BT,i,B⟩,.func (.func 230) #[] #[]] w λe w'=>e=Rt (sv (i7 (lo - i) (lo - B) (hi - i) (hi - B)))/\bl w w':=by
 have k1:∀w:C,Calls pG 230 #[I Y lo,I Y i] w λe w'=>e=Rt (I Y (lo - i))/\∃n,w'=w.drewN n:=λw=>(Cf lo i w h1).mono gU;have k2:∀w:C,Calls pG 230 #[I Y lo,I Y B] w λe w'=>e=Rt (I Y (lo - B))/\∃n,w'=w.drewN n:=λw=>(Cf lo B w h2).mono gU;have k3:∀w:C,Calls pG 230 #[I Y hi,I Y i] w λe w'=>e=Rt (I Y (hi - i))/\∃n,w'=w.drewN n:=λw=>(Cf hi i w h3).mono gU;have k4:∀w:C,Calls pG 230 #[I Y hi,I Y B] w λe w'=>e=Rt (I Y (hi - B))/\∃n,w'=w.drewN n:=λw=>(Cf hi B w h4).mono gU;generalize lo - i=a at k1 |-;generalize lo - B=b at k2 |-;generalize hi - i=c at k3 |-;generalize hi - B=d at k4 |-;exact um
def Wx(h1:wrap64 (lo * i)=lo * i)(h2:wrap64 (lo * B)=lo * B)(h3:wrap64 (hi * i)=hi * i)(h4:wrap64 (hi * B)=hi * B):
  Calls pG 228 #[sv ⟨BT,lo,hi⟩,sv ⟨BT,i,B⟩,.func (.func 231) #[] #[]] w λe w'=>e=Rt (sv (i7 (lo * i) (lo * B) (hi * i) (hi * B)))/\bl w w':=by
 have k1:∀w:C,Calls pG 231 #[I Y lo,I Y i] w λe w'=>e=Rt (I Y (lo * i))/\∃n,w'=w.drewN n:=λw=>(Bi lo i w h1).mono gU;have k2:∀w:C,Calls pG 231 #[I Y lo,I Y B] w λe w'=>e=Rt (I Y (lo * B))/\∃n,w'=w.drewN n:=λw=>(Bi lo B w h2).mono gU;have k3:∀w:C,Calls pG 231 #[I Y hi,I Y i] w λe w'=>e=Rt (I Y (hi * i))/\∃n,w'=w.drewN n:=λw=>(Bi hi i w h3).mono gU;have k4:∀w:C,Calls pG 231 #[I Y hi,I Y B] w λe w'=>e=Rt (I Y (hi * B))/\∃n,w'=w.drewN n:=λw=>(Bi hi B w h4).mono gU;generalize lo * i=a at k1 |-;generalize lo * B=b at k2 |-;generalize hi * i=c at k3 |-;generalize hi * B=d at k4 |-;exact um
end
def WH(h:(s.n||t.n)=W5):
  Calls pG 169 #[sv s,sv t] w λe w'=>e=Rt (sv ⟨W5,0,0⟩)/\bl w w':=by
 obtain⟨n,lo,hi⟩:=s;obtain⟨j,i,B⟩:=t;cases n with
 |true=>
  go_enter func169,ntmps169;go_wp2
  go_returns
  exact cP
 |false=>
  cases j with
  |true=>
   go_enter func169,ntmps169;go_wp2
   go_returns
   exact cP
  |false=>exact absurd h ae

def WZ (lo hi i B:Int)(w:C):
  Calls pG 169 #[sv ⟨d,lo,hi⟩,sv ⟨d,i,B⟩] w λe w'=>e=Rt (sv (aS ⟨d,lo,hi⟩ ⟨d,i,B⟩))/\bl w w':=by
 go_enter func169,ntmps169;go_wp2;go_region_held3 (λw'=>w'.cell? ⟨R (M w),1,E⟩=G (I Y lo)/\w'.cell? ⟨R (M w),2,E⟩=G (I Y hi)/\w'.cell? ⟨R (M w)+1,1,E⟩=G (I Y i)/\w'.cell? ⟨R (M w)+1,2,E⟩=G (I Y B)) (simp[go_sem])
  (first
   |(go_at_call 208;refine(WM _ _ lo i _ aE aE).mono ?_;rintro e w' ⟨rfl,rfl⟩)
   |(go_at_call 207;refine(Rr _ _ hi B _ aE aE).mono ?_;rintro e w' ⟨rfl,rfl⟩))
 all_goals go_wp2
 all_goals go_returns
 all_goals exact⟨kq (by first|exact Vs rfl rfl (by assumption)|exact a1n (by assumption)),ai⟩

def Nh:
  Calls pG 169 #[sv s,sv t] w λe w'=>e=Rt (sv (aS s t))/\bl w w':=by
 by_cases h:(s.n||t.n)=W5
 .have o:aS s t=⟨W5,0,0⟩:=by unfold aS;rw[h];rfl
  rw[o];exact WH s t w h
 .obtain⟨n,lo,hi⟩:=s
  obtain⟨j,i,B⟩:=t;cases n with
  |true=>exact absurd rfl h
  |false=>
   cases j with
   |true=>exact absurd rfl h
   |false=>exact WZ lo hi i B w
def rr {a b c e:Bool}(h:a=c)(o:b=e):Ending.returned (Tu #[O a,O b])=Rt (Tu #[O c,O e]):=by rw[h,o]

def FC(h:p:=by
 go_wp2;refine wp_region_quiet_lit ac ac ?_;repeat (any_goals (first|go_big_quiet_step (fail)|quiet_step (fail)|(refine wpQuiet_step (λK hK=> ?_);go_simp;split<;>(refine hK _ ?_;clear hK K))))
 all_goals (refine wpQuiet_nil ?_;intro _ qp;obtain⟨nq,qq⟩:=qp;subst qq)
 all_goals go_wp2
 all_goals go_ret2
 all_goals exact⟨rr sS (by rw[HN.out];simp_all),below_drewN B1 _⟩):=h
def Fs(h:p:=by
 clear hz HZ;go_wp2;refine wp_region_quiet_lit ac ac ?_;repeat (any_goals (first|go_big_quiet_step (fail)|quiet_step (fail)|(refine wpQuiet_step (λK hK=> ?_);go_simp;split<;>(refine hK _ ?_;clear hK K))))
 all_goals (refine wpQuiet_nil ?_;intro _ qp;obtain⟨nq,qq⟩:=qp;subst qq)
 all_goals go_wp2
 all_goals go_ret2
 all_goals exact⟨rr rfl (by rw[HN.out];simp_all),below_drewN B1 _⟩):=h
def Hj(j:cY g.sp=0):
  Calls pG 198 #[gv g ss i] w λe w'=>e=Rt (Tu #[O (cM g),O (dp g)])/\bl w w':=by
 have r:=λw=>Vw g.sp 0 w;rw[j,show (decide ((0:Int)=0)&&g.sp.has 0)=g.sp.has 0 from rfl] at r;have HY:=Oa;have HN:Hid (dp g=(g.sp.has 0||(g.n||g.f))):=rfl;generalize cM g=yy at *;generalize dp g=nn at *;generalize g.sp.has 0=z at *;obtain⟨n,⟨q,lo,hi⟩,t,f,s⟩:=g;have N:=a7b.new w ⟨n,⟨q,lo,hi⟩,t,f,s⟩ ss i;go_enter func198,ntmps198;go_wp2_with fail;go_call r _ as e H ⟨rfl,m⟩;have a:=N.call m;have B1:n4 (R (M w)) w H:=Below.trans ai (m.mono ae);obtain⟨⟨Z,W,g2,B,S,Q,P⟩,o⟩:=id a;simp only[j4] at Z W g2 B S Q P;clear N a m r j;cases q with
 |true=>
  exact FC
 |false=>
  by_cases hz:lo=0/\hi=0
  .obtain⟨rfl,rfl⟩:=hz
   exact FC
  .have HZ:Hid (decide (lo=0/\hi=0)=d):=by show _=_;simpa using hz
   have T:yy=true:=by rw[HY.out,HZ.out];rfl
   subst T;clear HY;by_cases u:lo=0
   .subst u
    have D:(hi==0)=false:=by simp only[beq_eq_false_iff_ne];intro h;exact hz ⟨rfl,h⟩
    exact Fs
   .have D:(lo==0)=false:=by simpa using u
    exact Fs

def Gn(h:p:=by
 go_wp2_with fail;refine(yK x ss gc h.s _ hl hs).mono ?_;rintro e w1 ⟨rfl,rfl⟩;go_wp2;go_ret;exact⟨bF ae,bR _ _⟩):=h
section
variable (x:Int)(q:Nat)(h:Gs)(ss:oA)(gc:Nat)(w:C)(a:a7b w q 0 h ss gc)(hs:yv w ss h.s)(hl:X h.s<=9223372036854775807)
def kh:
  Calls pG 199 #[I Y x,Pp (G ⟨q,0,E⟩)] w λe w'=>e=Rt (O (!h.s.contains x))/\bl w w':=by
 obtain⟨⟨Z,W,T,u,S,Q,P⟩,o⟩:=id a;simp only[j4] at P;go_enter func199,ntmps199;exact Gn

def g8:
  Calls pG 234 #[I Y x,Pp (G ⟨q,0,E⟩)] w λe w'=>e=Rt (O (h.s.contains x))/\bl w w':=by
 obtain⟨⟨Z,W,T,u,S,Q,P⟩,o⟩:=id a;simp only[j4] at P;go_enter func234,ntmps234;exact Gn
end
def KO(p:Gs->Bool)(k:Nat)(h:k < X l):(l.drop k).any p=(p l[k]||(l.drop (k+1)).any p):=by
 rw[List.drop_eq_getElem_cons h];rfl

def LY:
  Calls pG 246 #[gv g ss i] w λe w'=>e=Rt (O (aT g))/\bl w w':=by
 have a:Hid (aT g=(g.n||(g.t||(g.f||decide (0 < X g.s))))):=rfl;generalize aT g=o at *;obtain⟨n,⟨q,lo,hi⟩,t,f,s⟩:=g;cases n;all_goals cases t
 all_goals cases f
 all_goals
  go_enter func246,ntmps246;go_wp2;go_ret;exact⟨bF (by rw[a.out];simp),ai⟩

def IL(h:p:=by
 refine(HF.out L[k] ss gc _).mono ?_;rintro e w1 ⟨rfl,vZ⟩;cases hp:p L[k] with
 |true=>
  have HT:Hid (L.any p=true):=pB;clear HN HA;go_wp2;go_ret;exact lG
 |false=>
  have HT:Hid (L.any p=(L.drop (k+1)).any p):=pB;have hR':=hR.call vZ;clear HN HA;go_wp2;go_roundw
  case rel=>exact⟨k+1,aa,aJ,hR',xA.trans (vZ.mono s0),HT⟩
  case measure=>exact aK):=h
def Dy (p:Gs->Bool)(ls:oA)(L:List Gs)(lc:Nat)(w:C)(m:X L<=9223372036854775807)(a:a8n w ls L)
  (hF:∀g ss gc wx,Calls pG 246 #[gv g ss gc] wx λe w'=>e=Rt (O (p g))/\bl wx w'):
  Calls pG 193 #[U ls (X L) lc,.func (.func 246) #[] #[]] w λe w'=>∃n:Int,e=Rt (I Y n)/\decide (0<=n)=L.any p/\bl w w':=by
 have HF:=ag hF;clear hF;go_enter func193,ntmps193;go_wp2;go_loopw [8] (λi wr=>∃k:Nat,k<=X L/\i=I Y k/\a8n wr ls L/\bl w wr/\Hid (L.any p=(L.drop k).any p)) (λi _=>X L - (intOf i).toNat)
 case atStart=>exact⟨0,j7 _,rfl,a,bR _ _,rfl⟩
 case round=>
  obtain⟨k,N,rfl,hR,xA,HA⟩:=hrel;by_cases xy:k < X L
  .obtain⟨b,r,rfl,ss,gc,s⟩:=hR k xy
   obtain⟨⟨Z,W,T,u,S,Q,P⟩,o⟩:=id s;have B:=bG;have j:=il;have s0:=xA.size;have HN:=Rn;go_wp2_with fail;exact IL
  .go_wp2
   go_ret;exact lD

def yN (p:Gs->Bool)(ls:oA)(L:List Gs)(lc:Nat)(w:C)(m:X L<=9223372036854775807)(a:a8n w ls L)
  (hF:∀g ss i wx,Calls pG 246 #[gv g ss i] wx λe w'=>e=Rt (O (p g))/\bl wx w'):
  Calls pG 141 #[U ls (X L) lc,.func (.func 246) #[] #[]] w λe w'=>e=Rt (O (L.any p))/\bl w w':=by
 have j:=ag hF;clear hF;go_enter func141,ntmps141;go_wp2_with fail;go_call Dy p ls L lc _ m a j.out as e H ⟨n,rfl,u,vZ⟩;go_wp2;go_ret;exact io

def Ax(m:X L<=9223372036854775807)(a:a8n w ls L):
  Calls pG 232 #[U ls (X L) lc] w λe w'=>e=Rt (O (L.any aT))/\bl w w':=by
 go_enter func232,ntmps232;go_wp2_with fail;go_call yN aT ls L lc _ m a λg j i u=>LY g j i u as e H ⟨rfl,vZ⟩;go_wp2;go_ret;exact io

def Ht:
  Calls pG 247 #[gv g ss i] w λe w'=>e=Rt (O (aq g))/\bl w w':=by
 have a:Hid (aq g=(g.sp.n&& !aT g)):=rfl;have j:=Ax (G ⟨R (M w)+1,0,E⟩) [g] 1;have N:=a8n.new1 (w.alloc (A #[O g.n,O g.sp.n,I Y g.sp.lo,I Y g.sp.hi,O g.t,O g.f,U ss (X g.s) i] 91)) g ss i;rw[zA] at N;rw[show [g].any aT=aT g by simp] at j;have r:=ag j;clear j;generalize aT g=oo at *;generalize aq g=o at *;obtain⟨n,⟨q,lo,hi⟩,t,f,s⟩:=g;cases q with
 |true=>
  go_enter func247,ntmps247;go_wp2_with fail;go_call r.out _ ae N as e H ⟨rfl,m⟩;go_wp2;go_ret;exact⟨bF (by rw[a.out];simp),Below.trans ai (m.mono au)⟩
 |false=>
  go_enter func247,ntmps247;go_wp2;go_ret;exact⟨bF (by rw[a.out];rfl),ai⟩

def AC (p:Gs->Bool)(ls:oA)(L:List Gs)(lc:Nat)(w:C)(m:X L<=9223372036854775807)(a:a8n w ls L)
  (hF:∀g ss gc wx,Calls pG 247 #[gv g ss gc] wx λe w'=>e=Rt (O (p g))/\bl wx w'):
  Calls pG 193 #[U ls (X L) lc,.func (.func 247) #[] #[]] w λe w'=>∃n:Int,e=Rt (I Y n)/\decide (0<=n)=L.any p/\bl w w':=by
 have HF:=ag hF;clear hF;go_enter func193,ntmps193;go_wp2;go_loopw [8] (λi wr=>∃k:Nat,k<=X L/\i=I Y k/\a8n wr ls L/\bl w wr/\Hid (L.any p=(L.drop k).any p)) (λi _=>X L - (intOf i).toNat)
 case atStart=>exact⟨0,j7 _,rfl,a,bR _ _,rfl⟩
 case round=>
  obtain⟨k,N,rfl,hR,xA,HA⟩:=hrel;by_cases xy:k < X L
  .obtain⟨b,r,rfl,ss,gc,s⟩:=hR k xy
   obtain⟨⟨Z,W,T,u,S,Q,P⟩,o⟩:=id s;have B:=bG;have j:=il;have s0:=xA.size;have HN:=Rn;go_wp2_with fail;exact IL
  .go_wp2
   go_ret;exact lD

def sN (p:Gs->Bool)(ls:oA)(L:List Gs)(lc:Nat)(w:C)(m:X L<=9223372036854775807)(a:a8n w ls L)
  (hF:∀g ss i wx,Calls pG 247 #[gv g ss i] wx λe w'=>e=Rt (O (p g))/\bl wx w'):
  Calls pG 141 #[U ls (X L) lc,.func (.func 247) #[] #[]] w λe w'=>e=Rt (O (L.any p))/\bl w w':=by
 have j:=ag hF;clear hF;go_enter func141,ntmps141;go_wp2_with fail;go_call AC p ls L lc _ m a j.out as e H ⟨n,rfl,u,vZ⟩;go_wp2;go_ret;exact io

section
variable (m:X L<=9223372036854775807)(a:a8n w ls L)
def sA:
  Calls pG 233 #[U ls (X L) lc] w λe w'=>e=Rt (O (L.any aq))/\bl w w':=by
 go_enter func233,ntmps233;go_wp2_with fail;go_call sN aq ls L lc _ m a λg j i u=>Ht g j i u as e H ⟨rfl,vZ⟩;go_wp2;go_ret;exact io

def Ct:
  Calls pG 203 #[U ls (X L) lc] w λe w'=>e=Rt (O (L.any aT&& !L.any aq))/\bl w w':=by
 have D:=ag (Ax ls L lc w m a);cases ho:L.any aT with
 |true=>
  rw[ho] at D;go_enter func203,ntmps203;go_wp2_with fail;go_call D.out as e H ⟨rfl,vZ⟩;go_wp2_with fail;go_call sA ls L lc _ m (a.call vZ) as e o ⟨rfl,i⟩;go_wp2;go_ret;exact⟨rfl,vZ.trans (i.mono vZ.size)⟩
 |false=>
  rw[ho] at D;go_enter func203,ntmps203;go_wp2_with fail;go_call D.out as e H ⟨rfl,vZ⟩;go_wp2;go_ret;exact io
end
def a2x:
  Calls pG 205 #[sv s,sv t] w λe w'=>e=Rt (Tu #[O (!(s.n||t.n)&&decide (s.lo < t.hi)),O (!(s.n||t.n)&&decide (t.lo<=s.hi))])/\bl w w':=by
 obtain⟨q,lo,hi⟩:=s;obtain⟨m,i,B⟩:=t;cases q with
 |true=>
  go_enter func205,ntmps205;go_wp2
  go_ret2
  exact cP
 |false=>
  cases m with
  |true=>
   go_enter func205,ntmps205;go_wp2
   go_ret2
   exact cP
  |false=>
   go_enter func205,ntmps205;go_wp2
   go_quiet (fail)
   go_wp2
   go_ret2
   exact⟨rr ae ae,below_drewN ai _⟩

def oK(n:Bool)(w:C):
  Calls pG 204 #[O y,O n] w λe w'=>e=Rt (gv ⟨d,⟨W5,0,0⟩,y,n,[]⟩ E 0)/\bl w w':=by
 go_enter func204,ntmps204;go_wp2
 go_returns
 exact cP
def du(h:p:=by
 go_enter func248,ntmps248;go_wp2
 go_rounds 5
 go_ret;exact⟨bF (HT.out.symm),ai⟩):=h
def oW(h:p:=by
 clear HC HD HR;by_cases h1:lo=hi
 .by_cases h2:X s=0
  .have HT:Hid (r=true):=by show _=_;rw[HQ.out];simp[h1,h2]
   have jX:=DT;subst h1;clear HQ h2;exact du
  .have HT:Hid (r=false):=by show _=_;rw[HQ.out];simp[h2]
   have jX:=Dl;subst h1;clear HQ;exact du
 .have HT:Hid (r=false):=by show _=_;rw[HQ.out];simp[h1]
  have h1':(lo==hi)=false:=iA;clear HQ;go_enter func248,ntmps248;go_wp2
  go_rounds 5
  go_ret;exact⟨bF (HT.out.symm),ai⟩):=h
def yS:
  Calls pG 248 #[gv g ss i] w λe w'=>e=Rt (O (gJ g))/\bl w w':=by
 have HR:Hid (gJ g=(decide (b2n g.n+b2n (!g.sp.n)+b2n g.t+b2n g.f=1)&&(decide (g.sp.lo=g.sp.hi)&&decide (X g.s=0)))):=rfl;generalize gJ g=r at HR |-;obtain⟨n,⟨q,lo,hi⟩,t,f,s⟩:=g;have HC:∀m:Nat,m≠1->Hid (b2n n+b2n (!q)+b2n t+b2n f=m)->Hid (r=d):=by
  intro m T h;show _=_;rw[HR.out,h.out];simp[T]
 have HD:Hid (b2n n+b2n (!q)+b2n t+b2n f=1)->Hid (r=(decide (lo=hi)&&decide (X s=0))):=by
  intro h;show _=_;rw[HR.out,h.out];simp
 cases n<;>cases q<;>cases t<;>cases f
 .have HQ:=HD rfl
  exact oW
 .have HT:=HC 2 an rfl
  clear HC HD HR;exact du
 .have HT:=HC 2 an rfl
  clear HC HD HR;exact du
 .have HT:=HC 3 an rfl
  clear HC HD HR;exact du
 .have HT:=HC 0 an rfl
  clear HC HD HR;exact du
 .have HQ:=HD rfl
  exact oW
 .have HQ:=HD rfl
  exact oW
 .have HT:=HC 2 an rfl
  clear HC HD HR;exact du
 .have HT:=HC 2 an rfl
  clear HC HD HR;exact du
 .have HT:=HC 3 an rfl
  clear HC HD HR;exact du
 .have HT:=HC 3 an rfl
  clear HC HD HR;exact du
 .have HT:=HC 4 an rfl
  clear HC HD HR;exact du
 .have HQ:=HD rfl
  exact oW
 .have HT:=HC 2 an rfl
  clear HC HD HR;exact du
 .have HT:=HC 2 an rfl
  clear HC HD HR;exact du
 .have HT:=HC 3 an rfl
  clear HC HD HR;exact du

def SQ(h:Gs)(st:oA)(hc:Nat)(w:C):
  Calls pG 235 #[gv g ss gc,gv h st hc] w λe w'=>e=Rt (O (dw g h))/\bl w w':=by
 have HR:Hid (dw g h=(gJ g&&(gJ h&&(g.n==h.n&&(@decide _ (g.sp.dq h.sp)&&(g.t==h.t&&g.f==h.f)))))):=rfl;have D:=ag (λw=>yS g ss gc w);have H2:=ag (λw=>yS h st hc w);generalize dw g h=r at HR |-;generalize gJ g=s1 at HR D;generalize gJ h=s2 at HR H2;have B0:=wS;have N:=DO;have H0:=Eh;rw[zA] at H0;cases s1 with
 |false=>
  go_enter func235,ntmps235;go_wp2_with fail;go_call D.out _ as e H ⟨rfl,vZ⟩;go_wp2;go_ret;exact⟨bF gS,B0.trans (vZ.mono B0.size)⟩
 |true=>
  go_enter func235,ntmps235;go_wp2_with fail;go_call D.out _ as e H ⟨rfl,vZ⟩;have G1:=N.call vZ;have a:=H0.call vZ;have B1:=it;clear vZ N H0 B0;obtain⟨⟨k0,m,K,k3,k4,k5,k6⟩,kz⟩:=id a;simp only[j4] at k0 m K k3 k4 k5 k6;go_wp2_with fail;go_call H2.out _ as e o ⟨rfl,xj⟩;have G2:=G1.call xj;have K2:=a.call xj;have B2:=fU;clear xj G1 a B1 k0 m K k3 k4 k5 k6;obtain⟨⟨Z,W,T,u,S,Q,P⟩,gz⟩:=id G2;obtain⟨⟨k0,m,K,k3,k4,k5,k6⟩,kz⟩:=id K2;simp only[j4] at Z W T u S Q P k0 m K k3 k4 k5 k6;cases s2 with
  |false=>
   go_wp2;go_ret;exact⟨bF gS,B2⟩
  |true=>
   rw[a3r] at HR;obtain⟨n,⟨q,lo,hi⟩,t,f,s⟩:=g;obtain⟨j,⟨ab,i,B⟩,t',f',s'⟩:=h;simp only at HR Z W T u S Q P k0 m K k3 k4 k5 k6;go_wp2;all_goals go_ret
   all_goals exact⟨bF (by rw[HR.out];simp_all),B2⟩
end
section
open Go.RowKit
attribute [local go_sem ↓] Go.wp_at_zero Go.wp_at_succ
def Pg{x:Int}(h:x < 0\/(X c:Int)<=x):iR c x=false:=by
 unfold iR;rw[show btw x 0 ((X c:Int) - 1)=d by simp[btw];omega];rfl
def a2y{k:Nat}(h:k < X c):iR c (k:Int)=decide (c[k].k=11):=by
 unfold iR;rw[Et h,lQ aa aa];rfl
def Me(F:Int)(s:oA)(c:lI)(cap:Nat)(w:C)(t:P3 w q V F s (X c) cap)(a:a2r w s c)(m:X c<=60):
  Calls pG 130 #[Ag #[I Y x.site,U f (X x.fs) fc],Pp (G ⟨q,0,E⟩)] w λe w'=>e=Rt (O (!iR c x.site))/\bl w w':=by
 obtain⟨⟨K,Q,N⟩,o⟩:=t;obtain⟨x,fs⟩:=x;simp only;have D:=Ri;by_cases j:x < 0
 .have HR:=aL (Pg (c:=c) (.inl j))
  clear a;go_enter func130,ntmps130;go_wp2;go_ret;exact⟨bF gS,D⟩
 by_cases u:x < (X c:Int)
 .obtain⟨k,rfl⟩:=Int.eq_ofNat_of_zero_le (show 0<=x by omega)
  have hk:k < X c:=aa;rcases a with a|⟨b,r,rfl,Z,hi⟩
  .rw[a] at hk;simp at hk
  obtain⟨S,-,-,-,-,-⟩:=hi k hk;have HR:=aL (a2y hk);clear hi;have B:=bG;by_cases jy:c[k].k=11
  .have i:(c[k].k !=11)=false:=by simp[jy]
   go_enter func130,ntmps130;go_wp2;go_ret;exact⟨bF KB,D⟩
  .have i:(c[k].k !=11)=true:=by simpa using jy
   go_enter func130,ntmps130;go_wp2;go_ret;exact⟨bF KB,D⟩
 .have HR:=aL (Pg (c:=c) (x:=x) (.inr aa))
  clear a;go_enter func130,ntmps130;go_wp2;go_ret;exact⟨bF gS,D⟩
def Mn(F:Int)(s:oA)(n cap:Nat)(w:C)(t:P3 w q V F s n cap):
  Calls pG 131 #[Ag #[I Y x.site,U f (X x.fs) fc],Pp (G ⟨q,0,E⟩)] w λe w'=>e=Rt (O (!decide ((X x.fs:Int)=F)))/\bl w w':=by
 obtain⟨⟨K,Q,N⟩,o⟩:=t;obtain⟨x,fs⟩:=x;simp only;have D:=Ri;by_cases h:(X fs:Int)=F
 .subst h
  go_enter func131,ntmps131;go_wp2;go_ret;exact⟨bF ae,D⟩
 .have Z:((X fs:Int)!=F)=true:=by simpa using h
  go_enter func131,ntmps131;go_wp2;go_ret;exact⟨bF pm,D⟩
def Vu (x:Val)(q T:Nat)(x0 a x3 x4 x5:mh)(i:oA)(j:Nat)(w:C)(t:R6 w q x0 a (U i T j) x3 x4 x5):
  Calls pG 132 #[Ag #[I Y x.k,I Y x.n],Pp (G ⟨q,0,E⟩)] w λe w'=>e=Rt (O (!bZ T x))/\bl w w':=by
 obtain⟨⟨-,-,N,-,-,-⟩,o,-⟩:=t;have D:n4 (R (M w)) w (w.alloc (A #[I Y x.k,I Y x.n] 82)):=ai;have K:=aL (λu=>SY x.k x.n T u);go_enter func132,ntmps132;go_wp2_with fail;go_call K.out _ as e H ⟨rfl,m⟩;clear K;go_wp2;go_ret;exact⟨rfl,D.trans (m.mono D.size)⟩
def Su(s T:Nat)(x0 a x3 x4 x5:mh)(i:oA)(j:Nat)(w:C)(N:a7j w f x.fs)(r:X x.fs<=9223372036854775807)(hq:w.cell? ⟨q,0,E⟩=G (.func (.func 132) #[] #[Pp (G ⟨s,0,E⟩)]))(B:q < R (M w))(t:R6 w s x0 a (U i T j) x3 x4 x5):
  Calls pG 134 #[Ag #[I Y x.site,U f (X x.fs) fc],Pp (G ⟨q,0,E⟩)] w λe w'=>e=Rt (O (x.fs.any λv=> !bZ T v))/\bl w w':=by
 have D:n4 (R (M w)) w (w.alloc (A #[I Y x.site,U f (X x.fs) fc] 84)):=ai;have K:=aL (pN s (λv=> !bZ T v) f fc _ _ r (N.below D (lR _)) (λy u o=>Vu y s T x0 a x3 x4 x5 i j u ((t.call D).call o)));clear N t;go_enter func134,ntmps134;go_wp2_with fail;go_call K.out as e H ⟨rfl,m⟩;clear K;go_wp2;go_ret;exact⟨rfl,D.trans (m.mono D.size)⟩
def mL (F:Int)(c:lI)(r:St):Int:=
 if r.things.all (λt=>iR c t.site)=false then 5
 else if r.things.all (λt=>decide ((X t.fs:Int)=F))=false then 1
 else if (r.vq.all (bZ (X r.things))&&r.things.all λt=>t.fs.all (bZ (X r.things)))=false then 4
 else 0
def mE {α:Type}(l:List α)(p:α->Bool):(l.any λx=> !p x)= !l.all p:=by
 induction l with
 |nil=>rfl
 |cons a r ih=>simp only[x7,x8,ih,Bool.not_and]
def SM (l:List Thg)(p:Val->Bool):(l.any λt=>t.fs.any λv=> !p v)= !l.all λt=>t.fs.all p:=by
 induction l with
 |nil=>rfl
 |cons a r ih=>simp only[x7,x8,ih,Bool.not_and,mE]
def F8(F:Int)(s:oA)(c:lI)(cap:Nat)(r:St)(vs:oA)(vc:Nat)(ts:oA)(tc:Nat)(ls:oA)(lc:Nat)(w:C)(a:a2r w s c)(j:X c<=60)(m:gY r)(B:a7s w r vs ts ls):
  Calls pG 79 #[Ag #[I Y V,I Y F,U s (X c) cap],dA r vs vc ts tc ls lc] w λe w'=>e=Rt (I Y (mL F c r))/\bl w w':=by
 unfold dA;obtain⟨i,am,ah,ad⟩:=m;have T:=iT;have q:=NQ;have P0:=Ob;have Q0:=Pn;rw[zA] at Q0;have C0:=a.below q (lR _);have A0:=B.below q (lR _);have xS:R (M ((w.alloc (A #[I Y V,I Y F,U s (X c) cap] 24)).alloc (A #[I Y r.at_,U vs (X r.vq) vc,U ts (X r.things) tc,I Y r.taken,U ls (X r.lines) lc,I Y r.fin] 33)))=R (M w)+1+1:=ae;have HR:Hid (mL F c r=bif (r.things.any λt=> !iR c t.site) then 5 else bif (r.things.any λt=> !decide ((X t.fs:Int)=F)) then 1 else bif ((r.vq.any λv=> !bZ (X r.things) v)||(r.things.any λt=>t.fs.any λv=> !bZ (X r.things) v)) then 4 else 0):=by
  show _=_;rw[mE,mE,mE,SM];unfold mL;cases r.things.all (λt=>iR c t.site)<;>cases r.things.all (λt=>decide ((X t.fs:Int)=F))<;>cases r.vq.all (bZ (X r.things))<;>cases r.things.all (λt=>t.fs.all (bZ (X r.things)))<;>rfl
 have Q:n4 (R (M ((w.alloc (A #[I Y V,I Y F,U s (X c) cap] 24)).alloc (A #[I Y r.at_,U vs (X r.vq) vc,U ts (X r.things) tc,I Y r.taken,U ls (X r.lines) lc,I Y r.fin] 33)))) ((w.alloc (A #[I Y V,I Y F,U s (X c) cap] 24)).alloc (A #[I Y r.at_,U vs (X r.vq) vc,U ts (X r.things) tc,I Y r.taken,U ls (X r.lines) lc,I Y r.fin] 33)) (((w.alloc (A #[I Y V,I Y F,U s (X c) cap] 24)).alloc (A #[I Y r.at_,U vs (X r.vq) vc,U ts (X r.things) tc,I Y r.taken,U ls (X r.lines) lc,I Y r.fin] 33)).alloc (A #[(.func (.func 132) #[] #[Pp (G ⟨R (M w)+1,0,E⟩)])] 185)):=ai;have Z:bl w (((w.alloc (A #[I Y V,I Y F,U s (X c) cap] 24)).alloc (A #[I Y r.at_,U vs (X r.vq) vc,U ts (X r.things) tc,I Y r.taken,U ls (X r.lines) lc,I Y r.fin] 33)).alloc (A #[(.func (.func 132) #[] #[Pp (G ⟨R (M w)+1,0,E⟩)])] 185)):=q.alloc q.size _;have F3:(((w.alloc (A #[I Y V,I Y F,U s (X c) cap] 24)).alloc (A #[I Y r.at_,U vs (X r.vq) vc,U ts (X r.things) tc,I Y r.taken,U ls (X r.lines) lc,I Y r.fin] 33)).alloc (A #[(.func (.func 132) #[] #[Pp (G ⟨R (M w)+1,0,E⟩)])] 185)).cell? ⟨R (M w)+1+1,0,E⟩=G (.func (.func 132) #[] #[Pp (G ⟨R (M w)+1,0,E⟩)]):=mN;have ar:R (M w)+1+1 < R (M (((w.alloc (A #[I Y V,I Y F,U s (X c) cap] 24)).alloc (A #[I Y r.at_,U vs (X r.vq) vc,U ts (X r.things) tc,I Y r.taken,U ls (X r.lines) lc,I Y r.fin] 33)).alloc (A #[(.func (.func 132) #[] #[Pp (G ⟨R (M w)+1,0,E⟩)])] 185))):=ae;have ab:=P0.call Q;have Q3:=Q0.call Q;have C3:=C0.below Q (lR _);have A3:=A0.below Q (lR _);have D:=aL (λ(u:C) (o:n4 (R (M (((w.alloc (A #[I Y V,I Y F,U s (X c) cap] 24)).alloc (A #[I Y r.at_,U vs (X r.vq) vc,U ts (X r.things) tc,I Y r.taken,U ls (X r.lines) lc,I Y r.fin] 33)).alloc (A #[(.func (.func 132) #[] #[Pp (G ⟨R (M w)+1,0,E⟩)])] 185)))) (((w.alloc (A #[I Y V,I Y F,U s (X c) cap] 24)).alloc (A #[I Y r.at_,U vs (X r.vq) vc,U ts (X r.things) tc,I Y r.taken,U ls (X r.lines) lc,I Y r.fin] 33)).alloc (A #[(.func (.func 132) #[] #[Pp (G ⟨R (M w)+1,0,E⟩)])] 185)) u)=>sM (R (M w)) (λt=> !iR c t.site) ts tc r.things u aa (A3.below o (lR _)).2.1 (λx f fc W _ H _=>Me x f fc (R (M w)) V F s c cap W ((ab.call o).call H) ((C3.below o (lR _)).below H (lR _)) j));have H2:=aL (λ(u:C) (o:n4 (R (M (((w.alloc (A #[I Y V,I Y F,U s (X c) cap] 24)).alloc (A #[I Y r.at_,U vs (X r.vq) vc,U ts (X r.things) tc,I Y r.taken,U ls (X r.lines) lc,I Y r.fin] 33)).alloc (A #[(.func (.func 132) #[] #[Pp (G ⟨R (M w)+1,0,E⟩)])] 185)))) (((w.alloc (A #[I Y V,I Y F,U s (X c) cap] 24)).alloc (A #[I Y r.at_,U vs (X r.vq) vc,U ts (X r.things) tc,I Y r.taken,U ls (X r.lines) lc,I Y r.fin] 33)).alloc (A #[(.func (.func 132) #[] #[Pp (G ⟨R (M w)+1,0,E⟩)])] 185)) u)=>rZ (R (M w)) (λt=> !decide ((X t.fs:Int)=F)) ts tc r.things u aa (A3.below o (lR _)).2.1 (λx f fc W _ H _=>Mn x f fc (R (M w)) V F s (X c) cap W ((ab.call o).call H)));have H3:=aL (λ(u:C) (o:n4 (R (M (((w.alloc (A #[I Y V,I Y F,U s (X c) cap] 24)).alloc (A #[I Y r.at_,U vs (X r.vq) vc,U ts (X r.things) tc,I Y r.taken,U ls (X r.lines) lc,I Y r.fin] 33)).alloc (A #[(.func (.func 132) #[] #[Pp (G ⟨R (M w)+1,0,E⟩)])] 185)))) (((w.alloc (A #[I Y V,I Y F,U s (X c) cap] 24)).alloc (A #[I Y r.at_,U vs (X r.vq) vc,U ts (X r.things) tc,I Y r.taken,U ls (X r.lines) lc,I Y r.fin] 33)).alloc (A #[(.func (.func 132) #[] #[Pp (G ⟨R (M w)+1,0,E⟩)])] 185)) u)=>pN (R (M w)+1) (λv=> !bZ (X r.things) v) vs vc r.vq u aa (A3.below o (lR _)).1 (λx W H=>Vu x (R (M w)+1) (X r.things) _ _ _ _ _ ts tc W ((Q3.call o).call H)));have H4:=aL (λ(u:C) (o:n4 (R (M (((w.alloc (A #[I Y V,I Y F,U s (X c) cap] 24)).alloc (A #[I Y r.at_,U vs (X r.vq) vc,U ts (X r.things) tc,I Y r.taken,U ls (X r.lines) lc,I Y r.fin] 33)).alloc (A #[(.func (.func 132) #[] #[Pp (G ⟨R (M w)+1,0,E⟩)])] 185)))) (((w.alloc (A #[I Y V,I Y F,U s (X c) cap] 24)).alloc (A #[I Y r.at_,U vs (X r.vq) vc,U ts (X r.things) tc,I Y r.taken,U ls (X r.lines) lc,I Y r.fin] 33)).alloc (A #[(.func (.func 132) #[] #[Pp (G ⟨R (M w)+1,0,E⟩)])] 185)) u)=>sP (R (M w)+1+1) (λt=>t.fs.any λv=> !bZ (X r.things) v) ts tc r.things u aa (A3.below o (lR _)).2.1 (λx f fc W af H N=>Su x f fc (R (M w)+1+1) (R (M w)+1) (X r.things) _ _ _ _ _ ts tc W N (by have:=ad x af;omega) (by rw[H.cell (by have:=o.size;simp only;omega),o.cell (by simp)];exact F3) (by have:=H.size;have:=o.size;omega) ((Q3.call o).call H)))
 have HQ:=aL (λ(u:C) (o:n4 (R (M (((w.alloc (A #[I Y V,I Y F,U s (X c) cap] 24)).alloc (A #[I Y r.at_,U vs (X r.vq) vc,U ts (X r.things) tc,I Y r.taken,U ls (X r.lines) lc,I Y r.fin] 33)).alloc (A #[(.func (.func 132) #[] #[Pp (G ⟨R (M w)+1,0,E⟩)])] 185)))) (((w.alloc (A #[I Y V,I Y F,U s (X c) cap] 24)).alloc (A #[I Y r.at_,U vs (X r.vq) vc,U ts (X r.things) tc,I Y r.taken,U ls (X r.lines) lc,I Y r.fin] 33)).alloc (A #[(.func (.func 132) #[] #[Pp (G ⟨R (M w)+1,0,E⟩)])] 185)) u)=>And.intro (Q3.call o).1.2.1 (And.intro (Q3.call o).1.2.2.1 (show u.cell? ⟨R (M w)+1+1,0,E⟩=G (.func (.func 132) #[] #[Pp (G ⟨R (M w)+1,0,E⟩)]) by rw[o.cell ae];exact F3)));generalize (r.things.any λt=> !iR c t.site)=d1 at *;generalize (r.things.any λt=> !decide ((X t.fs:Int)=F))=d2 at *;generalize (r.vq.any λv=> !bZ (X r.things) v)=d3 at *;generalize (r.things.any λt=>t.fs.any λv=> !bZ (X r.things) v)=d4 at *;clear q P0 Q0 C0 A0 Q F3 ab Q3 C3 A3 a B i am ad xS;go_enter func79,ntmps79;go_wp2_with fail;generalize ((w.alloc _).alloc _).alloc _=w3 at *;go_call D.out w3 (bR _ _) as e w4 ⟨rfl,K⟩;clear D;have b4:=Z.trans (K.mono Z.size);cases d1 with
 |true=>
  clear H2 H3 H4 HQ;go_wp2;go_ret;exact⟨bE gS,b4⟩
 |false=>
  obtain⟨v4,t4,S⟩:=HQ.out w4 K;go_wp2_with fail;go_call H2.out w4 K as e w5 ⟨rfl,ak⟩;clear H2 t4;have c5:=K.trans (ak.mono K.size);have b5:=Z.trans (c5.mono Z.size);cases d2 with
  |true=>
   clear H3 H4 HQ;go_wp2;go_ret;exact⟨bE gS,b5⟩
  |false=>
   obtain⟨v5,t5,g5⟩:=HQ.out w5 c5;go_wp2_with fail;go_call H3.out w5 c5 as e w6 ⟨rfl,al⟩;clear H3 v5 g5;have c6:=c5.trans (al.mono c5.size);have b6:=Z.trans (c6.mono Z.size);cases d3 with
   |true=>
    clear H4 HQ;go_wp2;go_ret;exact⟨bE gS,b6⟩
   |false=>
    obtain⟨v6,t6,P⟩:=HQ.out w6 c6;go_wp2_with fail;go_call H4.out w6 c6 as e w7 ⟨rfl,ao⟩;clear H4 t6 HQ;have c7:=c6.trans (ao.mono c6.size);have b7:=Z.trans (c7.mono Z.size);cases d4 with
    |true=>
     go_wp2;go_ret;exact⟨bE gS,b7⟩
    |false=>
     go_wp2;go_ret;exact⟨bE gS,b7⟩
def nc(h:sT w sb cs)(a:cs[9]? =G (I Y at_))(j:0<=at_)(u:at_<=1000):
  Calls pG 92 #[Pp (G ⟨sb,0,E⟩)] w λe w'=>e=Rt (I Y (at_+1))/\w'=w:=by
 have i:=h.1 9 _ a;clear h a;go_enter func92,ntmps92;go_wp2;go_ret;exact⟨bE aJ,rfl⟩
def TW {s:Sp}(hs:s.Ok):cE s=(if (if s.lo=0 then aS s ⟨d,1,2147483647⟩ else s).hi=0 then aS (if s.lo=0 then aS s ⟨d,1,2147483647⟩ else s) ⟨d,-2147483648,-1⟩ else(if s.lo=0 then aS s ⟨d,1,2147483647⟩ else s)):=by
 obtain⟨⟨K,P⟩,⟨q,H⟩,m,B⟩:=hs;obtain⟨n,lo,hi⟩:=s;simp only at K P q H m B;cases n with
 |true=>
  obtain⟨rfl,rfl⟩:=m rfl;rfl
 |false=>
  by_cases u:lo=0
  .subst u
   by_cases D:hi=0
   .subst D;rfl
   .have T:min hi 2147483647=hi:=by omega
    have r:max (0:Int) 1=1:=aa;have a:¬hi < 1:=aa;simp[cE,aS,D,T,r,a]
  .by_cases D:hi=0
   .subst D
    have T:min (0:Int) (-1)= -1:=aa;have r:max lo (-2147483648)=lo:=aa;have a:¬ -1 < lo:=aa;simp[cE,aS,u,T,r,a]
   .have a:¬hi < lo:=by omega
    simp[cE,u,D,a]
section
variable {s t:Sp}(hs:s.Ok)(N:t.Ok)
def a3T:(aS s t).Ok:=by
 obtain⟨⟨K,P⟩,⟨q,H⟩,_⟩:=hs;obtain⟨⟨S,Q⟩,⟨Z,T⟩,_⟩:=N;unfold aS;split
 .exact iY
 .rename_i h
  simp only[Bool.or_eq_true,decide_eq_true_eq,not_or] at h;exact nf aa aa aa
def Yi:bO s t=0:=ckSps_ok.2 ⟨hs,N⟩
end
def Fq(hs:s.Ok):
  Calls pG 157 #[sv s] w λe w'=>e=Rt (sv (cE s))/\bl w w':=by
 rw[TW hs];have HM:Hid (∀(a b:Sp) u,a.Ok->b.Ok->Calls pG 159 #[sv a,sv b] u λe w'=>e=Rt (Tu #[sv (aS a b),I Y 0])/\bl u w'):=λa b u j Z=>by
  have:=nR a b u;rw[Yi j Z] at this;exact this
 have B0:n4 (R (M w)) w ((w.alloc (A #[O s.n,I Y s.lo,I Y s.hi] 89)).alloc (A #[O d,I Y 0,I Y 0] 89)):=ai;have A0:sT ((w.alloc (A #[O s.n,I Y s.lo,I Y s.hi] 89)).alloc (A #[O d,I Y 0,I Y 0] 89)) (R (M w)) [O s.n,I Y s.lo,I Y s.hi]:=(sT.new w 89 [O s.n,I Y s.lo,I Y s.hi]).call ai;have R0:sT ((w.alloc (A #[O s.n,I Y s.lo,I Y s.hi] 89)).alloc (A #[O d,I Y 0,I Y 0] 89)) (R (M w)+1) [O d,I Y 0,I Y 0]:=by
  have:=sT.new (w.alloc (A #[O s.n,I Y s.lo,I Y s.hi] 89)) 89 [O d,I Y 0,I Y 0];rw[zA] at this;exact this
 have ak:Hid ((⟨d,1,2147483647⟩:Sp).Ok):=nf aa aa aa;have al:Hid ((⟨d,-2147483648,-1⟩:Sp).Ok):=nf aa aa aa;obtain⟨t,ab⟩:∃q,q=(if s.lo=0 then aS s ⟨d,1,2147483647⟩ else s):=⟨_,rfl⟩;rw[<-ab];have am:Hid (t.Ok):=by
  show t.Ok;rw[ab];split
  .exact a3T hs ak.out
  .exact hs
 have af:=ag ab;clear ab;obtain⟨m2,ad⟩:∃q,q=(if t.hi=0 then aS t ⟨d,-2147483648,-1⟩ else t):=⟨_,rfl⟩;rw[<-ad];have ah:=ag ad;have HS:=ag hs;clear ad hs;go_enter func157,ntmps157;go_upto_if 5 with fail
 generalize ((w.alloc _).alloc _)=w0 at *;go_cut [] (λW=>sT W (R (M w)) [O t.n,I Y t.lo,I Y t.hi]/\sT W (R (M w)+1) [O d,I Y 0,I Y 0]/\bl w W)
 case first=>
  obtain⟨a0,K,P⟩:=A0.c3;by_cases e:s.lo=0
  .have T:=af.out
   rw[if_pos e] at T;have E1:=ag T;have eb:(s.lo==0)=true:=by simpa using e
   clear T e;have N:=ag (HM.out s ⟨d,1,2147483647⟩ w0 HS.out ak.out);rw[<-E1.out] at N;go_wp2_with fail;go_call N.out as e H ⟨rfl,vZ⟩;have i:=A0.call vZ;have R1:=R0.call vZ;have B1:=it;clear a0 K P vZ A0 R0 B0 N;obtain⟨b0,S,Q⟩:=i.c3;have f0:=i.2.2 0;have f1:=i.2.2 1;have f2:=i.2.2 2;go_wp2_with fail;go_meet;exact⟨((i.put 0 ae _).put 1 ae _).put 2 ae _,((R1.far aw _).far aw _).far aw _,((B1.setCell (lR _) _).setCell (lR _) _).setCell (lR _) _⟩
  .have T:=af.out
   rw[if_neg e] at T;have eb:(s.lo==0)=false:=by simpa using e
   clear e;subst T;go_wp2_with fail;go_meet;exact⟨A0,R0,B0⟩
 obtain⟨i,R1,B1⟩:=hcut;clear A0 R0 B0;generalize wc=H at *;clear wc;obtain⟨a0,K,P⟩:=i.c3;go_upto_if 14 with fail
 go_cut [] (λW=>sT W (R (M w)) [O m2.n,I Y m2.lo,I Y m2.hi]/\sT W (R (M w)+1) [O d,I Y 0,I Y 0]/\bl w W)
 case first=>
  by_cases e:t.hi=0
  .have T:=ah.out
   rw[if_pos e] at T;have E1:=ag T;have eb:(t.hi==0)=true:=by simpa using e
   clear T e;have N:=ag (HM.out t ⟨d,-2147483648,-1⟩ H am.out al.out);rw[<-E1.out] at N;go_wp2_with fail;go_call N.out as e o ⟨rfl,xj⟩;have D:=i.call xj;have R2:=R1.call xj;have B2:=fU;clear a0 K P xj i R1 B1 N;obtain⟨b0,S,Q⟩:=D.c3;have f0:=D.2.2 0;have f1:=D.2.2 1;have f2:=D.2.2 2;go_wp2_with fail;go_meet;exact⟨((D.put 0 ae _).put 1 ae _).put 2 ae _,((R2.far aw _).far aw _).far aw _,((B2.setCell (lR _) _).setCell (lR _) _).setCell (lR _) _⟩
  .have T:=ah.out
   rw[if_neg e] at T;have eb:(t.hi==0)=false:=by simpa using e
   clear e;subst T;go_wp2_with fail;go_meet;exact⟨i,R1,B1⟩
 obtain⟨D,R2,B2⟩:=hcut;clear i R1 B1 a0 K P;generalize wc=o at *;clear wc;obtain⟨b0,S,Q⟩:=D.c3;obtain⟨r,m,B⟩:=R2.c3;have f0:=R2.2.2 0;have f1:=R2.2.2 1;have f2:=R2.2.2 2;go_wp2;refine bodyPost_ret (v:=sv m2) (by simp[results,results157,go_sem,r,m,B]) rfl ⟨rfl,?_⟩;exact((B2.setCell aw _).setCell aw _).setCell aw _
def uw(h:p:=by
 intro wx hb;rw[hb.cell gp,hb.cell ae,hb.cell fr,hb.cell fr];simp[go_sem,hm,q1,zh,kx0,kx1]):=h
def CJ(x:Nat)(s:St)(H u D:mh)(r:List mh)(k t b n g:Int)(w:C)(h:a7a w B m s H u D r)(W:B<=R (M w))(o:x < X s.vq)(N:s.vq[x].k≠3):
  Calls pG 150 #[Pp (G ⟨m,0,E⟩),Ag #[I Y k,I Y t,I Y x,I Y b,I Y n,I Y g]] w λe w'=>e=Rt (I Y 2)/\a7p w w' B m (aP m H u D r) s:=by
 have hm:=bV;have z1:=eS;obtain⟨gb,Z,rfl,a3,zh,T,ak⟩:=dC;have q1:=h.vars_;have z2:=eR;obtain⟨kx0,kx1⟩:=T x o;have ar:=iu;have a4:=iv;have K1:∀wx,n4 (R (M w)+1) (w.alloc (A #[I Y k,I Y t,I Y x,I Y b,I Y n,I Y g] 100)) wx->wx.cell? ⟨m,1,E⟩=G (U (G ⟨gb,0,E⟩) (X s.vq) Z)/\wx.cell? ⟨R (M w),2,E⟩=G (I Y x)/\wx.cell? ⟨gb,x * 2,E⟩=G (I Y s.vq[x].k)/\wx.cell? ⟨gb,x * 2+1,E⟩=G (I Y s.vq[x].n):=by
  exact uw
 clear T;go_enter func150,ntmps150;go_wp2;have jw:n4 (R (M w)+1) (w.alloc (A #[I Y k,I Y t,I Y x,I Y b,I Y n,I Y g] 100)) (w.alloc (A #[I Y k,I Y t,I Y x,I Y b,I Y n,I Y g] 100)).drew:=(bR _ _).drew;have ah:R (M (w.alloc (A #[I Y k,I Y t,I Y x,I Y b,I Y n,I Y g] 100)).drew)=R (M w)+1:=ae;refine XK [] ac K1 (bR _ _).drew (λab=> ?_);refine QQ ?_;refine QN 8 ?_;refine av (i:=9) rfl ac (λK hK=> ?_);generalize (w.alloc _).drew=wq at *;go_simp;have ad:n4 (R (M w)+1) (w.alloc (A #[I Y k,I Y t,I Y x,I Y b,I Y n,I Y g] 100)) (wq.alloc (A #[I Y 0,I Y 0] 82)):=jw.alloc Bd _;have V1:=rj;rw[ah] at V1;refine hK.out _ _ (K1 _ ad) (λab=> ?_);clear hK K;(try simp only[stp,j0]);(try rw[ah]);simp only at V1;generalize wq.alloc _=wa at *;refine av (i:=10) rfl ac (λK hK=> ?_);obtain⟨⟨a0,a1⟩,az,af⟩:=id V1;go_simp;have jt:n4 (R (M w)+1) (w.alloc (A #[I Y k,I Y t,I Y x,I Y b,I Y n,I Y g] 100)) ((wa.setCell ⟨R (M w)+1,0,E⟩ (I Y s.vq[x].k)).setCell ⟨R (M w)+1,1,E⟩ (I Y s.vq[x].n)):=(ad.setCell ae _).setCell ae _;have VA:=V1.put s.vq[x];refine hK.out _ _ (K1 _ jt) (λab=> ?_);clear hK K a0 a1 af V1;(try simp only[stp,j0]);generalize (wa.setCell _ _).setCell _ _=wd at *;refine aB ac ?_ _;have ax:=VA.1.1;have HW:=Fi;clear ab;have ay:(s.vq[x].k !=3)=true:=by simpa using N
 have HX:=aL (And.intro (h.below HW) HW);clear h;go_wp2;go_ret;exact⟨rfl,⟨_,_,_,_,HX.out.1⟩,HX.out.2.mono W,λj _=>HX.out.2.cell hm,ed HX.out.2⟩

def Yw(x q f t:Nat)(s:St)(H u D:mh)(r:List mh)(b g:Int)(w:C)(h:a7a w B m s H u D r)(W:B<=R (M w))(hx:x < X s.vq)(hv:s.vq[x]=⟨3,(q:Int)⟩)(hq:q < X s.things)(hf:f < X s.things[q].fs)(N:t < X s.vq):
  Calls pG 150 #[Pp (G ⟨m,0,E⟩),Ag #[I Y 12,I Y t,I Y x,I Y b,I Y f,I Y g]] w λe w'=>e=Rt (I Y 0)/\a7p w w' B m (aP m H u D r) {s with vq:=s.vq.set t s.things[q].fs[f]}:=by
 have hm:=bV;have z1:=eS;obtain⟨gb,Z,rfl,ah,zh,T,zQ⟩:=dC;have am:=eQ;have q1:=h.vars_;have z2:=eR;obtain⟨kx0,kx1⟩:=T x hx;have bc:=iu;have bm:=iv;obtain⟨gt,tc,ax,hgt,bf,th1,a7⟩:=h.thing hq;obtain⟨gf,fc,a4,ak,a2,a3,_⟩:=h.field hq hf;rw[a4] at th1;have q2:=h.things_;rw[ax] at q2;have a9:=fO;have be:(q:Int) < (X s.things:Int):=aa;have bs:(0:Int)<=(f:Int):=aa;have bt:(f:Int) < (X s.things[q].fs:Int):=aa;have HV:=aL hv;clear hv;obtain⟨a5,ap⟩:=T t N;have a8:=gG;have bg:=iq;have f0:=gC;have f1:=gH;have K1:∀wx,n4 (R (M w)+1) (w.alloc (A #[I Y 12,I Y t,I Y x,I Y b,I Y f,I Y g] 100)) wx->wx.cell? ⟨m,1,E⟩=G (U (G ⟨gb,0,E⟩) (X s.vq) Z)/\wx.cell? ⟨R (M w),2,E⟩=G (I Y x)/\wx.cell? ⟨gb,x * 2,E⟩=G (I Y s.vq[x].k)/\wx.cell? ⟨gb,x * 2+1,E⟩=G (I Y s.vq[x].n):=by
  exact uw
 clear T zQ;go_enter func150,ntmps150;go_wp2;have jw:n4 (R (M w)+1) (w.alloc (A #[I Y 12,I Y t,I Y x,I Y b,I Y f,I Y g] 100)) (w.alloc (A #[I Y 12,I Y t,I Y x,I Y b,I Y f,I Y g] 100)).drew:=(bR _ _).drew;have ao:R (M (w.alloc (A #[I Y 12,I Y t,I Y x,I Y b,I Y f,I Y g] 100)).drew)=R (M w)+1:=ae;refine XK [] ac K1 (bR _ _).drew (λo=> ?_);refine QQ ?_;refine QN 8 ?_;refine av (i:=9) rfl ac (λK hK=> ?_);generalize (w.alloc _).drew=wq at *;go_simp;have al:n4 (R (M w)+1) (w.alloc (A #[I Y 12,I Y t,I Y x,I Y b,I Y f,I Y g] 100)) (wq.alloc (A #[I Y 0,I Y 0] 82)):=jw.alloc Bd _;have V1:=rj;rw[ao] at V1;refine hK.out _ _ (K1 _ al) (λo=> ?_);clear hK K;(try simp only[stp,j0]);(try rw[ao]);simp only at V1;generalize wq.alloc _=wa at *;refine av (i:=10) rfl ac (λK hK=> ?_);obtain⟨⟨a0,a1⟩,az,af⟩:=id V1;go_simp;have jt:n4 (R (M w)+1) (w.alloc (A #[I Y 12,I Y t,I Y x,I Y b,I Y f,I Y g] 100)) ((wa.setCell ⟨R (M w)+1,0,E⟩ (I Y s.vq[x].k)).setCell ⟨R (M w)+1,1,E⟩ (I Y s.vq[x].n)):=(al.setCell ae _).setCell ae _;have VA:=V1.put s.vq[x];refine hK.out _ _ (K1 _ jt) (λo=> ?_);clear hK K a0 a1 af V1;(try simp only[stp,j0]);generalize (wa.setCell _ _).setCell _ _=wd at *;refine aB ac ?_ _;have bb:=Fb;have ad:=VA.1.1;have va1:=VA.1.2;have HW:=Fi;clear o;rw[HV.out] at ad va1;simp only at ad va1;have c4:wd.cell? ⟨R (M w),4,E⟩=G (I Y f):=pf;have c0:wd.cell? ⟨R (M w),0,E⟩=G (I Y 12):=pf;have KZ:=RQ;go_wp2;refine XK [] ac KZ (bR _ _).drew (λo=> ?_);refine QQ ?_;refine QS ?_;refine aB ac ?_ _;have c1:wd.cell? ⟨R (M w),1,E⟩=G (I Y t):=pf;have KY:∀wx,bl wd wx->wx.cell? ⟨m,1,E⟩=G (U (G ⟨gb,0,E⟩) (X s.vq) Z)/\wx.cell? ⟨R (M w),1,E⟩=G (I Y t)/\wx.cell? ⟨gf,f * 2,E⟩=G (I Y s.things[q].fs[f].k)/\wx.cell? ⟨gf,f * 2+1,E⟩=G (I Y s.things[q].fs[f].n):=λwx hx=>⟨UP,Ku,by rw[hx.cell (by simp;omega),HW.cell (by simpa using ak)];exact a2,by rw[hx.cell (by simp;omega),HW.cell (by simpa using ak)];exact a3⟩;go_wp2;refine XK [11] ac KY ((bR _ _).drew.drew) (λo=> ?_);refine QQ ?_;refine QV ?_;refine aM (i:=11) rfl ac ac (λK hK=> ?_);have ab:=HW.drew.drew;have g0:wd.drew.drew.cell? ⟨gb,t * 2,E⟩=G (I Y s.vq[t].k):=by rw[ab.cell (by simpa using zh)];exact a5
 have g1:wd.drew.drew.cell? ⟨gb,t * 2+1,E⟩=G (I Y s.vq[t].n):=by rw[ab.cell (by simpa using zh)];exact ap
 have d0:wd.drew.drew.frozen? ⟨gb,t * 2,E⟩=false:=by rw[ab.frozen (by simpa using zh)];exact f0
 have d1:wd.drew.drew.frozen? ⟨gb,t * 2+1,E⟩=false:=by rw[ab.frozen (by simpa using zh)];exact f1
 have oL:=h.below ab;generalize wd.drew.drew=wl at *;go_simp;refine hK.out _ _ ?_;clear hK K;(try simp only[stp,j0]);refine aB ac ?_ _;go_wp2;go_ret;exact⟨rfl,⟨_,_,_,_,oL.put t N s.things[q].fs[f]⟩,((ab.mono W).setCell ah _).setCell ah _,λj _=>by rw[rH _ _ _ _ _ _ _ _ am];exact ab.cell hm,dU ab gV _ _ _ _⟩

def a0v(x q f y:Nat)(s:St)(H u D:mh)(r:List mh)(t g:Int)(w:C)(h:a7a w B m s H u D r)(W:B<=R (M w))(hx:x < X s.vq)(N:s.vq[x]=⟨3,(q:Int)⟩)(hq:q < X s.things)(hf:f < X s.things[q].fs)(hy:y < X s.vq):
  Calls pG 150 #[Pp (G ⟨m,0,E⟩),Ag #[I Y 13,I Y t,I Y x,I Y y,I Y f,I Y g]] w λe w'=>e=Rt (I Y 0)/\a7p w w' B m (aP m H u D r) (gD s q f s.vq[y]):=by
 have hm:=bV;have z1:=eS;obtain⟨gb,Z,rfl,be,zh,T,a9⟩:=dC;have q1:=h.vars_;have z2:=eR;obtain⟨kx0,kx1⟩:=T x hx;have bg:=iu;have bv:=iv;obtain⟨gt,tc,a3,hgt,bt,th1,ba⟩:=h.thing hq;obtain⟨gf,fc,ak,ad,a6,a7,ap,ah⟩:=h.field hq hf;rw[ak] at th1;have q2:=h.things_;rw[a3] at q2;have bb:=fO;have bm:(q:Int) < (X s.things:Int):=aa;have bx:(0:Int)<=(f:Int):=aa;have bz:(f:Int) < (X s.things[q].fs:Int):=aa;have HV:=aL N;clear N;obtain⟨a8,a4⟩:=T y hy;have bc:(0:Int)<=(y:Int):=aa;have bs:=Fo;have f0:=ap (f * 2);have f1:=ap (f * 2+1);have K1:∀wx,n4 (R (M w)+1) (w.alloc (A #[I Y 13,I Y t,I Y x,I Y y,I Y f,I Y g] 100)) wx->wx.cell? ⟨m,1,E⟩=G (U (G ⟨gb,0,E⟩) (X s.vq) Z)/\wx.cell? ⟨R (M w),2,E⟩=G (I Y x)/\wx.cell? ⟨gb,x * 2,E⟩=G (I Y s.vq[x].k)/\wx.cell? ⟨gb,x * 2+1,E⟩=G (I Y s.vq[x].n):=by
  exact uw
 clear T;go_enter func150,ntmps150;go_wp2;have jw:n4 (R (M w)+1) (w.alloc (A #[I Y 13,I Y t,I Y x,I Y y,I Y f,I Y g] 100)) (w.alloc (A #[I Y 13,I Y t,I Y x,I Y y,I Y f,I Y g] 100)).drew:=(bR _ _).drew;have ax:R (M (w.alloc (A #[I Y 13,I Y t,I Y x,I Y y,I Y f,I Y g] 100)).drew)=R (M w)+1:=ae;refine XK [] ac K1 (bR _ _).drew (λo=> ?_);refine QQ ?_;refine QN 8 ?_;refine av (i:=9) rfl ac (λK hK=> ?_);generalize (w.alloc _).drew=wq at *;go_simp;have ar:n4 (R (M w)+1) (w.alloc (A #[I Y 13,I Y t,I Y x,I Y y,I Y f,I Y g] 100)) (wq.alloc (A #[I Y 0,I Y 0] 82)):=jw.alloc Bd _;have V1:=rj;rw[ax] at V1;refine hK.out _ _ (K1 _ ar) (λo=> ?_);clear hK K;(try simp only[stp,j0]);(try rw[ax]);simp only at V1;generalize wq.alloc _=wa at *;refine av (i:=10) rfl ac (λK hK=> ?_);obtain⟨⟨a0,a1⟩,az,af⟩:=id V1;go_simp;have jt:n4 (R (M w)+1) (w.alloc (A #[I Y 13,I Y t,I Y x,I Y y,I Y f,I Y g] 100)) ((wa.setCell ⟨R (M w)+1,0,E⟩ (I Y s.vq[x].k)).setCell ⟨R (M w)+1,1,E⟩ (I Y s.vq[x].n)):=(ar.setCell ae _).setCell ae _;have VA:=V1.put s.vq[x];refine hK.out _ _ (K1 _ jt) (λo=> ?_);clear hK K a0 a1 af V1;(try simp only[stp,j0]);generalize (wa.setCell _ _).setCell _ _=wd at *;refine aB ac ?_ _;have bf:=Fb;have al:=VA.1.1;have va1:=VA.1.2;have HW:=Fi;clear o;rw[HV.out] at al va1;simp only at al va1;have c4:wd.cell? ⟨R (M w),4,E⟩=G (I Y f):=pf;have c0:wd.cell? ⟨R (M w),0,E⟩=G (I Y 13):=pf;have KZ:=RQ;go_wp2;refine XK [] ac KZ (bR _ _).drew (λo=> ?_);refine QQ ?_;refine QS ?_;refine aB ac ?_ _;have c1:wd.cell? ⟨R (M w),3,E⟩=G (I Y y):=pf;have KY:∀wx,bl wd wx->wx.cell? ⟨m,1,E⟩=G (U (G ⟨gb,0,E⟩) (X s.vq) Z)/\wx.cell? ⟨R (M w),3,E⟩=G (I Y y)/\wx.cell? ⟨gb,y * 2,E⟩=G (I Y s.vq[y].k)/\wx.cell? ⟨gb,y * 2+1,E⟩=G (I Y s.vq[y].n):=λwx hx=>⟨UP,Ku,by rw[hx.cell (by simp;omega),HW.cell (by simpa using zh)];exact a8,by rw[hx.cell (by simp;omega),HW.cell (by simpa using zh)];exact a4⟩;go_wp2;refine XK [11] ac KY ((bR _ _).drew.drew) (λo=> ?_);refine QQ ?_;refine QV ?_;refine aM (i:=11) rfl ac ac (λK hK=> ?_);have ab:=HW.drew.drew;have g0:wd.drew.drew.cell? ⟨gf,f * 2,E⟩=G (I Y s.things[q].fs[f].k):=by rw[ab.cell (by simpa using ad)];exact a6
 have g1:wd.drew.drew.cell? ⟨gf,f * 2+1,E⟩=G (I Y s.things[q].fs[f].n):=by rw[ab.cell (by simpa using ad)];exact a7
 have d0:wd.drew.drew.frozen? ⟨gf,f * 2,E⟩=false:=by rw[ab.frozen (by simpa using ad)];exact f0
 have d1:wd.drew.drew.frozen? ⟨gf,f * 2+1,E⟩=false:=by rw[ab.frozen (by simpa using ad)];exact f1
 have oL:=h.below ab;generalize wd.drew.drew=wl at *;go_simp;refine hK.out _ _ ?_;clear hK K;(try simp only[stp,j0]);refine aB ac ?_ _;go_wp2;go_ret;have ao:G gf∈r.map Value.ownBlock:=x9.2 ⟨_,gM (by rw[h.count];exact hq),by rw[ak];rfl⟩;have ay:m≠gf:=λe=>h.parted.1 gf (by simp only[j2];right;right;right;exact ao) e.symm;exact⟨rfl,⟨_,_,_,_,oL.put_field q hq ak f hf s.vq[y]⟩,((ab.mono W).setCell ah _).setCell ah _,λj _=>by rw[rH _ _ _ _ _ _ _ _ ay];exact ab.cell hm,dU ab (by simp only[aP,j2];right;right;right;right;exact ao) _ _ _ _⟩
section
variable (t:Nat)(s:St)(H u D:mh)(r:List mh)(a b n g:Int)(w:C)(h:a7a w B m s H u D r)(W:B<=R (M w))(N:t < X s.vq)
def a6d(hn:wr n=n):
  Calls pG 86 #[Pp (G ⟨m,0,E⟩),Ag #[I Y 1,I Y t,I Y a,I Y b,I Y n,I Y g]] w λe w'=>e=Rt (I Y 0)/\a7p w w' B m (aP m H u D r) {s with vq:=s.vq.set t ⟨1,n⟩}:=by
 have hm:=bV;have z1:=eS;obtain⟨gb,af,rfl,ad,zh,T,zQ⟩:=dC;have am:=eQ;have q1:=h.vars_;have z2:=eR;obtain⟨qU,qV⟩:=T t N;have al:=gG;have ao:=iq;have f0:=gC;have f1:=gH;have K1:∀wx,n4 (R (M w)+1) (w.alloc (A #[I Y 1,I Y t,I Y a,I Y b,I Y n,I Y g] 100)) wx->wx.cell? ⟨m,1,E⟩=G (U (G ⟨gb,0,E⟩) (X s.vq) af)/\wx.cell? ⟨R (M w),1,E⟩=G (I Y t)/\wx.cell? ⟨R (M w),4,E⟩=G (I Y n):=by
  intro wx Z;rw[Z.cell gp,Z.cell ae,Z.cell ae];simp[go_sem,hm,q1]
 clear T zQ;go_enter func86,ntmps86;go_wp2;refine XK [11] ac K1 (bR _ _).drew (λo=> ?_);refine QQ ?_;refine QN 8 ?_;refine av (i:=9) rfl ac (λK hK=> ?_);go_simp;go_at_call 145;go_call kQ _ _ as e w1 ⟨rfl,ak⟩;rw[hn];have ab:n4 (R (M w)+1) (w.alloc (A #[I Y 1,I Y t,I Y a,I Y b,I Y n,I Y g] 100)) w1:=Below.trans (bR _ _).drew (Below.mono ak ae);go_wp2_with fail;refine hK.out _ _ (K1 _ ab) (λo=> ?_);clear hK K;(try simp only[stp,j0]);refine QN 10 ?_;refine aM (i:=11) rfl ac ac (λK hK=> ?_);have qK:n4 (R (M w)+1) (w.alloc (A #[I Y 1,I Y t,I Y a,I Y b,I Y n,I Y g] 100)) (w1):=ab;have c0:=DA;have c1:=CV;have d0:=Do;have d1:=Fp;generalize w1=wl at *;go_simp;refine hK.out _ _ ?_;clear hK K;(try simp only[stp,j0]);refine aB ac ?_ _;go_wp2;go_ret;have HW:=nd;exact⟨rfl,⟨_,_,_,_,(h.below HW).put t N ⟨1,n⟩⟩,((HW.mono W).setCell ad _).setCell ad _,λj _=>iF,dU HW gV _ _ _ _⟩

def a6s:
  Calls pG 86 #[Pp (G ⟨m,0,E⟩),Ag #[I Y 2,I Y t,I Y a,I Y b,I Y n,I Y g]] w λe w'=>e=Rt (I Y 0)/\a7p w w' B m (aP m H u D r) {s with vq:=s.vq.set t (eD (n==1))}:=by
 have hm:=bV;have z1:=eS;obtain⟨gb,af,rfl,ad,zh,T,zQ⟩:=dC;have am:=eQ;have q1:=h.vars_;have z2:=eR;obtain⟨qU,qV⟩:=T t N;have al:=gG;have ao:=iq;have f0:=gC;have f1:=gH;have K1:∀wx,n4 (R (M w)+1) (w.alloc (A #[I Y 2,I Y t,I Y a,I Y b,I Y n,I Y g] 100)) wx->wx.cell? ⟨m,1,E⟩=G (U (G ⟨gb,0,E⟩) (X s.vq) af)/\wx.cell? ⟨R (M w),1,E⟩=G (I Y t)/\wx.cell? ⟨R (M w),4,E⟩=G (I Y n):=by
  intro wx Z;rw[Z.cell gp,Z.cell ae,Z.cell ae];simp[go_sem,hm,q1]
 clear T zQ;go_enter func86,ntmps86;go_wp2;refine XK [12] ac K1 (bR _ _).drew (λo=> ?_);refine QQ ?_;refine QN 8 ?_;refine QN 9 ?_;refine av (i:=10) rfl ac (λK hK=> ?_);go_simp;go_at_call 146;go_call dD _ _ as e w1 ⟨rfl,ak⟩;have ab:n4 (R (M w)+1) (w.alloc (A #[I Y 2,I Y t,I Y a,I Y b,I Y n,I Y g] 100)) w1:=Below.trans (bR _ _).drew (Below.mono ak ae);go_wp2_with fail;refine hK.out _ _ (K1 _ ab) (λo=> ?_);clear hK K;(try simp only[stp,j0]);refine QN 11 ?_;refine aM (i:=12) rfl ac ac (λK hK=> ?_);have qK:n4 (R (M w)+1) (w.alloc (A #[I Y 2,I Y t,I Y a,I Y b,I Y n,I Y g] 100)) (w1):=ab;have c0:=DA;have c1:=CV;have d0:=Do;have d1:=Fp;generalize w1=wl at *;go_simp;refine hK.out _ _ ?_;clear hK K;(try simp only[stp,j0]);refine aB ac ?_ _;go_wp2;go_ret;have HW:=nd;exact⟨rfl,⟨_,_,_,_,(h.below HW).put t N (eD (n==1))⟩,((HW.mono W).setCell ad _).setCell ad _,λj _=>iF,dU HW gV _ _ _ _⟩

def a6b:
  Calls pG 86 #[Pp (G ⟨m,0,E⟩),Ag #[I Y 3,I Y t,I Y a,I Y b,I Y n,I Y g]] w λe w'=>e=Rt (I Y 0)/\a7p w w' B m (aP m H u D r) {s with vq:=s.vq.set t ⟨0,0⟩}:=by
 have hm:=bV;have z1:=eS;obtain⟨gb,ad,rfl,ab,zh,T,zQ⟩:=dC;have am:=eQ;have q1:=h.vars_;have z2:=eR;obtain⟨qU,qV⟩:=T t N;have af:=gG;have ak:=iq;have f0:=gC;have f1:=gH;have K1:∀wx,n4 (R (M w)+1) (w.alloc (A #[I Y 3,I Y t,I Y a,I Y b,I Y n,I Y g] 100)) wx->wx.cell? ⟨m,1,E⟩=G (U (G ⟨gb,0,E⟩) (X s.vq) ad)/\wx.cell? ⟨R (M w),1,E⟩=G (I Y t):=by
  intro wx Z;rw[Z.cell gp,Z.cell ae];simp[go_sem,hm,q1]
 clear T zQ;go_enter func86,ntmps86;go_wp2;refine XK [9] ac K1 (bR _ _).drew (λo=> ?_);refine QQ ?_;refine QN 8 ?_;refine aM (i:=9) rfl ac ac (λK hK=> ?_);have qK:n4 (R (M w)+1) (w.alloc (A #[I Y 3,I Y t,I Y a,I Y b,I Y n,I Y g] 100)) ((w.alloc (A #[I Y 3,I Y t,I Y a,I Y b,I Y n,I Y g] 100)).drew):=(bR _ _).drew;have c0:((w.alloc (A #[I Y 3,I Y t,I Y a,I Y b,I Y n,I Y g] 100)).drew).cell? ⟨gb,t * 2,E⟩=G (I Y s.vq[t].k):=Bj;have c1:((w.alloc (A #[I Y 3,I Y t,I Y a,I Y b,I Y n,I Y g] 100)).drew).cell? ⟨gb,t * 2+1,E⟩=G (I Y s.vq[t].n):=Bh;have d0:((w.alloc (A #[I Y 3,I Y t,I Y a,I Y b,I Y n,I Y g] 100)).drew).frozen? ⟨gb,t * 2,E⟩=false:=BG;have d1:((w.alloc (A #[I Y 3,I Y t,I Y a,I Y b,I Y n,I Y g] 100)).drew).frozen? ⟨gb,t * 2+1,E⟩=false:=Bn;generalize (w.alloc _).drew=wl at *;go_simp;refine hK.out _ _ ?_;clear hK K;(try simp only[stp,j0]);refine aB ac ?_ _;go_wp2;go_ret;have HW:=nd;exact⟨rfl,⟨_,_,_,_,(h.below HW).put t N ⟨0,0⟩⟩,((HW.mono W).setCell ab _).setCell ab _,λj _=>iF,dU HW gV _ _ _ _⟩
end
def GM(h:p:=by
 intro wx hb;rw[hb.cell gp,hb.cell ae,hb.cell ae,hb.cell fr,hb.cell fr];simp[go_sem,hm,q1,zh,kx0,kx1]):=h
section
variable (t x:Nat)(s:St)(H u D:mh)(r:List mh)(b n g:Int)(w:C)(h:a7a w B m s H u D r)(W:B<=R (M w))(N:t < X s.vq)(o:x < X s.vq)
def a6m:
  Calls pG 86 #[Pp (G ⟨m,0,E⟩),Ag #[I Y 4,I Y t,I Y x,I Y b,I Y n,I Y g]] w λe w'=>e=Rt (I Y 0)/\a7p w w' B m (aP m H u D r) {s with vq:=s.vq.set t s.vq[x]}:=by
 have hm:=bV;have z1:=eS;obtain⟨gb,Z,rfl,ab,zh,T,zQ⟩:=dC;have am:=eQ;have q1:=h.vars_;have z2:=eR;obtain⟨qU,qV⟩:=T t N;have ak:=gG;have al:=iq;obtain⟨kx0,kx1⟩:=T x o;have af:=iu;have ao:=iv;have f0:=gC;have f1:=gH;have K1:∀wx,n4 (R (M w)+1) (w.alloc (A #[I Y 4,I Y t,I Y x,I Y b,I Y n,I Y g] 100)) wx->wx.cell? ⟨m,1,E⟩=G (U (G ⟨gb,0,E⟩) (X s.vq) Z)/\wx.cell? ⟨R (M w),1,E⟩=G (I Y t)/\wx.cell? ⟨R (M w),2,E⟩=G (I Y x)/\wx.cell? ⟨gb,x * 2,E⟩=G (I Y s.vq[x].k)/\wx.cell? ⟨gb,x * 2+1,E⟩=G (I Y s.vq[x].n):=by
  exact GM
 clear T zQ;go_enter func86,ntmps86;go_wp2;refine XK [17] ac K1 (bR _ _).drew (λad=> ?_);refine QQ ?_;refine QS ?_;refine XH ?_;refine QN 16 ?_;refine aM (i:=17) rfl ac ac (λK hK=> ?_);have qK:n4 (R (M w)+1) (w.alloc (A #[I Y 4,I Y t,I Y x,I Y b,I Y n,I Y g] 100)) ((w.alloc (A #[I Y 4,I Y t,I Y x,I Y b,I Y n,I Y g] 100)).drew):=(bR _ _).drew;have c0:((w.alloc (A #[I Y 4,I Y t,I Y x,I Y b,I Y n,I Y g] 100)).drew).cell? ⟨gb,t * 2,E⟩=G (I Y s.vq[t].k):=Bj;have c1:((w.alloc (A #[I Y 4,I Y t,I Y x,I Y b,I Y n,I Y g] 100)).drew).cell? ⟨gb,t * 2+1,E⟩=G (I Y s.vq[t].n):=Bh;have d0:((w.alloc (A #[I Y 4,I Y t,I Y x,I Y b,I Y n,I Y g] 100)).drew).frozen? ⟨gb,t * 2,E⟩=false:=BG;have d1:((w.alloc (A #[I Y 4,I Y t,I Y x,I Y b,I Y n,I Y g] 100)).drew).frozen? ⟨gb,t * 2+1,E⟩=false:=Bn;generalize (w.alloc _).drew=wl at *;go_simp;refine hK.out _ _ ?_;clear hK K;(try simp only[stp,j0]);refine aB ac ?_ _;go_wp2;go_ret;have HW:=nd;exact⟨rfl,⟨_,_,_,_,(h.below HW).put t N s.vq[x]⟩,((HW.mono W).setCell ab _).setCell ab _,λj _=>iF,dU HW gV _ _ _ _⟩

def a5n(T:Nat)(hv:cS T s.vq[x]):
  Calls pG 86 #[Pp (G ⟨m,0,E⟩),Ag #[I Y 10,I Y t,I Y x,I Y b,I Y n,I Y g]] w λe w'=>e=Rt (I Y 0)/\a7p w w' B m (aP m H u D r) {s with vq:=s.vq.set t (eD (!cnt s.vq[x]))}:=by
 have hm:=bV;have z1:=eS;obtain⟨gb,Z,rfl,ak,zh,ab,zQ⟩:=dC;have am:=eQ;have q1:=h.vars_;have z2:=eR;obtain⟨qU,qV⟩:=ab t N;have ar:=gG;have ay:=iq;obtain⟨kx0,kx1⟩:=ab x o;have ax:=iu;have az:=iv;have f0:=gC;have f1:=gH;have K1:∀wx,n4 (R (M w)+1) (w.alloc (A #[I Y 10,I Y t,I Y x,I Y b,I Y n,I Y g] 100)) wx->wx.cell? ⟨m,1,E⟩=G (U (G ⟨gb,0,E⟩) (X s.vq) Z)/\wx.cell? ⟨R (M w),1,E⟩=G (I Y t)/\wx.cell? ⟨R (M w),2,E⟩=G (I Y x)/\wx.cell? ⟨gb,x * 2,E⟩=G (I Y s.vq[x].k)/\wx.cell? ⟨gb,x * 2+1,E⟩=G (I Y s.vq[x].n):=by
  exact GM
 clear ab zQ;go_enter func86,ntmps86;go_wp2;refine XK [20] ac K1 (bR _ _).drew (λad=> ?_);refine QQ ?_;refine QS ?_;refine XH ?_;refine av (i:=16) rfl ac (λK hK=> ?_);go_simp;go_at_call 148;go_call vI T _ _ hv as e w1 ⟨rfl,ap⟩;have af:n4 (R (M w)+1) (w.alloc (A #[I Y 10,I Y t,I Y x,I Y b,I Y n,I Y g] 100)) w1:=Below.trans (bR _ _).drew (Below.mono ap ae);go_wp2_with fail;refine hK.out _ _ (K1 _ af) (λad=> ?_);clear hK K;(try simp only[stp,j0]);refine QN 17 ?_;refine av (i:=18) rfl ac (λK hK=> ?_);go_simp;go_at_call 146;go_call dD _ _ as e w2 ⟨rfl,ao⟩;have al:=Below.trans af (Below.mono ao (by have:=af.size;simp at this;omega))
 go_wp2_with fail;refine hK.out _ _ (K1 _ al) (λad=> ?_);clear hK K;(try simp only[stp,j0]);refine QN 19 ?_;refine aM (i:=20) rfl ac ac (λK hK=> ?_);have qK:n4 (R (M w)+1) (w.alloc (A #[I Y 10,I Y t,I Y x,I Y b,I Y n,I Y g] 100)) (w2):=al;have c0:(w2).cell? ⟨gb,t * 2,E⟩=G (I Y s.vq[t].k):=Bj;have c1:(w2).cell? ⟨gb,t * 2+1,E⟩=G (I Y s.vq[t].n):=Bh;have d0:(w2).frozen? ⟨gb,t * 2,E⟩=false:=BG;have d1:(w2).frozen? ⟨gb,t * 2+1,E⟩=false:=Bn;generalize w2=wl at *;go_simp;refine hK.out _ _ ?_;clear hK K;(try simp only[stp,j0]);refine aB ac ?_ _;go_wp2;go_ret;have HW:=nd;exact⟨rfl,⟨_,_,_,_,(h.below HW).put t N (eD (!cnt s.vq[x]))⟩,((HW.mono W).setCell ak _).setCell ak _,λj _=>iF,dU HW gV _ _ _ _⟩
end
def a6t(t x y:Nat)(s:St)(H u D:mh)(r:List mh)(n g:Int)(w:C)(h:a7a w B m s H u D r)(W:B<=R (M w))(N:t < X s.vq)(o:x < X s.vq)(hy:y < X s.vq):
  Calls pG 86 #[Pp (G ⟨m,0,E⟩),Ag #[I Y 9,I Y t,I Y x,I Y y,I Y n,I Y g]] w λe w'=>e=Rt (I Y 0)/\a7p w w' B m (aP m H u D r) {s with vq:=s.vq.set t (eD (decide (s.vq[x].k=s.vq[y].k)&&decide (s.vq[x].n=s.vq[y].n)))}:=by
 have hm:=bV;have z1:=eS;obtain⟨gb,ak,rfl,ad,zh,T,zQ⟩:=dC;have am:=eQ;have q1:=h.vars_;have z2:=eR;obtain⟨qU,qV⟩:=T t N;have ay:=gG;have a2:=iq;obtain⟨al,ax⟩:=T x o;have a0:=iu;have a3:=iv;obtain⟨ar,ao⟩:=T y hy;have az:(0:Int)<=(y:Int):=aa;have a1:=Fo;have f0:=gC;have f1:=gH;have K1:∀wx,n4 (R (M w)+1) (w.alloc (A #[I Y 9,I Y t,I Y x,I Y y,I Y n,I Y g] 100)) wx->wx.cell? ⟨m,1,E⟩=G (U (G ⟨gb,0,E⟩) (X s.vq) ak)/\wx.cell? ⟨R (M w),1,E⟩=G (I Y t)/\wx.cell? ⟨R (M w),2,E⟩=G (I Y x)/\wx.cell? ⟨R (M w),3,E⟩=G (I Y y)/\wx.cell? ⟨gb,x * 2,E⟩=G (I Y s.vq[x].k)/\wx.cell? ⟨gb,x * 2+1,E⟩=G (I Y s.vq[x].n)/\wx.cell? ⟨gb,y * 2,E⟩=G (I Y s.vq[y].k)/\wx.cell? ⟨gb,y * 2+1,E⟩=G (I Y s.vq[y].n):=by
  intro wx Z;rw[Z.cell gp,Z.cell ae,Z.cell ae,Z.cell ae,Z.cell fr,Z.cell fr,Z.cell fr,Z.cell fr];simp[go_sem,hm,q1,zh,al,ax,ar,ao]
 clear T zQ;go_enter func86,ntmps86;go_wp2;refine XK [28] ac K1 (bR _ _).drew (λab=> ?_);refine QQ ?_;refine QS ?_;refine QZ ?_;refine QN 20 ?_;refine QN 21 ?_;refine QN 22 ?_;refine QN 23 ?_;refine QN 24 ?_;refine nH (i:=25) (v:=O (decide (s.vq[x].k=s.vq[y].k)&&decide (s.vq[x].n=s.vq[y].n))) rfl ac ac ac (λ_ _ _ h=>h) (Or.inl ⟨?_,?_⟩) cD ?_
 .rfl
 .intro w xB
  go_simp;by_cases e1:s.vq[x].k=s.vq[y].k<;>by_cases e2:s.vq[x].n=s.vq[y].n<;>simp[e1,e2]
 (try simp only[stp,j0]);refine av (i:=26) rfl ac (λK hK=> ?_);go_simp;go_at_call 146;go_call dD _ _ as e w1 ⟨rfl,ap⟩;have af:n4 (R (M w)+1) (w.alloc (A #[I Y 9,I Y t,I Y x,I Y y,I Y n,I Y g] 100)) w1:=Below.trans (bR _ _).drew (Below.mono ap ae);go_wp2_with fail;refine hK.out _ _ (K1 _ af) (λab=> ?_);clear hK K;(try simp only[stp,j0]);refine QN 27 ?_;refine aM (i:=28) rfl ac ac (λK hK=> ?_);have qK:n4 (R (M w)+1) (w.alloc (A #[I Y 9,I Y t,I Y x,I Y y,I Y n,I Y g] 100)) (w1):=af;have c0:=DA;have c1:=CV;have d0:=Do;have d1:=Fp;generalize w1=wl at *;go_simp;refine hK.out _ _ ?_;clear hK K;(try simp only[stp,j0]);refine aB ac ?_ _;go_wp2;go_ret;have HW:=nd;exact⟨rfl,⟨_,_,_,_,(h.below HW).put t N (eD (decide (s.vq[x].k=s.vq[y].k)&&decide (s.vq[x].n=s.vq[y].n)))⟩,((HW.mono W).setCell ad _).setCell ad _,λj _=>iF,dU HW gV _ _ _ _⟩
def a5c(t:Nat)(s:St)(H u D:mh)(r:List mh)(a b n g:Int)(w:C)(h:a7a w B m s H u D r)(W:B<=R (M w))(N:t < X s.vq)(is:oA)(ic:Nat)(ins:List Int)(ar:0<=n)(a1:n<=1000000)(h9:w.cell? ⟨m,9,E⟩=G (U is (X ins) ic))(hi:yv w is ins)(ax:0<=s.taken):
  Calls pG 86 #[Pp (G ⟨m,0,E⟩),Ag #[I Y 14,I Y t,I Y a,I Y b,I Y n,I Y g]] w λe w'=>e=Rt (I Y 0)/\a7p w w' B m (aP m H u D r) {s with vq:=s.vq.set t ⟨1,gT ins s.taken n⟩,taken:=w64 (s.taken+1)}:=by
 have hm:=bV;have z1:=eS;obtain⟨gb,af,rfl,ap,a5,T,zQ⟩:=dC;have am:=eQ;have q1:=h.vars_;have a4:=gG;have a9:=iq;have K1:∀wx,n4 (R (M w)+1) (w.alloc (A #[I Y 14,I Y t,I Y a,I Y b,I Y n,I Y g] 100)) wx->wx.cell? ⟨m,1,E⟩=G (U (G ⟨gb,0,E⟩) (X s.vq) af)/\wx.cell? ⟨R (M w),1,E⟩=G (I Y t)/\wx.cell? ⟨R (M w),4,E⟩=G (I Y n):=by
  intro wx Z;rw[Z.cell gp,Z.cell ae,Z.cell ae];simp[go_sem,hm,q1]
 have a0:wr (gT ins s.taken n)=gT ins s.taken n:=by
  have: -1000000<=gT ins s.taken n/\gT ins s.taken n<=1000000:=by
   unfold gT;split
   .have:=Cy (x:=ins.getD s.taken.toNat 0) ar
    omega
   .omega
  unfold wr;omega
 have hG:n4 (R (M w)) w (w.alloc (A #[I Y 14,I Y t,I Y a,I Y b,I Y n,I Y g] 100)).drew:=ai;have ak:(w.alloc (A #[I Y 14,I Y t,I Y a,I Y b,I Y n,I Y g] 100)).drew.cell? ⟨m,9,E⟩=G (U is (X ins) ic):=by rw[hG.cell (by simpa using hm)];exact h9
 have HT:=aL (a0w m B s _ u D r n is ic _ _ (h.below hG) ar a1 ak (hi.below hG (lR _)) ax);clear T zQ h9 ak hi;go_enter func86,ntmps86;go_wp2;refine XK [13] ac K1 (bR _ _).drew (λo=> ?_);refine QQ ?_;refine QN 8 ?_;refine QN 9 ?_;refine av (i:=10) rfl ac (λK hK=> ?_);go_simp;go_at_call 151;go_call HT.out as e w1 ⟨rfl,wa,ad,rfl⟩;have al:n4 (R (M w)+1) (w.alloc (A #[I Y 14,I Y t,I Y a,I Y b,I Y n,I Y g] 100)) wa:=Below.trans (bR _ _).drew (Below.mono ad ae);have ao:(wa.setCell ⟨m,3,E⟩ (I Y (w64 (s.taken+1)))).cell? ⟨m,1,E⟩=G (U (G ⟨gb,0,E⟩) (X s.vq) af)/\(wa.setCell ⟨m,3,E⟩ (I Y (w64 (s.taken+1)))).cell? ⟨R (M w),1,E⟩=G (I Y t)/\(wa.setCell ⟨m,3,E⟩ (I Y (w64 (s.taken+1)))).cell? ⟨R (M w),4,E⟩=G (I Y n):=by
  obtain⟨s1,s2,s3⟩:=K1 _ al;refine⟨?_,?_,?_⟩
  .rw[q7 _ _ _ _ (by intro e;cases e)];exact s1
  .rw[J0 _ _ _ _ au];exact s2
  .rw[J0 _ _ _ _ au];exact s3
 go_wp2_with fail;refine hK.out _ _ ao (λo=> ?_);clear hK K;(try simp only[stp,j0]);refine av (i:=11) rfl ac (λK hK=> ?_);go_simp;go_at_call 145;go_call kQ _ _ as e w2 ⟨rfl,ay⟩;rw[a0];have ab:n4 (R (M (wa.setCell ⟨m,3,E⟩ (I Y (w64 (s.taken+1)))))) (wa.setCell ⟨m,3,E⟩ (I Y (w64 (s.taken+1)))) w2:=ay;have a6:R (M w)+1<=R (M wa):=by have:=al.size;simpa using this
 have hwz:R (M (wa.setCell ⟨m,3,E⟩ (I Y (w64 (s.taken+1)))))=R (M wa):=bI;have az:w2.cell? ⟨m,1,E⟩=G (U (G ⟨gb,0,E⟩) (X s.vq) af)/\w2.cell? ⟨R (M w),1,E⟩=G (I Y t)/\w2.cell? ⟨R (M w),4,E⟩=G (I Y n):=by
  obtain⟨s1,s2,s3⟩:=ao;refine⟨?_,?_,?_⟩
  .rw[ab.cell sB];exact s1
  .rw[ab.cell sB];exact s2
  .rw[ab.cell sB];exact s3
 go_wp2_with fail;refine hK.out _ _ az (λo=> ?_);clear hK K;(try simp only[stp,j0]);refine QN 12 ?_;refine aM (i:=13) rfl ac ac (λK hK=> ?_);have oA:=h.below (hG.trans (ad.mono hG.size));have oB:=oA.setM 3 (w64 (s.taken+1)) aa;have oC:=oB.below ab;simp only[Nat.reduceEqDiff,if_true,if_false] at oC;obtain⟨a8,a3,e',-,-,T,zQ⟩:=oC.form (by simpa using(show 0 < X s.vq by omega));cases e';obtain⟨c0,c1⟩:=T t N;have d0:=gC;have d1:=gH;clear T zQ;go_simp;refine hK.out _ _ ?_;clear hK K;(try simp only[stp,j0]);refine aB ac ?_ _;go_wp2;go_ret;have a2:=h.low;have HW:n4 B w w2:=Below.trans ((Below.trans (hG.mono W) (ad.mono (by have:=hG.size;omega))).setCell a2 _) (ab.mono sB)
 refine⟨rfl,⟨_,_,_,_,oC.put t N ⟨1,gT ins s.taken n⟩⟩,(HW.setCell ap _).setCell ap _,λj hj=> ?_,?_⟩;rotate_left
 .refine dl (w1:=w2) ?_ HW.size (dU (bR _ _) gV _ _ _ _)
  refine dl (ed (hG.trans (ad.mono hG.size))) aa ?_;exact dl (nS fL _ _) aa (ed ab)
 rw[rH _ _ _ _ _ _ _ _ am,ab.cell sB,q7 _ _ _ _ pC,ad.cell au,hG.cell mR]
def a5l(x:Nat)(s:St)(H u D:mh)(r:List mh)(t b n g:Int)(w:C)(h:a7a w B m s H u D r)(W:B<=R (M w))(o:x < X s.vq)(T:Nat)(N:cS T s.vq[x]):
  Calls pG 86 #[Pp (G ⟨m,0,E⟩),Ag #[I Y 17,I Y t,I Y x,I Y b,I Y n,I Y g]] w λe w'=>e=Rt (I Y (if cnt s.vq[x]=W5 then 0 else 3))/\a7p w w' B m (aP m H u D r) s:=by
 have hm:=bV;have z1:=eS;obtain⟨gb,ak,rfl,az,al,ab,ao⟩:=dC;have q1:=h.vars_;have z2:=eR;obtain⟨ap,ar⟩:=ab x o;have ay:=iu;have a0:=iv;have K1:∀wx,n4 (R (M w)+1) (w.alloc (A #[I Y 17,I Y t,I Y x,I Y b,I Y n,I Y g] 100)) wx->wx.cell? ⟨m,1,E⟩=G (U (G ⟨gb,0,E⟩) (X s.vq) ak)/\wx.cell? ⟨R (M w),2,E⟩=G (I Y x)/\wx.cell? ⟨gb,x * 2,E⟩=G (I Y s.vq[x].k)/\wx.cell? ⟨gb,x * 2+1,E⟩=G (I Y s.vq[x].n):=by
  intro wx Z;rw[Z.cell gp,Z.cell ae,Z.cell fr,Z.cell fr];simp[go_sem,hm,q1,al,ap,ar]
 clear ab;have HC:=aL (λwx=>vI T _ wx N);generalize cnt s.vq[x]=cv at *;go_enter func86,ntmps86;go_wp2;refine XK [] ac K1 (bR _ _).drew (λad=> ?_);refine QQ ?_;refine QN 8 ?_;refine av (i:=9) rfl ac (λK hK=> ?_);go_simp;go_at_call 148;go_call HC.out _ as e w1 ⟨rfl,ax⟩;have af:n4 (R (M w)+1) (w.alloc (A #[I Y 17,I Y t,I Y x,I Y b,I Y n,I Y g] 100)) w1:=Below.trans (bR _ _).drew (Below.mono ax ae);go_wp2_with fail;refine hK.out _ _ (K1 _ af) (λad=> ?_);clear hK K;(try simp only[stp,j0]);refine QN 10 ?_;refine aB ac ?_ _;have HW:n4 (R (M w)) w w1:=Below.trans ai (af.mono (Nat.le_succ _));have HO:=h.below HW;have HM:=HW.mono W;have HE:∀j,w1.cell? ⟨m,j,E⟩=w.cell? ⟨m,j,E⟩:=λj=>HW.cell hm;have HX:=aL (And.intro HO (And.intro HM (And.intro HE HW)));clear HO HM HE h;cases cv;all_goals
  go_wp2;go_ret;exact RL

def tC(h:p:=by
 have HX:=aL (And.intro (h.below HW) (And.intro (HW.mono hB) (And.intro hc HW)));clear h hc HW;go_enter func86,ntmps86;go_wp2;go_ret;exact⟨rfl,⟨_,_,_,_,HX.out.1⟩,HX.out.2.1,λj _=>HX.out.2.2.1 j,ed HX.out.2.2.2⟩):=h
section
variable (s:St)(H u D:mh)(r:List mh)(t a b n g:Int)(w:C)(h:a7a w B m s H u D r)(hB:B<=R (M w))
def a5N:
  Calls pG 86 #[Pp (G ⟨m,0,E⟩),Ag #[I Y 15,I Y t,I Y a,I Y b,I Y n,I Y g]] w λe w'=>e=Rt (I Y 0)/\a7p w w' B m (aP m H u D r) s:=by
 have T:=bV;have HW:n4 (R (M w)) w (w.alloc (A #[I Y 15,I Y t,I Y a,I Y b,I Y n,I Y g] 100)):=ai;have hc:∀j,(w.alloc (A #[I Y 15,I Y t,I Y a,I Y b,I Y n,I Y g] 100)).cell? ⟨m,j,E⟩=w.cell? ⟨m,j,E⟩:=λj=>HW.cell T;exact tC

def a5B:
  Calls pG 86 #[Pp (G ⟨m,0,E⟩),Ag #[I Y 16,I Y t,I Y a,I Y b,I Y n,I Y g]] w λe w'=>e=Rt (I Y 0)/\a7p w w' B m (aP m H u D r) s:=by
 have T:=bV;have HW:=OI;have hc:∀j,(w.alloc (A #[I Y 16,I Y t,I Y a,I Y b,I Y n,I Y g] 100)).cell? ⟨m,j,E⟩=w.cell? ⟨m,j,E⟩:=λj=>HW.cell T;exact tC

def a5i:
  Calls pG 86 #[Pp (G ⟨m,0,E⟩),Ag #[I Y 19,I Y t,I Y a,I Y b,I Y n,I Y g]] w λe w'=>e=Rt (I Y 1)/\a7p w w' B m (aP m H u D r) s:=by
 have T:=bV;have HW:n4 (R (M w)) w (w.alloc (A #[I Y 19,I Y t,I Y a,I Y b,I Y n,I Y g] 100)):=ai;have hc:∀j,(w.alloc (A #[I Y 19,I Y t,I Y a,I Y b,I Y n,I Y g] 100)).cell? ⟨m,j,E⟩=w.cell? ⟨m,j,E⟩:=λj=>HW.cell T;exact tC
end
def FO(h:p:=by
 go_enter func87,ntmps87;go_wp2
 go_quiet (fail)
 go_wp2;go_ret;exact⟨rfl,HW.trans (below_drewN (bR _ _) _)⟩):=h
def a0o(s:St)(H u D:mh)(r:List mh)(k t a b n g:Int)(w:C)(h:a7a w B m s H u D r)(i:k≠15)(o:k≠16)(j:0<=s.at_)(W:s.at_<=60):
  Calls pG 87 #[Pp (G ⟨m,0,E⟩),Ag #[I Y k,I Y t,I Y a,I Y b,I Y n,I Y g]] w λe w'=>e=Rt (I Y (s.at_+1))/\bl w w':=by
 have T:=bV;have K:=h.at_;have P:(k==15)=false:=by simpa using i
 have N:(k==16)=false:=by simpa using o
 have HW:n4 (R (M w)) w (w.alloc (A #[I Y k,I Y t,I Y a,I Y b,I Y n,I Y g] 100)):=ai;have q:(w.alloc (A #[I Y k,I Y t,I Y a,I Y b,I Y n,I Y g] 100)).cell? ⟨m,0,E⟩=G (I Y s.at_):=by rw[HW.cell (by simpa using T)];exact K
 have x0:(w.alloc (A #[I Y k,I Y t,I Y a,I Y b,I Y n,I Y g] 100)).cell? ⟨R (M w),0,E⟩=G (I Y k):=aE;clear h;exact FO
def Yy(t a b n g:Int)(w:C):
  Calls pG 87 #[Pp (G ⟨m,0,E⟩),Ag #[I Y 16,I Y t,I Y a,I Y b,I Y n,I Y g]] w λe w'=>e=Rt (I Y g)/\bl w w':=by
 have HW:=OI;have x0:(w.alloc (A #[I Y 16,I Y t,I Y a,I Y b,I Y n,I Y g] 100)).cell? ⟨R (M w),0,E⟩=G (I Y 16):=aE;exact FO
def a4O(x:Nat)(s:St)(H u D:mh)(r:List mh)(t b n g:Int)(w:C)(h:a7a w B m s H u D r)(o:x < X s.vq)(T:Nat)(N:cS T s.vq[x])(j:0<=s.at_)(W:s.at_<=60):
  Calls pG 87 #[Pp (G ⟨m,0,E⟩),Ag #[I Y 15,I Y t,I Y x,I Y b,I Y n,I Y g]] w λe w'=>e=Rt (I Y (bif cnt s.vq[x] then g else s.at_+1))/\bl w w':=by
 have hm:=bV;have q0:=h.at_;have q1:=h.vars_;obtain⟨gb,ah,rfl,az,al,ab,am⟩:=dC;obtain⟨ao,ap⟩:=ab x o;have ay:=iu;have a0:=iv;have HW:n4 (R (M w)) w (w.alloc (A #[I Y 15,I Y t,I Y x,I Y b,I Y n,I Y g] 100)):=ai;have KZ:∀wx,n4 (R (M w)+1) (w.alloc (A #[I Y 15,I Y t,I Y x,I Y b,I Y n,I Y g] 100)) wx->wx.cell? ⟨m,1,E⟩=G (U (G ⟨gb,0,E⟩) (X s.vq) ah)/\wx.cell? ⟨R (M w),0,E⟩=G (I Y 15)/\wx.cell? ⟨R (M w),2,E⟩=G (I Y x)/\wx.cell? ⟨gb,x * 2,E⟩=G (I Y s.vq[x].k)/\wx.cell? ⟨gb,x * 2+1,E⟩=G (I Y s.vq[x].n):=by
  intro wx Z;rw[Z.cell au,Z.cell ae,Z.cell ae,Z.cell au,Z.cell au];simp[go_sem,hm,q1,al,ao,ap]
 have ak:(w.alloc (A #[I Y 15,I Y t,I Y x,I Y b,I Y n,I Y g] 100)).cell? ⟨m,0,E⟩=G (I Y s.at_):=by rw[HW.cell (by simpa using hm)];exact q0
 have HC:=aL (λwx=>vI T _ wx N);clear h ab q1;generalize cnt s.vq[x]=cv at *;go_enter func87,ntmps87;go_wp2;refine XK [] ac KZ (bR _ _).drew (λaf=> ?_);refine QQ ?_;refine QS ?_;refine XH ?_;refine QN 16 ?_;refine av (i:=17) rfl ac (λK hK=> ?_);go_simp;go_at_call 148;go_call HC.out _ as e w1 ⟨rfl,ar⟩;have ad:n4 (R (M w)+1) (w.alloc (A #[I Y 15,I Y t,I Y x,I Y b,I Y n,I Y g] 100)) w1:=Below.trans (bR _ _).drew (Below.mono ar ae);go_wp2_with fail;refine hK.out _ _ (KZ _ ad) (λaf=> ?_);clear hK K;refine sm ?_;refine QN 18 ?_;refine QN 19 ?_;refine aB ac ?_ _;have ax:w1.cell? ⟨m,0,E⟩=G (I Y s.at_):=by rw[ad.cell (by simp;omega)];exact ak
 have x5:w1.cell? ⟨R (M w),5,E⟩=G (I Y g):=by rw[ad.cell (by simp)];simp[go_sem]
 have HF:=HW.trans (ad.mono (Nat.le_succ _));cases cv;all_goals
  go_wp2;go_ret;exact⟨rfl,HF⟩
end
section
def sV:∀{l:List Int},dQ l=W5->l.Pairwise (· < ·)
 |[],_=>List.Pairwise.nil
 |[a],_=>List.pairwise_singleton _ _
 |a::b::r,h=>by
  unfold dQ at h;rw[Bool.and_eq_true,decide_eq_true_eq] at h;have e:=sV h.2;rw[j8];refine⟨λx o=> ?_,e⟩;rcases j2.1 o with rfl|o
  .exact h.1
  .have:=(j8.1 e).1 x o
   omega
def ld:∀{a b:List Int},a.Pairwise (· < ·)->b.Pairwise (· < ·)->(∀x∈a,x∈b)->X a<=X b/\(X a=X b->a=b)
 |[],b,_,_,_=>⟨j7 _,λh=>(List.length_eq_zero_iff.1 h.symm).symm⟩
 |x::r,[],_,_,h=>absurd (h x ae) ae
 |x::r,y::q,ha,hb,h=>by
  obtain⟨K,P⟩:=j8.1 ha;obtain⟨S,Q⟩:=j8.1 hb;by_cases e:x=y
  .subst e
   have hs:∀z∈r,z∈q:=λz t=>by
    rcases j2.1 (h z (by simp[t])) with rfl|hq
    .exact absurd (K z t) aa
    .exact hq
   obtain⟨u,D⟩:=ld P Q hs;refine⟨by simp only[z3];omega,λm=> ?_⟩;rw[D (by simpa using m)]
  .have i:y < x:=by
    rcases j2.1 (h x ae) with rfl|hq
    .exact absurd rfl e
    .exact S x hq
   have hs:∀z∈x::r,z∈q:=λz t=>by
    rcases j2.1 (h z t) with rfl|hq
    .rcases j2.1 t with rfl|t
     .exact absurd rfl e
     .exact absurd (K z t) aa
    .exact hq
   obtain⟨u,D⟩:=ld ha Q hs;simp only[z3] at u |-;exact⟨aa,λm=>aa⟩
def TO {a b:List Int}(j:a.Pairwise (· < ·))(Z:b.Pairwise (· < ·))(h:∀x,x∈a↔x∈b):a=b:=by
 obtain⟨u,D⟩:=ld j Z λx o=>(h x).1 o;obtain⟨H,_⟩:=ld Z j λx o=>(h x).2 o;exact D aa
section
variable {s t:Sp}(hs:s.Ok)(N:t.Ok)(h:gP t s=W5)
def a1i:bw s t=s:=by
 obtain⟨_,_,j,o⟩:=hs;obtain⟨_,_,a,i⟩:=N;rw[fV i] at h;unfold bw;obtain⟨q,Q,T⟩:=s;obtain⟨m,S,P⟩:=t;simp only at h j a o i |-;rcases h with h|⟨u,D,H⟩
 .subst h
  obtain⟨rfl,rfl⟩:=a rfl;cases q with
  |true=>obtain⟨rfl,rfl⟩:=j rfl;rfl
  |false=>rfl
 .subst u
  cases m with
  |true=>rfl
  |false=>
   simp only[j5,if_false,Sp.mk.injEq,true_and];omega
def a0N:bH s t=s:=by
 obtain⟨_,_,j,o⟩:=hs;obtain⟨_,_,a,i⟩:=N;rw[fV i] at h;unfold bH;obtain⟨q,Q,T⟩:=s;obtain⟨m,S,P⟩:=t;simp only at h j a o i |-;rcases h with h|⟨u,D,H⟩
 .subst h
  obtain⟨rfl,rfl⟩:=a rfl;cases q with
  |true=>obtain⟨rfl,rfl⟩:=j rfl;rfl
  |false=>rfl
 .subst u
  cases m with
  |true=>rfl
  |false=>
   simp only[j5,if_false,Sp.mk.injEq,true_and];rw[if_neg aa,if_neg aa];exact⟨rfl,rfl⟩
end
section
variable {c:lI} {g h k:Gs} {w:Bool}
section
variable (a:aH c g=0)
def ru:g.s.Pairwise (· < ·):=sV (ckGs_iff.1 a).2.2
def FZ:dX g g=true:=by
 rw[inGs_iff,fV (sK a)];refine⟨id,id,id,?_,λ_ h=>h⟩;cases g.sp.n
 .exact .inr ⟨rfl,aa,aa⟩
 .exact .inl rfl
def Gl(i:aH c h=0)(u:dX g h=W5)(D:dX h k=W5):dX g k=true:=by
 rw[inGs_iff,fV (sK a)] at u;rw[inGs_iff,fV (sK i)] at D;rw[inGs_iff,fV (sK a)];obtain⟨K,P,q,H,m⟩:=u;obtain⟨S,Q,Z,T,W⟩:=D;refine⟨λe=>S (K e),λe=>Q (P e),λe=>Z (q e),?_,λx o=>W x (m x o)⟩;rcases H with H|⟨H,B,s⟩
 .exact .inl H
 .rcases T with T|⟨T,r,j⟩
  .rw[H] at T;cases T
  .exact .inr ⟨T,aa,aa⟩
end
def Cw (W:X c<=60)(a:aH c g=0)(i:aH c h=0)(hi:dX h g=W5):aj w g h=g:=by
 obtain⟨K,P,q,H,m⟩:=inGs_iff.1 hi;have t:=(ckGs_iff.1 a).1;have s:=(ckGs_iff.1 i).1;have T:(if w then bH g.sp h.sp else bw g.sp h.sp)=g.sp:=by
  cases w
  .exact a1i t s H
  .exact a0N t s H
 have r:kV g.s h.s=g.s:=by
  refine TO (Ab _ _) (ru a) λx=> ?_;rw[mem_siteSet];constructor
  .rintro ⟨_,o|o⟩
   .exact o
   .exact m x o
  .intro o
   have:=eI ((ckGs_iff.1 a).2.1 x o);exact⟨⟨this.1,aa⟩,.inl o⟩
 unfold aj;rw[T,r];obtain⟨Q,e,B,S,gs⟩:=g;obtain⟨u,j,N,D,hs⟩:=h;simp only at K P q |-;cases Q<;>cases u<;>cases B<;>cases N<;>cases S<;>cases D<;>simp_all
end
def Ae (s:Sp):Nat:=if s.n then 8589934592 else(s.lo+2147483648).toNat+(2147483647 - s.hi).toNat
def nZ (g:Gs):Nat:=b2n (!g.n)+b2n (!g.t)+b2n (!g.f)+(60 - X g.s)+Ae g.sp
def AK (l:List Gs):Nat:=(l.map nZ).sum
def a2w (l:List (List Gs)):Nat:=(l.map AK).sum
def lh (x:Pic):Nat:=if x.none then 2000000000000 else AK x.vq+a2w x.fq
def lO (l:List Pic):Nat:=(l.map lh).sum
def a4J {s t:Sp}(hs:s.Ok)(N:t.Ok)(h:gP s t=W5):Ae t<=Ae s/\(Ae t=Ae s->s=t):=by
 obtain⟨⟨r,K⟩,⟨B,Z⟩,j,o⟩:=hs;obtain⟨⟨t1,t2⟩,⟨t3,W⟩,a,i⟩:=N;rw[fV o] at h;unfold Ae;obtain⟨q,Q,T⟩:=s;obtain⟨m,S,P⟩:=t;simp only at h r K B Z j o t1 t2 t3 W a i |-;rcases h with h|⟨u,D,H⟩
 .subst h
  obtain⟨rfl,rfl⟩:=j rfl;cases m with
  |true=>obtain⟨rfl,rfl⟩:=a rfl;simp
  |false=>
   simp only[j5,if_false,if_true];exact⟨aa,λe=>aa⟩
 .subst u
  cases q with
  |true=>
   simp only[j5,if_false,if_true];exact⟨aa,λe=>aa⟩
  |false=>
   simp only[j5,if_false,Sp.mk.injEq,true_and];exact⟨aa,λe=>aa⟩
def Ki {a b:Bool}(h:a=W5->b=W5):b2n (!b)<=b2n (!a)/\(b2n (!b)=b2n (!a)->a=b):=by
 cases a<;>cases b<;>simp_all[b2n]
def Ve{g h:Gs}(W:X c<=60)(a:aH c g=0)(i:aH c h=0)(hi:dX g h=W5):nZ h<=nZ g/\(nZ h=nZ g->g=h):=by
 obtain⟨K,P,q,H,m⟩:=inGs_iff.1 hi;obtain⟨S,ak⟩:=Ki K;obtain⟨Q,ad⟩:=Ki P;obtain⟨Z,af⟩:=Ki q;obtain⟨b4,ab⟩:=a4J (ckGs_iff.1 a).1 (ckGs_iff.1 i).1 H;obtain⟨b5,ah⟩:=ld (ru a) (ru i) m;have h6:X h.s<=60:=by
  have t:=ru i;have B:∀x∈h.s,x∈((j1 60).map λn:Nat=>(n:Int)):=λx o=>by
   have:=eI ((ckGs_iff.1 i).2.1 x o);rw[x9];exact⟨x.toNat,by rw[List.mem_range];omega,aa⟩
  have h7:=(ld t (b:=(j1 60).map λn:Nat=>(n:Int)) (by rw[List.pairwise_map];exact List.pairwise_lt_range.imp λh=>by omega) B).1;simpa using h7
 unfold nZ;refine⟨by omega,λe=> ?_⟩;have T:=ak aa;have r:=ad aa;have e3:=af aa;have s:=ab aa;have e5:=ah aa;obtain⟨gn,al,gt,gf,gs⟩:=g;obtain⟨u,j,N,D,hs⟩:=h;simp only at T r e3 s e5;rw[T,r,e3,s,e5]
def IB {α:Type}(f:α->Nat):∀{a b:List α},X a=X b->(∀i (u:i < X a) (D:i < X b),f b[i]<=f a[i]/\(f b[i]=f a[i]->a[i]=b[i]))->(b.map f).sum<=(a.map f).sum/\((b.map f).sum=(a.map f).sum->a=b)
 |[],[],_,_=>⟨lR _,λ_=>rfl⟩
 |[],_::_,h,_=>fk
 |_::_,[],h,_=>fk
 |x::a,y::b,hl,h=>by
  obtain⟨u,D⟩:=IB f (a:=a) (b:=b) (by simpa using hl) λi m K=>by
   have:=h (i+1) au au;simpa using this
  have j:=h 0 ae ae;simp only[J1] at j;simp only[j9,q3];refine⟨by omega,λe=> ?_⟩;rw[j.2 aa,D aa]
def Av {α:Type}(f:α->Nat)(m:Nat):∀{a:List α},(∀x∈a,f x<=m)->(a.map f).sum<=X a * m
 |[],_=>ae
 |x::a,h=>by
  have:=Av f m (a:=a) λy H=>h y (by simp[H]);have:=h x ae;simp only[j9,q3,z3,Nat.add_mul];omega
def UY {α:Type}(f:α->Nat):∀{a:List α} {k:Nat} {y:α} (hk:k < X a),f y < f a[k]->((a.set k y).map f).sum < (a.map f).sum
 |[],_,_,hk,_=>absurd hk ae
 |x::a,0,y,_,h=>by simp only[J1] at h;simp only[List.set_cons_zero,j9,q3];omega
 |x::a,k+1,y,hk,h=>by
  have:=UY f (a:=a) (k:=k) (y:=y) gw cn;simp only[List.set_cons_succ,j9,q3];omega
def a3E {s:Sp}(h:s.Ok):Ae s<=8589934592:=by
 obtain⟨⟨r,K⟩,⟨B,Z⟩,j,o⟩:=h;unfold Ae;split<;>omega
def NB:b2n b<=1:=by cases b<;>decide
def U6{g:Gs}(h:aH c g=0):nZ g<=8600000000:=by
 have:=a3E (ckGs_iff.1 h).1;have:=NB (!g.n);have:=NB (!g.t);have:=NB (!g.f);unfold nZ;omega
section
variable {V F:Int} {c:lI} {x y z:Pic} {w:Bool}
def Lj (j:aA V F c=0)(o:a7y V F c x):lh x < 2000000000000:=by
 have t:=cU j;have u:=t.v8;have D:=t.f3;have H:=t.len;have K:=o.vq;have P:=o.fq;obtain⟨e,s⟩:∃e:Nat,e=8600000000:=⟨_,rfl⟩;have S:AK x.vq<=X x.vq * e:=Av nZ e λg a=>by rw[s];exact U6 (o.gv g a)
 have Q:∀r∈x.fq,AK r<=3 * e:=λr B=>by
  obtain⟨k,N,rfl⟩:=List.getElem_of_mem B;have q:AK x.fq[k]<=X x.fq[k] * e:=Av nZ e λg a=>by rw[s];exact U6 (o.gf k N g a)
  have:=o.row k N;have h8:X x.fq[k]<=3:=aa;exact lT q (q4 _ h8)
 have Z:a2w x.fq<=X x.fq * (3 * e):=Av AK _ Q;have i:X x.vq<=8:=aa;have T:X x.fq<=60:=aa;have W:X x.vq * e<=8 * e:=q4 _ i;have m:X x.fq * (3 * e)<=60 * (3 * e):=q4 _ T;unfold lh;rw[if_neg (by rw[o.none];decide)];omega
def VG (j:aA V F c=0)(o:aO V F c x=0):lh x<=2000000000000:=by
 cases hn:x.none with
 |true=>unfold lh;rw[if_pos hn];exact lR _
 |false=>exact Nat.le_of_lt (Lj j (cO o hn))
def H8 (o:aO V F c x=0):bu x x=true:=by
 cases hn:x.none with
 |true=>simp[bu,hn]
 |false=>
  have m:=cO o hn;rw[g7 hn hn];exact⟨λi u _=>FZ (m.gv _ (gM _)),λk u _ i H _=>FZ (m.gf k u _ (gM _))⟩
def oc {x y:Pic}(h:bu x y=W5)(u:x.none=d):y.none=false:=by
 cases e:y.none with
 |false=>rfl
 |true=>simp[bu,e,u] at h
def nD (o:aO V F c x=0)(H:aO V F c y=0)(t:aO V F c z=0)(u:bu x y=W5)(D:bu y z=W5):bu x z=true:=by
 cases hn:x.none with
 |true=>simp[bu,hn]
 |false=>
  have T:=oc u hn;have W:=oc D T;have m:=cO o hn;have Z:=cO H T;have e:=cO t W;have:=m.vq;have:=Z.vq;have:=e.vq;have:=m.fq;have:=Z.fq;have:=e.fq;obtain⟨K,P⟩:=(g7 hn T).1 u;obtain⟨S,Q⟩:=(g7 T W).1 D;rw[g7 hn W];refine⟨λi p q=> ?_,λk p q i r s=> ?_⟩
  .have a:i < X y.vq:=by omega
   exact Gl (m.gv _ (gM p)) (Z.gv _ (gM a)) (K i p a) (S i a q)
  .have a:k < X y.fq:=by omega
   have:=m.row k p;have:=Z.row k a;have B:i < X y.fq[k]:=aa;exact Gl (m.gf k p _ (gM r)) (Z.gf k a _ (gM B)) (P k p a i r B) (Q k a q i B s)
section
variable (j:aA V F c=0)(o:aO V F c x=0)(H:aO V F c y=0)
def Om(hi:bu y x=W5):aI (aj w) x y=x:=by
 have W:=(cU j).len;unfold aI;cases hm:y.none with
 |true=>
  have a:=(ox hm).1 H;subst a;cases u:x.none with
  |true=>rw[(ox u).1 o];rfl
  |false=>rfl
 |false=>
  have u:=oc hi hm;rw[u];simp only[j5,if_false];have m:=cO o u;have Z:=cO H hm;have:=m.vq;have:=Z.vq;have:=m.fq;have:=Z.fq;obtain⟨K,P⟩:=(g7 hm u).1 hi;have v1:=m.vq;have v2:=m.fq;obtain⟨e,xv,t⟩:=x;simp only at u v1 v2;subst u;simp only[Pic.mk.injEq,true_and];constructor
  .refine z4 (by simp only[aX,z5];omega) λi p q=> ?_
   simp only[aX,z6];exact Cw W (m.gv _ (gM _)) (Z.gv _ (gM _)) (K i _ _)
  .refine z4 (by simp only[z5];omega) λk p q=> ?_
   have N:k < X y.fq:=aa;have B:=m.row k q;have D:=Z.row k N;simp only[z6];refine z4 (by simp only[aX,z5];simp only at B;omega) λi r s=> ?_;simp only[aX,z6];exact Cw W (m.gf k q _ (gM _)) (Z.gf k N _ (gM _)) (P k N q i _ _)
def sr:aI (aj w) x y=x↔bu y x=true:=by
 constructor
 .intro h
  have:=(vw (w:=w) (cU j).len o H).2;rw[h] at this;exact this
 .exact Om j o H
def a4F(hi:bu x y=W5):lh y<=lh x/\(lh y=lh x->x=y):=by
 have W:=(cU j).len;cases hn:x.none with
 |true=>
  have u:=(ox hn).1 o;refine⟨by have:=VG j H;unfold lh at this |-;rw[if_pos hn];exact this,λe=> ?_⟩;cases T:y.none with
  |true=>rw[u,(ox T).1 H]
  |false=>
   have:=Lj j (cO H T);rw[e] at this;unfold lh at this;rw[if_pos hn] at this;omega
 |false=>
  have T:=oc hi hn;have m:=cO o hn;have Z:=cO H T;have:=m.vq;have:=Z.vq;have:=m.fq;have:=Z.fq;obtain⟨K,P⟩:=(g7 hn T).1 hi;have S:=IB nZ (a:=x.vq) (b:=y.vq) aa λi p q=>Ve W (m.gv _ (gM _)) (Z.gv _ (gM _)) (K i p q);have Q:=IB AK (a:=x.fq) (b:=y.fq) aa λk p q=>by
   have:=m.row k p;have:=Z.row k q;exact IB nZ aa λi r s=>Ve W (m.gf k p _ (gM _)) (Z.gf k q _ (gM _)) (P k p q i r s)
  unfold lh AK a2w;rw[if_neg (by rw[T];decide),if_neg BM];refine⟨by omega,λe=> ?_⟩;have e1:=S.2 aa;have e2:=Q.2 aa;obtain⟨xn,xv,t⟩:=x;obtain⟨D,N,B⟩:=y;simp only at hn T e1 e2;rw[hn,T,e1,e2]
def a0u(hi:bu y x=d):lh (aI (aj w) x y) < lh x:=by
 have q:=IJ (w:=w) o H;have u:=a4F j o q (vw (w:=w) (cU j).len o H).1;have D:aI (aj w) x y≠x:=λe=>by rw[(sr j o H).1 e] at hi;cases hi
 rcases Nat.lt_or_eq_of_le u.1 with h|h
 .exact h
 .exact absurd (u.2 h).symm D
end
end
def bp (l:List Pic)(p:Int):Pic:=l.getD p.toNat a7q
def dV (n i tto:Int):Bool:=decide (4<=n)&&decide (tto<=i)
def cB (n i:Int)(s:List Pic×Bool)(e:Edg):List Pic×Bool:=
 if bu e.pic (bp s.1 e.tgt) then s else(s.1.set e.tgt.toNat (aI (aj (dV n i e.tgt)) (bp s.1 e.tgt) e.pic),true)
def cZ (c:lI)(i:Nat)(x:Pic):List Edg:=(aD (bS c i) i x).1
def eT (c:lI)(n:Int)(s:List Pic×Bool)(i:Nat):List Pic×Bool:=(cZ c i (bp s.1 i)).foldl (cB n i) s
def eC (c:lI)(n:Int)(l:List Pic):List Pic×Bool:=(j1 (X c)).foldl (eT c n) (l,false)
def dk (n i:Int)(s:List Pic×List Int×Bool)(e:Edg):List Pic×List Int×Bool:=
 if bu e.pic (bp s.1 e.tgt) then s else(s.1.set e.tgt.toNat (aI (aj (dV n i e.tgt)) (bp s.1 e.tgt) e.pic),s.2.1.set e.tgt.toNat (if i < e.tgt then n else n+1),true)
def kY (c:lI)(n:Int)(s:List Pic×List Int×Bool)(i:Nat):List Pic×List Int×Bool:=if s.2.1.getD i 0=n then(cZ c i (bp s.1 i)).foldl (dk n i) s else s
def ia (c:lI)(n:Int)(s:List Pic×List Int):List Pic×List Int×Bool:=(j1 (X c)).foldl (kY c n) (s.1,s.2,false)

structure a8c (V F:Int) (c:lI) (l:List Pic):Prop where
 len:l.length=c.length+1
 ck:∀x∈l,aO V F c x=0
def iD (c:lI)(l:List Pic)(i:Nat):Prop:=∀e∈cZ c i (bp l i),bu e.pic (bp l e.tgt)=true
def LeX (l l':List Pic):Prop:=X l'=X l/\∀p:Int,bu (bp l p) (bp l' p)=true
section
variable {V F:Int} {c:lI} {l l' l2:List Pic} {n:Int}
def ku {k:Nat}(h:k < X l):bp l (k:Int)=l[k]:=by unfold bp;simp[j6,h]
section
variable (h:a8c V F c l)
def a8c.at(p:Int):aO V F c (bp l p)=0:=by
 unfold bp;by_cases t:p.toNat < X l
 .simp only[j6,z9 t,Option.getD_some]
  exact h.ck _ (gM t)
 .simp only[j6,J2 (Nat.not_lt.1 t),Option.getD_none]
  rfl
def LeX.refl:LeX l l:=⟨rfl,λp=>H8 (h.at p)⟩
def LeX.trans(o:a8c V F c l')(D:a8c V F c l2)(a:LeX l l')(b:LeX l' l2):LeX l l2:=⟨by rw[b.1,a.1],λp=>nD (h.at p) (o.at p) (D.at p) (a.2 p) (b.2 p)⟩
end
def rS {p:Int}{q:Nat}{y:Pic}:bp (l.set q y) p=if q=p.toNat/\q < X l then y else bp l p:=by
 unfold bp;simp only[j6,J3];by_cases h:q=p.toNat
 .by_cases hq:q < X l
  .rw[if_pos h,if_pos hq,if_pos ⟨h,hq⟩];rfl
  .rw[if_pos h,if_neg hq,if_neg aa,J2 aa]
 .rw[if_neg h,if_neg aa]
def kT (V F:Int)(c:lI)(e:Edg):Prop:=aO V F c e.pic=0/\0<=e.tgt/\e.tgt<=X c
def kW (j:aA V F c=0){x:Pic}(o:aO V F c x=0){i:Nat}(hi:i < X c):∀e∈cZ c i x,kT V F c e:=λe r=>by
 have:=Yn (cU j) o (p:=(i:Int)) aa aa e r;exact⟨this.1,this.2.2.1,this.2.2.2⟩
def a8c.put (h:a8c V F c l){y:Pic}(H:aO V F c y=0)(q:Nat):a8c V F c (l.set q y):=⟨by rw[List.length_set];exact h.len,λx o=>by
 rcases List.mem_or_eq_of_mem_set o with o|rfl
 .exact h.ck x o
 .exact H⟩
def tU (j:aA V F c=0){s:List Pic×Bool}{i:Int}{e:Edg}(h:a8c V F c s.1)(r:kT V F c e):
  a8c V F c (cB n i s e).1/\LeX s.1 (cB n i s e).1/\bu e.pic (bp (cB n i s e).1 e.tgt)=W5/\((cB n i s e).2=d->s.2=d/\(cB n i s e).1=s.1)/\((cB n i s e).1=s.1/\(cB n i s e).2=s.2\/(cB n i s e).2=W5/\lO (cB n i s e).1 < lO s.1):=by
 unfold cB;by_cases hi:bu e.pic (bp s.1 e.tgt)=W5
 .rw[if_pos hi]
  exact⟨h,LeX.refl h,hi,λD=>⟨D,rfl⟩,.inl ⟨rfl,rfl⟩⟩
 .rw[if_neg hi]
  have B:bu e.pic (bp s.1 e.tgt)=false:=gA;have a:=h.at e.tgt;have q:=IJ (w:=dV n i e.tgt) a r.1;have u:=vw (w:=dV n i e.tgt) (cU j).len a r.1;have m:=h.len;have hq:e.tgt.toNat < X s.1:=by have:=r.2;omega
  refine⟨h.put q _,⟨ae,λp=> ?_⟩,?_,(λD=>by cases D),.inr ⟨rfl,?_⟩⟩
  .rw[rS]
   split
   .rename_i t
    have:bp s.1 p=bp s.1 e.tgt:=by unfold bp;rw[t.1]
    rw[this];exact u.1
   .exact H8 (h.at p)
  .rw[rS,if_pos ⟨rfl,hq⟩]
   exact u.2
  .have t:=a0u (w:=dV n i e.tgt) j a r.1 B
   have T:bp s.1 e.tgt=s.1[e.tgt.toNat]:=by unfold bp;simp[j6,hq]
   refine UY lh hq ?_;rw[T] at t |-;exact t
def Nd (j:aA V F c=0)(h:a8c V F c l)(o:a8c V F c l')(m:LeX l l'){i:Nat}(hi:i < X c)(hs:iD c l i)(e:bp l' i=bp l i):iD c l' i:=by
 intro q hq;rw[e] at hq;exact nD (kW j (h.at _) hi q hq).1 (h.at _) (o.at _) (hs q hq) (m.2 _)
def y8 (j:aA V F c=0){i:Int}:∀{L:List Edg} {s:List Pic×Bool},a8c V F c s.1->(∀e∈L,kT V F c e)->
  a8c V F c (L.foldl (cB n i) s).1/\LeX s.1 (L.foldl (cB n i) s).1/\(∀e∈L,bu e.pic (bp (L.foldl (cB n i) s).1 e.tgt)=W5)/\((L.foldl (cB n i) s).2=d->s.2=d/\(L.foldl (cB n i) s).1=s.1)/\((L.foldl (cB n i) s).1=s.1/\(L.foldl (cB n i) s).2=s.2\/(L.foldl (cB n i) s).2=W5/\lO (L.foldl (cB n i) s).1 < lO s.1)
 |[],s,h,_=>⟨h,LeX.refl h,λe r=>by simp at r,λD=>⟨D,rfl⟩,.inl ⟨rfl,rfl⟩⟩
 |e::L,s,h,hE=>by
  have r:=hE e ae;obtain⟨K,P,o,H,a⟩:=tU (n:=n) (i:=i) j h r;obtain⟨S,Q,Z,T,W⟩:=y8 j (i:=i) (L:=L) K λq hq=>hE q (by simp[hq]);rw[j3];refine⟨S,LeX.trans h K S P Q,λq hq=> ?_,λD=> ?_,?_⟩
  .rcases j2.1 hq with rfl|hq
   .exact nD r.1 (K.at _) (S.at _) o (Q.2 _)
   .exact Z q hq
  .obtain⟨u,N⟩:=T D
   obtain⟨m,B⟩:=H u;exact⟨m,by rw[N,B]⟩
  .rcases W with⟨u,N⟩|⟨u,N⟩
   .rcases a with⟨m,B⟩|⟨m,B⟩
    .exact .inl ⟨by rw[u,m],by rw[N,B]⟩
    .exact .inr ⟨by rw[N,m],by rw[u];exact B⟩
   .rcases a with⟨m,B⟩|⟨m,B⟩
    .exact .inr ⟨u,by rw[<-m];exact N⟩
    .exact .inr ⟨u,Nat.lt_trans N B⟩
def WG (j:aA V F c=0){s:List Pic×Bool}(h:a8c V F c s.1){i:Nat}(hi:i < X c):
  a8c V F c (eT c n s i).1/\LeX s.1 (eT c n s i).1/\((eT c n s i).2=d->s.2=d/\(eT c n s i).1=s.1/\iD c s.1 i)/\((eT c n s i).1=s.1/\(eT c n s i).2=s.2\/(eT c n s i).2=W5/\lO (eT c n s i).1 < lO s.1):=by
 obtain⟨K,P,q,H,m⟩:=y8 (n:=n) (i:=(i:Int)) j h (kW j (h.at _) hi);refine⟨K,P,λD=> ?_,m⟩;obtain⟨S,Q⟩:=H D;exact⟨S,Q,λe r=>by have:=q e r;rw[Q] at this;exact this⟩
def y9 (j:aA V F c=0):∀{k:Nat},k<=X c->∀{s:List Pic×Bool},a8c V F c s.1->
  a8c V F c ((j1 k).foldl (eT c n) s).1/\LeX s.1 ((j1 k).foldl (eT c n) s).1/\(((j1 k).foldl (eT c n) s).2=d->s.2=d/\((j1 k).foldl (eT c n) s).1=s.1/\∀i,i < k->iD c s.1 i)/\(((j1 k).foldl (eT c n) s).1=s.1/\((j1 k).foldl (eT c n) s).2=s.2\/((j1 k).foldl (eT c n) s).2=W5/\lO ((j1 k).foldl (eT c n) s).1 < lO s.1)
 |0,_,s,h=>⟨h,LeX.refl h,λD=>⟨D,rfl,λi hi=>absurd hi aa⟩,.inl ⟨rfl,rfl⟩⟩
 |k+1,hk,s,h=>by
  rw[J4,z7,j3,z8];obtain⟨K,P,q,H⟩:=y9 j (k:=k) aa h;obtain⟨S,Q,Z,T⟩:=WG (n:=n) j K (i:=k) aa;refine⟨S,LeX.trans h K S P Q,λD=> ?_,?_⟩
  .obtain⟨u,N,a⟩:=Z D
   obtain⟨m,B,o⟩:=q u;refine⟨m,by rw[N,B],λi hi=> ?_⟩;by_cases e:i=k
   .rw[e];rw[B] at a;exact a
   .exact o i aa
  .rcases T with⟨u,N⟩|⟨u,N⟩
   .rcases H with⟨m,B⟩|⟨m,B⟩
    .exact .inl ⟨by rw[u,m],by rw[N,B]⟩
    .exact .inr ⟨by rw[N,m],by rw[u];exact B⟩
   .rcases H with⟨m,B⟩|⟨m,B⟩
    .exact .inr ⟨u,by rw[<-m];exact N⟩
    .exact .inr ⟨u,Nat.lt_trans N B⟩
def nE (j:aA V F c=0)(h:a8c V F c l):
  a8c V F c (eC c n l).1/\LeX l (eC c n l).1/\((eC c n l).2=d->(eC c n l).1=l/\∀i,i < X c->iD c l i)/\((eC c n l).2=W5->lO (eC c n l).1 < lO l):=by
 obtain⟨K,P,q,H⟩:=y9 (n:=n) j (lR (X c)) (s:=(l,d)) h;refine⟨K,P,λD=>(q D).2,λN=> ?_⟩;rcases H with⟨_,b⟩|⟨_,b⟩
 .unfold eC at N
  rw[b] at N;cases N
 .exact b

structure Due (V F:Int) (c:lI) (n:Int) (i:Nat) (l:List Pic) (d:List Int):Prop where
 ok:a8c V F c l
 len:d.length=c.length+1
 set:∀k,k < c.length->(if k < i then d.getD k 0≠n+1 else d.getD k 0≠n)->iD c l k
def Ln {e:List Int}{q k:Nat}{y:Int}(hq:q < X e):(e.set q y).getD k 0=if q=k then y else e.getD k 0:=by
 simp only[j6,J3];by_cases h:q=k
 .rw[if_pos h,if_pos hq,if_pos h];rfl
 .rw[if_neg h,if_neg h]
structure a9h (V F:Int) (c:lI) (n:Int) (i:Nat) (x:Pic) (P:List Edg) (s:List Pic×List Int×Bool):Prop where
 ok:a8c V F c s.1
 len:s.2.1.length=c.length+1
 set:∀k,k < c.length->k≠i->(if k < i then s.2.1.getD k 0≠n+1 else s.2.1.getD k 0≠n)->iD c s.1 k
 own:s.2.1.getD i 0=n+1\/bp s.1 i=x
 past:∀e∈P,bu e.pic (bp s.1 e.tgt)=true
def tu {i:Int}{s:List Pic×List Int×Bool}{e:Edg}:((dk n i s e).1,(dk n i s e).2.2)=cB n i (s.1,s.2.2) e:=by
 unfold dk cB;split<;>rfl
def Cr {i:Int}:∀{B:List Edg} {s:List Pic×List Int×Bool},((B.foldl (dk n i) s).1,(B.foldl (dk n i) s).2.2)=B.foldl (cB n i) (s.1,s.2.2)
 |[],_=>rfl
 |e::B,s=>by rw[j3,j3,Cr,tu]
def a9h.step (j:aA V F c=0){i:Nat}(hi:i < X c){x:Pic}{P:List Edg}{s:List Pic×List Int×Bool}(h:a9h V F c n i x P s)(o:∀e∈P,kT V F c e){e:Edg}(r:kT V F c e):a9h V F c n i x (P++[e]) (dk n i s e):=by
 obtain⟨S,Q,Z,-,-⟩:=tU (n:=n) (i:=(i:Int)) (s:=(s.1,s.2.2)) j h.ok r;have T:(cB n i (s.1,s.2.2) e).1=(dk n i s e).1:=by rw[<-tu]
 rw[T] at S Q Z;have t:∀q∈P++[e],bu q.pic (bp (dk n i s e).1 q.tgt)=true:=λq hq=>by
  rcases q8.1 hq with hq|hq
  .exact nD (o q hq).1 (h.ok.at _) (S.at _) (h.past q hq) (Q.2 _)
  .rw[q9.1 hq];exact Z
 by_cases u:bu e.pic (bp s.1 e.tgt)=W5
 .have a:dk n i s e=s:=by unfold dk;rw[if_pos u]
  rw[a] at t |-;exact⟨h.ok,h.len,h.set,h.own,t⟩
 .have a:dk n i s e=(s.1.set e.tgt.toNat (aI (aj (dV n i e.tgt)) (bp s.1 e.tgt) e.pic),s.2.1.set e.tgt.toNat (if (i:Int) < e.tgt then n else n+1),W5):=by unfold dk;rw[if_neg u]
  have m:=h.len;have hq:e.tgt.toNat < X s.2.1:=by have:=r.2;omega
  have W:=r.2;rw[a] at S Q t |-;refine⟨S,by simpa using h.len,λk N K B=> ?_,?_,t⟩
  .simp only at B |-
   rw[Ln hq] at B;by_cases H:e.tgt.toNat=k
   .rw[if_pos H] at B
    exfalso;by_cases D:k < i
    .rw[if_pos D,if_neg aa] at B
     exact B rfl
    .rw[if_neg D,if_pos aa] at B
     exact B rfl
   .rw[if_neg H] at B
    refine Nd j h.ok S Q N (h.set k N K B) ?_;rw[rS,if_neg aa]
  .simp only
   rw[Ln hq];by_cases H:e.tgt.toNat=i
   .left
    rw[if_pos H,if_neg aa]
   .rw[if_neg H,rS,if_neg aa]
    exact h.own
def a9h.steps (j:aA V F c=0){i:Nat}(hi:i < X c){x:Pic}:∀{B P:List Edg} {s:List Pic×List Int×Bool},a9h V F c n i x P s->(∀e∈P,kT V F c e)->(∀e∈B,kT V F c e)->a9h V F c n i x (P++B) (B.foldl (dk n i) s)
 |[],P,s,h,_,_=>by rw[List.append_nil];exact h
 |e::B,P,s,h,hP,hE=>by
  have u:=h.step j hi hP (hE e ae);have D:=a9h.steps j hi (B:=B) u (λq hq=>by
   rcases q8.1 hq with hq|hq
   .exact hP q hq
   .rw[q9.1 hq];exact hE e ae) λq hq=>hE q (by simp[hq])
  rw[List.append_assoc] at D;exact D
def NP {s:List Pic×Bool}{i:Nat}(h:iD c s.1 i):eT c n s i=s:=by
 unfold eT;have:∀(a:List Edg),(∀e∈a,bu e.pic (bp s.1 e.tgt)=W5)->a.foldl (cB n i) s=s:=by
  intro a;induction a with
  |nil=>exact λ_=>rfl
  |cons e a ih=>
   intro m;rw[j3];have:cB n i s e=s:=by unfold cB;rw[if_pos (m e (by simp))]
   rw[this];exact ih λq hq=>m q (by simp[hq])
 exact this _ h
def GB(h:p:=by
 by_cases hki:k < i
 .rw[if_pos hki];rw[if_pos aa] at hh;exact hh
 .rw[if_neg hki];rw[if_neg aa] at hh;exact hh):=h
def Wz (j:aA V F c=0){i:Nat}(hi:i < X c){s:List Pic×List Int×Bool}(h:Due V F c n i s.1 s.2.1):Due V F c n (i+1) (kY c n s i).1 (kY c n s i).2.1/\((kY c n s i).1,(kY c n s i).2.2)=eT c n (s.1,s.2.2) i:=by
 unfold kY;by_cases B:s.2.1.getD i 0=n
 .rw[if_pos B]
  refine⟨?_,Cr⟩;have m:=kW j (h.ok.at (i:Int)) hi;have u:a9h V F c n i (bp s.1 i) [] s:=⟨h.ok,h.len,λk N _ hh=>h.set k N hh,.inr rfl,λe r=>by simp at r⟩;have D:=u.steps j hi (λe r=>by simp at r) m;rw[List.nil_append] at D;refine⟨D.ok,D.len,λk N hh=> ?_⟩;by_cases H:k=i
  .subst H
   rw[if_pos aa] at hh;rcases D.own with W|W
   .exact absurd W hh
   .intro e r
    rw[W] at r;exact D.past e r
  .refine D.set k N H ?_
   exact GB
 .rw[if_neg B]
  have hs:=h.set i hi (by rw[if_neg (by omega)];exact B);refine⟨⟨h.ok,h.len,λk N hh=> ?_⟩,(NP hs).symm⟩;by_cases H:k=i
  .rw[H];exact hs
  .refine h.set k N ?_
   exact GB
def Cz (j:aA V F c=0):∀{k:Nat},k<=X c->∀{s:List Pic×List Int×Bool},Due V F c n 0 s.1 s.2.1->Due V F c n k ((j1 k).foldl (kY c n) s).1 ((j1 k).foldl (kY c n) s).2.1/\(((j1 k).foldl (kY c n) s).1,((j1 k).foldl (kY c n) s).2.2)=(j1 k).foldl (eT c n) (s.1,s.2.2)
 |0,_,s,h=>⟨h,rfl⟩
 |k+1,hk,s,h=>by
  rw[J4,z7,j3,z8,z7,j3,z8];obtain⟨K,P⟩:=Cz j (k:=k) aa h;obtain⟨S,Q⟩:=Wz j (i:=k) aa K;exact⟨S,by rw[Q,P]⟩
def CT (j:aA V F c=0){e:List Int}(h:Due V F c n 0 l e):Due V F c (n+1) 0 (ia c n (l,e)).1 (ia c n (l,e)).2.1/\(ia c n (l,e)).1=(eC c n l).1/\(ia c n (l,e)).2.2=(eC c n l).2:=by
 obtain⟨K,P⟩:=Cz j (lR (X c)) (s:=(l,e,d)) h;refine⟨⟨K.ok,K.len,λk N i=> ?_⟩,congrArg Prod.fst P,congrArg Prod.snd P⟩;rw[if_neg aa] at i;exact K.set k N (by rw[if_pos N];exact i)

def nM (V F:Int)(c:lI):List Pic:=bK V F c::q5 (X c) a7q
def bj (V F:Int)(c:lI):Nat->List Pic
 |0=>nM V F c
 |m+1=>(eC c ((m+1:Nat):Int) (bj V F c m)).1
def a7x (V F:Int)(c:lI)(m:Nat):Prop:=(∀k,k < m->(eC c ((k+1:Nat):Int) (bj V F c k)).2=true)/\(eC c ((m+1:Nat):Int) (bj V F c m)).2=false
def a7x.one {m a:Nat}(h:a7x V F c m)(o:a7x V F c a):m=a:=by
 rcases Nat.lt_trichotomy m a with e|e|e
 .have:=o.1 m e;rw[h.2] at this;cases this
 .exact e
 .have:=h.1 a e;rw[o.2] at this;cases this
def Cx (j:aA V F c=0):a7y V F c (bK V F c):=by
 have t:=cU j;have u:=t.v1;have D:=t.f0;refine⟨rfl,by simp[bK];omega,by simp[bK],λk h=> ?_,λg a=> ?_,λk h g a=> ?_,λk h=>.inr λg a=> ?_⟩
 .simp[bK];omega
 .rw[q6 a];rfl
 .have e:g∈q5 F.toNat a4q:=by simpa[bK] using a
  rw[q6 e];rfl
 .have e:g∈q5 F.toNat a4q:=by simpa[bK] using a
  rw[q6 e];rfl
def nK (j:aA V F c=0):a8c V F c (nM V F c):=⟨by simp[nM],λx o=>by
 rcases j2.1 o with rfl|o
 .exact(Cx j).ck
 .rw[q6 o];rfl⟩
def eJ (j:aA V F c=0):∀m,a8c V F c (bj V F c m)
 |0=>nK j
 |m+1=>(nE j (eJ j m)).1
def AJ (j:aA V F c=0):∀m,LeX (nM V F c) (bj V F c m)
 |0=>LeX.refl (nK j)
 |m+1=>LeX.trans (nK j) (eJ j m) (eJ j (m+1)) (AJ j m) (nE j (eJ j m)).2.1
def a4W (j:aA V F c=0)(h:a8c V F c l):lO l<=200000000000000:=by
 obtain⟨e,s⟩:∃e:Nat,e=2000000000000:=⟨_,rfl⟩;have u:lO l<=X l * e:=Av lh e λx o=>by rw[s];exact VG j (h.ck x o)
 have D:=h.len;have H:=(cU j).len;have i:X l<=61:=aa;have T:X l * e<=61 * e:=q4 _ i;omega
def n8 (j:aA V F c=0):∀{m:Nat},(∀k,k < m->(eC c ((k+1:Nat):Int) (bj V F c k)).2=W5)->m+lO (bj V F c m)<=200000000000000
 |0,_=>by have:=a4W j (nK j);simp only[bj];omega
 |m+1,h=>by
  have u:=n8 j (m:=m) λk N=>h k aa;have D:=(nE (n:=((m+1:Nat):Int)) j (eJ j m)).2.2.2 (h m aa);have H:lO (bj V F c (m+1)) < lO (bj V F c m):=D;omega
def a0i (c:lI):List Int:=1::q5 (X c) 0
def V3 (j:aA V F c=0):Due V F c 1 0 (nM V F c) (a0i c):=by
 refine⟨nK j,by simp[a0i],λk N B=> ?_⟩;rw[if_neg aa] at B;cases k with
 |zero=>exact absurd rfl B
 |succ k=>
  intro e r;have:bp (nM V F c) ((k+1:Nat):Int)=a7q:=by
   rw[ku (by simp[nM];omega)];simp[nM]
  rw[this] at r;simp[cZ,aD,a7q] at r
def Bv (V F:Int)(c:lI)(l:List Pic):Bool:=bu (bK V F c) (bp l 0)&&(j1 (X c)).all λi=>(cZ c i (bp l i)).all λe=>bu e.pic (bp l e.tgt)
def fitsX_iff:Bv V F c l=W5↔bu (bK V F c) (bp l 0)=W5/\∀i,i < X c->iD c l i:=by
 unfold Bv iD;simp[List.all_eq_true]
def sd (j:aA V F c=0){m:Nat}(h:a7x V F c m):bj V F c (m+1)=bj V F c m/\Bv V F c (bj V F c m)=true:=by
 have u:=(nE (n:=((m+1:Nat):Int)) j (eJ j m)).2.2.1 h.2;refine⟨u.1,fitsX_iff.2 ⟨?_,u.2⟩⟩;have:=(AJ j m).2 0;exact this
end
def rU (i:Ins)(at_:Int)(x:Pic):X (aD i at_ x).1<=2:=by
 unfold aD;repeat' split
 all_goals simp
 all_goals (repeat' split)
 all_goals simp
