import Derived.Test.YtmapdpcfanecdabGreatDoorCards
import Derived.Test.YtmapdpcfanecdabGreatDoorTie
import Derived.Test.YtmapdpcfanecdabGreatDoorQ10
import Derived.ProofKit
import Derived.OpenShut
import Derived.Carry
import Derived.Deep.DeepHandedRow
import Derived.Deep.DeepWitnessRowRef
import Derived.Lib.LaidTab
import Derived.Lib.LaidIn
import Derived.Stop.LaidErr
import Derived.Shelf.Vars
import Derived.Lib.SmallJoins
import Derived.Deep.Slices
import Derived.SizedLaws
open List renaming length→X
open Go.IntKind renaming i64→Y
open Go.Obj renaming cells→A
open Go.Proofs.Tryz renaming prog→pG,prog→f
open Go.Value renaming agg→Ag,int→I,pointer→Pp,slice→U,bool→O
open Nat renaming add_assoc→j0,le_refl→lR
open Option renaming none→E,some→G
open Go renaming Value→mh,World→C
set_option linter.all false
open Go.Proofs.Tryz
set_option maxRecDepth 100000
namespace Go.Proofs.YtmapdpcfanecdabGreatDoor
variable {α:Type}(os:Os)(args:Array mh)(l:List α)
section
open Go.ChangeShapes Go.WideShapes Go.ChangeAt Go.RowKit
def own:ownKnob Tryz.prog.godebug=none:=ac

def a5k {r:List (String×DataW Unit)}{W:C}(h:laidMet f (("internal/strconv.uint64pow10",Rows.laid_internal_strconv_uint64pow10)::r) W):Tab W:=
 Lib.tabIs_of_head (rest:=r) (g:=1) (t:=285) (e:=265) ac ac underlying285 underlying265 ac ac h

def a6A:DataW Unit->Value
 |.lit (.int k z)=>.int k z
 |_=>I Y 0
def Hm:DataW Unit->List Value
 |.agg ps=>ps.map a6A
 |_=>[]
def a5K:DataW Unit->List Value
 |.agg ps=>ps.flatMap Hm
 |_=>[]

def nQ (P:Program)(os:Os):World:=
 let N:=(World.settled P os).heap.size
 let w0:=World.holding P os ⟨#[A #[.string ⟨#[105,110,118,97,108,105,100,32,115,121,110,116,97,120]⟩] 329,A #[.string ⟨#[118,97,108,117,101,32,111,117,116,32,111,102,32,114,97,110,103,101]⟩] 329],#[],[]⟩
 let put (h:Array Obj) (g:Nat) (cs:Array Value):Array Obj:=h.modify g λ
  |.cells _ t frozen=>A cs t frozen
  |o=>o
 let h1:=put w0.heap 2 #[.iface 327 (Pp (G ⟨N,0,E⟩))]
 let h2:=put h1 3 #[.iface 327 (Pp (G ⟨N+1,0,E⟩))]
 let h3:=put h2 1 (Hm Rows.laid_internal_strconv_uint64pow10).toArray
 let h4:=put h3 4 (Hm Rows.laid_math_bits_deBruijn32tab).toArray
 let h5:=put h4 5 (Hm Rows.laid_math_bits_deBruijn64tab).toArray
 let h6:=put h5 6 (Hm Rows.laid_unicode_utf8_first).toArray
 let h7:=put h6 7 (a5K Rows.laid_unicode_utf8_acceptRanges).toArray
 {w0 with heap:=h7}
def a2G:Go.LaidIn f ((nQ f os).forCall (λ_ _=>0) ⟨#[],args,[]⟩).memory Rows.solveSoundRow.laid [4,5,1]:=
 Go.LaidIn.of_run _ 8 ac ac ac ac
def a0E:laidMet f Rows.solveSoundRow.laid ((nQ f os).forCall (λ_ _=>0) ⟨#[],args,[]⟩).memory:=(a2G os args).met
end
section
open Go.RowKit Go.ChangeShapes Go.WideShapes Go.Joins Go.Deep
def Hb:Tryz.prog.cellsOf 89=3:=ac

section
variable {H:Type} {enc:TypeId×Value->H} {w:World} {base:Nat} {spare:Nat->Bool} {qg:Bool}

end
def FF:Tryz.prog.cellsOf 3=1:=ac
def sj:Tryz.prog.cellsOf 4=1:=ac
def oq(h:X l=3):∃a b c,l=[a,b,c]:=by
 match l,h with
 |[a,b,c],_=>exact⟨a,b,c,rfl⟩

def Cs:Tryz.prog.cellsOf 91=7:=ac
def WU:Tryz.prog.cellsOf 34=1:=ac
def Wf(h:X l=7):∃a b c i e B g,l=[a,b,c,i,e,B,g]:=by
 match l,h with
 |[a,b,c,i,e,B,g],_=>exact⟨a,b,c,i,e,B,g,rfl⟩
def a0T(h:X l=5):∃a b c i e,l=[a,b,c,i,e]:=by
 match l,h with
 |[a,b,c,i,e],_=>exact⟨a,b,c,i,e,rfl⟩

section
variable {H:Type} {enc:TypeId×Value->H} {w:World} {base:Nat} {spare:Nat->Bool} {qg:Bool}

def a0B {l:Nat}{cs:List mh}{x:DataW H×List MemPlace}(h:DataW.trod enc f w base spare qg l 89 cs=G x):
  ∃i:Sp,cs=[O i.n,I Y i.lo,I Y i.hi]:=by
 obtain⟨xs,n,_,_,y,F,u⟩:=DataW.trod_struct underlying89 h;rw[Hb] at y;obtain⟨o,B,q,rfl⟩:=oq cs y;obtain⟨z,D,K,rfl⟩:=oq xs F;have p:=u 0 _ rfl;have a:=u 1 _ rfl;have g:=u 2 _ rfl;simp[FF,sj] at p a g;obtain⟨j,b,_⟩:=DataW.trod_bool underlying4 p;obtain⟨k,e,_⟩:=DataW.trod_int underlying3 a;obtain⟨m,c,_⟩:=DataW.trod_int underlying3 g;simp at b e c;subst b e c;exact⟨⟨j,k,m⟩,rfl⟩

end
section
variable {H:Type} {enc:TypeId×Value->H} {P:Program} {w:World} {base:Nat} {spare:Nat->Bool} {qg:Bool}

def a0A {α:Type}(o:Nonempty α){len:Nat}{R:Nat->α->Prop}(h:∀i,i < len->∃q,R i q):∃f:Nat->α,∀i,i < len->R i (f i):=by
 refine⟨λi=>if hi:i < len then Classical.choose (h i hi) else Classical.choice o,λi hi=> ?_⟩;simp only[dif_pos hi];exact Classical.choose_spec (h i hi)

end
def te:Tryz.prog.cellsOf 25=1:=ac
def T9:Tryz.prog.cellsOf 26=1:=ac
def KV:Tryz.prog.cellsOf 28=3:=ac
section
variable {H:Type} {enc:TypeId×Value->H} {w:World} {base:Nat} {spare:Nat->Bool} {qg:Bool}
end
def oY:Tryz.prog.cellsOf 3=1:=ac
def Mb:Tryz.prog.cellsOf 9=1:=ac
def Ao:Tryz.prog.cellsOf 82=2:=ac
def Ac:Tryz.prog.cellsOf 84=2:=ac
def VW:Tryz.prog.cellsOf 33=6:=ac
def yJ:Tryz.prog.cellsOf 29=1:=ac
def Mq:Tryz.prog.cellsOf 30=1:=ac
def Ka:Tryz.prog.cellsOf 31=1:=ac
def rT(h:X l=2):∃a b,l=[a,b]:=by
 match l,h with
 |[a,b],_=>exact⟨a,b,rfl⟩
def Lr(h:X l=6):∃a b c i e B,l=[a,b,c,i,e,B]:=by
 match l,h with
 |[a,b,c,i,e,B],_=>exact⟨a,b,c,i,e,B,rfl⟩

section
variable {H:Type} {enc:TypeId×Value->H} {w:World} {base:Nat} {spare:Nat->Bool} {qg:Bool}

def a1q {l:Nat}{cs:List mh}{x:DataW H×List MemPlace}(h:DataW.trod enc f w base spare qg l 82 cs=G x):
  ∃q:Val,cs=[I Y q.k,I Y q.n]:=by
 obtain⟨xs,n,_,_,y,F,u⟩:=DataW.trod_struct underlying82 h;rw[Ao] at y;obtain⟨o,B,rfl⟩:=rT cs y;obtain⟨z,D,rfl⟩:=rT xs F;have g0:=u 0 _ rfl;have a:=u 1 _ rfl;simp[oY] at g0 a;obtain⟨j,b,_⟩:=vW;obtain⟨k,e,_⟩:=DataW.trod_int underlying3 a;simp at b e;subst b e;exact⟨⟨j,k⟩,rfl⟩

end
def Si(h:X l=6):∃a b c i e B,l=[a,b,c,i,e,B]:=by
 match l,h with
 |[a,b,c,i,e,B],_=>exact⟨a,b,c,i,e,B,rfl⟩
def Cv:Tryz.prog.cellsOf 100=6:=ac
def a0t:Tryz.prog.cellsOf 3=1:=ac
def Mc:Tryz.prog.cellsOf 24=3:=ac

section
variable {H:Type} {enc:TypeId×Value->H} {w:World} {base:Nat} {spare:Nat->Bool} {qg:Bool}

def a2S {l:Nat}{cs:List mh}{x:DataW H×List MemPlace}(h:DataW.trod enc f w base spare qg l 100 cs=G x):
  ∃i:Ins,cs=[I Y i.k,I Y i.tgt,I Y i.a,I Y i.b,I Y i.n,I Y i.g]/\True:=by
 obtain⟨xs,n,_,_,y,F,u⟩:=DataW.trod_struct underlying100 h;rw[Cv] at y;obtain⟨o,B,q,Z,V,c5,rfl⟩:=Si cs y;obtain⟨z,D,K,W,y4,y5,rfl⟩:=Si xs F;have g0:=u 0 _ rfl;have a:=u 1 _ rfl;have g:=u 2 _ rfl;have s:=u 3 _ rfl;have r:=u 4 _ rfl;have t:=u 5 _ rfl;simp[a0t] at g0 a g s r t;obtain⟨j,b,_⟩:=vW;obtain⟨k,e,_⟩:=DataW.trod_int underlying3 a;obtain⟨m,c,_⟩:=DataW.trod_int underlying3 g;obtain⟨Q,N,_⟩:=DataW.trod_int underlying3 s;obtain⟨S,v,_⟩:=DataW.trod_int underlying3 r;obtain⟨T,L,_⟩:=DataW.trod_int underlying3 t;simp at b e c N v L;subst b e c N v L;exact⟨⟨j,k,m,Q,S,T⟩,rfl,trivial⟩

def a1e {l:Nat}{v:mh}{x:DataW H×List MemPlace}(h:DataW.trod enc pG w base spare qg l 22 [v]=G x):
  ∃(s:oA) (cap:Nat) (c:lI),v=U s (X c) cap/\X c<=cap/\cap<=maxLen/\a2r w s c/\True:=by
 rcases open_slice underlying22 h with⟨t,_⟩|⟨a,len,cap,m,n,D,Pl,t,hb,y,W,T,F,hi⟩
 .simp at t
  subst t;exact⟨E,0,[],rfl,lR _,cL,.inl rfl,trivial⟩
 .simp at t
  subst t;have ad:len<=m:=by rw[T];split<;>omega
  have r:∀i,i < len->∃q:Ins,(∀j,j < 6->w.cell? (a.add (i * 6+j))=[Value.int .i64 q.k,I Y q.tgt,I Y q.a,I Y q.b,I Y q.n,I Y q.g][j]?)/\True:=by
   intro i ab;obtain⟨af,N,Z⟩:=hi i aa;rw[Cv] at N;obtain⟨_,_,B⟩:=World.cells?_some N;obtain⟨q,rfl,hq⟩:=a2S Z;refine⟨q,λj hj=> ?_,hq⟩;rw[<-Deep.add_add];exact B j hj
  have o:Nonempty Ins:=⟨⟨0,0,0,0,0,0⟩⟩;have V:∃f:Nat->Ins,∀i,i < len->(∀j,j < 6->w.cell? (a.add (i * 6+j))=[Value.int .i64 (f i).k,I Y (f i).tgt,I Y (f i).a,I Y (f i).b,I Y (f i).n,I Y (f i).g][j]?)/\True:=by
   refine⟨λi=>if hi:i < len then Classical.choose (r i hi) else Classical.choice o,λi hi=> ?_⟩;simp only[dif_pos hi];exact Classical.choose_spec (r i hi)
  obtain⟨f,u⟩:=V;refine⟨G a,cap,(List.range len).map f,ae,by simpa using y,W,?_,?_⟩
  .by_cases h0:len=0
   .left;subst h0;rfl
   .right
    have L:=(u 0 aa).1 0 aa;simp[Addr.add] at L;obtain⟨b,off,sp⟩:=a;have S:sp=none:=by
     cases sp with
     |none=>rfl
     |some z=>simp[World.cell?] at L;split at L<;>simp_all
    subst S;refine⟨b,off,rfl,World.block_lt_of_cell? w _ L,λk hk=> ?_⟩;have Q:k < len:=gw;have:=(u k Q).1;have e:((List.range len).map f)[k]=f k:=ae;rw[e];have K:=Sb;refine⟨?_,?_,?_,?_,?_,?_⟩
    .simpa[K] using this 0 aa
    .simpa[K,j0] using this 1 aa
    .simpa[K,j0] using this 2 aa
    .simpa[K,j0] using this 3 aa
    .simpa[K,j0] using this 4 aa
    .simpa[K,j0] using this 5 aa
  .trivial

def Pe {r:Reach}{a:Nat}{v:mh}{i:DataW H}{p:List MemPlace}(t:Value.okWide f w r a 24 v)(h:DataW.Trod enc f w base spare qg 24 v i p):
  ∃(V F:Int) (s:oA) (cap:Nat) (c:lI),v=Ag #[I Y V,I Y F,U s (X c) cap]/\X c<=cap/\cap<=maxLen/\a2r w s c/\True:=by
 obtain⟨o,B,q,z,D,K,n,rfl,_,_,g,N,Z⟩:=open_agg3 underlying24 ac Mc t h;obtain⟨V,b,_⟩:=DataW.trod_int underlying3 g;obtain⟨F,e,_⟩:=DataW.trod_int underlying3 N;simp at b e;subst b e;obtain⟨s,cap,c,rfl,y,W,l,u⟩:=a1e Z;exact⟨V,F,s,cap,c,rfl,y,W,l,u⟩
