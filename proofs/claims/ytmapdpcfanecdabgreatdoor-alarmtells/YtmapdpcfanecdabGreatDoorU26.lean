import Derived.Test.YtmapdpcfanecdabGreatDoorCards
import Derived.Test.YtmapdpcfanecdabGreatDoorTie
import Derived.Test.YtmapdpcfanecdabGreatDoorU22
import Derived.ProofKit
import Derived.OpenShut
import Derived.Carry
import Derived.Deep.DeepHandedRow
import Derived.Deep.DeepWitnessRowRef
import Derived.Lib.LaidTab
import Derived.Lib.LaidIn
import Derived.Stop.LaidErr
import Derived.Shelf.Vars
import Derived.Lib.SmallJoins
import Derived.Deep.Slices
open Go.IntKind renaming i64→Y
open Go.Obj renaming cells→Cc
open Go.Proofs.Tryz renaming prog→pG
open Go.Value renaming agg→Ag,int→I,pointer→Pp,slice→U
open Nat renaming add_assoc→j0,le_refl→lR
open Option renaming none→nO,some→sO
set_option linter.unusedSimpArgs false
set_option linter.unusedVariables false
set_option maxRecDepth 100000
namespace Go.Proofs.YtmapdpcfanecdabGreatDoor
section
open Go.ChangeShapes Go.WideShapes Go.ChangeAt Go.RowKit
theorem own:ownKnob Tryz.prog.godebug=none:=ag

theorem MC {W:World}(h:W.ShapedOpen pG):∃m,W.cell? ⟨0,0,nO⟩=sO (I Y m):=
 cell_of_shapedOpen_int (zero:=#[I Y 0]) (t:=3) h (of_decide_eq_true ag) ag rfl ag ag Tryz.underlying3

theorem Mp {r:List (String×DataW Unit)}{W:World}(h:laidMet pG (("internal/strconv.uint64pow10",Rows.laid_internal_strconv_uint64pow10)::r) W):Tab W:=
 Lib.tabIs_of_head (rest:=r) (g:=1) (t:=285) (e:=265) ag ag Tryz.underlying285 Tryz.underlying265 ag ag h

def MZ:DataW Unit->Value
 |.lit (.int k z)=>.int k z
 |_=>I Y 0
def tN:DataW Unit->List Value
 |.agg ps=>ps.map MZ
 |_=>[]
def Mz:DataW Unit->List Value
 |.agg ps=>ps.flatMap tN
 |_=>[]

def iS (P:Program)(os:Os):World:=
 let N:=(World.settled P os).heap.size
 let w0:=World.holding P os ⟨#[Cc #[.string ⟨#[105,110,118,97,108,105,100,32,115,121,110,116,97,120]⟩] 329,Cc #[.string ⟨#[118,97,108,117,101,32,111,117,116,32,111,102,32,114,97,110,103,101]⟩] 329],#[],[]⟩
 let put (h:Array Obj) (g:Nat) (cs:Array Value):Array Obj:=h.modify g λ
  |.cells _ t frozen=>Cc cs t frozen
  |o=>o
 let h1:=put w0.heap 2 #[.iface 327 (Pp (sO ⟨N,0,nO⟩))]
 let h2:=put h1 3 #[.iface 327 (Pp (sO ⟨N+1,0,nO⟩))]
 let h3:=put h2 1 (tN Rows.laid_internal_strconv_uint64pow10).toArray
 let h4:=put h3 4 (tN Rows.laid_math_bits_deBruijn32tab).toArray
 let h5:=put h4 5 (tN Rows.laid_math_bits_deBruijn64tab).toArray
 let h6:=put h5 6 (tN Rows.laid_unicode_utf8_first).toArray
 let h7:=put h6 7 (Mz Rows.laid_unicode_utf8_acceptRanges).toArray
 {w0 with heap:=h7}
end
section
open Go.RowKit Go.ChangeShapes Go.WideShapes Go.Joins Go.Deep
theorem AI {α:Type}(l:List α)(h:l.length=6):∃a b c d e f,l=[a,b,c,d,e,f]:=by
 match l,h with
 |[a,b,c,d,e,f],_=>exact⟨a,b,c,d,e,f,rfl⟩
theorem rt:Tryz.prog.cellsOf 100=6:=ag
theorem Gk:Tryz.prog.cellsOf 3=1:=ag
theorem yp:Tryz.prog.cellsOf 24=3:=ag

section
variable {H:Type} {enc:TypeId×Value->H} {w:World} {base:Nat} {spare:Nat->Bool} {held:Bool}

theorem Il {fuel:Nat}{cs:List Value}{x:DataW H×List MemPlace}(h:DataW.trod enc pG w base spare held fuel 100 cs=sO x):
  ∃i:Ins,cs=[I Y i.k,I Y i.tgt,I Y i.a,I Y i.b,I Y i.n,I Y i.g]/\True:=by
 obtain⟨xs,n,_,_,hl,hx,hf⟩:=DataW.trod_struct Tryz.underlying100 h;rw[rt] at hl;obtain⟨c0,c1,c2,c3,c4,c5,rfl⟩:=AI cs hl;obtain⟨y0,y1,y2,y3,y4,y5,rfl⟩:=AI xs hx;have g0:=hf 0 _ rfl;have g1:=hf 1 _ rfl;have g2:=hf 2 _ rfl;have g3:=hf 3 _ rfl;have g4:=hf 4 _ rfl;have g5:=hf 5 _ rfl;simp[Gk] at g0 g1 g2 g3 g4 g5;obtain⟨a0,e0,_,w0⟩:=DataW.trod_int Tryz.underlying3 g0;obtain⟨a1,e1,_,w1⟩:=DataW.trod_int Tryz.underlying3 g1;obtain⟨a2,e2,_,w2⟩:=DataW.trod_int Tryz.underlying3 g2;obtain⟨a3,e3,_,w3⟩:=DataW.trod_int Tryz.underlying3 g3;obtain⟨a4,e4,_,w4⟩:=DataW.trod_int Tryz.underlying3 g4;obtain⟨a5,e5,_,w5⟩:=DataW.trod_int Tryz.underlying3 g5;simp at e0 e1 e2 e3 e4 e5;subst e0 e1 e2 e3 e4 e5;exact⟨⟨a0,a1,a2,a3,a4,a5⟩,rfl,trivial⟩

theorem Gu {fuel:Nat}{v:Value}{x:DataW H×List MemPlace}(h:DataW.trod enc pG w base spare held fuel 22 [v]=sO x):
  ∃(s:oA) (cap:Nat) (c:lI),v=U s c.length cap/\c.length<=cap/\cap<=maxLen/\CodeAt w s c/\True:=by
 rcases open_slice Tryz.underlying22 h with⟨hv,_⟩|⟨a,len,cap,m,n,D,Pl,hv,hb,hl,hm,hmm,hx,hi⟩
 ·simp at hv
  subst hv;exact⟨nO,0,[],rfl,lR _,dg,.inl rfl,trivial⟩
 ·simp at hv
  subst hv;have hlm:len<=m:=by rw[hmm];split<;>omega
  have each:∀i,i < len->∃q:Ins,(∀j,j < 6->w.cell? (a.add (i * 6+j))=[Value.int .i64 q.k,I Y q.tgt,I Y q.a,I Y q.b,I Y q.n,I Y q.g][j]?)/\True:=by
   intro i hil;obtain⟨cs',h1,h2⟩:=hi i aa;rw[rt] at h1;obtain⟨_,_,hcell⟩:=World.cells?_some h1;obtain⟨q,rfl,hq⟩:=Il h2;refine⟨q,λj hj=> ?_,hq⟩;rw[<-Deep.add_add];exact hcell j hj
  have inh:Nonempty Ins:=⟨⟨0,0,0,0,0,0⟩⟩;have hch:∃f:Nat->Ins,∀i,i < len->(∀j,j < 6->w.cell? (a.add (i * 6+j))=[Value.int .i64 (f i).k,I Y (f i).tgt,I Y (f i).a,I Y (f i).b,I Y (f i).n,I Y (f i).g][j]?)/\True:=by
   refine⟨λi=>if hi:i < len then Classical.choose (each i hi) else Classical.choice inh,λi hi=> ?_⟩;simp only[dif_pos hi];exact Classical.choose_spec (each i hi)
  obtain⟨f,hf⟩:=hch;refine⟨sO a,cap,(List.range len).map f,ah,by simpa using hl,hm,?_,?_⟩
  ·by_cases h0:len=0
   ·left;subst h0;rfl
   ·right
    have ha:=(hf 0 aa).1 0 aa;simp[Addr.add] at ha;obtain⟨b,off,sp⟩:=a;have hsp:sp=none:=by
     cases sp with
     |none=>rfl
     |some z=>simp[World.cell?] at ha;split at ha<;>simp_all
    subst hsp;refine⟨b,off,rfl,World.block_lt_of_cell? w _ ha,λk hk=> ?_⟩;have hkl:k < len:=fH;have:=(hf k hkl).1;have e:((List.range len).map f)[k]=f k:=ah;rw[e];have pl:∀n,(⟨b,off,nO⟩:Addr).add n=⟨b,off+n,nO⟩:=λn=>vN;refine⟨?_,?_,?_,?_,?_,?_⟩
    ·simpa[pl] using this 0 aa
    ·simpa[pl,j0] using this 1 aa
    ·simpa[pl,j0] using this 2 aa
    ·simpa[pl,j0] using this 3 aa
    ·simpa[pl,j0] using this 4 aa
    ·simpa[pl,j0] using this 5 aa
  ·trivial

theorem yU {r:Reach}{b0:Nat}{v:Value}{d:DataW H}{p:List MemPlace}(hv:Value.okWide pG w r b0 24 v)(h:DataW.Trod enc pG w base spare held 24 v d p):
  ∃(V F:Int) (s:oA) (cap:Nat) (c:lI),v=Ag #[I Y V,I Y F,U s c.length cap]/\c.length<=cap/\cap<=maxLen/\CodeAt w s c/\True:=by
 obtain⟨c0,c1,c2,y0,y1,y2,n,rfl,_,_,h0,h1,h2⟩:=open_agg3 Tryz.underlying24 ag yp hv h;obtain⟨V,e0,_,w0⟩:=DataW.trod_int Tryz.underlying3 h0;obtain⟨F,e1,_,w1⟩:=DataW.trod_int Tryz.underlying3 h1;simp at e0 e1;subst e0 e1;obtain⟨s,cap,c,rfl,hl,hm,hc,hf⟩:=Gu h2;exact⟨V,F,s,cap,c,rfl,hl,hm,hc,hf⟩
end
end
end Go.Proofs.YtmapdpcfanecdabGreatDoor
