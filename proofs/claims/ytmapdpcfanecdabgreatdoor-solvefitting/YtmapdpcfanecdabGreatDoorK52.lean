import Derived.Test.YtmapdpcfanecdabGreatDoorCards
import Derived.Test.YtmapdpcfanecdabGreatDoorTie
import Derived.ProofKit
import Derived.OpenShut
import Derived.Carry
import Derived.Deep.DeepHandedRow
import Derived.Deep.DeepWitnessRowRef
import Derived.Lib.LaidTab
import Derived.Lib.LaidIn
import Derived.Stop.LaidErr
import Derived.Shelf.Vars
import Derived.Lib.SmallJoins
import Derived.Deep.Slices
import Derived.SizedLaws
import Derived.Test.YtmapdpcfanecdabGreatDoorK28
open Go.IntKind renaming i64→Y
open Go.Obj renaming cells→Cc
open Go.Proofs.Tryz renaming prog→pG
open Go.Value renaming agg→Ag,bool→Bb,cells→j2,int→I,okWide→j0,pointer→Pp,slice→U
open Go.World renaming block_lt_of_cell?→j6,cell?→j5,cells?_some→j4
open List renaming range→j3
open Nat renaming add_assoc→j1,le_refl→lR,mul_one→j7
open Option renaming none→nO,some→sO
set_option linter.unusedSimpArgs false
set_option linter.unusedVariables false
set_option maxRecDepth 100000
namespace Go.Proofs.YtmapdpcfanecdabGreatDoor
section
open Go.ChangeShapes Go.WideShapes Go.ChangeAt Go.RowKit
theorem own:ownKnob Tryz.prog.godebug=none:=by kernel_rfl

theorem II {W:World}(h:W.ShapedOpen pG):∃m,W.cell? ⟨0,0,nO⟩=sO (I Y m):=
 cell_of_shapedOpen_int (zero:=#[I Y 0]) (t:=3) h (of_decide_eq_true (by kernel_rfl)) (by kernel_rfl) rfl (by kernel_rfl) (by kernel_rfl) Tryz.underlying3

theorem Gu {r:List (String×DataW Unit)}{W:World}(h:laidMet pG (("internal/strconv.uint64pow10",Rows.laid_internal_strconv_uint64pow10)::r) W):Tab W:=
 Lib.tabIs_of_head (rest:=r) (g:=1) (t:=285) (e:=265) (by kernel_rfl) (by kernel_rfl) Tryz.underlying285 Tryz.underlying265 (by kernel_rfl) (by kernel_rfl) h

def Ia:DataW Unit→Value
 |.lit (.int k z)=>.int k z
 |_=>I Y 0
def rW:DataW Unit→List Value
 |.agg ps=>ps.map Ia
 |_=>[]
def GD:DataW Unit→List Value
 |.agg ps=>ps.flatMap rW
 |_=>[]

def iF (P:Program)(os:Os):World:=
 let N:=(World.settled P os).heap.size
 let w0:=World.holding P os ⟨#[Cc #[.string ⟨#[105,110,118,97,108,105,100,32,115,121,110,116,97,120]⟩] 329,Cc #[.string ⟨#[118,97,108,117,101,32,111,117,116,32,111,102,32,114,97,110,103,101]⟩] 329],#[],[]⟩
 let put (h:Array Obj) (g:Nat) (cs:Array Value):Array Obj:=h.modify g λ
  |.cells _ t frozen=>Cc cs t frozen
  |o=>o
 let h1:=put w0.heap 2 #[.iface 327 (Pp (sO ⟨N,0,nO⟩))]
 let h2:=put h1 3 #[.iface 327 (Pp (sO ⟨N+1,0,nO⟩))]
 let h3:=put h2 1 (rW Rows.laid_internal_strconv_uint64pow10).toArray
 let h4:=put h3 4 (rW Rows.laid_math_bits_deBruijn32tab).toArray
 let h5:=put h4 5 (rW Rows.laid_math_bits_deBruijn64tab).toArray
 let h6:=put h5 6 (rW Rows.laid_unicode_utf8_first).toArray
 let h7:=put h6 7 (GD Rows.laid_unicode_utf8_acceptRanges).toArray
 {w0 with heap:=h7}
theorem Dw (os:Os)(args:Array Value):Go.LaidIn pG ((iF pG os).forCall (λ_ _=>0) ⟨#[],args,[]⟩).memory Rows.solveSoundRow.laid [4,5,1]:=
 Go.LaidIn.of_run _ 8 (by kernel_rfl) (by kernel_rfl) (by kernel_rfl) (by kernel_rfl)
theorem Co (os:Os)(args:Array Value):laidMet pG Rows.solveSoundRow.laid ((iF pG os).forCall (λ_ _=>0) ⟨#[],args,[]⟩).memory:=(Dw os args).met
end
section
open Go.RowKit Go.ChangeShapes Go.WideShapes Go.Joins Go.Deep
theorem vW {α:Type}(l:List α)(h:l.length=6):∃a b c d e f,l=[a,b,c,d,e,f]:=by
 match l,h with
 |[a,b,c,d,e,f],_=>exact⟨a,b,c,d,e,f,rfl⟩
theorem nQ:Tryz.prog.cellsOf 100=6:=by kernel_rfl
theorem Ca:Tryz.prog.cellsOf 3=1:=by kernel_rfl
theorem tF:Tryz.prog.cellsOf 24=3:=by kernel_rfl

section
variable {H:Type} {enc:TypeId×Value→H} {w:World} {base:Nat} {spare:Nat→Bool} {held:Bool}

theorem Eb {fuel:Nat}{cs:List Value}{x:DataW H×List MemPlace}(h:DataW.trod enc pG w base spare held fuel 100 cs=sO x):
  ∃i:Ins,cs=[I Y i.k,I Y i.tgt,I Y i.a,I Y i.b,I Y i.n,I Y i.g]∧True:=by
 obtain⟨xs,n,_,_,hl,hx,hf⟩:=DataW.trod_struct Tryz.underlying100 h
 rw[nQ] at hl
 obtain⟨c0,c1,c2,c3,c4,c5,rfl⟩:=vW cs hl
 obtain⟨y0,y1,y2,y3,y4,y5,rfl⟩:=vW xs hx
 have g0:=hf 0 _ rfl
 have g1:=hf 1 _ rfl
 have g2:=hf 2 _ rfl
 have g3:=hf 3 _ rfl
 have g4:=hf 4 _ rfl
 have g5:=hf 5 _ rfl
 simp[Ca] at g0 g1 g2 g3 g4 g5
 obtain⟨a0,e0,_,w0⟩:=DataW.trod_int Tryz.underlying3 g0
 obtain⟨a1,e1,_,w1⟩:=DataW.trod_int Tryz.underlying3 g1
 obtain⟨a2,e2,_,w2⟩:=DataW.trod_int Tryz.underlying3 g2
 obtain⟨a3,e3,_,w3⟩:=DataW.trod_int Tryz.underlying3 g3
 obtain⟨a4,e4,_,w4⟩:=DataW.trod_int Tryz.underlying3 g4
 obtain⟨a5,e5,_,w5⟩:=DataW.trod_int Tryz.underlying3 g5
 simp at e0 e1 e2 e3 e4 e5
 subst e0 e1 e2 e3 e4 e5
 exact⟨⟨a0,a1,a2,a3,a4,a5⟩,rfl,trivial⟩

theorem BU {fuel:Nat}{v:Value}{x:DataW H×List MemPlace}(h:DataW.trod enc pG w base spare held fuel 22 [v]=sO x):
  ∃(s:Option Addr) (cap:Nat) (c:List Ins),v=U s c.length cap∧c.length≤cap∧cap≤maxLen∧CodeAt w s c∧True:=by
 rcases open_slice Tryz.underlying22 h with⟨hv,_⟩|⟨a,len,cap,m,n,D,Pl,hv,hb,hl,hm,hmm,hx,hi⟩
 ·simp at hv
  subst hv
  exact⟨nO,0,[],rfl,lR _,by unfold maxLen;omega,.inl rfl,trivial⟩
 ·simp at hv
  subst hv
  have hlm:len≤m:=by rw[hmm];split<;>omega
  have each:∀i,i < len→∃q:Ins,(∀j,j < 6→w.cell? (a.add (i * 6+j))=[Value.int .i64 q.k,I Y q.tgt,I Y q.a,I Y q.b,I Y q.n,I Y q.g][j]?)∧True:=by
   intro i hil
   obtain⟨cs',h1,h2⟩:=hi i (by omega)
   rw[nQ] at h1
   obtain⟨_,_,hcell⟩:=j4 h1
   obtain⟨q,rfl,hq⟩:=Eb h2
   refine⟨q,λj hj=> ?_,hq⟩
   rw[←Deep.add_add]
   exact hcell j hj
  have inh:Nonempty Ins:=⟨⟨0,0,0,0,0,0⟩⟩
  have hch:∃f:Nat→Ins,∀i,i < len→(∀j,j < 6→w.cell? (a.add (i * 6+j))=[Value.int .i64 (f i).k,I Y (f i).tgt,I Y (f i).a,I Y (f i).b,I Y (f i).n,I Y (f i).g][j]?)∧True:=by
   refine⟨λi=>if hi:i < len then Classical.choose (each i hi) else Classical.choice inh,λi hi=> ?_⟩
   simp only[dif_pos hi]
   exact Classical.choose_spec (each i hi)
  obtain⟨f,hf⟩:=hch
  refine⟨sO a,cap,(j3 len).map f,by simp,by simpa using hl,hm,?_,?_⟩
  ·by_cases h0:len=0
   ·left;subst h0;rfl
   ·right
    have ha:=(hf 0 (by omega)).1 0 (by omega)
    simp[Addr.add] at ha
    obtain⟨b,off,sp⟩:=a
    have hsp:sp=none:=by
     cases sp with
     |none=>rfl
     |some z=>simp[j5] at ha;split at ha<;>simp_all
    subst hsp
    refine⟨b,off,rfl,j6 w _ ha,λk hk=> ?_⟩
    have hkl:k < len:=by simpa using hk
    have:=(hf k hkl).1
    have e:((j3 len).map f)[k]=f k:=by simp
    rw[e]
    have pl:∀n,(⟨b,off,nO⟩:Addr).add n=⟨b,off+n,nO⟩:=λn=>by unfold Addr.add;split<;>simp_all
    refine⟨?_,?_,?_,?_,?_,?_⟩
    ·simpa[pl] using this 0 (by omega)
    ·simpa[pl,j1] using this 1 (by omega)
    ·simpa[pl,j1] using this 2 (by omega)
    ·simpa[pl,j1] using this 3 (by omega)
    ·simpa[pl,j1] using this 4 (by omega)
    ·simpa[pl,j1] using this 5 (by omega)
  ·trivial

theorem vN {r:Reach}{b0:Nat}{v:Value}{d:DataW H}{p:List MemPlace}(hv:j0 pG w r b0 24 v)(h:DataW.Trod enc pG w base spare held 24 v d p):
  ∃(V F:Int) (s:Option Addr) (cap:Nat) (c:List Ins),v=Ag #[I Y V,I Y F,U s c.length cap]∧c.length≤cap∧cap≤maxLen∧CodeAt w s c∧True:=by
 obtain⟨c0,c1,c2,y0,y1,y2,n,rfl,_,_,h0,h1,h2⟩:=open_agg3 Tryz.underlying24 (by kernel_rfl) tF hv h
 obtain⟨V,e0,_,w0⟩:=DataW.trod_int Tryz.underlying3 h0
 obtain⟨F,e1,_,w1⟩:=DataW.trod_int Tryz.underlying3 h1
 simp at e0 e1
 subst e0 e1
 obtain⟨s,cap,c,rfl,hl,hm,hc,hf⟩:=BU h2
 exact⟨V,F,s,cap,c,rfl,hl,hm,hc,hf⟩
end
def fit (n:Int):Prop:= -9223372036854775808≤n∧n≤9223372036854775807
theorem BZ {n:Int}(h:(Lit.int .i64 n).wf=true):fit n:=by
 have:=bounds_i64 h
 exact⟨this.1,this.2⟩
theorem l9:Tryz.prog.cellsOf 89=3:=by kernel_rfl

section
variable {H:Type} {enc:TypeId×Value→H} {w:World} {base:Nat} {spare:Nat→Bool} {held:Bool}

theorem Iq {r:Reach}{b0:Nat}{v:Value}{d:DataW H}{p:List MemPlace}(hv:j0 pG w r b0 89 v)(h:DataW.Trod enc pG w base spare held 89 v d p):
  ∃s:Sp,v=sv s∧fit s.lo∧fit s.hi:=by
 obtain⟨c0,c1,c2,y0,y1,y2,n,rfl,_,_,h0,h1,h2⟩:=open_agg3 Tryz.underlying89 (by kernel_rfl) l9 hv h
 obtain⟨b,e0,_⟩:=DataW.trod_bool Tryz.underlying4 h0
 obtain⟨lo,e1,_,w1⟩:=DataW.trod_int Tryz.underlying3 h1
 obtain⟨hi,e2,_,w2⟩:=DataW.trod_int Tryz.underlying3 h2
 simp at e0 e1 e2
 subst e0 e1 e2
 exact⟨⟨b,lo,hi⟩,rfl,BZ w1,BZ w2⟩
end
theorem lG:Tryz.prog.cellsOf 3=1:=by kernel_rfl
theorem kO:Tryz.prog.cellsOf 4=1:=by kernel_rfl
theorem i6 {α:Type}(l:List α)(h:l.length=3):∃a b c,l=[a,b,c]:=by
 match l,h with
 |[a,b,c],_=>exact⟨a,b,c,rfl⟩

theorem nU:Tryz.prog.cellsOf 91=7:=by kernel_rfl
theorem wE:Tryz.prog.cellsOf 82=2:=by kernel_rfl
theorem yS:Tryz.prog.cellsOf 34=1:=by kernel_rfl
theorem Ai {α:Type}(l:List α)(h:l.length=7):∃a b c d e f g,l=[a,b,c,d,e,f,g]:=by
 match l,h with
 |[a,b,c,d,e,f,g],_=>exact⟨a,b,c,d,e,f,g,rfl⟩
theorem CJ {α:Type}(l:List α)(h:l.length=5):∃a b c d e,l=[a,b,c,d,e]:=by
 match l,h with
 |[a,b,c,d,e],_=>exact⟨a,b,c,d,e,rfl⟩

section
variable {H:Type} {enc:TypeId×Value→H} {w:World} {base:Nat} {spare:Nat→Bool} {held:Bool}

theorem Do {fuel:Nat}{cs:List Value}{x:DataW H×List MemPlace}(h:DataW.trod enc pG w base spare held fuel 89 cs=sO x):
  ∃i:Sp,cs=[Bb i.n,I Y i.lo,I Y i.hi]:=by
 obtain⟨xs,n,_,_,hl,hx,hf⟩:=DataW.trod_struct Tryz.underlying89 h
 rw[l9] at hl
 obtain⟨c0,c1,c2,rfl⟩:=i6 cs hl
 obtain⟨y0,y1,y2,rfl⟩:=i6 xs hx
 have g0:=hf 0 _ rfl
 have g1:=hf 1 _ rfl
 have g2:=hf 2 _ rfl
 simp[lG,kO] at g0 g1 g2
 obtain⟨a0,e0,_⟩:=DataW.trod_bool Tryz.underlying4 g0
 obtain⟨a1,e1,_,_⟩:=DataW.trod_int Tryz.underlying3 g1
 obtain⟨a2,e2,_,_⟩:=DataW.trod_int Tryz.underlying3 g2
 simp at e0 e1 e2
 subst e0 e1 e2
 exact⟨⟨a0,a1,a2⟩,rfl⟩

theorem Cw {fuel:Nat}{v:Value}{x:DataW H×List MemPlace}(h:DataW.trod enc pG w base spare held fuel 34 [v]=sO x):
  ∃(s:Option Addr) (cap:Nat) (c:List Int),v=U s c.length cap∧c.length≤cap∧cap≤maxLen∧IntsAt w s c:=by
 rcases open_slice Tryz.underlying34 h with⟨hv,_⟩|⟨a,len,cap,m,n,D,Pl,hv,hb,hl,hm,hmm,hx,hi⟩
 ·simp at hv
  subst hv
  exact⟨nO,0,[],rfl,lR _,by unfold maxLen;omega,.inl rfl⟩
 ·simp at hv
  subst hv
  have hlm:len≤m:=by rw[hmm];split<;>omega
  have each:∀i,i < len→∃q:Int,w.cell? (a.add i)=sO (I Y q):=by
   intro i hil
   obtain⟨cs',h1,h2⟩:=hi i (by omega)
   rw[lG] at h1
   obtain⟨_,_,hcell⟩:=j4 h1
   obtain⟨q,e,_,_⟩:=DataW.trod_int Tryz.underlying3 h2
   subst e
   refine⟨q,?_⟩
   have:=hcell 0 (by omega)
   rw[Deep.add_add] at this
   simpa using this
  have hch:∃f:Nat→Int,∀i,i < len→w.cell? (a.add i)=sO (I Y (f i)):=by
   refine⟨λi=>if hi:i < len then Classical.choose (each i hi) else 0,λi hi=> ?_⟩
   simp only[dif_pos hi]
   exact Classical.choose_spec (each i hi)
  obtain⟨f,hf⟩:=hch
  refine⟨sO a,cap,(j3 len).map f,by simp,by simpa using hl,hm,?_⟩
  by_cases h0:len=0
  ·left;subst h0;rfl
  ·right
   have ha:=hf 0 (by omega)
   simp[Addr.add] at ha
   obtain⟨b,off,sp⟩:=a
   have hsp:sp=none:=by
    cases sp with
    |none=>rfl
    |some z=>simp[j5] at ha;split at ha<;>simp_all
   subst hsp
   refine⟨b,off,rfl,j6 w _ ha,λk hk=> ?_⟩
   have hkl:k < len:=by simpa using hk
   have:=hf k hkl
   have e:((j3 len).map f)[k]=f k:=by simp
   rw[e]
   have pl:∀n,(⟨b,off,nO⟩:Addr).add n=⟨b,off+n,nO⟩:=λn=>by unfold Addr.add;split<;>simp_all
   simpa[pl] using this

theorem pu {fuel:Nat}{cs:List Value}{x:DataW H×List MemPlace}(h:DataW.trod enc pG w base spare held fuel 91 cs=sO x):
  ∃(g:Gs) (ss:Option Addr) (gc:Nat),cs=[Bb g.n,Bb g.sp.n,I Y g.sp.lo,I Y g.sp.hi,Bb g.t,Bb g.f,U ss g.s.length gc]∧g.s.length≤gc∧gc≤maxLen∧IntsAt w ss g.s:=by
 obtain⟨xs,n,_,_,hl,hx,hf⟩:=DataW.trod_struct Tryz.underlying91 h
 rw[nU] at hl
 obtain⟨c0,c1,c2,c3,c4,c5,c6,rfl⟩:=Ai cs hl
 obtain⟨y0,y1,y2,y3,y4,rfl⟩:=CJ xs hx
 have g0:=hf 0 _ rfl
 have g1:=hf 1 _ rfl
 have g2:=hf 2 _ rfl
 have g3:=hf 3 _ rfl
 have g4:=hf 4 _ rfl
 simp[lG,kO,l9,yS] at g0 g1 g2 g3 g4
 obtain⟨a0,e0,_⟩:=DataW.trod_bool Tryz.underlying4 g0
 obtain⟨sp,e1⟩:=Do g1
 obtain⟨a2,e2,_⟩:=DataW.trod_bool Tryz.underlying4 g2
 obtain⟨a3,e3,_⟩:=DataW.trod_bool Tryz.underlying4 g3
 obtain⟨ss,gc,l,e4,q1,q2,q3⟩:=Cw g4
 simp at e0 e1 e2 e3
 obtain⟨r1,r2,r3⟩:=e1
 subst e0 r1 r2 r3 e2 e3 e4
 exact⟨⟨a0,sp,a2,a3,l⟩,ss,gc,rfl,q1,q2,q3⟩

theorem Hk {r:Reach}{b0:Nat}{v:Value}{d:DataW H}{p:List MemPlace}(hv:j0 pG w r b0 91 v)(h:DataW.Trod enc pG w base spare held 91 v d p):
  ∃(g:Gs) (ss:Option Addr) (gc:Nat),v=gv g ss gc∧g.s.length≤gc∧gc≤maxLen∧IntsAt w ss g.s:=by
 obtain⟨cs,rfl,hsz⟩:=okWide_struct Tryz.underlying91 hv
 obtain⟨fuel,hf⟩:=h
 obtain⟨g,ss,gc,e,q⟩:=pu (by simpa[j2] using hf)
 refine⟨g,ss,gc,?_,q⟩
 have:cs=#[Bb g.n,Bb g.sp.n,I Y g.sp.lo,I Y g.sp.hi,Bb g.t,Bb g.f,U ss g.s.length gc]:=by
  cases cs;simp_all
 rw[this]

theorem Iu {r:Reach}{b0:Nat}{v:Value}{d:DataW H}{p:List MemPlace}(hv:j0 pG w r b0 82 v)(h:DataW.Trod enc pG w base spare held 82 v d p):
  ∃k n:Int,v=Ag #[I Y k,I Y n]:=by
 obtain⟨c0,c1,y0,y1,n,rfl,_,_,h0,h1⟩:=open_agg2 Tryz.underlying82 (by kernel_rfl) wE hv h
 obtain⟨a,e0,_,_⟩:=DataW.trod_int Tryz.underlying3 h0
 obtain⟨b,e1,_,_⟩:=DataW.trod_int Tryz.underlying3 h1
 simp at e0 e1
 subst e0 e1
 exact⟨a,b,rfl⟩
end
section
variable {H:Type} {enc:TypeId×Value→H} {P:Program} {w:World} {base:Nat} {spare:Nat→Bool} {held:Bool}

theorem CF {α:Type}(inh:Nonempty α){len:Nat}{R:Nat→α→Prop}(h:∀i,i < len→∃q,R i q):∃f:Nat→α,∀i,i < len→R i (f i):=by
 refine⟨λi=>if hi:i < len then Classical.choose (h i hi) else Classical.choice inh,λi hi=> ?_⟩
 simp only[dif_pos hi]
 exact Classical.choose_spec (h i hi)

theorem fP {α:Type}{t e:TypeId}{n:Nat}(hn:0 < n)(ht:P.underlying t=sO (.slice e))(hcn:P.cellsOf e=n)(Q:α→List Value→Prop)(inh:Nonempty α)
  (each:∀fuel cs x,DataW.trod enc P w base spare held fuel e cs=sO x→∃q,Q q cs){fuel:Nat}{v:Value}{x:DataW H×List MemPlace}(h:DataW.trod enc P w base spare held fuel t [v]=sO x):
  ∃(s:Option Addr) (cap:Nat) (l:List α),v=U s l.length cap∧l.length≤cap∧cap≤maxLen∧(l=[]∨∃b off,s=sO ⟨b,off,nO⟩∧b < w.heap.size∧∀k (hk:k < l.length),∃cs,(∀j,j < n→w.cell? ⟨b,off+k * n+j,nO⟩=cs[j]?)∧Q l[k] cs)∧
   (l≠[]→∃m,l.length≤m∧m * P.bytesOf e∈x.1.weights P t):=by
 rcases open_slice ht h with⟨hv,_⟩|⟨a,len,cap,m,n',D,Pl,hv,hb,hl,hm,hmm,hx,hi⟩
 ·simp at hv
  subst hv
  exact⟨nO,0,[],rfl,lR _,by unfold maxLen;omega,.inl rfl,λh=>absurd rfl h⟩
 ·simp at hv
  subst hv
  have hlm:len≤m:=by rw[hmm];split<;>omega
  have ea:∀i,i < len→∃q:α,∃cs,(∀j,j < n→w.cell? (a.add (i * n+j))=cs[j]?)∧cs.length=n∧Q q cs:=by
   intro i hil
   obtain⟨cs',h1,h2⟩:=hi i (by omega)
   rw[hcn] at h1
   obtain⟨_,hlen,hcell⟩:=j4 h1
   obtain⟨q,hq⟩:=each _ _ _ h2
   refine⟨q,cs',λj hj=> ?_,hlen,hq⟩
   rw[←Deep.add_add]
   exact hcell j hj
  obtain⟨f,hf⟩:=CF inh ea
  refine⟨sO a,cap,(j3 len).map f,by simp,by simpa using hl,hm,?_,λ_=>⟨m,by simpa using hlm,?_⟩⟩
  ·by_cases h0:len=0
   ·left;subst h0;rfl
   ·right
    obtain⟨cs0,hc0,hn0,-⟩:=hf 0 (by omega)
    have ha:=hc0 0 hn
    rw[List.getElem?_eq_getElem (by omega)] at ha
    simp[Addr.add] at ha
    obtain⟨b,off,sp⟩:=a
    have hsp:sp=none:=by
     cases sp with
     |none=>rfl
     |some z=>simp[j5] at ha;split at ha<;>simp_all
    subst hsp
    refine⟨b,off,rfl,j6 w _ ha,λk hk=> ?_⟩
    have hkl:k < len:=by simpa using hk
    obtain⟨cs,hc,hn,hq⟩:=hf k hkl
    have pl:∀n,(⟨b,off,nO⟩:Addr).add n=⟨b,off+n,nO⟩:=λn=>by unfold Addr.add;split<;>simp_all
    refine⟨cs,λj hj=> ?_,by simpa using hq⟩
    have:=hc j hj
    rw[pl] at this
    rw[j1]
    exact this
  ·subst hx
   simp only[DataW.weights,ht,List.length_map,List.length_range]
   have:len+(m - len)=m:=by omega
   rw[this]
   exact List.mem_cons_self
end
theorem ll:Tryz.prog.cellsOf 25=1:=by kernel_rfl
theorem wS:Tryz.prog.cellsOf 26=1:=by kernel_rfl
theorem lw:Tryz.prog.cellsOf 28=3:=by kernel_rfl
section
variable {H:Type} {enc:TypeId×Value→H} {w:World} {base:Nat} {spare:Nat→Bool} {held:Bool}
theorem mN {fuel:Nat}{v:Value}{x:DataW H×List MemPlace}(h:DataW.trod enc pG w base spare held fuel 25 [v]=sO x):
  ∃(s:Option Addr) (cap:Nat) (l:List Gs),v=U s l.length cap∧l.length≤cap∧cap≤maxLen∧GsAt w s l:=by
 obtain⟨s,cap,l,rfl,h1,h2,h3,-⟩:=fP (n:=7) (by omega) Tryz.underlying25 nU (λ(g:Gs) cs=>∃(ss:Option Addr) (gc:Nat),cs=[Bb g.n,Bb g.sp.n,I Y g.sp.lo,I Y g.sp.hi,Bb g.t,Bb g.f,U ss g.s.length gc]∧g.s.length≤gc∧gc≤maxLen∧IntsAt w ss g.s) ⟨bY⟩ (λfuel cs x h=>pu h) h
 refine⟨s,cap,l,rfl,h1,h2,?_⟩
 rcases h3 with h3|⟨b,off,rfl,hb,hc⟩
 ·subst h3
  exact λi hi=>absurd hi (by simp)
 ·intro i hi
  obtain⟨cs,hc1,ss,gc,rfl,k1,k2,k3⟩:=hc i hi
  exact⟨b,off,rfl,ss,gc,⟨⟨hc1 0 (by omega),hc1 1 (by omega),hc1 2 (by omega),hc1 3 (by omega),hc1 4 (by omega),hc1 5 (by omega),hc1 6 (by omega)⟩,hb⟩,k3,k1,k2⟩
theorem Cb {fuel:Nat}{v:Value}{x:DataW H×List MemPlace}(h:DataW.trod enc pG w base spare held fuel 26 [v]=sO x):
  ∃(s:Option Addr) (cap:Nat) (l:List (List Gs)),v=U s l.length cap∧l.length≤cap∧cap≤maxLen∧RowsAt w s l:=by
 obtain⟨s,cap,l,rfl,h1,h2,h3,-⟩:=fP (n:=1) (by omega) Tryz.underlying26 ll (λ(r:List Gs) cs=>∃(rs:Option Addr) (rc:Nat),cs=[U rs r.length rc]∧r.length≤rc∧rc≤maxLen∧GsAt w rs r) ⟨[]⟩ (λfuel cs x h=>by
  have hl:cs.length=1:=by
   rcases open_slice Tryz.underlying25 h with⟨hv,_⟩|⟨a,len,cap,m,n',D,Pl,hv,_⟩
   ·rw[hv];rfl
   ·rw[hv];rfl
  obtain⟨v,rfl⟩:∃v,cs=[v]:=by
   match cs,hl with
   |[v],_=>exact⟨v,rfl⟩
  obtain⟨s,cap,l,rfl,k1,k2,k3⟩:=mN h
  exact⟨l,s,cap,rfl,k1,k2,k3⟩) h
 refine⟨s,cap,l,rfl,h1,h2,?_⟩
 rcases h3 with h3|⟨b,off,rfl,hb,hc⟩
 ·subst h3
  exact λi hi=>absurd hi (by simp)
 ·intro i hi
  obtain⟨cs,hc1,rs,rc,rfl,k1,k2,k3⟩:=hc i hi
  have h0:=hc1 0 (by omega)
  rw[j7] at h0
  exact⟨b,off,rfl,hb,rs,rc,h0,k1,k2,k3⟩
theorem mS {fuel:Nat}{cs:List Value}{x:DataW H×List MemPlace}(h:DataW.trod enc pG w base spare held fuel 28 cs=sO x):
  ∃(q:Pic) (vs:Option Addr) (vc:Nat) (fs:Option Addr) (fc:Nat),cs=[Bb q.none,U vs q.vars.length vc,U fs q.flds.length fc]∧(q.vars.length≤vc∧vc≤maxLen)∧(q.flds.length≤fc∧fc≤maxLen)∧PicAt w q vs fs:=by
 obtain⟨xs,n,_,_,hl,hx,hf⟩:=DataW.trod_struct Tryz.underlying28 h
 rw[lw] at hl
 obtain⟨c0,c1,c2,rfl⟩:=i6 cs hl
 obtain⟨y0,y1,y2,rfl⟩:=i6 xs hx
 have g0:=hf 0 _ rfl
 have g1:=hf 1 _ rfl
 have g2:=hf 2 _ rfl
 simp[kO,ll,wS] at g0 g1 g2
 obtain⟨a0,e0,_⟩:=DataW.trod_bool Tryz.underlying4 g0
 obtain⟨vs,vc,l1,e1,k1,m1,p1⟩:=mN g1
 obtain⟨fs,fc,l2,e2,k2,m2,p2⟩:=Cb g2
 simp at e0
 subst e0 e1 e2
 exact⟨⟨a0,l1,l2⟩,vs,vc,fs,fc,rfl,⟨k1,m1⟩,⟨k2,m2⟩,p1,p2⟩
theorem Gj {r:Reach}{b0:Nat}{v:Value}{d:DataW H}{p:List MemPlace}(hv:j0 pG w r b0 28 v)(h:DataW.Trod enc pG w base spare held 28 v d p):
  ∃(q:Pic) (vs:Option Addr) (vc:Nat) (fs:Option Addr) (fc:Nat),v=xv q vs vc fs fc∧(q.vars.length≤vc∧vc≤maxLen)∧(q.flds.length≤fc∧fc≤maxLen)∧PicAt w q vs fs:=by
 obtain⟨cs,rfl,hsz⟩:=okWide_struct Tryz.underlying28 hv
 obtain⟨fuel,hf⟩:=h
 obtain⟨q,vs,vc,fs,fc,e,k⟩:=mS (by simpa[j2] using hf)
 refine⟨q,vs,vc,fs,fc,?_,k⟩
 have:cs=#[Bb q.none,U vs q.vars.length vc,U fs q.flds.length fc]:=by
  cases cs;simp_all
 rw[this]
end
section
variable {H:Type} {enc:TypeId×Value→H} {w:World} {base:Nat} {spare:Nat→Bool} {held:Bool}
theorem Cx {fuel:Nat}{v:Value}{x:DataW H×List MemPlace}(h:DataW.trod enc pG w base spare held fuel 47 [v]=sO x):
  ∃(s:Option Addr) (cap:Nat) (l:List Pic),v=U s l.length cap∧l.length≤cap∧cap≤maxLen∧XsAt w s l:=by
 obtain⟨s,cap,l,rfl,h1,h2,h3,-⟩:=fP (n:=3) (by omega) Tryz.underlying47 lw (λ(q:Pic) cs=>∃(vs:Option Addr) (vc:Nat) (fs:Option Addr) (fc:Nat),cs=[Bb q.none,U vs q.vars.length vc,U fs q.flds.length fc]∧(q.vars.length≤vc∧vc≤maxLen)∧(q.flds.length≤fc∧fc≤maxLen)∧PicAt w q vs fs) ⟨nonePic⟩ (λfuel cs x h=>mS h) h
 refine⟨s,cap,l,rfl,h1,h2,?_⟩
 rcases h3 with h3|⟨b,off,rfl,hb,hc⟩
 ·subst h3
  exact λi hi=>absurd hi (by simp)
 ·intro i hi
  obtain⟨cs,hc1,vs,vc,fs,fc,rfl,k1,k2,k3⟩:=hc i hi
  exact⟨b,off,rfl,hb,vs,vc,fs,fc,⟨hc1 0 (by omega),hc1 1 (by omega),hc1 2 (by omega)⟩,k3,k1,k2⟩
theorem Cg {r:Reach}{b0:Nat}{v:Value}{d:DataW H}{p:List MemPlace}(hv:j0 pG w r b0 47 v)(h:DataW.Trod enc pG w base spare held 47 v d p):
  ∃(s:Option Addr) (cap:Nat) (l:List Pic),v=U s l.length cap∧l.length≤cap∧cap≤maxLen∧XsAt w s l:=by
 obtain⟨s,len,cap,rfl⟩:=okWide_slice Tryz.underlying47 hv
 obtain⟨fuel,hf⟩:=h
 exact Cx (by simpa[j2] using hf)
end
theorem iS:Tryz.prog.cellsOf 3=1:=by kernel_rfl
theorem tO:Tryz.prog.cellsOf 9=1:=by kernel_rfl
theorem mO:Tryz.prog.cellsOf 82=2:=by kernel_rfl
theorem nl:Tryz.prog.cellsOf 84=2:=by kernel_rfl
theorem AM:Tryz.prog.cellsOf 33=6:=by kernel_rfl
theorem mv:Tryz.prog.cellsOf 29=1:=by kernel_rfl
theorem tY:Tryz.prog.cellsOf 30=1:=by kernel_rfl
theorem rX:Tryz.prog.cellsOf 31=1:=by kernel_rfl
theorem kB {α:Type}(l:List α)(h:l.length=2):∃a b,l=[a,b]:=by
 match l,h with
 |[a,b],_=>exact⟨a,b,rfl⟩
theorem sM {α:Type}(l:List α)(h:l.length=6):∃a b c d e f,l=[a,b,c,d,e,f]:=by
 match l,h with
 |[a,b,c,d,e,f],_=>exact⟨a,b,c,d,e,f,rfl⟩

section
variable {H:Type} {enc:TypeId×Value→H} {w:World} {base:Nat} {spare:Nat→Bool} {held:Bool}

theorem Aq {fuel:Nat}{v:Value}{x:DataW H×List MemPlace}(h:DataW.trod enc pG w base spare held fuel 34 [v]=sO x):
  ∃(s:Option Addr) (cap:Nat) (c:List Int),v=U s c.length cap∧c.length≤cap∧cap≤maxLen∧IntsAt w s c:=by
 obtain⟨s,cap,l,rfl,h1,h2,h3,-⟩:=fP (n:=1) (by omega) Tryz.underlying34 iS (λ(q:Int) cs=>cs=[I Y q]) ⟨0⟩ (λfuel cs x h=>by
  obtain⟨q,e,_,_⟩:=DataW.trod_int Tryz.underlying3 h
  exact⟨q,e⟩) h
 refine⟨s,cap,l,rfl,h1,h2,?_⟩
 rcases h3 with h3|⟨b,off,rfl,hb,hc⟩
 ·exact .inl h3
 ·refine .inr ⟨b,off,rfl,hb,λk hk=> ?_⟩
  obtain⟨cs,hc1,rfl⟩:=hc k hk
  have h0:=hc1 0 (by omega)
  rw[j7] at h0
  exact h0

theorem Bz {r:Reach}{b0:Nat}{v:Value}{d:DataW H}{p:List MemPlace}(hv:j0 pG w r b0 34 v)(h:DataW.Trod enc pG w base spare held 34 v d p):
  ∃(s:Option Addr) (cap:Nat) (c:List Int),v=U s c.length cap∧c.length≤cap∧cap≤maxLen∧IntsAt w s c:=by
 obtain⟨s,len,cap,rfl⟩:=okWide_slice Tryz.underlying34 hv
 obtain⟨fuel,hf⟩:=h
 exact Aq (by simpa[j2] using hf)

theorem Di {fuel:Nat}{cs:List Value}{x:DataW H×List MemPlace}(h:DataW.trod enc pG w base spare held fuel 82 cs=sO x):
  ∃q:Val,cs=[I Y q.k,I Y q.n]:=by
 obtain⟨xs,n,_,_,hl,hx,hf⟩:=DataW.trod_struct Tryz.underlying82 h
 rw[mO] at hl
 obtain⟨c0,c1,rfl⟩:=kB cs hl
 obtain⟨y0,y1,rfl⟩:=kB xs hx
 have g0:=hf 0 _ rfl
 have g1:=hf 1 _ rfl
 simp[iS] at g0 g1
 obtain⟨a0,e0,_,_⟩:=DataW.trod_int Tryz.underlying3 g0
 obtain⟨a1,e1,_,_⟩:=DataW.trod_int Tryz.underlying3 g1
 simp at e0 e1
 subst e0 e1
 exact⟨⟨a0,a1⟩,rfl⟩

theorem tm {fuel:Nat}{v:Value}{x:DataW H×List MemPlace}(h:DataW.trod enc pG w base spare held fuel 29 [v]=sO x):
  ∃(s:Option Addr) (cap:Nat) (c:List Val),v=U s c.length cap∧c.length≤cap∧cap≤maxLen∧ValsAt w s c:=by
 obtain⟨s,cap,l,rfl,h1,h2,h3,-⟩:=fP (n:=2) (by omega) Tryz.underlying29 mO (λ(q:Val) cs=>cs=[I Y q.k,I Y q.n]) ⟨⟨0,0⟩⟩ (λfuel cs x h=>Di h) h
 refine⟨s,cap,l,rfl,h1,h2,?_⟩
 rcases h3 with h3|⟨b,off,rfl,hb,hc⟩
 ·exact .inl h3
 ·refine .inr ⟨b,off,rfl,hb,λk hk=> ?_⟩
  obtain⟨cs,hc1,rfl⟩:=hc k hk
  exact⟨hc1 0 (by omega),hc1 1 (by omega)⟩

theorem Ad {fuel:Nat}{cs:List Value}{x:DataW H×List MemPlace}(h:DataW.trod enc pG w base spare held fuel 84 cs=sO x):
  ∃q:Thg,∃f fc,cs=[I Y q.site,U f q.fs.length fc]∧q.fs.length≤maxLen∧ValsAt w f q.fs:=by
 obtain⟨xs,n,_,_,hl,hx,hf⟩:=DataW.trod_struct Tryz.underlying84 h
 rw[nl] at hl
 obtain⟨c0,c1,rfl⟩:=kB cs hl
 obtain⟨y0,y1,rfl⟩:=kB xs hx
 have g0:=hf 0 _ rfl
 have g1:=hf 1 _ rfl
 simp[iS,mv] at g0 g1
 obtain⟨a0,e0,_,_⟩:=DataW.trod_int Tryz.underlying3 g0
 obtain⟨f,fc,l,e1,q1,q2,q3⟩:=tm g1
 simp at e0
 subst e0 e1
 exact⟨⟨a0,l⟩,f,fc,rfl,by simp only;omega,q3⟩

theorem wZ {fuel:Nat}{v:Value}{x:DataW H×List MemPlace}(h:DataW.trod enc pG w base spare held fuel 30 [v]=sO x):
  ∃(s:Option Addr) (cap:Nat) (c:List Thg),v=U s c.length cap∧c.length≤cap∧cap≤maxLen∧(∀q∈c,q.fs.length≤maxLen)∧ThgsAt w s c:=by
 obtain⟨s,cap,l,rfl,h1,h2,h3,-⟩:=fP (n:=2) (by omega) Tryz.underlying30 nl (λ(q:Thg) cs=>∃f fc,cs=[I Y q.site,U f q.fs.length fc]∧q.fs.length≤maxLen∧ValsAt w f q.fs) ⟨⟨0,[]⟩⟩ (λfuel cs x h=>Ad h) h
 rcases h3 with h3|⟨b,off,rfl,hb,hc⟩
 ·subst h3
  exact⟨s,cap,[],rfl,h1,h2,λq hq=>by simp at hq,.inl rfl⟩
 ·refine⟨_,cap,l,rfl,h1,h2,λq hq=> ?_,.inr ⟨b,off,rfl,hb,λk hk=> ?_⟩⟩
  ·obtain⟨k,hk,rfl⟩:=List.getElem_of_mem hq
   obtain⟨cs,hc1,f,fc,rfl,hl,hq⟩:=hc k hk
   exact hl
  ·obtain⟨cs,hc1,f,fc,rfl,hl,hq⟩:=hc k hk
   exact⟨hc1 0 (by omega),f,fc,hc1 1 (by omega),hq⟩

theorem CU {fuel:Nat}{v:Value}{x:DataW H×List MemPlace}(h:DataW.trod enc pG w base spare held fuel 31 [v]=sO x):
  ∃(s:Option Addr) (cap:Nat) (c:List ByteArray),v=U s c.length cap∧c.length≤cap∧cap≤maxLen∧StrsAt w s c∧(c≠[]→∃m,c.length≤m∧m * Tryz.prog.bytesOf 9∈x.1.weights pG 31):=by
 obtain⟨s,cap,l,rfl,h1,h2,h3,h4⟩:=fP (n:=1) (by omega) Tryz.underlying31 tO (λ(q:ByteArray) cs=>cs=[.string q]) ⟨⟨#[]⟩⟩ (λfuel cs x h=>by
  obtain⟨q,e,_,_⟩:=DataW.trod_string Tryz.underlying9 h
  exact⟨q,e⟩) h
 refine⟨s,cap,l,rfl,h1,h2,?_,h4⟩
 rcases h3 with h3|⟨b,off,rfl,hb,hc⟩
 ·exact .inl h3
 ·refine .inr ⟨b,off,rfl,hb,λk hk=> ?_⟩
  obtain⟨cs,hc1,rfl⟩:=hc k hk
  have h0:=hc1 0 (by omega)
  rw[j7] at h0
  exact h0

theorem IH {r:Reach}{b0:Nat}{v:Value}{d:DataW H}{p:List MemPlace}(hv:j0 pG w r b0 33 v)(h:DataW.Trod enc pG w base spare held 33 v d p):
  ∃(st:St) (vs:Option Addr) (vc:Nat) (ts:Option Addr) (tc:Nat) (ls:Option Addr) (lc:Nat),v=ff st vs vc ts tc ls lc∧fA st∧RunAt w st vs ts ls∧(st.lines≠[]→∃m,st.lines.length≤m∧m * 16∈d.weights pG 33):=by
 obtain⟨cs,rfl,hsz⟩:=okWide_struct Tryz.underlying33 hv
 obtain⟨fuel,hf⟩:=h
 obtain⟨xs,n,_,hd,hl,hx,hf⟩:=DataW.trod_struct Tryz.underlying33 hf
 rw[AM] at hl
 obtain⟨c0,c1,c2,c3,c4,c5,hcs⟩:=sM _ hl
 obtain⟨y0,y1,y2,y3,y4,y5,rfl⟩:=sM xs hx
 have hcs':cs.toList=[c0,c1,c2,c3,c4,c5]:=by simpa[j2] using hcs
 have e:cs=#[c0,c1,c2,c3,c4,c5]:=by cases cs;simp_all
 subst e
 have g0:=hf 0 _ rfl
 have g1:=hf 1 _ rfl
 have g2:=hf 2 _ rfl
 have g3:=hf 3 _ rfl
 have g4:=hf 4 _ rfl
 have g5:=hf 5 _ rfl
 simp[iS,mv,tY,rX,j2] at g0 g1 g2 g3 g4 g5
 obtain⟨a0,e0,_,_⟩:=DataW.trod_int Tryz.underlying3 g0
 obtain⟨vs,vc,l1,e1,k1,m1,p1⟩:=tm g1
 obtain⟨ts,tc,l2,e2,k2,m2,f2,p2⟩:=wZ g2
 obtain⟨a3,e3,_,_⟩:=DataW.trod_int Tryz.underlying3 g3
 obtain⟨ls,lc,l4,e4,k4,m4,p4,w4⟩:=CU g4
 obtain⟨a5,e5,_,_⟩:=DataW.trod_int Tryz.underlying3 g5
 simp at e0 e3 e5
 subst e0 e1 e2 e3 e4 e5
 refine⟨⟨a0,l1,l2,a3,l4,a5⟩,vs,vc,ts,tc,ls,lc,rfl,⟨by simp only;omega,by simp only;omega,by simp only;omega,f2⟩,⟨p1,p2,p4⟩,λhne=> ?_⟩
 obtain⟨m,hm,hw⟩:=w4 hne
 refine⟨m,hm,?_⟩
 have hb:Tryz.prog.bytesOf 9=16:=by kernel_rfl
 rw[hb] at hw
 injection hd with hd1 hd2
 subst hd1
 simp only[DataW.weights,Tryz.underlying33]
 exact DataW.weights_mem_each (j:=4) rfl rfl _ hw
end
end
end Go.Proofs.YtmapdpcfanecdabGreatDoor
