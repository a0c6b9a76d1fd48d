import Derived.Lib.SmallJoins
import Derived.Deep.Slices
import Derived.ProofKit
import Derived.SizedLaws
import Derived.Test.YtmapdpcfanecdabGreatS32
open Go.IntKind renaming i64→Y
open Go.Proofs.Tryz renaming prog→pG
open Go.Value renaming agg→Ag,bool→Bb,int→I,slice→U
open Go.World renaming block_lt_of_cell?→j4,cell?→j3,cells?_some→j2
open List renaming range→j1
open Nat renaming add_assoc→j0,le_refl→lR
open Option renaming none→nO,some→sO
set_option linter.unusedSimpArgs false
set_option linter.unusedVariables false
set_option maxRecDepth 100000
namespace Go.Proofs.YtmapdpcfanecdabGreat
section
open Go.RowKit Go.ChangeShapes Go.WideShapes Go.Joins Go.Deep
theorem sN {α:Type}(l:List α)(h:l.length=6):∃a b c d e f,l=[a,b,c,d,e,f]:=by
 match l,h with
 |[a,b,c,d,e,f],_=>exact⟨a,b,c,d,e,f,rfl⟩
theorem mD:Tryz.prog.cellsOf 51=6:=by kernel_rfl
theorem Ay:Tryz.prog.cellsOf 3=1:=by kernel_rfl
theorem rB:Tryz.prog.cellsOf 24=3:=by kernel_rfl

section
variable {H:Type} {enc:TypeId×Value->H} {w:World} {base:Nat} {spare:Nat->Bool} {held:Bool}

theorem Bw {fuel:Nat}{cs:List Value}{x:DataW H×List MemPlace}(h:DataW.trod enc pG w base spare held fuel 51 cs=sO x):
  ∃i:Ins,cs=[I Y i.k,I Y i.tgt,I Y i.a,I Y i.b,I Y i.n,I Y i.g]/\True:=by
 obtain⟨xs,n,_,_,hl,hx,hf⟩:=DataW.trod_struct Tryz.underlying51 h;rw[mD] at hl;obtain⟨c0,c1,c2,c3,c4,c5,rfl⟩:=sN cs hl;obtain⟨y0,y1,y2,y3,y4,y5,rfl⟩:=sN xs hx;have g0:=hf 0 _ rfl;have g1:=hf 1 _ rfl;have g2:=hf 2 _ rfl;have g3:=hf 3 _ rfl;have g4:=hf 4 _ rfl;have g5:=hf 5 _ rfl;simp[Ay] at g0 g1 g2 g3 g4 g5;obtain⟨a0,e0,_,w0⟩:=DataW.trod_int Tryz.underlying3 g0;obtain⟨a1,e1,_,w1⟩:=DataW.trod_int Tryz.underlying3 g1;obtain⟨a2,e2,_,w2⟩:=DataW.trod_int Tryz.underlying3 g2;obtain⟨a3,e3,_,w3⟩:=DataW.trod_int Tryz.underlying3 g3;obtain⟨a4,e4,_,w4⟩:=DataW.trod_int Tryz.underlying3 g4;obtain⟨a5,e5,_,w5⟩:=DataW.trod_int Tryz.underlying3 g5;simp at e0 e1 e2 e3 e4 e5;subst e0 e1 e2 e3 e4 e5;exact⟨⟨a0,a1,a2,a3,a4,a5⟩,rfl,trivial⟩

theorem yU {fuel:Nat}{v:Value}{x:DataW H×List MemPlace}(h:DataW.trod enc pG w base spare held fuel 22 [v]=sO x):
  ∃(s:oA) (cap:Nat) (c:List Ins),v=U s c.length cap/\c.length<=cap/\cap<=maxLen/\CodeAt w s c/\True:=by
 rcases open_slice Tryz.underlying22 h with⟨hv,_⟩|⟨a,len,cap,m,n,D,Pl,hv,hb,hl,hm,hmm,hx,hi⟩
 ·simp at hv
  subst hv;exact⟨nO,0,[],rfl,lR _,by unfold maxLen;omega,.inl rfl,trivial⟩
 ·simp at hv
  subst hv;have hlm:len<=m:=by rw[hmm];split<;>omega
  have each:∀i,i < len->∃q:Ins,(∀j,j < 6->w.cell? (a.add (i * 6+j))=[Value.int .i64 q.k,I Y q.tgt,I Y q.a,I Y q.b,I Y q.n,I Y q.g][j]?)/\True:=by
   intro i hil;obtain⟨cs',h1,h2⟩:=hi i (by omega);rw[mD] at h1;obtain⟨_,_,hcell⟩:=j2 h1;obtain⟨q,rfl,hq⟩:=Bw h2;refine⟨q,λj hj=> ?_,hq⟩;rw[<-Deep.add_add];exact hcell j hj
  have inh:Nonempty Ins:=⟨⟨0,0,0,0,0,0⟩⟩;have hch:∃f:Nat->Ins,∀i,i < len->(∀j,j < 6->w.cell? (a.add (i * 6+j))=[Value.int .i64 (f i).k,I Y (f i).tgt,I Y (f i).a,I Y (f i).b,I Y (f i).n,I Y (f i).g][j]?)/\True:=by
   refine⟨λi=>if hi:i < len then Classical.choose (each i hi) else Classical.choice inh,λi hi=> ?_⟩;simp only[dif_pos hi];exact Classical.choose_spec (each i hi)
  obtain⟨f,hf⟩:=hch;refine⟨sO a,cap,(j1 len).map f,by simp,by simpa using hl,hm,?_,?_⟩
  ·by_cases h0:len=0
   ·left;subst h0;rfl
   ·right
    have ha:=(hf 0 (by omega)).1 0 (by omega);simp[Addr.add] at ha;obtain⟨b,off,sp⟩:=a;have hsp:sp=none:=by
     cases sp with
     |none=>rfl
     |some z=>simp[j3] at ha;split at ha<;>simp_all
    subst hsp;refine⟨b,off,rfl,j4 w _ ha,λk hk=> ?_⟩;have hkl:k < len:=by simpa using hk
    have:=(hf k hkl).1;have e:((j1 len).map f)[k]=f k:=by simp
    rw[e];have pl:∀n,(⟨b,off,nO⟩:Addr).add n=⟨b,off+n,nO⟩:=λn=>by unfold Addr.add;split<;>simp_all
    refine⟨?_,?_,?_,?_,?_,?_⟩
    ·simpa[pl] using this 0 (by omega)
    ·simpa[pl,j0] using this 1 (by omega)
    ·simpa[pl,j0] using this 2 (by omega)
    ·simpa[pl,j0] using this 3 (by omega)
    ·simpa[pl,j0] using this 4 (by omega)
    ·simpa[pl,j0] using this 5 (by omega)
  ·trivial

theorem sH {r:Reach}{b0:Nat}{v:Value}{d:DataW H}{p:List MemPlace}(hv:Value.okWide pG w r b0 24 v)(h:DataW.Trod enc pG w base spare held 24 v d p):
  ∃(V F:Int) (s:oA) (cap:Nat) (c:List Ins),v=Ag #[I Y V,I Y F,U s c.length cap]/\c.length<=cap/\cap<=maxLen/\CodeAt w s c/\True:=by
 obtain⟨c0,c1,c2,y0,y1,y2,n,rfl,_,_,h0,h1,h2⟩:=open_agg3 Tryz.underlying24 (by kernel_rfl) rB hv h;obtain⟨V,e0,_,w0⟩:=DataW.trod_int Tryz.underlying3 h0;obtain⟨F,e1,_,w1⟩:=DataW.trod_int Tryz.underlying3 h1;simp at e0 e1;subst e0 e1;obtain⟨s,cap,c,rfl,hl,hm,hc,hf⟩:=yU h2;exact⟨V,F,s,cap,c,rfl,hl,hm,hc,hf⟩
end
theorem oU:Tryz.prog.cellsOf 58=3:=by kernel_rfl

section
variable {H:Type} {enc:TypeId×Value->H} {w:World} {base:Nat} {spare:Nat->Bool} {held:Bool}

end
theorem kn:Tryz.prog.cellsOf 3=1:=by kernel_rfl
theorem iF:Tryz.prog.cellsOf 4=1:=by kernel_rfl
theorem gL {α:Type}(l:List α)(h:l.length=3):∃a b c,l=[a,b,c]:=by
 match l,h with
 |[a,b,c],_=>exact⟨a,b,c,rfl⟩

theorem mA:Tryz.prog.cellsOf 61=7:=by kernel_rfl
theorem vT:Tryz.prog.cellsOf 59=1:=by kernel_rfl
theorem wS {α:Type}(l:List α)(h:l.length=7):∃a b c d e f g,l=[a,b,c,d,e,f,g]:=by
 match l,h with
 |[a,b,c,d,e,f,g],_=>exact⟨a,b,c,d,e,f,g,rfl⟩
theorem yx {α:Type}(l:List α)(h:l.length=5):∃a b c d e,l=[a,b,c,d,e]:=by
 match l,h with
 |[a,b,c,d,e],_=>exact⟨a,b,c,d,e,rfl⟩

section
variable {H:Type} {enc:TypeId×Value->H} {w:World} {base:Nat} {spare:Nat->Bool} {held:Bool}

theorem yH {fuel:Nat}{cs:List Value}{x:DataW H×List MemPlace}(h:DataW.trod enc pG w base spare held fuel 58 cs=sO x):
  ∃i:Sp,cs=[Bb i.n,I Y i.lo,I Y i.hi]:=by
 obtain⟨xs,n,_,_,hl,hx,hf⟩:=DataW.trod_struct Tryz.underlying58 h;rw[oU] at hl;obtain⟨c0,c1,c2,rfl⟩:=gL cs hl;obtain⟨y0,y1,y2,rfl⟩:=gL xs hx;have g0:=hf 0 _ rfl;have g1:=hf 1 _ rfl;have g2:=hf 2 _ rfl;simp[kn,iF] at g0 g1 g2;obtain⟨a0,e0,_⟩:=DataW.trod_bool Tryz.underlying4 g0;obtain⟨a1,e1,_,_⟩:=DataW.trod_int Tryz.underlying3 g1;obtain⟨a2,e2,_,_⟩:=DataW.trod_int Tryz.underlying3 g2;simp at e0 e1 e2;subst e0 e1 e2;exact⟨⟨a0,a1,a2⟩,rfl⟩

theorem Av {fuel:Nat}{v:Value}{x:DataW H×List MemPlace}(h:DataW.trod enc pG w base spare held fuel 59 [v]=sO x):
  ∃(s:oA) (cap:Nat) (c:List Int),v=U s c.length cap/\c.length<=cap/\cap<=maxLen/\IntsAt w s c:=by
 rcases open_slice Tryz.underlying59 h with⟨hv,_⟩|⟨a,len,cap,m,n,D,Pl,hv,hb,hl,hm,hmm,hx,hi⟩
 ·simp at hv
  subst hv;exact⟨nO,0,[],rfl,lR _,by unfold maxLen;omega,.inl rfl⟩
 ·simp at hv
  subst hv;have hlm:len<=m:=by rw[hmm];split<;>omega
  have each:∀i,i < len->∃q:Int,w.cell? (a.add i)=sO (I Y q):=by
   intro i hil;obtain⟨cs',h1,h2⟩:=hi i (by omega);rw[kn] at h1;obtain⟨_,_,hcell⟩:=j2 h1;obtain⟨q,e,_,_⟩:=DataW.trod_int Tryz.underlying3 h2;subst e;refine⟨q,?_⟩;have:=hcell 0 (by omega);rw[Deep.add_add] at this;simpa using this
  have hch:∃f:Nat->Int,∀i,i < len->w.cell? (a.add i)=sO (I Y (f i)):=by
   refine⟨λi=>if hi:i < len then Classical.choose (each i hi) else 0,λi hi=> ?_⟩;simp only[dif_pos hi];exact Classical.choose_spec (each i hi)
  obtain⟨f,hf⟩:=hch;refine⟨sO a,cap,(j1 len).map f,by simp,by simpa using hl,hm,?_⟩;by_cases h0:len=0
  ·left;subst h0;rfl
  ·right
   have ha:=hf 0 (by omega);simp[Addr.add] at ha;obtain⟨b,off,sp⟩:=a;have hsp:sp=none:=by
    cases sp with
    |none=>rfl
    |some z=>simp[j3] at ha;split at ha<;>simp_all
   subst hsp;refine⟨b,off,rfl,j4 w _ ha,λk hk=> ?_⟩;have hkl:k < len:=by simpa using hk
   have:=hf k hkl;have e:((j1 len).map f)[k]=f k:=by simp
   rw[e];have pl:∀n,(⟨b,off,nO⟩:Addr).add n=⟨b,off+n,nO⟩:=λn=>by unfold Addr.add;split<;>simp_all
   simpa[pl] using this

theorem wE {fuel:Nat}{cs:List Value}{x:DataW H×List MemPlace}(h:DataW.trod enc pG w base spare held fuel 61 cs=sO x):
  ∃(g:Gs) (ss:oA) (gc:Nat),cs=[Bb g.n,Bb g.sp.n,I Y g.sp.lo,I Y g.sp.hi,Bb g.t,Bb g.f,U ss g.s.length gc]/\g.s.length<=gc/\gc<=maxLen/\IntsAt w ss g.s:=by
 obtain⟨xs,n,_,_,hl,hx,hf⟩:=DataW.trod_struct Tryz.underlying61 h;rw[mA] at hl;obtain⟨c0,c1,c2,c3,c4,c5,c6,rfl⟩:=wS cs hl;obtain⟨y0,y1,y2,y3,y4,rfl⟩:=yx xs hx;have g0:=hf 0 _ rfl;have g1:=hf 1 _ rfl;have g2:=hf 2 _ rfl;have g3:=hf 3 _ rfl;have g4:=hf 4 _ rfl;simp[kn,iF,oU,vT] at g0 g1 g2 g3 g4;obtain⟨a0,e0,_⟩:=DataW.trod_bool Tryz.underlying4 g0;obtain⟨sp,e1⟩:=yH g1;obtain⟨a2,e2,_⟩:=DataW.trod_bool Tryz.underlying4 g2;obtain⟨a3,e3,_⟩:=DataW.trod_bool Tryz.underlying4 g3;obtain⟨ss,gc,l,e4,q1,q2,q3⟩:=Av g4;simp at e0 e1 e2 e3;obtain⟨r1,r2,r3⟩:=e1;subst e0 r1 r2 r3 e2 e3 e4;exact⟨⟨a0,sp,a2,a3,l⟩,ss,gc,rfl,q1,q2,q3⟩

end
section
variable {H:Type} {enc:TypeId×Value->H} {P:Program} {w:World} {base:Nat} {spare:Nat->Bool} {held:Bool}

theorem yO {α:Type}(inh:Nonempty α){len:Nat}{R:Nat->α->Prop}(h:∀i,i < len->∃q,R i q):∃f:Nat->α,∀i,i < len->R i (f i):=by
 refine⟨λi=>if hi:i < len then Classical.choose (h i hi) else Classical.choice inh,λi hi=> ?_⟩;simp only[dif_pos hi];exact Classical.choose_spec (h i hi)

theorem lP {α:Type}{t e:TypeId}{n:Nat}(hn:0 < n)(ht:P.underlying t=sO (.slice e))(hcn:P.cellsOf e=n)(Q:α->List Value->Prop)(inh:Nonempty α)
  (each:∀fuel cs x,DataW.trod enc P w base spare held fuel e cs=sO x->∃q,Q q cs){fuel:Nat}{v:Value}{x:DataW H×List MemPlace}(h:DataW.trod enc P w base spare held fuel t [v]=sO x):
  ∃(s:Option Addr) (cap:Nat) (l:List α),v=U s l.length cap/\l.length<=cap/\cap<=maxLen/\(l=[]\/∃b off,s=sO ⟨b,off,nO⟩/\b < w.heap.size/\∀k (hk:k < l.length),∃cs,(∀j,j < n->w.cell? ⟨b,off+k * n+j,nO⟩=cs[j]?)/\Q l[k] cs)/\
   (l≠[]->∃m,l.length<=m/\m * P.bytesOf e∈x.1.weights P t):=by
 rcases open_slice ht h with⟨hv,_⟩|⟨a,len,cap,m,n',D,Pl,hv,hb,hl,hm,hmm,hx,hi⟩
 ·simp at hv
  subst hv;exact⟨nO,0,[],rfl,lR _,by unfold maxLen;omega,.inl rfl,λh=>absurd rfl h⟩
 ·simp at hv
  subst hv;have hlm:len<=m:=by rw[hmm];split<;>omega
  have ea:∀i,i < len->∃q:α,∃cs,(∀j,j < n->w.cell? (a.add (i * n+j))=cs[j]?)/\cs.length=n/\Q q cs:=by
   intro i hil;obtain⟨cs',h1,h2⟩:=hi i (by omega);rw[hcn] at h1;obtain⟨_,hlen,hcell⟩:=j2 h1;obtain⟨q,hq⟩:=each _ _ _ h2;refine⟨q,cs',λj hj=> ?_,hlen,hq⟩;rw[<-Deep.add_add];exact hcell j hj
  obtain⟨f,hf⟩:=yO inh ea;refine⟨sO a,cap,(j1 len).map f,by simp,by simpa using hl,hm,?_,λ_=>⟨m,by simpa using hlm,?_⟩⟩
  ·by_cases h0:len=0
   ·left;subst h0;rfl
   ·right
    obtain⟨cs0,hc0,hn0,-⟩:=hf 0 (by omega);have ha:=hc0 0 hn;rw[List.getElem?_eq_getElem (by omega)] at ha;simp[Addr.add] at ha;obtain⟨b,off,sp⟩:=a;have hsp:sp=none:=by
     cases sp with
     |none=>rfl
     |some z=>simp[j3] at ha;split at ha<;>simp_all
    subst hsp;refine⟨b,off,rfl,j4 w _ ha,λk hk=> ?_⟩;have hkl:k < len:=by simpa using hk
    obtain⟨cs,hc,hn,hq⟩:=hf k hkl;have pl:∀n,(⟨b,off,nO⟩:Addr).add n=⟨b,off+n,nO⟩:=λn=>by unfold Addr.add;split<;>simp_all
    refine⟨cs,λj hj=> ?_,by simpa using hq⟩;have:=hc j hj;rw[pl] at this;rw[j0];exact this
  ·subst hx
   simp only[DataW.weights,ht,List.length_map,List.length_range];have:len+(m - len)=m:=by omega
   rw[this];exact List.mem_cons_self
end
theorem iR:Tryz.prog.cellsOf 25=1:=by kernel_rfl
theorem tR:Tryz.prog.cellsOf 26=1:=by kernel_rfl
theorem iS:Tryz.prog.cellsOf 28=3:=by kernel_rfl
section
variable {H:Type} {enc:TypeId×Value->H} {w:World} {base:Nat} {spare:Nat->Bool} {held:Bool}
theorem lC {fuel:Nat}{v:Value}{x:DataW H×List MemPlace}(h:DataW.trod enc pG w base spare held fuel 25 [v]=sO x):
  ∃(s:oA) (cap:Nat) (l:List Gs),v=U s l.length cap/\l.length<=cap/\cap<=maxLen/\GsAt w s l:=by
 obtain⟨s,cap,l,rfl,h1,h2,h3,-⟩:=lP (n:=7) (by omega) Tryz.underlying25 mA (λ(g:Gs) cs=>∃(ss:oA) (gc:Nat),cs=[Bb g.n,Bb g.sp.n,I Y g.sp.lo,I Y g.sp.hi,Bb g.t,Bb g.f,U ss g.s.length gc]/\g.s.length<=gc/\gc<=maxLen/\IntsAt w ss g.s) ⟨noneG⟩ (λfuel cs x h=>wE h) h;refine⟨s,cap,l,rfl,h1,h2,?_⟩;rcases h3 with h3|⟨b,off,rfl,hb,hc⟩
 ·subst h3
  exact λi hi=>absurd hi (by simp)
 ·intro i hi
  obtain⟨cs,hc1,ss,gc,rfl,k1,k2,k3⟩:=hc i hi;exact⟨b,off,rfl,ss,gc,⟨⟨hc1 0 (by omega),hc1 1 (by omega),hc1 2 (by omega),hc1 3 (by omega),hc1 4 (by omega),hc1 5 (by omega),hc1 6 (by omega)⟩,hb⟩,k3,k1,k2⟩
theorem yc {fuel:Nat}{v:Value}{x:DataW H×List MemPlace}(h:DataW.trod enc pG w base spare held fuel 26 [v]=sO x):
  ∃(s:oA) (cap:Nat) (l:List (List Gs)),v=U s l.length cap/\l.length<=cap/\cap<=maxLen/\RowsAt w s l:=by
 obtain⟨s,cap,l,rfl,h1,h2,h3,-⟩:=lP (n:=1) (by omega) Tryz.underlying26 iR (λ(r:List Gs) cs=>∃(rs:oA) (rc:Nat),cs=[U rs r.length rc]/\r.length<=rc/\rc<=maxLen/\GsAt w rs r) ⟨[]⟩ (λfuel cs x h=>by
  have hl:cs.length=1:=by
   rcases open_slice Tryz.underlying25 h with⟨hv,_⟩|⟨a,len,cap,m,n',D,Pl,hv,_⟩
   ·rw[hv];rfl
   ·rw[hv];rfl
  obtain⟨v,rfl⟩:∃v,cs=[v]:=by
   match cs,hl with
   |[v],_=>exact⟨v,rfl⟩
  obtain⟨s,cap,l,rfl,k1,k2,k3⟩:=lC h;exact⟨l,s,cap,rfl,k1,k2,k3⟩) h
 refine⟨s,cap,l,rfl,h1,h2,?_⟩;rcases h3 with h3|⟨b,off,rfl,hb,hc⟩
 ·subst h3
  exact λi hi=>absurd hi (by simp)
 ·intro i hi
  obtain⟨cs,hc1,rs,rc,rfl,k1,k2,k3⟩:=hc i hi;have h0:=hc1 0 (by omega);rw[Nat.mul_one] at h0;exact⟨b,off,rfl,hb,rs,rc,h0,k1,k2,k3⟩
theorem sX {fuel:Nat}{cs:List Value}{x:DataW H×List MemPlace}(h:DataW.trod enc pG w base spare held fuel 28 cs=sO x):
  ∃(q:Pic) (vs:oA) (vc:Nat) (fs:oA) (fc:Nat),cs=[Bb q.none,U vs q.vars.length vc,U fs q.flds.length fc]/\(q.vars.length<=vc/\vc<=maxLen)/\(q.flds.length<=fc/\fc<=maxLen)/\PicAt w q vs fs:=by
 obtain⟨xs,n,_,_,hl,hx,hf⟩:=DataW.trod_struct Tryz.underlying28 h;rw[iS] at hl;obtain⟨c0,c1,c2,rfl⟩:=gL cs hl;obtain⟨y0,y1,y2,rfl⟩:=gL xs hx;have g0:=hf 0 _ rfl;have g1:=hf 1 _ rfl;have g2:=hf 2 _ rfl;simp[iF,iR,tR] at g0 g1 g2;obtain⟨a0,e0,_⟩:=DataW.trod_bool Tryz.underlying4 g0;obtain⟨vs,vc,l1,e1,k1,m1,p1⟩:=lC g1;obtain⟨fs,fc,l2,e2,k2,m2,p2⟩:=yc g2;simp at e0;subst e0 e1 e2;exact⟨⟨a0,l1,l2⟩,vs,vc,fs,fc,rfl,⟨k1,m1⟩,⟨k2,m2⟩,p1,p2⟩
end
section
variable {H:Type} {enc:TypeId×Value->H} {w:World} {base:Nat} {spare:Nat->Bool} {held:Bool}
theorem yN {fuel:Nat}{v:Value}{x:DataW H×List MemPlace}(h:DataW.trod enc pG w base spare held fuel 34 [v]=sO x):
  ∃(s:oA) (cap:Nat) (l:List Pic),v=U s l.length cap/\l.length<=cap/\cap<=maxLen/\XsAt w s l:=by
 obtain⟨s,cap,l,rfl,h1,h2,h3,-⟩:=lP (n:=3) (by omega) Tryz.underlying34 iS (λ(q:Pic) cs=>∃(vs:oA) (vc:Nat) (fs:oA) (fc:Nat),cs=[Bb q.none,U vs q.vars.length vc,U fs q.flds.length fc]/\(q.vars.length<=vc/\vc<=maxLen)/\(q.flds.length<=fc/\fc<=maxLen)/\PicAt w q vs fs) ⟨nonePic⟩ (λfuel cs x h=>sX h) h;refine⟨s,cap,l,rfl,h1,h2,?_⟩;rcases h3 with h3|⟨b,off,rfl,hb,hc⟩
 ·subst h3
  exact λi hi=>absurd hi (by simp)
 ·intro i hi
  obtain⟨cs,hc1,vs,vc,fs,fc,rfl,k1,k2,k3⟩:=hc i hi;exact⟨b,off,rfl,hb,vs,vc,fs,fc,⟨hc1 0 (by omega),hc1 1 (by omega),hc1 2 (by omega)⟩,k3,k1,k2⟩
theorem yp {r:Reach}{b0:Nat}{v:Value}{d:DataW H}{p:List MemPlace}(hv:Value.okWide pG w r b0 34 v)(h:DataW.Trod enc pG w base spare held 34 v d p):
  ∃(s:oA) (cap:Nat) (l:List Pic),v=U s l.length cap/\l.length<=cap/\cap<=maxLen/\XsAt w s l:=by
 obtain⟨s,len,cap,rfl⟩:=okWide_slice Tryz.underlying34 hv;obtain⟨fuel,hf⟩:=h;exact yN (by simpa[Value.cells] using hf)
end
end
end Go.Proofs.YtmapdpcfanecdabGreat
