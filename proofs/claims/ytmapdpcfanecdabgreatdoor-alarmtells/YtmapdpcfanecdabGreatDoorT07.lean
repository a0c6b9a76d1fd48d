import Derived.Test.YtmapdpcfanecdabGreatDoorT04
import Derived.Lib.MinMax
open Bool renaming and_eq_true→j5,false_eq_true→j6,not_eq_true'→z6
open Go.Ending renaming returned→Rt
open Go.IntKind renaming i64→Y
open Go.Obj renaming cells→Cc
open Go.Proofs.Tryz renaming prog→pG
open Go.RowKit.Below renaming heap_setCell→hSe,refl→bR
open Go.Value renaming bool→Bb,int→I,pointer→Pp,slice→U,tuple→Tu
open Go.World renaming size_alloc→zA
open List renaming Pairwise→J7,all_eq_true→x9,any_eq_false→Q0,append_nil→Q9,contains_iff_mem→J6,drop_eq_getElem_cons→j9,drop_eq_nil_of_le→Z0,eq_of_mem_replicate→x6,ext_getElem→J2,flatMap_cons→Q4,foldl_append→J3,foldl_cons→q0,foldl_nil→J4,getD→j2,getElem?_eq_getElem→z4,getElem?_eq_none→z8,getElem?_set→Q7,getElem_cons_zero→Q6,getElem_mem→gM,getElem_of_mem→z9,getElem_zipWith→j3,length_cons→j8,length_eq_zero_iff→Q2,length_set→Q3,length_zipWith→j1,map_cons→x2,mem_append→z3,mem_cons→j7,mem_flatten→Q1,mem_map→x8,mem_range→J5,mem_singleton→j4,pairwise_cons→z5,pairwise_lt_range→J9,pairwise_map→J8,range→j0,range_succ→Q8,replicate→x5,sum_cons→x3,zipWith→x7
open Nat renaming le_refl→lR,le_trans→lT,lt_irrefl→Q5,lt_of_lt_of_le→lL,mul_le_mul_right→x4,not_lt→z7,zero_add→x0,zero_le→x1
open Option renaming getD_none→J1,getD_some→J0,none→nO,some→sO
set_option linter.unusedSimpArgs false
set_option linter.unusedVariables false
set_option maxHeartbeats 4000000
set_option maxRecDepth 100000
namespace Go.Proofs.YtmapdpcfanecdabGreatDoor
section
theorem rq {α β:Type}{f:α->β->Bool}{a:List α}{b:List β}:(x7 f a b).all id=true↔∀i (h1:i < a.length) (h2:i < b.length),f a[i] b[i]=true:=by
 induction a generalizing b with
 |nil=>simp
 |cons x a ih=>
  cases b with
  |nil=>simp
  |cons y b=>
   rw[List.zipWith_cons_cons,List.all_cons,j5,ih];constructor
   ·rintro ⟨h,h'⟩ i h1 h2
    cases i with
    |zero=>exact h
    |succ i=>exact h' i fG iF
   ·intro h
    exact⟨h 0 ah ah,λi h1 h2=>h (i+1) fG iF⟩

theorem mem_siteSet {a b:List Int}{x:Int}:x∈fX a b↔(0<=x/\x < 60)/\(x∈a\/x∈b):=by
 unfold fX;simp only[List.mem_filter,x8,J5,Bool.or_eq_true,J6];constructor
 ·rintro ⟨⟨n,hn,rfl⟩,h⟩
  exact⟨by omega,h⟩
 ·rintro ⟨⟨h0,h1⟩,h⟩
  exact⟨⟨x.toNat,aa,aa⟩,h⟩
theorem nY (a b:List Int):(fX a b).Pairwise (· < ·):=by
 unfold fX;refine J7.filter _ ?_;rw[J8];exact J9.imp (by intro a b h;omega)
theorem ma:∀{l:List Int},l.Pairwise (· < ·)->cW l=true
 |[],_=>rfl
 |[_],_=>rfl
 |a::b::r,h=>by
  unfold cW;rw[z5] at h;simp[h.1 b ah,ma h.2]
theorem ckGs_iff {c:List Ins}{g:Gs}:aE c g=0↔g.sp.Ok/\(∀x∈g.s,b9 c x=true)/\cW g.s=true:=by
 unfold aE;by_cases h1:cu g.sp=0
 ·rw[if_neg fG]
  by_cases h2:g.s.all (b9 c)=false
  ·rw[if_pos h2]
   refine⟨(λh=>aX),λh=> ?_⟩;rw[x9.2 h.2.1] at h2;cases h2
  ·rw[if_neg h2]
   have h2':∀x∈g.s,b9 c x=true:=iF;by_cases h3:cW g.s=false
   ·rw[if_pos h3]
    exact⟨λh=>aX,λh=>(by rw[h.2.2] at h3;cases h3)⟩
   ·rw[if_neg h3]
    exact⟨λ_=>⟨ckSp_ok.1 h1,h2',by simpa using h3⟩,λ_=>rfl⟩
 ·rw[if_pos h1]
  exact⟨λh=>absurd h h1,λh=>absurd (ckSp_ok.2 h.1) h1⟩
theorem dk {c:List Ins}{x:Int}(h:b9 c x=true):0<=x/\x < c.length:=by
 unfold b9 at h;simp only[j5,decide_eq_true_eq] at h;omega

theorem Cy {s:Sp}{a:Int}:s.has a=true↔s.n=false/\s.lo<=a/\a<=s.hi:=by
 unfold Sp.has;simp only[j5,z6,decide_eq_true_eq]
theorem dJ {s t:Sp}(h:s.lo<=s.hi):dX s t=true↔s.n=true\/(t.n=false/\t.lo<=s.lo/\s.hi<=t.hi):=by
 unfold dX;rw[Bool.or_eq_true,j5,Cy,Cy];constructor
 ·rintro (h|⟨⟨h1,h2,h3⟩,_,h4,h5⟩)
  ·exact .inl h
  ·exact .inr ⟨h1,h2,h5⟩
 ·rintro (h|⟨h1,h2,h3⟩)
  ·exact .inl h
  ·exact .inr ⟨⟨h1,aa,aa⟩,h1,aa,aa⟩
theorem LC {s t:Sp}(hs:s.Ok)(ht:t.Ok):dX s (bj s t)=true/\dX t (bj s t)=true:=by
 obtain⟨_,_,_,h1⟩:=hs;obtain⟨_,_,_,h2⟩:=ht;rw[dJ h1,dJ h2];unfold bj;cases hn:s.n with
 |true=>
  simp only[if_true];cases ht':t.n with
  |true=>simp
  |false=>simp
 |false=>
  simp only[j6,if_false];cases ht':t.n with
  |true=>simp[hn]
  |false=>simp;omega
theorem LP {s t:Sp}(hs:s.Ok)(ht:t.Ok):dX s (br s t)=true/\dX t (br s t)=true:=by
 obtain⟨⟨s1,s2⟩,⟨s3,s4⟩,_,h1⟩:=hs;obtain⟨⟨t1,t2⟩,⟨t3,t4⟩,_,h2⟩:=ht;rw[dJ h1,dJ h2];unfold br;cases hn:s.n with
 |true=>
  simp only[if_true];cases ht':t.n with
  |true=>simp
  |false=>simp
 |false=>
  simp only[j6,if_false];cases ht':t.n with
  |true=>simp[hn]
  |false=>
   simp only[j6,if_false,false_or,true_and]
   (repeat' split)<;>omega
section
variable {c:List Ins} {g h:Gs} {w:Bool}
theorem oC (w:Bool)(g h:Gs):(am w g h).sp=if w then br g.sp h.sp else bj g.sp h.sp:=rfl
theorem kY (hg:aE c g=0)(hh:aE c h=0):aE c (am w g h)=0:=by
 rw[ckGs_iff] at hg hh |-;refine⟨?_,λx hx=> ?_,ma (nY _ _)⟩
 ·rw[oC]
  cases w
  ·exact KV hg.1 hh.1
  ·exact LN hg.1 hh.1
 ·rcases (mem_siteSet.1 hx).2 with h|h
  ·exact hg.2.1 x h
  ·exact hh.2.1 x h
theorem inGs_iff {g h:Gs}:cZ g h=true↔(g.n=true->h.n=true)/\(g.t=true->h.t=true)/\(g.f=true->h.f=true)/\dX g.sp h.sp=true/\∀x∈g.s,x∈h.s:=by
 unfold cZ;simp only[j5,z6,Bool.and_eq_false_imp,Bool.not_eq_false',x9,J6]
theorem o8 (h60:c.length<=60)(hg:aE c g=0)(hh:aE c h=0):cZ g (am w g h)=true/\cZ h (am w g h)=true:=by
 rw[ckGs_iff] at hg hh;have hs:dX g.sp (am w g h).sp=true/\dX h.sp (am w g h).sp=true:=by
  rw[oC];cases w
  ·exact LC hg.1 hh.1
  ·exact LP hg.1 hh.1
 have hm:∀x,x∈g.s\/x∈h.s->x∈(am w g h).s:=λx hx=>mem_siteSet.2 ⟨by
  rcases hx with hx|hx
  ·have:=dk (hg.2.1 x hx);omega
  ·have:=dk (hh.2.1 x hx);omega,hx⟩
 rw[inGs_iff,inGs_iff];refine⟨⟨λe=> ?_,λe=> ?_,λe=> ?_,hs.1,λx hx=>hm x (.inl hx)⟩,⟨λe=> ?_,λe=> ?_,λe=> ?_,hs.2,λx hx=>hm x (.inr hx)⟩⟩<;>simp[am,e]
end

theorem lm {c:List Ins}{p:Gs->Bool}:∀{l:List (List Gs)} {i:Nat},dA c p i l=false↔∀k (h:k < l.length),b9 c ((i+k:Nat):Int)=true\/∀g∈l[k],p g=false
 |[],i=>by simp[dA]
 |r::l,i=>by
  unfold dA;rw[Bool.or_eq_false_iff,lm (l:=l)];constructor
  ·rintro ⟨h,h'⟩ k hk
   cases k with
   |zero=>
    rw[Bool.and_eq_false_iff] at h;rcases h with h|h
    ·exact .inl cl
    ·exact .inr cl
   |succ k=>
    have:=h' k fC;rwa [show i+1+k=i+(k+1) by omega] at this
  ·intro h
   refine⟨?_,λk hk=> ?_⟩
   ·rw[Bool.and_eq_false_iff]
    rcases h 0 ah with h|h
    ·exact .inl cl
    ·exact .inr cl
   ·have:=h (k+1) fC
    rwa [show i+(k+1)=i+1+k by omega] at this
theorem nQ {c:List Ins}:∀{l:List Gs},bZ c l=0↔∀g∈l,aE c g=0
 |[]=>by simp[bZ]
 |g::l=>by
  unfold bZ;by_cases h:aE c g=0
  ·rw[if_pos h,nQ]
   simp[h]
  ·rw[if_neg h]
   exact⟨λe=>absurd e h,λe=>e g ah⟩
structure PicOk (V F:Int) (c:List Ins) (x:Pic):Prop where
 none:x.none=false
 vars:(x.vars.length:Int)=V
 flds:x.flds.length=c.length
 row:∀k (h:k < x.flds.length),(x.flds[k].length:Int)=F
 gv:∀g∈x.vars,aE c g=0
 gf:∀k (h:k < x.flds.length),∀g∈x.flds[k],aE c g=0
 stray:∀k (h:k < x.flds.length),b9 c (k:Int)=true\/∀g∈x.flds[k],ap g=true
theorem i7 {V F:Int}{c:List Ins}{x:Pic}(hn:x.none=true):aK V F c x=0↔x=nonePic:=by
 obtain⟨n,vars,flds⟩:=x;simp only at hn;subst hn;unfold aK bH nonePic;simp only[if_true,Pic.mk.injEq,true_and];constructor
 ·intro h
  split at h
  ·cases h
  ·rename_i h1
   simpa using h1
 ·rintro ⟨rfl,rfl⟩
  rfl
theorem wI {V F:Int}{c:List Ins}{x:Pic}(hn:x.none=false):aK V F c x=0↔PicOk V F c x:=by
 obtain⟨n,vars,flds⟩:=x;simp only at hn;subst hn;unfold aK bH bO;simp only[j6,if_false];constructor
 ·intro h
  split at h
  ·cases h
  rename_i h1;split at h
  ·rename_i h2;exact absurd h h2
  rename_i h2;split at h
  ·cases h
  rename_i h3;simp only[Bool.not_eq_false,j5,decide_eq_true_eq,z6,Q0,decide_eq_false_iff_not,Decidable.not_not] at h1;simp only[ne_eq,Decidable.not_not] at h2;rw[nQ] at h2;rw[Bool.not_eq_true,lm] at h3;refine⟨rfl,h1.1,h1.2.1,λk h=> ?_,λg hg=>h2 g (by simp[hg]),λk h g hg=>h2 g ?_,λk h=> ?_⟩
  ·have:=h1.2.2 _ (gM h)
   simpa using this
  ·rw[z3,Q1]
   exact .inr ⟨_,gM h,hg⟩
  ·rcases h3 k h with h3|h3
   ·exact .inl (by simpa using h3)
   ·exact .inr λg hg=>by simpa using h3 g hg
 ·rintro ⟨-,h1,h2,h3,h4,h5,h6⟩
  simp only at h1 h2 h3 h4 h5 h6;rw[if_neg,if_neg,if_neg]
  ·rw[Bool.not_eq_true,lm]
   intro k h;rcases h6 k h with h6|h6
   ·exact .inl (by simpa using h6)
   ·exact .inr λg hg=>by simpa using h6 g hg
  ·rw[ne_eq,Decidable.not_not,nQ]
   intro g hg;rw[z3,Q1] at hg;rcases hg with hg|⟨r,hr,hg⟩
   ·exact h4 g hg
   ·obtain⟨k,hk,rfl⟩:=z9 hr
    exact h5 k hk g hg
  ·simp only[Bool.not_eq_false,j5,decide_eq_true_eq,z6,Q0]
   refine⟨h1,h2,λr hr=> ?_⟩;obtain⟨k,hk,rfl⟩:=z9 hr;simpa using h3 k hk
section
variable {V F:Int} {c:List Ins} {x y:Pic} {w:Bool}
theorem cr (h:aK V F c x=0)(hn:x.none=false):PicOk V F c x:=(wI hn).1 h
theorem PicOk.ck (h:PicOk V F c x):aK V F c x=0:=(wI h.none).2 h
theorem Bc {g:Gs}:ap g=true↔g.sp.n=true/\g.n=false/\g.t=false/\g.f=false/\g.s=[]:=by
 unfold ap aL;simp only[j5,z6,Bool.or_eq_false_iff,decide_eq_false_iff_not,z7,Nat.le_zero,Q2]
theorem Ax {g h:Gs}(hg:ap g=true)(hh:ap h=true):ap (am w g h)=true:=by
 rw[Bc] at hg hh |-;obtain⟨a1,a2,a3,a4,a5⟩:=hg;obtain⟨b1,b2,b3,b4,b5⟩:=hh;refine⟨?_,by simp[am,a2,b2],by simp[am,a3,b3],by simp[am,a4,b4],by simp[am,fX,a5,b5]⟩;rw[oC];cases w<;>simp[bj,br,a1,b1]
theorem lC {j:Gs->Gs->Gs}{a b:List Gs}:(aN j a b).length=min a.length b.length:=j1
theorem lu {j:Gs->Gs->Gs}{a b:List Gs}{g:Gs}(h:g∈aN j a b):∃i,∃(h1:i < a.length) (h2:i < b.length),g=j a[i] b[i]:=by
 obtain⟨i,hi,rfl⟩:=z9 h;have hi':=hi;rw[lC] at hi';exact⟨i,aa,aa,by simp[aN]⟩
theorem PicOk.join (hx:PicOk V F c x)(hy:PicOk V F c y):PicOk V F c (aG (am w) x y):=by
 have e:aG (am w) x y=⟨false,aN (am w) x.vars y.vars,x7 (aN (am w)) x.flds y.flds⟩:=by
  unfold aG;rw[if_neg (by rw[hx.none];decide),if_neg (by rw[hy.none];decide)]
 rw[e];have l1:=hx.vars;have l2:=hy.vars;have l3:=hx.flds;have l4:=hy.flds;refine⟨rfl,?_,?_,λk h=> ?_,λg hg=> ?_,λk h g hg=> ?_,λk h=> ?_⟩
 ·simp only[lC];omega
 ·simp only[j1];omega
 ·simp only[j1] at h
  have:=hx.row k aa;have:=hy.row k aa;simp only[j3,lC];omega
 ·obtain⟨i,h1,h2,rfl⟩:=lu hg
  exact kY (hx.gv _ (gM _)) (hy.gv _ (gM _))
 ·simp only[j1] at h
  simp only[j3] at hg;obtain⟨i,h1,h2,rfl⟩:=lu hg;exact kY (hx.gf k aa _ (gM _)) (hy.gf k aa _ (gM _))
 ·simp only[j1] at h
  rcases hx.stray k aa with a|a
  ·exact .inl a
  rcases hy.stray k aa with b|b
  ·exact .inl b
  right;intro g hg;simp only[j3] at hg;obtain⟨i,h1,h2,rfl⟩:=lu hg;exact Ax (a _ (gM _)) (b _ (gM _))
theorem sD (hx:aK V F c x=0)(hy:aK V F c y=0):aK V F c (aG (am w) x y)=0:=by
 cases hn:x.none with
 |true=>unfold aG;rw[if_pos hn];exact hy
 |false=>
  cases hm:y.none with
  |true=>unfold aG;rw[if_neg o9,if_pos hm];exact hx
  |false=>exact((cr hx hn).join (cr hy hm)).ck
theorem wH {a b:List Gs}:eT a b=true↔∀i (h1:i < a.length) (h2:i < b.length),cZ a[i] b[i]=true:=rq
theorem eE (hn:x.none=false)(hm:y.none=false):bG x y=true↔(∀i (h1:i < x.vars.length) (h2:i < y.vars.length),cZ x.vars[i] y.vars[i]=true)/\∀k (h1:k < x.flds.length) (h2:k < y.flds.length) i (h3:i < x.flds[k].length) (h4:i < y.flds[k].length),cZ x.flds[k][i] y.flds[k][i]=true:=by
 unfold bG;rw[hn,hm];simp only[Bool.false_or,Bool.not_false,Bool.true_and,j5];rw[wH,rq];simp only[wH]
theorem lS {g:Gs}(h:aE c g=0):g.sp.lo<=g.sp.hi:=(ckGs_iff.1 h).1.2.2.2
theorem IE {L:List (List Gs)}{k:Nat}(h:k < L.length):L.getD k []=L[k]:=by simp[j2,z4 h]
theorem GL {L:List (List Gs)}{k:Nat}(h:¬k < L.length):L.getD k []=[]:=by simp[j2,z8 (z7.1 h)]
theorem mB (h60:c.length<=60)(hx:aK V F c x=0)(hy:aK V F c y=0):bG x (aG (am w) x y)=true/\bG y (aG (am w) x y)=true:=by
 have self:∀{z:Pic},aK V F c z=0->bG z z=true:=by
  intro z hz;cases hn:z.none with
  |true=>simp[bG,hn]
  |false=>
   have kz:=cr hz hn;rw[eE hn hn];have sg:∀{g:Gs},aE c g=0->cZ g g=true:=λhg=>inGs_iff.2 ⟨id,id,id,by
    rw[dJ (lS hg)];rename_i g;cases e:g.sp.n with
    |true=>exact .inl rfl
    |false=>exact .inr ⟨rfl,aa,aa⟩,λ_ h=>h⟩
   exact⟨λi h1 _=>sg (kz.gv _ (gM _)),λk h1 _ i h3 _=>sg (kz.gf k h1 _ (gM _))⟩
 cases hn:x.none with
 |true=>
  have e:aG (am w) x y=y:=by unfold aG;rw[if_pos hn]
  rw[e];exact⟨by simp[bG,hn],self hy⟩
 |false=>
  cases hm:y.none with
  |true=>
   have e:aG (am w) x y=x:=by unfold aG;rw[if_neg (by rw[hn];decide),if_pos hm]
   rw[e];exact⟨self hx,by simp[bG,hm]⟩
  |false=>
   have kx:=cr hx hn;have ky:=cr hy hm;have e:aG (am w) x y=⟨false,aN (am w) x.vars y.vars,x7 (aN (am w)) x.flds y.flds⟩:=by
    unfold aG;rw[if_neg o9,if_neg (by rw[hm];decide)]
   rw[e,eE hn rfl,eE hm rfl];refine⟨⟨λi h1 h2=> ?_,λk h1 h2 i h3 h4=> ?_⟩,⟨λi h1 h2=> ?_,λk h1 h2 i h3 h4=> ?_⟩⟩
   ·simp only[aN,j1] at h2
    simp only[aN,j3];exact(o8 h60 (kx.gv _ (gM _)) (ky.gv _ (gM _))).1
   ·simp only[j1] at h2
    simp only[aN,j3,j1] at h4;simp only[aN,j3];exact(o8 h60 (kx.gf k h1 _ (gM _)) (ky.gf k aa _ (gM _))).1
   ·simp only[aN,j1] at h2
    simp only[aN,j3];exact(o8 h60 (kx.gv _ (gM _)) (ky.gv _ (gM _))).2
   ·simp only[j1] at h2
    simp only[aN,j3,j1] at h4;simp only[aN,j3];exact(o8 h60 (kx.gf k aa _ (gM _)) (ky.gf k h1 _ (gM _))).2
end
structure Edg where
 tgt:Int
 pic:Pic
def gAt (x:Pic)(i:Int):Gs:=x.vars.getD i.toNat noneG
def aU (x:Pic)(i:Int)(g:Gs):Pic:={x with vars:=x.vars.set i.toNat g}
def fAt (x:Pic)(s n:Int):Gs:=(x.flds.getD s.toNat []).getD n.toNat noneG
def nJ (x:Pic)(s n:Int)(g:Gs):Pic:={x with flds:=x.flds.modify s.toNat λr=>r.set n.toNat g}
def bV (s:Sp):Sp:=if s.n then⟨true,0,0⟩ else if (if s.hi=0 then -1 else s.hi) < (if s.lo=0 then 1 else s.lo) then⟨true,0,0⟩ else⟨false,if s.lo=0 then 1 else s.lo,if s.hi=0 then -1 else s.hi⟩
def bt (g:Gs):Gs:=⟨false,bV g.sp,g.t,false,g.s⟩
def bW (g:Gs):Gs:=⟨g.n,if g.sp.has 0 then⟨false,0,0⟩ else⟨true,0,0⟩,false,g.f,[]⟩
def bJ (g:Gs):Bool:=g.n||(!g.sp.n||(g.t||g.f))
def dN (x:Pic)(n:Int)(l:List Int):Gs:=l.foldl (λg s=>am false g (fAt x s n)) noneG
def c8 (x:Pic)(n:Int)(b:Gs)(l:List Int):Pic:=l.foldl (λy s=>nJ y s n (am false (fAt y s n) b)) x
def aY (i:Ins)(at_:Int)(x:Pic):Gs×Bool:=
 if i.k=1 then(⟨false,⟨false,i.n,i.n⟩,false,false,[]⟩,false)
 else if i.k=2 then(⟨false,⟨true,0,0⟩,decide (i.n=1),decide (i.n=0),[]⟩,false)
 else if i.k=3 then(cS,false)
 else if i.k=11 then(⟨false,⟨true,0,0⟩,false,false,[at_]⟩,false)
 else if i.k=12 then(dN x i.n (gAt x i.a).s,bJ (gAt x i.a))
 else if i.k=14 then(⟨false,⟨false,-i.n,i.n⟩,false,false,[]⟩,false)
 else cC i.k (gAt x i.a) (gAt x i.b)
def fA (at_:Int)(x:Pic):Pic:={x with flds:=x.flds.modify at_.toNat λr=>r.map λg=>{g with n:=true}}
def aA (i:Ins)(at_:Int)(x:Pic):List Edg×Bool×Bool:=
 if x.none then([],false,false)
 else if i.k=19 then([],false,false)
 else if i.k=18 then([⟨at_+1,x⟩],false,false)
 else if i.k=16 then([⟨i.g,x⟩],false,false)
 else if i.k=15 then((if b8 (gAt x i.a) then [⟨i.g,aU x i.a (bt (gAt x i.a))⟩] else [])++(if cE (gAt x i.a) then [⟨at_+1,aU x i.a (bW (gAt x i.a))⟩] else []),false,false)
 else if i.k=17 then((if b8 (gAt x i.a) then [⟨at_+1,aU x i.a (bt (gAt x i.a))⟩] else []),false,cE (gAt x i.a))
 else if i.k=13 then(if (gAt x i.a).s.length=0 then([],bJ (gAt x i.a),false) else([⟨at_+1,c8 x i.n (gAt x i.b) (gAt x i.a).s⟩],bJ (gAt x i.a),false))
 else if ap (aY i at_ x).1 then([],(aY i at_ x).2,false)
 else([⟨at_+1,aU (if i.k=11 then fA at_ x else x) i.tgt (aY i at_ x).1⟩],(aY i at_ x).2,false)

section
variable {V F:Int} {c:List Ins} {x:Pic} {g b:Gs}
theorem gH (hx:PicOk V F c x)(i:Int):aE c (gAt x i)=0:=by
 unfold gAt;by_cases h:i.toNat < x.vars.length
 ·simp only[j2,z4 h,J0]
  exact hx.gv _ (gM h)
 ·simp only[j2,z8 (z7.1 h),J1]
  rfl
theorem tF (hx:PicOk V F c x)(s n:Int):aE c (fAt x s n)=0:=by
 unfold fAt;by_cases h:s.toNat < x.flds.length
 ·rw[IE h]
  by_cases h2:n.toNat < x.flds[s.toNat].length
  ·simp only[j2,z4 h2,J0]
   exact hx.gf _ h _ (gM h2)
  ·simp only[j2,z8 (z7.1 h2),J1]
   rfl
 ·rw[GL h]
  rfl
theorem PicOk.setVar (hx:PicOk V F c x)(i:Int)(hg:aE c g=0):PicOk V F c (aU x i g):=by
 refine⟨hx.none,by simpa[Go.Proofs.YtmapdpcfanecdabGreatDoor.aU] using hx.vars,hx.flds,hx.row,λh hh=> ?_,hx.gf,hx.stray⟩;rcases sq hh with rfl|hh
 ·exact hg
 ·exact hx.gv h hh
theorem gq {L:List (List Gs)}{s k:Nat}{f:List Gs->List Gs}(h:k < (L.modify s f).length):(L.modify s f)[k]=if s=k then f (L[k]'(by simpa using h)) else L[k]'(by simpa using h):=by
 rw[List.getElem_modify]
theorem PicOk.setFld (hx:PicOk V F c x)(s n:Int)(h0:0<=s)(hs:b9 c s=true)(hg:aE c g=0):PicOk V F c (nJ x s n g):=by
 refine⟨hx.none,hx.vars,by simpa[Go.Proofs.YtmapdpcfanecdabGreatDoor.nJ] using hx.flds,λk h=> ?_,hx.gv,λk h q hq=> ?_,λk h=> ?_⟩
 ·have h':k < x.flds.length:=by simpa[Go.Proofs.YtmapdpcfanecdabGreatDoor.nJ] using h
  show (((x.flds.modify s.toNat λr=>r.set n.toNat g)[k]'(by simpa using h')).length:Int)=F;rw[gq];split
  ·rw[Q3];exact hx.row k h'
  ·exact hx.row k h'
 ·have h':k < x.flds.length:=by simpa[Go.Proofs.YtmapdpcfanecdabGreatDoor.nJ] using h
  have hq':q∈(x.flds.modify s.toNat λr=>r.set n.toNat g)[k]'(by simpa using h'):=hq;rw[gq] at hq';split at hq'
  ·rcases sq hq' with rfl|hq'
   ·exact hg
   ·exact hx.gf k h' q hq'
  ·exact hx.gf k h' q hq'
 ·have h':k < x.flds.length:=by simpa[Go.Proofs.YtmapdpcfanecdabGreatDoor.nJ] using h
  by_cases e:s.toNat=k
  ·left
   rw[<-e,Int.toNat_of_nonneg h0];exact hs
  ·rcases hx.stray k h' with a|a
   ·exact .inl a
   ·right
    intro q hq;have hq':q∈(x.flds.modify s.toNat λr=>r.set n.toNat g)[k]'(by simpa using h'):=hq;rw[gq,if_neg e] at hq';exact a q hq'
theorem rK (hx:PicOk V F c x)(n:Int)(l:List Int):aE c (dN x n l)=0:=by
 unfold dN;have:∀(l:List Int) (g:Gs),aE c g=0->aE c (l.foldl (λg s=>am false g (fAt x s n)) g)=0:=by
  intro l;induction l with
  |nil=>exact λg h=>h
  |cons s l ih=>exact λg h=>ih _ (kY h (tF hx s n))
 exact this l _ rfl
theorem oK (hx:PicOk V F c x)(n:Int)(hb:aE c b=0):∀(l:List Int),(∀s∈l,b9 c s=true)->PicOk V F c (c8 x n b l):=by
 intro l;unfold c8;induction l generalizing x with
 |nil=>exact λ_=>hx
 |cons s l ih=>
  intro h;have hs:=h s ah;exact ih (hx.setFld s n (dk hs).1 hs (kY (tF hx s n) hb)) λt ht=>h t (by simp[ht])
theorem fF:(⟨true,0,0⟩:Sp).Ok:=⟨by unfold ba;simp only;omega,by unfold ba;simp only;omega,λ_=>⟨rfl,rfl⟩,Int.le_refl _⟩
theorem iv {lo hi:Int}(h1: -2147483648<=lo)(h2:hi<=2147483647)(h:lo<=hi):(⟨false,lo,hi⟩:Sp).Ok:=⟨⟨h1,au⟩,⟨au,h2⟩,(λh=>aX),h⟩
theorem Hd {s:Sp}(h:s.Ok):(bV s).Ok:=by
 obtain⟨⟨a1,a2⟩,⟨a3,a4⟩,a5,a6⟩:=h;unfold bV;split
 ·exact fF
 generalize e1:(if s.hi=0 then(-1:Int) else s.hi)=hi;generalize e2:(if s.lo=0 then(1:Int) else s.lo)=lo;split
 ·exact fF
 ·have:hi<=2147483647:=by rw[<-e1];split<;>omega
  have: -2147483648<=lo:=by rw[<-e2];split<;>omega
  exact iv aa aa aa
theorem wf (h:aE c g=0):aE c (bt g)=0:=by
 rw[ckGs_iff] at h |-;exact⟨Hd h.1,h.2⟩
theorem Et (h:aE c g=0):aE c (bW g)=0:=by
 rw[ckGs_iff] at h |-;refine⟨?_,λx hx=>by simp[bW] at hx,rfl⟩;show (if g.sp.has 0=true then _ else _:Sp).Ok;split
 ·exact iv aa aa aa
 ·exact fF
theorem eK {n t f:Bool}{sp:Sp}(h:sp.Ok):aE c ⟨n,sp,t,f,[]⟩=0:=by
 rw[ckGs_iff];exact⟨h,λx hx=>by simp at hx,rfl⟩
theorem LQ {k:Int}{h:Gs}(hg:aE c g=0)(hh:aE c h=0):aE c (cC k g h).1=0:=by
 unfold cC;split
 ·exact hg
 split
 ·exact eK fF
 split
 ·rfl
 split
 ·exact eK fF
 split
 ·exact eK fF
 ·exact eK (MJ (ckGs_iff.1 hg).1 (ckGs_iff.1 hh).1)
theorem PicOk.newPic (hx:PicOk V F c x){at_:Int}(h0:0<=at_)(hs:b9 c at_=true):PicOk V F c (fA at_ x):=by
 refine⟨hx.none,hx.vars,by simpa[Go.Proofs.YtmapdpcfanecdabGreatDoor.fA] using hx.flds,λk h=> ?_,hx.gv,λk h q hq=> ?_,λk h=> ?_⟩
 ·have h':k < x.flds.length:=by simpa[Go.Proofs.YtmapdpcfanecdabGreatDoor.fA] using h
  show (((x.flds.modify at_.toNat λr=>r.map λg=>{g with n:=true})[k]'(by simpa using h')).length:Int)=F;rw[gq];split
  ·rw[List.length_map];exact hx.row k h'
  ·exact hx.row k h'
 ·have h':k < x.flds.length:=by simpa[Go.Proofs.YtmapdpcfanecdabGreatDoor.fA] using h
  have hq':q∈(x.flds.modify at_.toNat λr=>r.map λg=>{g with n:=true})[k]'(by simpa using h'):=hq;rw[gq] at hq';split at hq'
  ·obtain⟨p,hp,rfl⟩:=x8.1 hq'
   have:=hx.gf k h' p hp;rw[ckGs_iff] at this |-;exact this
  ·exact hx.gf k h' q hq'
 ·have h':k < x.flds.length:=by simpa[Go.Proofs.YtmapdpcfanecdabGreatDoor.fA] using h
  by_cases e:at_.toNat=k
  ·left
   rw[<-e,Int.toNat_of_nonneg h0];exact hs
  ·rcases hx.stray k h' with a|a
   ·exact .inl a
   ·right
    intro q hq;have hq':q∈(x.flds.modify at_.toNat λr=>r.map λg=>{g with n:=true})[k]'(by simpa using h'):=hq;rw[gq,if_neg e] at hq';exact a q hq'
theorem sr {p:Int}(h0:0<=p)(h1:p < c.length)(hk:(bK c p).k=11):b9 c p=true:=by
 unfold b9;unfold bK CO at hk;rw[hk];simp[h0,h1]
theorem sd (hp:ProgOk V F c)(hx:PicOk V F c x){p:Int}(h0:0<=p)(h1:p < c.length):aE c (aY (bK c p) p x).1=0:=by
 obtain⟨q1,q2,q3,q4,q5,q6,q7,q8,q9⟩:=cd (hp.each _ (nU h0 h1));unfold aY;split
 ·rename_i h
  have:=q7 h;exact eK (iv aa aa aa)
 split
 ·exact eK fF
 split
 ·exact eK fF
 split
 ·rename_i h
  rw[ckGs_iff];refine⟨fF,λy hy=> ?_,rfl⟩;rw[j4.1 hy];exact sr h0 h1 h
 split
 ·exact rK hx _ _
 split
 ·rename_i h
  have:=q9 h;exact eK (iv aa aa aa)
 ·exact LQ (gH hx _) (gH hx _)
theorem Fe (hp:ProgOk V F c)(hx:aK V F c x=0){p:Int}(h0:0<=p)(h1:p < c.length):∀e∈(aA (bK c p) p x).1,aK V F c e.pic=0/\e.pic.none=false/\0<=e.tgt/\e.tgt<=c.length:=by
 obtain⟨q1,q2,q3,q4,q5,q6,q7,q8,q9⟩:=cd (hp.each _ (nU h0 h1));intro e he;unfold aA at he;split at he
 ·simp at he
 rename_i hn;have hn':x.none=false:=mf;have kx:=cr hx hn';split at he
 ·simp at he
 split at he
 ·obtain rfl:=j4.1 he
  exact⟨hx,hn',au,au⟩
 split at he
 ·rename_i h16
  have:=q6 (by simp[nG,h16]);obtain rfl:=j4.1 he;exact⟨hx,hn',au,au⟩
 split at he
 ·rename_i h15
  have:=q6 (by simp[nG,h15]);simp only[z3] at he;rcases he with he|he
  ·split at he
   ·obtain rfl:=j4.1 he
    exact⟨(kx.setVar _ (wf (gH kx _))).ck,hn',au,au⟩
   ·simp at he
  ·split at he
   ·obtain rfl:=j4.1 he
    exact⟨(kx.setVar _ (Et (gH kx _))).ck,hn',au,au⟩
   ·simp at he
 split at he
 ·simp only at he
  split at he
  ·obtain rfl:=j4.1 he
   exact⟨(kx.setVar _ (wf (gH kx _))).ck,hn',au,au⟩
  ·simp at he
 split at he
 ·split at he
  ·simp at he
  ·obtain rfl:=j4.1 he
   have:=oK kx (bK c p).n (gH kx (bK c p).b) (gAt x (bK c p).a).s ((ckGs_iff.1 (gH kx _)).2.1);exact⟨this.ck,this.none,au,au⟩
 split at he
 ·simp at he
 ·obtain rfl:=j4.1 he
  have:PicOk V F c (if (bK c p).k=11 then fA p x else x):=by
   split
   ·rename_i h11;exact kx.newPic h0 (sr h0 h1 h11)
   ·exact kx
  have:=this.setVar (bK c p).tgt (sd hp kx h0 h1);exact⟨this.ck,this.none,au,au⟩
end
end
section
open Go.RowKit
def Cells (w:World)(b:Nat)(cs:List Value):Prop:=(∀(j:Nat) (v:Value),cs[j]? =sO v->w.cell? ⟨b,j,nO⟩=sO v)/\b < w.heap.size/\∀j,w.frozen? ⟨b,j,nO⟩=false
section
variable {w w':World} {b:Nat} {cs:List Value}
theorem Cells.same (h:Cells w b cs)(hb:w'.heap[b]? =w.heap[b]?)(hz:w.heap.size<=w'.heap.size):Cells w' b cs:=⟨λj v hj=>by rw[World.cell?_of_block (a:=⟨b,j,nO⟩) hb];exact h.1 j v hj,lL h.2.1 hz,λj=>by rw[World.frozen?_of_block (a:=⟨b,j,nO⟩) hb];exact h.2.2 j⟩
theorem Cells.call (h:Cells w b cs)(hb:bl w w'):Cells w' b cs:=h.same (hb.block b h.2.1) hb.size
theorem Cells.far (h:Cells w b cs){a:Addr}(ha:b≠a.block)(u:Value):Cells (w.setCell a u) b cs:=h.same (hSe _ _ _ _ ha) bx
theorem Cells.put (h:Cells w b cs)(j:Nat)(hj:j < cs.length)(u:Value):Cells (w.setCell ⟨b,j,nO⟩ u) b (cs.set j u):=by
 refine⟨λk v hk=> ?_,by simpa[World.setCell] using h.2.1,λk=>by rw[World.frozen?_setCell];exact h.2.2 k⟩;by_cases e:k=j
 ·subst e
  rw[List.getElem?_set_self hj] at hk;cases hk;exact World.cell?_setCell_same _ _ _ (h.1 k cs[k] (z4 hj))
 ·rw[List.getElem?_set_ne (Ne.symm e)] at hk
  rw[World.cell?_setCell_other _ _ _ _ (by intro e';cases e';exact e rfl)];exact h.1 k v hk
theorem Cells.new (w:World)(t:TypeId)(cs:List Value):Cells (w.alloc (Cc cs.toArray t)) w.heap.size cs:=by
 refine⟨λj v hj=> ?_,ah,λj=> ?_⟩
 ·have:(w.alloc (Cc cs.toArray t)).cell? ⟨w.heap.size,j,nO⟩=cs.toArray[j]? :=World.cell?_alloc_mark w cs.toArray t (0,0) j
  rw[this];simpa using hj
 ·have:=World.frozen?_alloc_mark w cs.toArray t 0 0 j
  rw[this];simp
end
def aT (i:Ins)(V F:Int)(s:oA)(c:List Ins)(cap:Nat)(at_:Int)(x:Pic)(vs:oA)(vc:Nat)(fs:oA)(fc:Nat)(ev:Value)(wr fl:Bool):List Value:=
 [I Y i.k,I Y i.tgt,I Y i.a,I Y i.b,I Y i.n,I Y i.g,I Y V,I Y F,U s c.length cap,I Y at_,Bb x.none,U vs x.vars.length vc,U fs x.flds.length fc,ev,Bb wr,Bb fl]
structure Ed where
 tgt:Int
 pic:Pic
 vs:oA
 vc:Nat
 fs:oA
 fc:Nat
def cU (e:Ed):List Value:=[I Y e.tgt,Bb e.pic.none,U e.vs e.pic.vars.length e.vc,U e.fs e.pic.flds.length e.fc]
def edG (e:Ed):Edg:=⟨e.tgt,e.pic⟩
def rE (S:Nat->Prop)(w:World)(e:Ed):Prop:=PicOn S w e.pic e.vs e.fs/\(e.pic.vars.length<=e.vc/\e.vc<=maxLen)/\(e.pic.flds.length<=e.fc/\e.fc<=maxLen)
theorem ll (e:Ed):∀u∈cU e,u.oneCell'=true:=by
 intro u hu;simp only[cU,j7,List.not_mem_nil,or_false] at hu;rcases hu with rfl|rfl|rfl|rfl<;>rfl
theorem p6:∀(l:List Ed) (i:Nat) (h:i < l.length) (j:Nat) (_:j < 4),(l.flatMap cU)[i * 4+j]? =(cU l[i])[j]?
 |[],i,h,_,_=>absurd h ah
 |x::r,0,_,j,hj=>by
  rw[Q4,Nat.zero_mul,x0,List.getElem?_append_left (by simpa[cU] using hj)];rfl
 |x::r,i+1,h,j,hj=>by
  have e4:(cU x).length=4:=rfl;rw[Q4,List.getElem?_append_right (by rw[e4];omega),e4];have:(i+1) * 4+j - 4=i * 4+j:=aa;rw[this,p6 r i cl j hj];rfl
structure ERow (n sb:Nat) (w:World) (v:Value) (L:List Ed):Prop where
 own:w.ownsRow n 45 4 v L.length (L.flatMap cU)
 off:v.ownBlock≠sO sb
 pics:∀e∈L,rE (λb=>n<=b/\b≠sb/\v.ownBlock≠sO b) w e
section
variable {n sb:Nat} {w w':World} {v v':Value} {L:List Ed}
theorem ERow.nil (n sb:Nat)(w:World):ERow n sb w (U nO 0 0) []:=⟨⟨rfl,.inl ⟨rfl,rfl⟩⟩,(λh=>aX),λe he=>by simp at he⟩
theorem ERow.same (h:ERow n sb w v L)(hs:∀b,n<=b->b≠sb->b < w.heap.size->w'.heap[b]? =w.heap[b]?)(hz:w.heap.size<=w'.heap.size):ERow n sb w' v L:=
 ⟨da h.own λb hb=>hs b (aM h.own hb).2 (λe=>h.off (by rw[hb,e])) (aM h.own hb).1,h.off,λe he=>⟨((h.pics e he).1.same (λb hb hlt=>hs b hb.1 hb.2.1 hlt) hz).mono λb hb _=>hb.1,(h.pics e he).2⟩⟩
theorem ERow.call (h:ERow n sb w v L)(hb:bl w w'):ERow n sb w' v L:=h.same (λb _ _ hlt=>hb.block b hlt) hb.size
theorem ERow.grown (h:ERow n sb w v L){e:Ed}(he:rE (λb=>n<=b/\b≠sb/\v.ownBlock≠sO b) w e)(hr:w'.ownsRow n 45 4 v' (L.length+1) (L.flatMap cU++cU e))(hg:w.grownBy w' v.ownBlock)(hv:v'.ownBlock=v.ownBlock\/v'.ownBlock=sO w.heap.size)(hsb:sb < w.heap.size):ERow n sb w' v' (L++[e]):=by
 refine⟨by rw[List.length_append,List.flatMap_append];simpa using hr,λe'=> ?_,λq hq=> ?_⟩
 ·rcases hv with hv|hv
  ·rw[hv] at e';exact h.off e'
  ·rw[hv] at e';cases e';exact absurd hsb (Q5 _)
 ·have hq':rE (λb=>n<=b/\b≠sb/\v.ownBlock≠sO b) w q:=by
   rcases z3.1 hq with hq|hq
   ·exact h.pics q hq
   ·rw[j4.1 hq];exact he
  refine⟨(hq'.1.same (λb hb hlt=>hg.block b hlt λe=>hb.2.2 e.symm) hg.size).mono λb hb _=>⟨hb.1.1,hb.1.2.1,?_⟩,hq'.2⟩;rcases hv with hv|hv
  ·rw[hv];exact hb.1.2.2
  ·rw[hv];intro e;cases e;exact absurd hb.2 (Q5 _)
theorem ERow.form (h:ERow n sb w v L):∃es ec,v=U es L.length ec/\L.length<=ec/\ec<=maxLen:=by
 rcases h.own.2 with⟨e,h0⟩|⟨g,cap,cur,e,_,_,k1,k2,_⟩
 ·exact⟨nO,0,by rw[e,h0],aa,x1 _⟩
 ·exact⟨sO ⟨g,0,nO⟩,cap,e,k1,k2⟩
end
def ClT (n sb:Nat)(eb:Option Nat)(xb b:Nat):Prop:=n<=b/\b≠sb/\b≠xb/\eb≠sO b
def la (n sb:Nat)(eb:Option Nat)(H:Nat)(w:World)(xb:Nat)(v:Ro)(gs:oA)(gc:Nat)(L:List Ro)(x:Pic):Prop:=
 H<=xb/\Cells w xb [Bb false,U v.rs v.l.length v.rc,U gs L.length gc]/\PicG (ClT n sb eb xb) H w v gs gc L/\Off v (Value.slice gs L.length gc).ownBlock L xb/\aS false v L=x
def iN:List Value->Nat->List Value->List Value
 |cs,_,[]=>cs
 |cs,o,y::ys=>iN (cs.set o y) (o+1) ys
structure Put (b:Nat) (w w':World) (cs:List Value):Prop where
 cells:Cells w' b cs
 far:∀q,q≠b->w'.heap[q]? =w.heap[q]?
 size:w.heap.size<=w'.heap.size
 low:∀{B:Nat} {a:World},B<=b->Below B a w->Below B a w'
section
variable {b:Nat} {w w':World} {cs:List Value}
theorem uy:∀(ys:List Value) (o:Nat) (w:World) (cs:List Value),Cells w b cs->o+ys.length<=cs.length->Cells (bw w b o ys) b (iN cs o ys)
 |[],_,_,_,h,_=>h
 |y::ys,o,w,cs,h,hl=>uy ys (o+1) _ _ (h.put o (by simp at hl;omega) y) (by simp at hl |-;omega)
theorem bM (h:Cells w b cs)(o:Nat)(ys:List Value)(e:w'=bw w b o ys)(hl:o+ys.length<=cs.length:=by simp):Put b w w' (iN cs o ys):=by
 subst e;exact⟨uy ys o w cs h hl,λq hq=>yU b q hq ys o w,by rw[wF];exact Nat.le_refl _,λhB hb=>tC b hB ys o w hb⟩
theorem Put.refl (h:Cells w b cs):Put b w w cs:=⟨h,λ_ _=>rfl,lR _,λ_ hb=>hb⟩
theorem Put.trans {w2:World}{ds:List Value}(p:Put b w w' cs)(q:Put b w' w2 ds):Put b w w2 ds:=⟨q.cells,λk hk=>(q.far k hk).trans (p.far k hk),lT p.size q.size,λhB hb=>q.low hB (p.low hB hb)⟩
theorem Put.keep (p:Put b w w' cs){q:Nat}{ds:List Value}(h:Cells w q ds)(hq:q≠b:=by omega):Cells w' q ds:=h.same (p.far q hq) p.size
theorem Put.ints (p:Put b w w' cs){S:Nat->Prop}{ss:oA}{l:List Int}(h:IntsIn S w ss l)(hS:∀q,S q->q≠b):IntsIn S w' ss l:=h.same (λq hq _=>p.far q (hS q hq)) p.size
end
theorem ux (s t:Sp)(b:Bool)(w:World)(h:(s.n||t.n)=true):
  Calls pG 167 #[sv s,sv t,Bb b] w λe w'=>e=Rt (sv (bj s t))/\bl w w':=by
 obtain⟨n,lo,hi⟩:=s;obtain⟨n',lo',hi'⟩:=t;cases n with
 |true=>
  go_enter Tryz.func167,Tryz.ntmps167;go_wp2
  go_returns
  exact⟨rfl,ai⟩
 |false=>
  cases n' with
  |true=>
   go_enter Tryz.func167,Tryz.ntmps167;go_wp2
   go_returns
   exact⟨rfl,ai⟩
  |false=>exact absurd h ah

theorem KX {lo hi lo' hi' a b:Int}(ha:a=if lo' < lo then -2147483648 else lo)(hb:b=if hi < hi' then 2147483647 else hi):br ⟨false,lo,hi⟩ ⟨false,lo',hi'⟩=⟨false,a,b⟩:=by
 subst ha hb;rfl
abbrev dW (e:Int)(r:Sp):Sp:=if e=0 then r else bD

theorem In (s t:Sp)(w:World):
  Calls pG 181 #[sv s,sv t,.func (.func 182) #[] #[]] w λe w'=>e=Rt (Tu #[sv (dW (bu s t) (bj s t)),I Y (bu s t)])/\bl w w':=by
 by_cases h:bu s t=0
 ·rw[h];exact yr s t w h
 ·unfold dW;rw[if_neg h];exact kX _ s t w h

theorem Hk (s t:Sp)(w:World):
  Calls pG 124 #[sv s,sv t] w λe w'=>e=Rt (Tu #[sv (dW (bu s t) (bj s t)),I Y (bu s t)])/\bl w w':=by
 have hT:=In s t;generalize dW (bu s t) (bj s t)=r at hT |-;generalize bu s t=c at hT |-;obtain⟨n,lo,hi⟩:=s;obtain⟨n',lo',hi'⟩:=t;obtain⟨rn,rlo,rhi⟩:=r;go_enter Tryz.func124,Tryz.ntmps124;go_wp2_with (go_at_call 181;fail);refine(hT _).mono ?_;rintro e w1 ⟨rfl,hb1⟩;obtain⟨-,-,⟨r0,r1,r2⟩,⟨f0,f1,f2⟩,z0,z1,z2⟩:=dS (s:=⟨n,lo,hi⟩) (t:=⟨n',lo',hi'⟩) (r:=bD) hb1 ah;have H1:bl w w1:=(dQ ⟨n,lo,hi⟩ ⟨n',lo',hi'⟩ bD w).trans (hb1.mono an);simp only[bD] at r0 r1 r2;clear hb1 hT;go_wp2;refine bodyPost_ret (v:=Tu #[sv ⟨rn,rlo,rhi⟩,I Y c]) (by simp[results,Tryz.results124,go_sem,r0,r1,r2]) rfl ⟨rfl,?_⟩;exact((H1.setCell an _).setCell an _).setCell an _

theorem Kz (s t:Sp)(w:World):
  Calls pG 181 #[sv s,sv t,.func (.func 197) #[] #[]] w λe w'=>e=Rt (Tu #[sv (dW (bu s t) (aF s t)),I Y (bu s t)])/\bl w w':=by
 by_cases h:bu s t=0
 ·rw[h];exact yu s t w h
 ·unfold dW;rw[if_neg h];exact kX _ s t w h

theorem iU (s t:Sp)(w:World):
  Calls pG 159 #[sv s,sv t] w λe w'=>e=Rt (Tu #[sv (dW (bu s t) (aF s t)),I Y (bu s t)])/\bl w w':=by
 have hT:=Kz s t;generalize dW (bu s t) (aF s t)=r at hT |-;generalize bu s t=c at hT |-;obtain⟨n,lo,hi⟩:=s;obtain⟨n',lo',hi'⟩:=t;obtain⟨rn,rlo,rhi⟩:=r;go_enter Tryz.func159,Tryz.ntmps159;go_wp2_with (go_at_call 181;fail);refine(hT _).mono ?_;rintro e w1 ⟨rfl,hb1⟩;obtain⟨-,-,⟨r0,r1,r2⟩,⟨f0,f1,f2⟩,z0,z1,z2⟩:=dS (s:=⟨n,lo,hi⟩) (t:=⟨n',lo',hi'⟩) (r:=bD) hb1 ah;have H1:bl w w1:=(dQ ⟨n,lo,hi⟩ ⟨n',lo',hi'⟩ bD w).trans (hb1.mono an);simp only[bD] at r0 r1 r2;clear hb1 hT;go_wp2;refine bodyPost_ret (v:=Tu #[sv ⟨rn,rlo,rhi⟩,I Y c]) (by simp[results,Tryz.results159,go_sem,r0,r1,r2]) rfl ⟨rfl,?_⟩;exact((H1.setCell an _).setCell an _).setCell an _

theorem GM (s t:Sp)(w:World):
  Calls pG 181 #[sv s,sv t,.func (.func 183) #[] #[]] w λe w'=>e=Rt (Tu #[sv (dW (bu s t) (br s t)),I Y (bu s t)])/\bl w w':=by
 by_cases h:bu s t=0
 ·rw[h];exact vL s t w h
 ·unfold dW;rw[if_neg h];exact kX _ s t w h

theorem Fa (s t:Sp)(w:World):
  Calls pG 125 #[sv s,sv t] w λe w'=>e=Rt (Tu #[sv (dW (bu s t) (br s t)),I Y (bu s t)])/\bl w w':=by
 have hT:=GM s t;generalize dW (bu s t) (br s t)=r at hT |-;generalize bu s t=c at hT |-;obtain⟨n,lo,hi⟩:=s;obtain⟨n',lo',hi'⟩:=t;obtain⟨rn,rlo,rhi⟩:=r;go_enter Tryz.func125,Tryz.ntmps125;go_wp2_with (go_at_call 181;fail);refine(hT _).mono ?_;rintro e w1 ⟨rfl,hb1⟩;obtain⟨-,-,⟨r0,r1,r2⟩,⟨f0,f1,f2⟩,z0,z1,z2⟩:=dS (s:=⟨n,lo,hi⟩) (t:=⟨n',lo',hi'⟩) (r:=bD) hb1 ah;have H1:bl w w1:=(dQ ⟨n,lo,hi⟩ ⟨n',lo',hi'⟩ bD w).trans (hb1.mono an);simp only[bD] at r0 r1 r2;clear hb1 hT;go_wp2;refine bodyPost_ret (v:=Tu #[sv ⟨rn,rlo,rhi⟩,I Y c]) (by simp[results,Tryz.results125,go_sem,r0,r1,r2]) rfl ⟨rfl,?_⟩;exact((H1.setCell an _).setCell an _).setCell an _

theorem Es (s t:Sp)(w:World)(h:bu s t≠0):
  Calls pG 201 #[sv s,sv t] w λe w'=>e=Rt (Tu #[Bb false,I Y (bu s t)])/\bl w w':=by
 have hT:=iU s t;have h':(bu s t==0)=false:=cl;generalize dW (bu s t) (aF s t)=r at hT;generalize bu s t=c at hT h h' |-;obtain⟨n,lo,hi⟩:=s;obtain⟨n',lo',hi'⟩:=t;obtain⟨rn,rlo,rhi⟩:=r;have h0:Below w.heap.size w ((w.alloc (Cc #[Bb n,I Y lo,I Y hi] 89)).alloc (Cc #[Bb n',I Y lo',I Y hi'] 89)):=ai;go_enter Tryz.func201,Tryz.ntmps201;go_wp2_with (go_at_call 159;fail);refine(hT _).mono ?_;rintro e w1 ⟨rfl,hb1⟩;obtain⟨c0,c1,c2,d0,d1,d2⟩:=n8 hb1 ah;have H1:bl w w1:=h0.trans (hb1.mono an);have z0:w.heap.size < w1.heap.size:=kI;clear hb1 hT;go_wp2
 go_ret2
 exact⟨rfl,H1.alloc aa _⟩

theorem KO (r:Sp)(s:Sp):decide (r=s)=(r.n==s.n&&(r.lo==s.lo&&r.hi==s.hi)):=by
 obtain⟨n,lo,hi⟩:=r;obtain⟨n',lo',hi'⟩:=s;rw[Bool.eq_iff_iff];simp

theorem Gg (s t:Sp)(w:World)(h:bu s t=0):
  Calls pG 201 #[sv s,sv t] w λe w'=>e=Rt (Tu #[Bb (decide (aF s t=s)),I Y 0])/\bl w w':=by
 have hT:=iU s t;rw[h] at hT;have e0:dW 0 (aF s t)=aF s t:=rfl;rw[e0] at hT;rw[KO];clear e0 h;generalize aF s t=r at hT |-;obtain⟨n,lo,hi⟩:=s;obtain⟨n',lo',hi'⟩:=t;obtain⟨rn,rlo,rhi⟩:=r;have h0:Below w.heap.size w ((w.alloc (Cc #[Bb n,I Y lo,I Y hi] 89)).alloc (Cc #[Bb n',I Y lo',I Y hi'] 89)):=ai;go_enter Tryz.func201,Tryz.ntmps201;go_wp2_with (go_at_call 159;fail);refine(hT _).mono ?_;rintro e w1 ⟨rfl,hb1⟩;obtain⟨c0,c1,c2,d0,d1,d2⟩:=n8 hb1 ah;have H1:bl w w1:=h0.trans (hb1.mono an);have z0:w.heap.size < w1.heap.size:=kI;clear hb1 hT;go_wp2;all_goals go_ret2
 all_goals exact⟨ph (by simp_all),H1.alloc aa _⟩

theorem E4 (s t:Sp)(w:World):
  Calls pG 201 #[sv s,sv t] w λe w'=>e=Rt (Tu #[Bb (decide (bu s t=0)&&decide (aF s t=s)),I Y (bu s t)])/\bl w w':=by
 by_cases h:bu s t=0
 ·have:=Gg s t w h
  rw[h];simpa using this
 ·have:=Es s t w h
  simpa[h] using this
@[go_sem] theorem run_min4 {P:Program} (w:World) (ts:Array TypeId) (t:TypeId) (a b c d:Int):
  (Builtin.min_ ts t #[I Y a,I Y b,I Y c,I Y d]).run P w=.ok (I Y (dx a b c d)) w:=by
 have e:∀x y:Int,(if y < x then y else x)=min x y:=λx y=>oY;simp[Builtin.min_,Builtin.min2,e,dx]

@[go_sem] theorem run_max4 {P:Program} (w:World) (ts:Array TypeId) (t:TypeId) (a b c d:Int):
  (Builtin.max_ ts t #[I Y a,I Y b,I Y c,I Y d]).run P w=.ok (I Y (dw a b c d)) w:=by
 have e:∀x y:Int,(if x < y then y else x)=max x y:=λx y=>oY;simp[Builtin.max_,Builtin.max2,e,dw]

theorem s9 {p:Prop}(h:p:=by
 go_enter Tryz.func228,Tryz.ntmps228;go_wp2_with (go_at_call 226;refine(uN _).mono ?_;rintro e w1 ⟨rfl,rfl⟩)
 go_returns
 exact⟨rfl,ai⟩):p:=h
theorem lq (F:Nat)(s t:Sp)(w:World)(h:(s.n||t.n)=true):
  Calls pG 228 #[sv s,sv t,.func (.func F) #[] #[]] w λe w'=>e=Rt (sv ⟨true,0,0⟩)/\bl w w':=by
 obtain⟨n,lo,hi⟩:=s;obtain⟨n',lo',hi'⟩:=t;cases n with
 |true=>
  exact s9
 |false=>
  cases n' with
  |true=>
   exact s9
  |false=>simp at h

theorem Cx {a b c d:Int}(h1:ba (dx a b c d))(h2:ba (dw a b c d)):fI a b c d=⟨false,dx a b c d,dw a b c d⟩:=if_pos ⟨h1,h2⟩
theorem Lq {a b c d:Int}(h1:¬ba (dx a b c d)):fI a b c d=⟨false,-2147483648,2147483647⟩:=if_neg (λh=>h1 h.1)
theorem KW {a b c d:Int}(h1:¬ba (dw a b c d)):fI a b c d=⟨false,-2147483648,2147483647⟩:=if_neg (λh=>h1 h.2)
theorem mG {p:Prop}(h:p:=by
 clear h1 h2 h3 h4;go_enter Tryz.func228,Tryz.ntmps228;go_wp2
 go_quiet (first|exact Calls.quiet_of (k1 _)|exact Calls.quiet_of (k2 _)|exact Calls.quiet_of (k3 _)|exact Calls.quiet_of (k4 _))
 clear k1 k2 k3 k4;by_cases h1:ba (dx a b c d)
 ·have e1:decide (ba (dx a b c d))=true:=decide_eq_true h1
  by_cases h2:ba (dw a b c d)
  ·have e2:decide (ba (dw a b c d))=true:=decide_eq_true h2
   go_wp2_with (go_at_call 225;refine(gk _ _).mono ?_;rintro e w' ⟨rfl,rfl⟩)
   go_returns
   exact⟨fQ (Cx h1 h2),pm⟩
  ·have e2:decide (ba (dw a b c d))=false:=decide_eq_false h2
   go_wp2_with (first|(go_at_call 225;refine(gk _ _).mono ?_;rintro e w' ⟨rfl,rfl⟩)|(go_at_call 245;refine(Gl _).mono ?_;rintro e w' ⟨rfl,rfl⟩))
   go_returns
   exact⟨fQ (KW h2),pm⟩
 ·have e1:decide (ba (dx a b c d))=false:=decide_eq_false h1
  go_wp2_with (first|(go_at_call 225;refine(gk _ _).mono ?_;rintro e w' ⟨rfl,rfl⟩)|(go_at_call 245;refine(Gl _).mono ?_;rintro e w' ⟨rfl,rfl⟩))
  go_returns
  exact⟨fQ (Lq h1),pm⟩):p:=h
theorem El (lo hi lo' hi':Int)(w:World)(h1:wrap64 (lo+lo')=lo+lo')(h2:wrap64 (lo+hi')=lo+hi')(h3:wrap64 (hi+lo')=hi+lo')(h4:wrap64 (hi+hi')=hi+hi'):
  Calls pG 228 #[sv ⟨false,lo,hi⟩,sv ⟨false,lo',hi'⟩,.func (.func 229) #[] #[]] w λe w'=>e=Rt (sv (fI (lo+lo') (lo+hi') (hi+lo') (hi+hi')))/\bl w w':=by
 have k1:∀w:World,Calls pG 229 #[I Y lo,I Y lo'] w λe w'=>e=Rt (I Y (lo+lo'))/\∃n,w'=w.drewN n:=λw=>(pk lo lo' w h1).mono d9;have k2:∀w:World,Calls pG 229 #[I Y lo,I Y hi'] w λe w'=>e=Rt (I Y (lo+hi'))/\∃n,w'=w.drewN n:=λw=>(pk lo hi' w h2).mono d9;have k3:∀w:World,Calls pG 229 #[I Y hi,I Y lo'] w λe w'=>e=Rt (I Y (hi+lo'))/\∃n,w'=w.drewN n:=λw=>(pk hi lo' w h3).mono d9;have k4:∀w:World,Calls pG 229 #[I Y hi,I Y hi'] w λe w'=>e=Rt (I Y (hi+hi'))/\∃n,w'=w.drewN n:=λw=>(pk hi hi' w h4).mono d9;generalize lo+lo'=a at k1 |-;generalize lo+hi'=b at k2 |-;generalize hi+lo'=c at k3 |-;generalize hi+hi'=d at k4 |-;exact mG
theorem Er (lo hi lo' hi':Int)(w:World)(h1:wrap64 (lo * lo')=lo * lo')(h2:wrap64 (lo * hi')=lo * hi')(h3:wrap64 (hi * lo')=hi * lo')(h4:wrap64 (hi * hi')=hi * hi'):
  Calls pG 228 #[sv ⟨false,lo,hi⟩,sv ⟨false,lo',hi'⟩,.func (.func 231) #[] #[]] w λe w'=>e=Rt (sv (fI (lo * lo') (lo * hi') (hi * lo') (hi * hi')))/\bl w w':=by
 have k1:∀w:World,Calls pG 231 #[I Y lo,I Y lo'] w λe w'=>e=Rt (I Y (lo * lo'))/\∃n,w'=w.drewN n:=λw=>(pD lo lo' w h1).mono d9;have k2:∀w:World,Calls pG 231 #[I Y lo,I Y hi'] w λe w'=>e=Rt (I Y (lo * hi'))/\∃n,w'=w.drewN n:=λw=>(pD lo hi' w h2).mono d9;have k3:∀w:World,Calls pG 231 #[I Y hi,I Y lo'] w λe w'=>e=Rt (I Y (hi * lo'))/\∃n,w'=w.drewN n:=λw=>(pD hi lo' w h3).mono d9;have k4:∀w:World,Calls pG 231 #[I Y hi,I Y hi'] w λe w'=>e=Rt (I Y (hi * hi'))/\∃n,w'=w.drewN n:=λw=>(pD hi hi' w h4).mono d9;generalize lo * lo'=a at k1 |-;generalize lo * hi'=b at k2 |-;generalize hi * lo'=c at k3 |-;generalize hi * hi'=d at k4 |-;exact mG
theorem gG {a b c d:Bool}(h:a=c)(h':b=d):Ending.returned (Tu #[Bb a,Bb b])=Rt (Tu #[Bb c,Bb d]):=by rw[h,h']

theorem tj {p:Prop}(h:p:=by
 go_wp2;refine wp_region_quiet_lit ag ag ?_;repeat (any_goals (first|go_big_quiet_step (fail)|quiet_step (fail)|(refine wpQuiet_step (λK hK=> ?_);go_simp;split<;>(refine hK _ ?_;clear hK K))))
 all_goals (refine wpQuiet_nil ?_;intro _ hw';obtain⟨nq,hw''⟩:=hw';subst hw'')
 all_goals go_wp2
 all_goals go_ret2
 all_goals exact⟨gG g9 (by rw[HN.out];simp_all),below_drewN B1 _⟩):p:=h
theorem ur {p:Prop}(h:p:=by
 clear hz HZ;go_wp2;refine wp_region_quiet_lit ag ag ?_;repeat (any_goals (first|go_big_quiet_step (fail)|quiet_step (fail)|(refine wpQuiet_step (λK hK=> ?_);go_simp;split<;>(refine hK _ ?_;clear hK K))))
 all_goals (refine wpQuiet_nil ?_;intro _ hw';obtain⟨nq,hw''⟩:=hw';subst hw'')
 all_goals go_wp2
 all_goals go_ret2
 all_goals exact⟨gG rfl (by rw[HN.out];simp_all),below_drewN B1 _⟩):p:=h
theorem tc (g:Gs)(ss:oA)(gc:Nat)(w:World)(hsp:cu g.sp=0):
  Calls pG 198 #[gv g ss gc] w λe w'=>e=Rt (Tu #[Bb (b8 g),Bb (cE g)])/\bl w w':=by
 have hH:=λw=>Lk g.sp 0 w;rw[hsp,show (decide ((0:Int)=0)&&g.sp.has 0)=g.sp.has 0 from rfl] at hH;have HY:Hid (b8 g=((!g.sp.n&& !decide (g.sp.lo=0/\g.sp.hi=0))||(g.t||decide (0 < g.s.length)))):=rfl;have HN:Hid (cE g=(g.sp.has 0||(g.n||g.f))):=rfl;generalize b8 g=yy at *;generalize cE g=nn at *;generalize g.sp.has 0=z at *;obtain⟨n,⟨sn,lo,hi⟩,t,f,s⟩:=g;have G0:=GuAt.new w ⟨n,⟨sn,lo,hi⟩,t,f,s⟩ ss gc;go_enter Tryz.func198,Tryz.ntmps198;go_wp2_with (go_at_call 143;fail);refine(hH _).mono ?_;rintro e w1 ⟨rfl,hb1⟩;have G1:=G0.call hb1;have B1:Below w.heap.size w w1:=Below.trans ai (hb1.mono ah);obtain⟨⟨g0,g1,g2,g3,g4,g5,g6⟩,gz⟩:=id G1;simp only[x0] at g0 g1 g2 g3 g4 g5 g6;clear G0 G1 hb1 hH hsp;cases sn with
 |true=>
  exact tj
 |false=>
  by_cases hz:lo=0/\hi=0
  ·obtain⟨rfl,rfl⟩:=hz
   exact tj
  ·have HZ:Hid (decide (lo=0/\hi=0)=false):=by show _=_;simpa using hz
   have hm:yy=true:=by rw[HY.out,HZ.out];rfl
   subst hm;clear HY;by_cases h1:lo=0
   ·subst h1
    have h2:(hi==0)=false:=by simp only[beq_eq_false_iff_ne];intro h;exact hz ⟨rfl,h⟩
    exact ur
   ·have h2:(lo==0)=false:=by simpa using h1
    exact ur

theorem sW {p:Prop}(h:p:=by
 go_wp2_with (go_at_call 144;fail);refine(wX x ss gc h.s _ hl hs).mono ?_;rintro e w1 ⟨rfl,rfl⟩;go_wp2;go_ret;exact⟨aV ah,Below.refl _ _⟩):p:=h
theorem fO (x:Int)(q:Nat)(h:Gs)(ss:oA)(gc:Nat)(w:World)(hg:GuAt w q 0 h ss gc)(hs:IntsAt w ss h.s)(hl:h.s.length<=9223372036854775807):
  Calls pG 199 #[I Y x,Pp (sO ⟨q,0,nO⟩)] w λe w'=>e=Rt (Bb (!h.s.contains x))/\bl w w':=by
 obtain⟨⟨g0,g1,g2,g3,g4,g5,g6⟩,gz⟩:=id hg;simp only[x0] at g6;go_enter Tryz.func199,Tryz.ntmps199;exact sW

theorem eP (x:Int)(q:Nat)(h:Gs)(ss:oA)(gc:Nat)(w:World)(hg:GuAt w q 0 h ss gc)(hs:IntsAt w ss h.s)(hl:h.s.length<=9223372036854775807):
  Calls pG 234 #[I Y x,Pp (sO ⟨q,0,nO⟩)] w λe w'=>e=Rt (Bb (h.s.contains x))/\bl w w':=by
 obtain⟨⟨g0,g1,g2,g3,g4,g5,g6⟩,gz⟩:=id hg;simp only[x0] at g6;go_enter Tryz.func234,Tryz.ntmps234;exact sW
theorem mr (l:List Gs)(p:Gs->Bool)(k:Nat)(h:k < l.length):(l.drop k).any p=(p l[k]||(l.drop (k+1)).any p):=by
 rw[j9 h];rfl

theorem wM (g:Gs)(ss:oA)(gc:Nat)(w:World):
  Calls pG 246 #[gv g ss gc] w λe w'=>e=Rt (Bb (aL g))/\bl w w':=by
 have HO:Hid (aL g=(g.n||(g.t||(g.f||decide (0 < g.s.length))))):=rfl;generalize aL g=o at *;obtain⟨n,⟨sn,lo,hi⟩,t,f,s⟩:=g;cases n;all_goals cases t
 all_goals cases f
 all_goals
  go_enter Tryz.func246,Tryz.ntmps246;go_wp2;go_ret;exact⟨aV (by rw[HO.out];simp),ai⟩

theorem tA {p:Prop}(h:p:=by
 refine(HF.out L[k] ss gc _).mono ?_;rintro e w1 ⟨rfl,hb1⟩;cases hp:p L[k] with
 |true=>
  have HT:Hid (L.any p=true):=fH;clear HN HA;go_wp2;go_ret;exact⟨_,rfl,iB,hbr.trans (hb1.mono s0)⟩
 |false=>
  have HT:Hid (L.any p=(L.drop (k+1)).any p):=fH;have hR':=hR.call hb1;clear HN HA;go_wp2;go_roundw
  case rel=>exact⟨k+1,aa,aJ,hR',hbr.trans (hb1.mono s0),HT⟩
  case measure=>simp[intOf];omega):p:=h
theorem rH (p:Gs->Bool)(ls:oA)(L:List Gs)(lc:Nat)(w:World)(hl:L.length<=9223372036854775807)(hL:GhAt w ls L)
  (hF:∀g ss gc wx,Calls pG 246 #[gv g ss gc] wx λe w'=>e=Rt (Bb (p g))/\bl wx w'):
  Calls pG 193 #[U ls L.length lc,.func (.func 246) #[] #[]] w λe w'=>∃n:Int,e=Rt (I Y n)/\decide (0<=n)=L.any p/\bl w w':=by
 have HF:=ae hF;clear hF;go_enter Tryz.func193,Tryz.ntmps193;go_wp2;go_loopw [8] (λi wr=>∃k:Nat,k<=L.length/\i=I Y k/\GhAt wr ls L/\bl w wr/\Hid (L.any p=(L.drop k).any p)) (λi _=>L.length - (intOf i).toNat)
 case atStart=>exact⟨0,x1 _,rfl,hL,bR _ _,rfl⟩
 case round=>
  obtain⟨k,hk,rfl,hR,hbr,HA⟩:=hrel;by_cases hlt:k < L.length
  ·obtain⟨b,off,rfl,ss,gc,hG⟩:=hR k hlt
   obtain⟨⟨g0,g1,g2,g3,g4,g5,g6⟩,gz⟩:=id hG;have n0:(0:Int)<=(k:Int):=aa;have n1:(k:Int) < (L.length:Int):=aa;have s0:=hbr.size;have HN:Hid ((L.drop k).any p=(p L[k]||(L.drop (k+1)).any p)):=mr L p k hlt;go_wp2_with (go_at_call 246;fail);exact tA
  ·go_wp2
   go_ret;exact⟨_,rfl,g7,hbr⟩

theorem nH (p:Gs->Bool)(ls:oA)(L:List Gs)(lc:Nat)(w:World)(hl:L.length<=9223372036854775807)(hL:GhAt w ls L)
  (hF:∀g ss gc wx,Calls pG 246 #[gv g ss gc] wx λe w'=>e=Rt (Bb (p g))/\bl wx w'):
  Calls pG 141 #[U ls L.length lc,.func (.func 246) #[] #[]] w λe w'=>e=Rt (Bb (L.any p))/\bl w w':=by
 have HF:=ae hF;clear hF;go_enter Tryz.func141,Tryz.ntmps141;go_wp2_with (go_at_call 193;fail);refine(rH p ls L lc _ hl hL HF.out).mono ?_;rintro e w1 ⟨n,rfl,hn,hb1⟩;go_wp2;go_ret;exact⟨rfl,hb1⟩

theorem oL (ls:oA)(L:List Gs)(lc:Nat)(w:World)(hl:L.length<=9223372036854775807)(hL:GhAt w ls L):
  Calls pG 232 #[U ls L.length lc] w λe w'=>e=Rt (Bb (L.any aL))/\bl w w':=by
 go_enter Tryz.func232,Tryz.ntmps232;go_wp2_with (go_at_call 141;fail);refine(nH aL ls L lc _ hl hL λg ss gc wx=>wM g ss gc wx).mono ?_;rintro e w1 ⟨rfl,hb1⟩;go_wp2;go_ret;exact⟨rfl,hb1⟩

theorem ui (g:Gs)(ss:oA)(gc:Nat)(w:World):
  Calls pG 247 #[gv g ss gc] w λe w'=>e=Rt (Bb (ap g))/\bl w w':=by
 have HO:Hid (ap g=(g.sp.n&& !aL g)):=rfl;have hA:=oL (sO ⟨w.heap.size+1,0,nO⟩) [g] 1;have G0:=GhAt.new1 (w.alloc (Cc #[Bb g.n,Bb g.sp.n,I Y g.sp.lo,I Y g.sp.hi,Bb g.t,Bb g.f,U ss g.s.length gc] 91)) g ss gc;rw[zA] at G0;rw[show [g].any aL=aL g by simp] at hA;have HA:=ae hA;clear hA;generalize aL g=oo at *;generalize ap g=o at *;obtain⟨n,⟨sn,lo,hi⟩,t,f,s⟩:=g;cases sn with
 |true=>
  go_enter Tryz.func247,Tryz.ntmps247;go_wp2_with (go_at_call 232;fail);refine(HA.out _ ah G0).mono ?_;rintro e w1 ⟨rfl,hb1⟩;go_wp2;go_ret;exact⟨aV (by rw[HO.out];simp),Below.trans ai (hb1.mono an)⟩
 |false=>
  go_enter Tryz.func247,Tryz.ntmps247;go_wp2;go_ret;exact⟨aV (by rw[HO.out];rfl),ai⟩

theorem ou (p:Gs->Bool)(ls:oA)(L:List Gs)(lc:Nat)(w:World)(hl:L.length<=9223372036854775807)(hL:GhAt w ls L)
  (hF:∀g ss gc wx,Calls pG 247 #[gv g ss gc] wx λe w'=>e=Rt (Bb (p g))/\bl wx w'):
  Calls pG 193 #[U ls L.length lc,.func (.func 247) #[] #[]] w λe w'=>∃n:Int,e=Rt (I Y n)/\decide (0<=n)=L.any p/\bl w w':=by
 have HF:=ae hF;clear hF;go_enter Tryz.func193,Tryz.ntmps193;go_wp2;go_loopw [8] (λi wr=>∃k:Nat,k<=L.length/\i=I Y k/\GhAt wr ls L/\bl w wr/\Hid (L.any p=(L.drop k).any p)) (λi _=>L.length - (intOf i).toNat)
 case atStart=>exact⟨0,x1 _,rfl,hL,bR _ _,rfl⟩
 case round=>
  obtain⟨k,hk,rfl,hR,hbr,HA⟩:=hrel;by_cases hlt:k < L.length
  ·obtain⟨b,off,rfl,ss,gc,hG⟩:=hR k hlt
   obtain⟨⟨g0,g1,g2,g3,g4,g5,g6⟩,gz⟩:=id hG;have n0:(0:Int)<=(k:Int):=aa;have n1:(k:Int) < (L.length:Int):=aa;have s0:=hbr.size;have HN:Hid ((L.drop k).any p=(p L[k]||(L.drop (k+1)).any p)):=mr L p k hlt;go_wp2_with (go_at_call 247;fail);exact tA
  ·go_wp2
   go_ret;exact⟨_,rfl,g7,hbr⟩

theorem mc (p:Gs->Bool)(ls:oA)(L:List Gs)(lc:Nat)(w:World)(hl:L.length<=9223372036854775807)(hL:GhAt w ls L)
  (hF:∀g ss gc wx,Calls pG 247 #[gv g ss gc] wx λe w'=>e=Rt (Bb (p g))/\bl wx w'):
  Calls pG 141 #[U ls L.length lc,.func (.func 247) #[] #[]] w λe w'=>e=Rt (Bb (L.any p))/\bl w w':=by
 have HF:=ae hF;clear hF;go_enter Tryz.func141,Tryz.ntmps141;go_wp2_with (go_at_call 193;fail);refine(ou p ls L lc _ hl hL HF.out).mono ?_;rintro e w1 ⟨n,rfl,hn,hb1⟩;go_wp2;go_ret;exact⟨rfl,hb1⟩

theorem iI (ls:oA)(L:List Gs)(lc:Nat)(w:World)(hl:L.length<=9223372036854775807)(hL:GhAt w ls L):
  Calls pG 233 #[U ls L.length lc] w λe w'=>e=Rt (Bb (L.any ap))/\bl w w':=by
 go_enter Tryz.func233,Tryz.ntmps233;go_wp2_with (go_at_call 141;fail);refine(mc ap ls L lc _ hl hL λg ss gc wx=>ui g ss gc wx).mono ?_;rintro e w1 ⟨rfl,hb1⟩;go_wp2;go_ret;exact⟨rfl,hb1⟩

theorem rm (ls:oA)(L:List Gs)(lc:Nat)(w:World)(hl:L.length<=9223372036854775807)(hL:GhAt w ls L):
  Calls pG 203 #[U ls L.length lc] w λe w'=>e=Rt (Bb (L.any aL&& !L.any ap))/\bl w w':=by
 have H1:=ae (oL ls L lc w hl hL);cases ho:L.any aL with
 |true=>
  rw[ho] at H1;go_enter Tryz.func203,Tryz.ntmps203;go_wp2_with (go_at_call 232;fail);refine H1.out.mono ?_;rintro e w1 ⟨rfl,hb1⟩;go_wp2_with (go_at_call 233;fail);refine(iI ls L lc _ hl (hL.call hb1)).mono ?_;rintro e w2 ⟨rfl,hb2⟩;go_wp2;go_ret;exact⟨rfl,hb1.trans (hb2.mono hb1.size)⟩
 |false=>
  rw[ho] at H1;go_enter Tryz.func203,Tryz.ntmps203;go_wp2_with (go_at_call 232;fail);refine H1.out.mono ?_;rintro e w1 ⟨rfl,hb1⟩;go_wp2;go_ret;exact⟨rfl,hb1⟩

theorem IJ (s t:Sp)(w:World):
  Calls pG 205 #[sv s,sv t] w λe w'=>e=Rt (Tu #[Bb (!(s.n||t.n)&&decide (s.lo < t.hi)),Bb (!(s.n||t.n)&&decide (t.lo<=s.hi))])/\bl w w':=by
 obtain⟨sn,lo,hi⟩:=s;obtain⟨tn,lo',hi'⟩:=t;cases sn with
 |true=>
  go_enter Tryz.func205,Tryz.ntmps205;go_wp2
  go_ret2
  exact⟨rfl,ai⟩
 |false=>
  cases tn with
  |true=>
   go_enter Tryz.func205,Tryz.ntmps205;go_wp2
   go_ret2
   exact⟨rfl,ai⟩
  |false=>
   go_enter Tryz.func205,Tryz.ntmps205;go_wp2
   go_quiet (fail)
   go_wp2
   go_ret2
   exact⟨gG ah ah,below_drewN ai _⟩

theorem kg (y n:Bool)(w:World):
  Calls pG 204 #[Bb y,Bb n] w λe w'=>e=Rt (gv ⟨false,⟨true,0,0⟩,y,n,[]⟩ nO 0)/\bl w w':=by
 go_enter Tryz.func204,Tryz.ntmps204;go_wp2
 go_returns
 exact⟨rfl,ai⟩
end
section
theorem lW:∀{l:List Int},cW l=true->l.Pairwise (· < ·)
 |[],_=>J7.nil
 |[a],_=>List.pairwise_singleton _ _
 |a::b::r,h=>by
  unfold cW at h;rw[j5,decide_eq_true_eq] at h;have ih:=lW h.2;rw[z5];refine⟨λx hx=> ?_,ih⟩;rcases j7.1 hx with rfl|hx
  ·exact h.1
  ·have:=(z5.1 ih).1 x hx
   omega
theorem go:∀{a b:List Int},a.Pairwise (· < ·)->b.Pairwise (· < ·)->(∀x∈a,x∈b)->a.length<=b.length/\(a.length=b.length->a=b)
 |[],b,_,_,_=>⟨x1 _,λh=>(Q2.1 h.symm).symm⟩
 |x::r,[],_,_,h=>absurd (h x ah) ah
 |x::r,y::q,ha,hb,h=>by
  obtain⟨a1,a2⟩:=z5.1 ha;obtain⟨b1,b2⟩:=z5.1 hb;by_cases e:x=y
  ·subst e
   have hs:∀z∈r,z∈q:=λz hz=>by
    rcases j7.1 (h z (by simp[hz])) with rfl|hq
    ·exact absurd (a1 z hz) aa
    ·exact hq
   obtain⟨h1,h2⟩:=go a2 b2 hs;refine⟨by simp only[j8];omega,λhl=> ?_⟩;rw[h2 (by simpa using hl)]
  ·have hyx:y < x:=by
    rcases j7.1 (h x ah) with rfl|hq
    ·exact absurd rfl e
    ·exact b1 x hq
   have hs:∀z∈x::r,z∈q:=λz hz=>by
    rcases j7.1 (h z hz) with rfl|hq
    ·rcases j7.1 hz with rfl|hz
     ·exact absurd rfl e
     ·exact absurd (a1 z hz) aa
    ·exact hq
   obtain⟨h1,h2⟩:=go ha b2 hs;simp only[j8] at h1 |-;exact⟨aa,λhl=>aa⟩
theorem BH {a b:List Int}(ha:a.Pairwise (· < ·))(hb:b.Pairwise (· < ·))(h:∀x,x∈a↔x∈b):a=b:=by
 obtain⟨h1,h2⟩:=go ha hb λx hx=>(h x).1 hx;obtain⟨h3,_⟩:=go hb ha λx hx=>(h x).2 hx;exact h2 aa
theorem Gi {s t:Sp}(hs:s.Ok)(ht:t.Ok)(h:dX t s=true):bj s t=s:=by
 obtain⟨_,_,s5,s6⟩:=hs;obtain⟨_,_,t5,t6⟩:=ht;rw[dJ t6] at h;unfold bj;obtain⟨sn,slo,shi⟩:=s;obtain⟨tn,tlo,thi⟩:=t;simp only at h s5 t5 s6 t6 |-;rcases h with h|⟨h1,h2,h3⟩
 ·subst h
  obtain⟨rfl,rfl⟩:=t5 rfl;cases sn with
  |true=>obtain⟨rfl,rfl⟩:=s5 rfl;rfl
  |false=>rfl
 ·subst h1
  cases tn with
  |true=>rfl
  |false=>
   simp only[j6,if_false,Sp.mk.injEq,true_and];omega
theorem FQ {s t:Sp}(hs:s.Ok)(ht:t.Ok)(h:dX t s=true):br s t=s:=by
 obtain⟨_,_,s5,s6⟩:=hs;obtain⟨_,_,t5,t6⟩:=ht;rw[dJ t6] at h;unfold br;obtain⟨sn,slo,shi⟩:=s;obtain⟨tn,tlo,thi⟩:=t;simp only at h s5 t5 s6 t6 |-;rcases h with h|⟨h1,h2,h3⟩
 ·subst h
  obtain⟨rfl,rfl⟩:=t5 rfl;cases sn with
  |true=>obtain⟨rfl,rfl⟩:=s5 rfl;rfl
  |false=>rfl
 ·subst h1
  cases tn with
  |true=>rfl
  |false=>
   simp only[j6,if_false,Sp.mk.injEq,true_and];rw[if_neg aa,if_neg aa];exact⟨rfl,rfl⟩
section
variable {c:List Ins} {g h k:Gs} {w:Bool}
theorem lg (hg:aE c g=0):g.s.Pairwise (· < ·):=lW (ckGs_iff.1 hg).2.2
theorem tX (hg:aE c g=0):cZ g g=true:=by
 rw[inGs_iff,dJ (lS hg)];refine⟨id,id,id,?_,λ_ h=>h⟩;cases g.sp.n
 ·exact .inr ⟨rfl,aa,aa⟩
 ·exact .inl rfl
theorem uj (hg:aE c g=0)(hh:aE c h=0)(h1:cZ g h=true)(h2:cZ h k=true):cZ g k=true:=by
 rw[inGs_iff,dJ (lS hg)] at h1;rw[inGs_iff,dJ (lS hh)] at h2;rw[inGs_iff,dJ (lS hg)];obtain⟨a1,a2,a3,a4,a5⟩:=h1;obtain⟨b1,b2,b3,b4,b5⟩:=h2;refine⟨λe=>b1 (a1 e),λe=>b2 (a2 e),λe=>b3 (a3 e),?_,λx hx=>b5 x (a5 x hx)⟩;rcases a4 with a4|⟨a4,a6,a7⟩
 ·exact .inl a4
 ·rcases b4 with b4|⟨b4,b6,b7⟩
  ·rw[a4] at b4;cases b4
  ·exact .inr ⟨b4,aa,aa⟩
theorem rj (h60:c.length<=60)(hg:aE c g=0)(hh:aE c h=0)(hi:cZ h g=true):am w g h=g:=by
 obtain⟨a1,a2,a3,a4,a5⟩:=inGs_iff.1 hi;have og:=(ckGs_iff.1 hg).1;have oh:=(ckGs_iff.1 hh).1;have e1:(if w then br g.sp h.sp else bj g.sp h.sp)=g.sp:=by
  cases w
  ·exact Gi og oh a4
  ·exact FQ og oh a4
 have e2:fX g.s h.s=g.s:=by
  refine BH (nY _ _) (lg hg) λx=> ?_;rw[mem_siteSet];constructor
  ·rintro ⟨_,hx|hx⟩
   ·exact hx
   ·exact a5 x hx
  ·intro hx
   have:=dk ((ckGs_iff.1 hg).2.1 x hx);exact⟨⟨this.1,aa⟩,.inl hx⟩
 unfold am;rw[e1,e2];obtain⟨gn,gsp,gt,gf,gs⟩:=g;obtain⟨hn,hsp,ht,hf,hs⟩:=h;simp only at a1 a2 a3 |-;cases gn<;>cases hn<;>cases gt<;>cases ht<;>cases gf<;>cases hf<;>simp_all
end
def ow (s:Sp):Nat:=if s.n then 8589934592 else(s.lo+2147483648).toNat+(2147483647 - s.hi).toNat
def iZ (g:Gs):Nat:=b2n (!g.n)+b2n (!g.t)+b2n (!g.f)+(60 - g.s.length)+ow g.sp
def oO (l:List Gs):Nat:=(l.map iZ).sum
def Il (l:List (List Gs)):Nat:=(l.map oO).sum
def gF (x:Pic):Nat:=if x.none then 2000000000000 else oO x.vars+Il x.flds
def gS (l:List Pic):Nat:=(l.map gF).sum
theorem Lu {s t:Sp}(hs:s.Ok)(ht:t.Ok)(h:dX s t=true):ow t<=ow s/\(ow t=ow s->s=t):=by
 obtain⟨⟨s1,s2⟩,⟨s3,s4⟩,s5,s6⟩:=hs;obtain⟨⟨t1,t2⟩,⟨t3,t4⟩,t5,t6⟩:=ht;rw[dJ s6] at h;unfold ow;obtain⟨sn,slo,shi⟩:=s;obtain⟨tn,tlo,thi⟩:=t;simp only at h s1 s2 s3 s4 s5 s6 t1 t2 t3 t4 t5 t6 |-;rcases h with h|⟨h1,h2,h3⟩
 ·subst h
  obtain⟨rfl,rfl⟩:=s5 rfl;cases tn with
  |true=>obtain⟨rfl,rfl⟩:=t5 rfl;simp
  |false=>
   simp only[j6,if_false,if_true];exact⟨aa,λe=>aa⟩
 ·subst h1
  cases sn with
  |true=>
   simp only[j6,if_false,if_true];exact⟨aa,λe=>aa⟩
  |false=>
   simp only[j6,if_false,Sp.mk.injEq,true_and];exact⟨aa,λe=>aa⟩
theorem uR {a b:Bool}(h:a=true->b=true):b2n (!b)<=b2n (!a)/\(b2n (!b)=b2n (!a)->a=b):=by
 cases a<;>cases b<;>simp_all[b2n]
theorem Co {c:List Ins}{g h:Gs}(h60:c.length<=60)(hg:aE c g=0)(hh:aE c h=0)(hi:cZ g h=true):iZ h<=iZ g/\(iZ h=iZ g->g=h):=by
 obtain⟨a1,a2,a3,a4,a5⟩:=inGs_iff.1 hi;obtain⟨b1,b1'⟩:=uR a1;obtain⟨b2,b2'⟩:=uR a2;obtain⟨b3,b3'⟩:=uR a3;obtain⟨b4,b4'⟩:=Lu (ckGs_iff.1 hg).1 (ckGs_iff.1 hh).1 a4;obtain⟨b5,b5'⟩:=go (lg hg) (lg hh) a5;have h6:h.s.length<=60:=by
  have hp:=lg hh;have hr:∀x∈h.s,x∈((j0 60).map λn:Nat=>(n:Int)):=λx hx=>by
   have:=dk ((ckGs_iff.1 hh).2.1 x hx);rw[x8];exact⟨x.toNat,by rw[J5];omega,aa⟩
  have h7:=(go hp (b:=(j0 60).map λn:Nat=>(n:Int)) (by rw[J8];exact J9.imp λh=>by omega) hr).1;simpa using h7
 unfold iZ;refine⟨by omega,λe=> ?_⟩;have e1:=b1' aa;have e2:=b2' aa;have e3:=b3' aa;have e4:=b4' aa;have e5:=b5' aa;obtain⟨gn,gsp,gt,gf,gs⟩:=g;obtain⟨hn,hsp,ht,hf,hs⟩:=h;simp only at e1 e2 e3 e4 e5;rw[e1,e2,e3,e4,e5]
theorem tY {α:Type}(f:α->Nat):∀{a b:List α},a.length=b.length->(∀i (h1:i < a.length) (h2:i < b.length),f b[i]<=f a[i]/\(f b[i]=f a[i]->a[i]=b[i]))->(b.map f).sum<=(a.map f).sum/\((b.map f).sum=(a.map f).sum->a=b)
 |[],[],_,_=>⟨lR _,λ_=>rfl⟩
 |[],_::_,h,_=>by simp at h
 |_::_,[],h,_=>by simp at h
 |x::a,y::b,hl,h=>by
  obtain⟨h1,h2⟩:=tY f (a:=a) (b:=b) (by simpa using hl) λi k1 k2=>by
   have:=h (i+1) an an;simpa using this
  have h0:=h 0 ah ah;simp only[Q6] at h0;simp only[x2,x3];refine⟨by omega,λe=> ?_⟩;rw[h0.2 aa,h2 aa]
theorem nW {α:Type}(f:α->Nat)(m:Nat):∀{a:List α},(∀x∈a,f x<=m)->(a.map f).sum<=a.length * m
 |[],_=>ah
 |x::a,h=>by
  have:=nW f m (a:=a) λy hy=>h y (by simp[hy]);have:=h x ah;simp only[x2,x3,j8,Nat.add_mul];omega
theorem CV {α:Type}(f:α->Nat):∀{a:List α} {k:Nat} {y:α} (hk:k < a.length),f y < f a[k]->((a.set k y).map f).sum < (a.map f).sum
 |[],_,_,hk,_=>absurd hk ah
 |x::a,0,y,_,h=>by simp only[Q6] at h;simp only[List.set_cons_zero,x2,x3];omega
 |x::a,k+1,y,hk,h=>by
  have:=CV f (a:=a) (k:=k) (y:=y) fC cl;simp only[List.set_cons_succ,x2,x3];omega
theorem Lx {s:Sp}(h:s.Ok):ow s<=8589934592:=by
 obtain⟨⟨s1,s2⟩,⟨s3,s4⟩,s5,s6⟩:=h;unfold ow;split<;>omega
theorem Af (b:Bool):b2n b<=1:=by cases b<;>decide
theorem Cn {c:List Ins}{g:Gs}(h:aE c g=0):iZ g<=8600000000:=by
 have:=Lx (ckGs_iff.1 h).1;have:=Af (!g.n);have:=Af (!g.t);have:=Af (!g.f);unfold iZ;omega
section
variable {V F:Int} {c:List Ins} {x y z:Pic} {w:Bool}
theorem vX (h0:aw V F c=0)(hx:PicOk V F c x):gF x < 2000000000000:=by
 have hp:=de h0;have h1:=hp.v8;have h2:=hp.f3;have h3:=hp.len;have a1:=hx.vars;have a2:=hx.flds;obtain⟨G,hG⟩:∃G:Nat,G=8600000000:=⟨_,rfl⟩;have b1:oO x.vars<=x.vars.length * G:=nW iZ G λg hg=>by rw[hG];exact Cn (hx.gv g hg)
 have b2:∀r∈x.flds,oO r<=3 * G:=λr hr=>by
  obtain⟨k,hk,rfl⟩:=z9 hr;have q:oO x.flds[k]<=x.flds[k].length * G:=nW iZ G λg hg=>by rw[hG];exact Cn (hx.gf k hk g hg)
  have:=hx.row k hk;have h8:x.flds[k].length<=3:=aa;exact lT q (x4 _ h8)
 have b3:Il x.flds<=x.flds.length * (3 * G):=nW oO _ b2;have h4:x.vars.length<=8:=aa;have h5:x.flds.length<=60:=aa;have h6:x.vars.length * G<=8 * G:=x4 _ h4;have h7:x.flds.length * (3 * G)<=60 * (3 * G):=x4 _ h5;unfold gF;rw[if_neg (by rw[hx.none];decide)];omega
theorem CZ (h0:aw V F c=0)(hx:aK V F c x=0):gF x<=2000000000000:=by
 cases hn:x.none with
 |true=>unfold gF;rw[if_pos hn];exact lR _
 |false=>exact Nat.le_of_lt (vX h0 (cr hx hn))
theorem tV (hx:aK V F c x=0):bG x x=true:=by
 cases hn:x.none with
 |true=>simp[bG,hn]
 |false=>
  have kx:=cr hx hn;rw[eE hn hn];exact⟨λi h1 _=>tX (kx.gv _ (gM _)),λk h1 _ i h3 _=>tX (kx.gf k h1 _ (gM _))⟩
theorem kw {x y:Pic}(h:bG x y=true)(hn:x.none=false):y.none=false:=by
 cases e:y.none with
 |false=>rfl
 |true=>simp[bG,e,hn] at h
theorem iK (hx:aK V F c x=0)(hy:aK V F c y=0)(hz:aK V F c z=0)(h1:bG x y=true)(h2:bG y z=true):bG x z=true:=by
 cases hn:x.none with
 |true=>simp[bG,hn]
 |false=>
  have hm:=kw h1 hn;have ho:=kw h2 hm;have kx:=cr hx hn;have ky:=cr hy hm;have kz:=cr hz ho;have:=kx.vars;have:=ky.vars;have:=kz.vars;have:=kx.flds;have:=ky.flds;have:=kz.flds;obtain⟨a1,a2⟩:=(eE hn hm).1 h1;obtain⟨b1,b2⟩:=(eE hm ho).1 h2;rw[eE hn ho];refine⟨λi p q=> ?_,λk p q i r s=> ?_⟩
  ·have hy':i < y.vars.length:=by omega
   exact uj (kx.gv _ (gM p)) (ky.gv _ (gM hy')) (a1 i p hy') (b1 i hy' q)
  ·have hy':k < y.flds.length:=by omega
   have:=kx.row k p;have:=ky.row k hy';have hi':i < y.flds[k].length:=aa;exact uj (kx.gf k p _ (gM r)) (ky.gf k hy' _ (gM hi')) (a2 k p hy' i r hi') (b2 k hy' q i hi' s)
theorem As (h0:aw V F c=0)(hx:aK V F c x=0)(hy:aK V F c y=0)(hi:bG y x=true):aG (am w) x y=x:=by
 have h60:c.length<=60:=(de h0).len;unfold aG;cases hm:y.none with
 |true=>
  have ey:=(i7 hm).1 hy;subst ey;cases hn:x.none with
  |true=>rw[(i7 hn).1 hx];rfl
  |false=>rfl
 |false=>
  have hn:=kw hi hm;rw[hn];simp only[j6,if_false];have kx:=cr hx hn;have ky:=cr hy hm;have:=kx.vars;have:=ky.vars;have:=kx.flds;have:=ky.flds;obtain⟨a1,a2⟩:=(eE hm hn).1 hi;have v1:=kx.vars;have v2:=kx.flds;obtain⟨xn,xv,xf⟩:=x;simp only at hn v1 v2;subst hn;simp only[Pic.mk.injEq,true_and];constructor
  ·refine J2 (by simp only[aN,j1];omega) λi p q=> ?_
   simp only[aN,j3];exact rj h60 (kx.gv _ (gM _)) (ky.gv _ (gM _)) (a1 i _ _)
  ·refine J2 (by simp only[j1];omega) λk p q=> ?_
   have hk:k < y.flds.length:=aa;have r1:=kx.row k q;have r2:=ky.row k hk;simp only[j3];refine J2 (by simp only[aN,j1];simp only at r1;omega) λi r s=> ?_;simp only[aN,j3];exact rj h60 (kx.gf k q _ (gM _)) (ky.gf k hk _ (gM _)) (a2 k hk q i _ _)
theorem lB (h0:aw V F c=0)(hx:aK V F c x=0)(hy:aK V F c y=0):aG (am w) x y=x↔bG y x=true:=by
 constructor
 ·intro h
  have:=(mB (w:=w) (de h0).len hx hy).2;rw[h] at this;exact this
 ·exact As h0 hx hy
theorem Lc (h0:aw V F c=0)(hx:aK V F c x=0)(hy:aK V F c y=0)(hi:bG x y=true):gF y<=gF x/\(gF y=gF x->x=y):=by
 have h60:c.length<=60:=(de h0).len;cases hn:x.none with
 |true=>
  have ex:=(i7 hn).1 hx;refine⟨by have:=CZ h0 hy;unfold gF at this |-;rw[if_pos hn];exact this,λe=> ?_⟩;cases hm:y.none with
  |true=>rw[ex,(i7 hm).1 hy]
  |false=>
   have:=vX h0 (cr hy hm);rw[e] at this;unfold gF at this;rw[if_pos hn] at this;omega
 |false=>
  have hm:=kw hi hn;have kx:=cr hx hn;have ky:=cr hy hm;have:=kx.vars;have:=ky.vars;have:=kx.flds;have:=ky.flds;obtain⟨a1,a2⟩:=(eE hn hm).1 hi;have b1:=tY iZ (a:=x.vars) (b:=y.vars) aa λi p q=>Co h60 (kx.gv _ (gM _)) (ky.gv _ (gM _)) (a1 i p q);have b2:=tY oO (a:=x.flds) (b:=y.flds) aa λk p q=>by
   have:=kx.row k p;have:=ky.row k q;exact tY iZ aa λi r s=>Co h60 (kx.gf k p _ (gM _)) (ky.gf k q _ (gM _)) (a2 k p q i r s)
  unfold gF oO Il;rw[if_neg (by rw[hm];decide),if_neg o9];refine⟨by omega,λe=> ?_⟩;have e1:=b1.2 aa;have e2:=b2.2 aa;obtain⟨xn,xv,xf⟩:=x;obtain⟨yn,yv,yf⟩:=y;simp only at hn hm e1 e2;rw[hn,hm,e1,e2]
theorem Gh (h0:aw V F c=0)(hx:aK V F c x=0)(hy:aK V F c y=0)(hi:bG y x=false):gF (aG (am w) x y) < gF x:=by
 have hj:=sD (w:=w) hx hy;have h1:=Lc h0 hx hj (mB (w:=w) (de h0).len hx hy).1;have h2:aG (am w) x y≠x:=λe=>by rw[(lB h0 hx hy).1 e] at hi;cases hi
 rcases Nat.lt_or_eq_of_le h1.1 with h|h
 ·exact h
 ·exact absurd (h1.2 h).symm h2
end
def bm (l:List Pic)(p:Int):Pic:=l.getD p.toNat nonePic
def c7 (n i tto:Int):Bool:=decide (4<=n)&&decide (tto<=i)
def bT (n i:Int)(s:List Pic×Bool)(e:Edg):List Pic×Bool:=
 if bG e.pic (bm s.1 e.tgt) then s else(s.1.set e.tgt.toNat (aG (am (c7 n i e.tgt)) (bm s.1 e.tgt) e.pic),true)
def cM (c:List Ins)(i:Nat)(x:Pic):List Edg:=(aA (bK c i) i x).1
def dl (c:List Ins)(n:Int)(s:List Pic×Bool)(i:Nat):List Pic×Bool:=(cM c i (bm s.1 i)).foldl (bT n i) s
def dg (c:List Ins)(n:Int)(l:List Pic):List Pic×Bool:=(j0 c.length).foldl (dl c n) (l,false)
def cG (n i:Int)(s:List Pic×List Int×Bool)(e:Edg):List Pic×List Int×Bool:=
 if bG e.pic (bm s.1 e.tgt) then s else(s.1.set e.tgt.toNat (aG (am (c7 n i e.tgt)) (bm s.1 e.tgt) e.pic),s.2.1.set e.tgt.toNat (if i < e.tgt then n else n+1),true)
def gj (c:List Ins)(n:Int)(s:List Pic×List Int×Bool)(i:Nat):List Pic×List Int×Bool:=if s.2.1.getD i 0=n then(cM c i (bm s.1 i)).foldl (cG n i) s else s
def eJ (c:List Ins)(n:Int)(s:List Pic×List Int):List Pic×List Int×Bool:=(j0 c.length).foldl (gj c n) (s.1,s.2,false)

structure XsOk (V F:Int) (c:List Ins) (l:List Pic):Prop where
 len:l.length=c.length+1
 ck:∀x∈l,aK V F c x=0
def e8 (c:List Ins)(l:List Pic)(i:Nat):Prop:=∀e∈cM c i (bm l i),bG e.pic (bm l e.tgt)=true
def LeX (l l':List Pic):Prop:=l'.length=l.length/\∀p:Int,bG (bm l p) (bm l' p)=true
section
variable {V F:Int} {c:List Ins} {l l' l2:List Pic} {n:Int}
theorem fU {k:Nat}(h:k < l.length):bm l (k:Int)=l[k]:=by unfold bm;simp[j2,h]
theorem XsOk.at (h:XsOk V F c l)(p:Int):aK V F c (bm l p)=0:=by
 unfold bm;by_cases hp:p.toNat < l.length
 ·simp only[j2,z4 hp,J0]
  exact h.ck _ (gM hp)
 ·simp only[j2,z8 (z7.1 hp),J1]
  rfl
theorem LeX.refl (h:XsOk V F c l):LeX l l:=⟨rfl,λp=>tV (h.at p)⟩
theorem LeX.trans (h:XsOk V F c l)(h':XsOk V F c l')(h2:XsOk V F c l2)(a:LeX l l')(b:LeX l' l2):LeX l l2:=⟨by rw[b.1,a.1],λp=>iK (h.at p) (h'.at p) (h2.at p) (a.2 p) (b.2 p)⟩
theorem lj {p:Int}{q:Nat}{y:Pic}:bm (l.set q y) p=if q=p.toNat/\q < l.length then y else bm l p:=by
 unfold bm;simp only[j2,Q7];by_cases h:q=p.toNat
 ·by_cases hq:q < l.length
  ·rw[if_pos h,if_pos hq,if_pos ⟨h,hq⟩];rfl
  ·have hq':¬p.toNat < l.length:=by omega
   rw[if_pos h,if_neg hq,if_neg aa,z8 aa]
 ·rw[if_neg h,if_neg aa]
def gP (V F:Int)(c:List Ins)(e:Edg):Prop:=aK V F c e.pic=0/\0<=e.tgt/\e.tgt<=c.length
theorem im (h0:aw V F c=0){x:Pic}(hx:aK V F c x=0){i:Nat}(hi:i < c.length):∀e∈cM c i x,gP V F c e:=λe he=>by
 have:=Fe (de h0) hx (p:=(i:Int)) aa aa e he;exact⟨this.1,this.2.2.1,this.2.2.2⟩
theorem XsOk.put (h:XsOk V F c l){y:Pic}(hy:aK V F c y=0)(q:Nat):XsOk V F c (l.set q y):=⟨by rw[Q3];exact h.len,λx hx=>by
 rcases List.mem_or_eq_of_mem_set hx with hx|rfl
 ·exact h.ck x hx
 ·exact hy⟩
theorem mI (h0:aw V F c=0){s:List Pic×Bool}{i:Int}{e:Edg}(h:XsOk V F c s.1)(he:gP V F c e):
  XsOk V F c (bT n i s e).1/\LeX s.1 (bT n i s e).1/\bG e.pic (bm (bT n i s e).1 e.tgt)=true/\((bT n i s e).2=false->s.2=false/\(bT n i s e).1=s.1)/\((bT n i s e).1=s.1/\(bT n i s e).2=s.2\/(bT n i s e).2=true/\gS (bT n i s e).1 < gS s.1):=by
 unfold bT;by_cases hi:bG e.pic (bm s.1 e.tgt)=true
 ·rw[if_pos hi]
  exact⟨h,LeX.refl h,hi,λhf=>⟨hf,rfl⟩,.inl ⟨rfl,rfl⟩⟩
 ·rw[if_neg hi]
  have hi':bG e.pic (bm s.1 e.tgt)=false:=d8;have hc:=h.at e.tgt;have hj:=sD (w:=c7 n i e.tgt) hc he.1;have hin:=mB (w:=c7 n i e.tgt) (de h0).len hc he.1;have hl:=h.len;have hq:e.tgt.toNat < s.1.length:=by have:=he.2;omega
  refine⟨h.put hj _,⟨ah,λp=> ?_⟩,?_,(λhf=>by cases hf),.inr ⟨rfl,?_⟩⟩
  ·rw[lj]
   split
   ·rename_i hp
    have:bm s.1 p=bm s.1 e.tgt:=by unfold bm;rw[hp.1]
    rw[this];exact hin.1
   ·exact tV (h.at p)
  ·rw[lj,if_pos ⟨rfl,hq⟩]
   exact hin.2
  ·have hp:=Gh (w:=c7 n i e.tgt) h0 hc he.1 hi'
   have e1:bm s.1 e.tgt=s.1[e.tgt.toNat]:=by unfold bm;simp[j2,hq]
   refine CV gF hq ?_;rw[e1] at hp |-;exact hp
theorem Ac (h0:aw V F c=0)(h:XsOk V F c l)(h':XsOk V F c l')(hl:LeX l l'){i:Nat}(hi:i < c.length)(hs:e8 c l i)(e:bm l' i=bm l i):e8 c l' i:=by
 intro q hq;rw[e] at hq;exact iK (im h0 (h.at _) hi q hq).1 (h.at _) (h'.at _) (hs q hq) (hl.2 _)
theorem oN (h0:aw V F c=0){i:Int}:∀{E:List Edg} {s:List Pic×Bool},XsOk V F c s.1->(∀e∈E,gP V F c e)->
  XsOk V F c (E.foldl (bT n i) s).1/\LeX s.1 (E.foldl (bT n i) s).1/\(∀e∈E,bG e.pic (bm (E.foldl (bT n i) s).1 e.tgt)=true)/\((E.foldl (bT n i) s).2=false->s.2=false/\(E.foldl (bT n i) s).1=s.1)/\((E.foldl (bT n i) s).1=s.1/\(E.foldl (bT n i) s).2=s.2\/(E.foldl (bT n i) s).2=true/\gS (E.foldl (bT n i) s).1 < gS s.1)
 |[],s,h,_=>⟨h,LeX.refl h,λe he=>by simp at he,λhf=>⟨hf,rfl⟩,.inl ⟨rfl,rfl⟩⟩
 |e::E,s,h,hE=>by
  have he:=hE e ah;obtain⟨a1,a2,a3,a4,a5⟩:=mI (n:=n) (i:=i) h0 h he;obtain⟨b1,b2,b3,b4,b5⟩:=oN h0 (i:=i) (E:=E) a1 λq hq=>hE q (by simp[hq]);rw[q0];refine⟨b1,LeX.trans h a1 b1 a2 b2,λq hq=> ?_,λhf=> ?_,?_⟩
  ·rcases j7.1 hq with rfl|hq
   ·exact iK he.1 (a1.at _) (b1.at _) a3 (b2.2 _)
   ·exact b3 q hq
  ·obtain⟨c1,c2⟩:=b4 hf
   obtain⟨d1,d2⟩:=a4 c1;exact⟨d1,by rw[c2,d2]⟩
  ·rcases b5 with⟨c1,c2⟩|⟨c1,c2⟩
   ·rcases a5 with⟨d1,d2⟩|⟨d1,d2⟩
    ·exact .inl ⟨by rw[c1,d1],by rw[c2,d2]⟩
    ·exact .inr ⟨by rw[c2,d1],by rw[c1];exact d2⟩
   ·rcases a5 with⟨d1,d2⟩|⟨d1,d2⟩
    ·exact .inr ⟨c1,by rw[<-d1];exact c2⟩
    ·exact .inr ⟨c1,Nat.lt_trans c2 d2⟩
theorem ET (h0:aw V F c=0){s:List Pic×Bool}(h:XsOk V F c s.1){i:Nat}(hi:i < c.length):
  XsOk V F c (dl c n s i).1/\LeX s.1 (dl c n s i).1/\((dl c n s i).2=false->s.2=false/\(dl c n s i).1=s.1/\e8 c s.1 i)/\((dl c n s i).1=s.1/\(dl c n s i).2=s.2\/(dl c n s i).2=true/\gS (dl c n s i).1 < gS s.1):=by
 obtain⟨a1,a2,a3,a4,a5⟩:=oN (n:=n) (i:=(i:Int)) h0 h (im h0 (h.at _) hi);refine⟨a1,a2,λhf=> ?_,a5⟩;obtain⟨b1,b2⟩:=a4 hf;exact⟨b1,b2,λe he=>by have:=a3 e he;rw[b2] at this;exact this⟩
theorem nL (h0:aw V F c=0):∀{k:Nat},k<=c.length->∀{s:List Pic×Bool},XsOk V F c s.1->
  XsOk V F c ((j0 k).foldl (dl c n) s).1/\LeX s.1 ((j0 k).foldl (dl c n) s).1/\(((j0 k).foldl (dl c n) s).2=false->s.2=false/\((j0 k).foldl (dl c n) s).1=s.1/\∀i,i < k->e8 c s.1 i)/\(((j0 k).foldl (dl c n) s).1=s.1/\((j0 k).foldl (dl c n) s).2=s.2\/((j0 k).foldl (dl c n) s).2=true/\gS ((j0 k).foldl (dl c n) s).1 < gS s.1)
 |0,_,s,h=>⟨h,LeX.refl h,λhf=>⟨hf,rfl,λi hi=>absurd hi aa⟩,.inl ⟨rfl,rfl⟩⟩
 |k+1,hk,s,h=>by
  rw[Q8,J3,q0,J4];obtain⟨a1,a2,a3,a4⟩:=nL h0 (k:=k) aa h;obtain⟨b1,b2,b3,b4⟩:=ET (n:=n) h0 a1 (i:=k) aa;refine⟨b1,LeX.trans h a1 b1 a2 b2,λhf=> ?_,?_⟩
  ·obtain⟨c1,c2,c3⟩:=b3 hf
   obtain⟨d1,d2,d3⟩:=a3 c1;refine⟨d1,by rw[c2,d2],λi hi=> ?_⟩;by_cases e:i=k
   ·rw[e];rw[d2] at c3;exact c3
   ·exact d3 i aa
  ·rcases b4 with⟨c1,c2⟩|⟨c1,c2⟩
   ·rcases a4 with⟨d1,d2⟩|⟨d1,d2⟩
    ·exact .inl ⟨by rw[c1,d1],by rw[c2,d2]⟩
    ·exact .inr ⟨by rw[c2,d1],by rw[c1];exact d2⟩
   ·rcases a4 with⟨d1,d2⟩|⟨d1,d2⟩
    ·exact .inr ⟨c1,by rw[<-d1];exact c2⟩
    ·exact .inr ⟨c1,Nat.lt_trans c2 d2⟩
theorem iP (h0:aw V F c=0)(h:XsOk V F c l):
  XsOk V F c (dg c n l).1/\LeX l (dg c n l).1/\((dg c n l).2=false->(dg c n l).1=l/\∀i,i < c.length->e8 c l i)/\((dg c n l).2=true->gS (dg c n l).1 < gS l):=by
 obtain⟨a1,a2,a3,a4⟩:=nL (n:=n) h0 (lR c.length) (s:=(l,false)) h;refine⟨a1,a2,λhf=>(a3 hf).2,λht=> ?_⟩;rcases a4 with⟨_,b⟩|⟨_,b⟩
 ·unfold dg at ht
  rw[b] at ht;cases ht
 ·exact b

structure Due (V F:Int) (c:List Ins) (n:Int) (i:Nat) (l:List Pic) (d:List Int):Prop where
 ok:XsOk V F c l
 len:d.length=c.length+1
 set:∀k,k < c.length->(if k < i then d.getD k 0≠n+1 else d.getD k 0≠n)->e8 c l k
theorem vV {d:List Int}{q k:Nat}{y:Int}(hq:q < d.length):(d.set q y).getD k 0=if q=k then y else d.getD k 0:=by
 simp only[j2,Q7];by_cases h:q=k
 ·rw[if_pos h,if_pos hq,if_pos h];rfl
 ·rw[if_neg h,if_neg h]
structure DueIn (V F:Int) (c:List Ins) (n:Int) (i:Nat) (x:Pic) (P:List Edg) (s:List Pic×List Int×Bool):Prop where
 ok:XsOk V F c s.1
 len:s.2.1.length=c.length+1
 set:∀k,k < c.length->k≠i->(if k < i then s.2.1.getD k 0≠n+1 else s.2.1.getD k 0≠n)->e8 c s.1 k
 own:s.2.1.getD i 0=n+1\/bm s.1 i=x
 past:∀e∈P,bG e.pic (bm s.1 e.tgt)=true
theorem mN {i:Int}{s:List Pic×List Int×Bool}{e:Edg}:((cG n i s e).1,(cG n i s e).2.2)=bT n i (s.1,s.2.2) e:=by
 unfold cG bT;split<;>rfl
theorem rk {i:Int}:∀{E:List Edg} {s:List Pic×List Int×Bool},((E.foldl (cG n i) s).1,(E.foldl (cG n i) s).2.2)=E.foldl (bT n i) (s.1,s.2.2)
 |[],_=>rfl
 |e::E,s=>by rw[q0,q0,rk,mN]
theorem DueIn.step (h0:aw V F c=0){i:Nat}(hi:i < c.length){x:Pic}{P:List Edg}{s:List Pic×List Int×Bool}(h:DueIn V F c n i x P s)(hP:∀e∈P,gP V F c e){e:Edg}(he:gP V F c e):DueIn V F c n i x (P++[e]) (cG n i s e):=by
 obtain⟨b1,b2,b3,-,-⟩:=mI (n:=n) (i:=(i:Int)) (s:=(s.1,s.2.2)) h0 h.ok he;have e1:(bT n i (s.1,s.2.2) e).1=(cG n i s e).1:=by rw[<-mN]
 rw[e1] at b1 b2 b3;have hpast:∀q∈P++[e],bG q.pic (bm (cG n i s e).1 q.tgt)=true:=λq hq=>by
  rcases z3.1 hq with hq|hq
  ·exact iK (hP q hq).1 (h.ok.at _) (b1.at _) (h.past q hq) (b2.2 _)
  ·rw[j4.1 hq];exact b3
 by_cases hin:bG e.pic (bm s.1 e.tgt)=true
 ·have es:cG n i s e=s:=by unfold cG;rw[if_pos hin]
  rw[es] at hpast |-;exact⟨h.ok,h.len,h.set,h.own,hpast⟩
 ·have es:cG n i s e=(s.1.set e.tgt.toNat (aG (am (c7 n i e.tgt)) (bm s.1 e.tgt) e.pic),s.2.1.set e.tgt.toNat (if (i:Int) < e.tgt then n else n+1),true):=by unfold cG;rw[if_neg hin]
  have hl:=h.len;have hq:e.tgt.toNat < s.2.1.length:=by have:=he.2;omega
  have hto:=he.2;rw[es] at b1 b2 hpast |-;refine⟨b1,by simpa using h.len,λk hk hne hd=> ?_,?_,hpast⟩
  ·simp only at hd |-
   rw[vV hq] at hd;by_cases ek:e.tgt.toNat=k
   ·rw[if_pos ek] at hd
    exfalso;by_cases hki:k < i
    ·rw[if_pos hki,if_neg aa] at hd
     exact hd rfl
    ·rw[if_neg hki,if_pos aa] at hd
     exact hd rfl
   ·rw[if_neg ek] at hd
    refine Ac h0 h.ok b1 b2 hk (h.set k hk hne hd) ?_;rw[lj,if_neg aa]
  ·simp only
   rw[vV hq];by_cases ek:e.tgt.toNat=i
   ·left
    rw[if_pos ek,if_neg aa]
   ·rw[if_neg ek,lj,if_neg aa]
    exact h.own
theorem DueIn.steps (h0:aw V F c=0){i:Nat}(hi:i < c.length){x:Pic}:∀{E P:List Edg} {s:List Pic×List Int×Bool},DueIn V F c n i x P s->(∀e∈P,gP V F c e)->(∀e∈E,gP V F c e)->DueIn V F c n i x (P++E) (E.foldl (cG n i) s)
 |[],P,s,h,_,_=>by rw[Q9];exact h
 |e::E,P,s,h,hP,hE=>by
  have h1:=h.step h0 hi hP (hE e ah);have h2:=DueIn.steps h0 hi (E:=E) h1 (λq hq=>by
   rcases z3.1 hq with hq|hq
   ·exact hP q hq
   ·rw[j4.1 hq];exact hE e ah) λq hq=>hE q (by simp[hq])
  rw[List.append_assoc] at h2;exact h2
theorem yS {s:List Pic×Bool}{i:Nat}(h:e8 c s.1 i):dl c n s i=s:=by
 unfold dl;have:∀(E:List Edg),(∀e∈E,bG e.pic (bm s.1 e.tgt)=true)->E.foldl (bT n i) s=s:=by
  intro E;induction E with
  |nil=>exact λ_=>rfl
  |cons e E ih=>
   intro hE;rw[q0];have:bT n i s e=s:=by unfold bT;rw[if_pos (hE e (by simp))]
   rw[this];exact ih λq hq=>hE q (by simp[hq])
 exact this _ h
theorem Ee (h0:aw V F c=0){i:Nat}(hi:i < c.length){s:List Pic×List Int×Bool}(h:Due V F c n i s.1 s.2.1):Due V F c n (i+1) (gj c n s i).1 (gj c n s i).2.1/\((gj c n s i).1,(gj c n s i).2.2)=dl c n (s.1,s.2.2) i:=by
 unfold gj;by_cases hd:s.2.1.getD i 0=n
 ·rw[if_pos hd]
  refine⟨?_,rk⟩;have hE:=im h0 (h.ok.at (i:Int)) hi;have h1:DueIn V F c n i (bm s.1 i) [] s:=⟨h.ok,h.len,λk hk _ hh=>h.set k hk hh,.inr rfl,λe he=>by simp at he⟩;have h2:=h1.steps h0 hi (λe he=>by simp at he) hE;rw[List.nil_append] at h2;refine⟨h2.ok,h2.len,λk hk hh=> ?_⟩;by_cases ek:k=i
  ·subst ek
   rw[if_pos aa] at hh;rcases h2.own with ho|ho
   ·exact absurd ho hh
   ·intro e he
    rw[ho] at he;exact h2.past e he
  ·refine h2.set k hk ek ?_
   by_cases hki:k < i
   ·rw[if_pos hki];rw[if_pos aa] at hh;exact hh
   ·rw[if_neg hki];rw[if_neg aa] at hh;exact hh
 ·rw[if_neg hd]
  have hs:e8 c s.1 i:=h.set i hi (by rw[if_neg (by omega)];exact hd);refine⟨⟨h.ok,h.len,λk hk hh=> ?_⟩,(yS hs).symm⟩;by_cases ek:k=i
  ·rw[ek];exact hs
  ·refine h.set k hk ?_
   by_cases hki:k < i
   ·rw[if_pos hki];rw[if_pos aa] at hh;exact hh
   ·rw[if_neg hki];rw[if_neg aa] at hh;exact hh
theorem p7 (h0:aw V F c=0):∀{k:Nat},k<=c.length->∀{s:List Pic×List Int×Bool},Due V F c n 0 s.1 s.2.1->Due V F c n k ((j0 k).foldl (gj c n) s).1 ((j0 k).foldl (gj c n) s).2.1/\(((j0 k).foldl (gj c n) s).1,((j0 k).foldl (gj c n) s).2.2)=(j0 k).foldl (dl c n) (s.1,s.2.2)
 |0,_,s,h=>⟨h,rfl⟩
 |k+1,hk,s,h=>by
  rw[Q8,J3,q0,J4,J3,q0,J4];obtain⟨a1,a2⟩:=p7 h0 (k:=k) aa h;obtain⟨b1,b2⟩:=Ee h0 (i:=k) aa a1;exact⟨b1,by rw[b2,a2]⟩
theorem rl (h0:aw V F c=0){d:List Int}(h:Due V F c n 0 l d):Due V F c (n+1) 0 (eJ c n (l,d)).1 (eJ c n (l,d)).2.1/\(eJ c n (l,d)).1=(dg c n l).1/\(eJ c n (l,d)).2.2=(dg c n l).2:=by
 obtain⟨a1,a2⟩:=p7 h0 (lR c.length) (s:=(l,d,false)) h;refine⟨⟨a1.ok,a1.len,λk hk hh=> ?_⟩,congrArg Prod.fst a2,congrArg Prod.snd a2⟩;rw[if_neg aa] at hh;exact a1.set k hk (by rw[if_pos hk];exact hh)

def iS (V F:Int)(c:List Ins):List Pic:=bE V F c::x5 c.length nonePic
def aI (V F:Int)(c:List Ins):Nat->List Pic
 |0=>iS V F c
 |m+1=>(dg c ((m+1:Nat):Int) (aI V F c m)).1
def SolvedAt (V F:Int)(c:List Ins)(m:Nat):Prop:=(∀k,k < m->(dg c ((k+1:Nat):Int) (aI V F c k)).2=true)/\(dg c ((m+1:Nat):Int) (aI V F c m)).2=false
theorem SolvedAt.one {m m':Nat}(h:SolvedAt V F c m)(h':SolvedAt V F c m'):m=m':=by
 rcases Nat.lt_trichotomy m m' with e|e|e
 ·have:=h'.1 m e;rw[h.2] at this;cases this
 ·exact e
 ·have:=h.1 m' e;rw[h'.2] at this;cases this
theorem Cf (h0:aw V F c=0):PicOk V F c (bE V F c):=by
 have hp:=de h0;have h1:=hp.v1;have h2:=hp.f0;refine⟨rfl,by simp[bE];omega,by simp[bE],λk h=> ?_,λg hg=> ?_,λk h g hg=> ?_,λk h=>.inr λg hg=> ?_⟩
 ·simp[bE];omega
 ·rw[x6 hg];rfl
 ·have hg':g∈x5 F.toNat noneG:=by simpa[bE] using hg
  rw[x6 hg'];rfl
 ·have hg':g∈x5 F.toNat noneG:=by simpa[bE] using hg
  rw[x6 hg'];rfl
theorem iQ (h0:aw V F c=0):XsOk V F c (iS V F c):=⟨by simp[iS],λx hx=>by
 rcases j7.1 hx with rfl|hx
 ·exact(Cf h0).ck
 ·rw[x6 hx];rfl⟩
theorem dE (h0:aw V F c=0):∀m,XsOk V F c (aI V F c m)
 |0=>iQ h0
 |m+1=>(iP h0 (dE h0 m)).1
theorem nZ (h0:aw V F c=0):∀m,LeX (iS V F c) (aI V F c m)
 |0=>LeX.refl (iQ h0)
 |m+1=>LeX.trans (iQ h0) (dE h0 m) (dE h0 (m+1)) (nZ h0 m) (iP h0 (dE h0 m)).2.1
theorem Mb (h0:aw V F c=0)(h:XsOk V F c l):gS l<=200000000000000:=by
 obtain⟨G,hG⟩:∃G:Nat,G=2000000000000:=⟨_,rfl⟩;have h1:gS l<=l.length * G:=nW gF G λx hx=>by rw[hG];exact CZ h0 (h.ck x hx)
 have h2:=h.len;have h3:=(de h0).len;have h4:l.length<=61:=aa;have h5:l.length * G<=61 * G:=x4 _ h4;omega
theorem kA (h0:aw V F c=0):∀{m:Nat},(∀k,k < m->(dg c ((k+1:Nat):Int) (aI V F c k)).2=true)->m+gS (aI V F c m)<=200000000000000
 |0,_=>by have:=Mb h0 (iQ h0);simp only[aI];omega
 |m+1,h=>by
  have h1:=kA h0 (m:=m) λk hk=>h k aa;have h2:=(iP (n:=((m+1:Nat):Int)) h0 (dE h0 m)).2.2.2 (h m aa);have h3:gS (aI V F c (m+1)) < gS (aI V F c m):=h2;omega
def Gn (c:List Ins):List Int:=1::x5 c.length 0
theorem Fv (h0:aw V F c=0):Due V F c 1 0 (iS V F c) (Gn c):=by
 refine⟨iQ h0,by simp[Gn],λk hk hd=> ?_⟩;rw[if_neg aa] at hd;cases k with
 |zero=>exact absurd rfl hd
 |succ k=>
  intro e he;have:bm (iS V F c) ((k+1:Nat):Int)=nonePic:=by
   rw[fU (by simp[iS];omega)];simp[iS]
  rw[this] at he;simp[cM,aA,nonePic] at he
def Ex (V F:Int)(c:List Ins)(l:List Pic):Bool:=bG (bE V F c) (bm l 0)&&(j0 c.length).all λi=>(cM c i (bm l i)).all λe=>bG e.pic (bm l e.tgt)
theorem fitsX_iff:Ex V F c l=true↔bG (bE V F c) (bm l 0)=true/\∀i,i < c.length->e8 c l i:=by
 unfold Ex e8;simp[x9]
theorem rt (h0:aw V F c=0){m:Nat}(h:SolvedAt V F c m):aI V F c (m+1)=aI V F c m/\Ex V F c (aI V F c m)=true:=by
 have h1:=(iP (n:=((m+1:Nat):Int)) h0 (dE h0 m)).2.2.1 h.2;refine⟨h1.1,fitsX_iff.2 ⟨?_,h1.2⟩⟩;have:=(nZ h0 m).2 0;exact this
end
theorem p8 (i:Ins)(at_:Int)(x:Pic):(aA i at_ x).1.length<=2:=by
 unfold aA;repeat' split
 all_goals simp
 all_goals (repeat' split)
 all_goals simp
end
section
open Go.RowKit
attribute [local go_sem ↓] Go.wp_at_zero Go.wp_at_succ
theorem iw (sb:Nat)(at_:Int)(cs:List Value)(w:World)(h:Cells w sb cs)(h9:cs[9]? =sO (I Y at_))(h0:0<=at_)(h1:at_<=1000):
  Calls pG 92 #[Pp (sO ⟨sb,0,nO⟩)] w λe w'=>e=Rt (I Y (at_+1))/\w'=w:=by
 have c9:=h.1 9 _ h9;clear h h9;go_enter Tryz.func92,Tryz.ntmps92;go_wp2;go_ret;exact⟨bP aJ,rfl⟩
theorem Be {s:Sp}(hs:s.Ok):bV s=(if (if s.lo=0 then aF s ⟨false,1,2147483647⟩ else s).hi=0 then aF (if s.lo=0 then aF s ⟨false,1,2147483647⟩ else s) ⟨false,-2147483648,-1⟩ else(if s.lo=0 then aF s ⟨false,1,2147483647⟩ else s)):=by
 obtain⟨⟨a1,a2⟩,⟨a3,a4⟩,a5,a6⟩:=hs;obtain⟨n,lo,hi⟩:=s;simp only at a1 a2 a3 a4 a5 a6;cases n with
 |true=>
  obtain⟨rfl,rfl⟩:=a5 rfl;rfl
 |false=>
  by_cases h1:lo=0
  ·subst h1
   by_cases h2:hi=0
   ·subst h2;rfl
   ·have e1:min hi 2147483647=hi:=by omega
    have e2:max (0:Int) 1=1:=aa;have e3:¬hi < 1:=aa;simp[bV,aF,h2,e1,e2,e3]
  ·by_cases h2:hi=0
   ·subst h2
    have e1:min (0:Int) (-1)= -1:=aa;have e2:max lo (-2147483648)=lo:=aa;have e3:¬ -1 < lo:=aa;simp[bV,aF,h1,e1,e2,e3]
   ·have e3:¬hi < lo:=by omega
    simp[bV,h1,h2,e3]
theorem LZ {s t:Sp}(hs:s.Ok)(ht:t.Ok):(aF s t).Ok:=by
 obtain⟨⟨a1,a2⟩,⟨a3,a4⟩,a5,a6⟩:=hs;obtain⟨⟨b1,b2⟩,⟨b3,b4⟩,b5,b6⟩:=ht;unfold aF;split
 ·exact fF
 ·rename_i h
  simp only[Bool.or_eq_true,decide_eq_true_eq,not_or] at h;exact iv aa aa aa
theorem DJ {s t:Sp}(hs:s.Ok)(ht:t.Ok):bu s t=0:=ckSps_ok.2 ⟨hs,ht⟩
theorem uk (s:Sp)(w:World)(hs:s.Ok):
  Calls pG 157 #[sv s] w λe w'=>e=Rt (sv (bV s))/\bl w w':=by
 rw[Be hs];have HM:Hid (∀(a b:Sp) wx,a.Ok->b.Ok->Calls pG 159 #[sv a,sv b] wx λe w'=>e=Rt (Tu #[sv (aF a b),I Y 0])/\bl wx w'):=λa b wx ha hb=>by
  have:=iU a b wx;rw[DJ ha hb] at this;exact this
 have B0:Below w.heap.size w ((w.alloc (Cc #[Bb s.n,I Y s.lo,I Y s.hi] 89)).alloc (Cc #[Bb false,I Y 0,I Y 0] 89)):=ai;have A0:Cells ((w.alloc (Cc #[Bb s.n,I Y s.lo,I Y s.hi] 89)).alloc (Cc #[Bb false,I Y 0,I Y 0] 89)) w.heap.size [Bb s.n,I Y s.lo,I Y s.hi]:=(Cells.new w 89 [Bb s.n,I Y s.lo,I Y s.hi]).call ai;have R0:Cells ((w.alloc (Cc #[Bb s.n,I Y s.lo,I Y s.hi] 89)).alloc (Cc #[Bb false,I Y 0,I Y 0] 89)) (w.heap.size+1) [Bb false,I Y 0,I Y 0]:=by
  have:=Cells.new (w.alloc (Cc #[Bb s.n,I Y s.lo,I Y s.hi] 89)) 89 [Bb false,I Y 0,I Y 0];rw[zA] at this;exact this
 have HK1:Hid ((⟨false,1,2147483647⟩:Sp).Ok):=iv aa aa aa;have HK2:Hid ((⟨false,-2147483648,-1⟩:Sp).Ok):=iv aa aa aa;obtain⟨m1,hm1⟩:∃q,q=(if s.lo=0 then aF s ⟨false,1,2147483647⟩ else s):=⟨_,rfl⟩;rw[<-hm1];have HO1:Hid (m1.Ok):=by
  show m1.Ok;rw[hm1];split
  ·exact LZ hs HK1.out
  ·exact hs
 have HM1:=ae hm1;clear hm1;obtain⟨m2,hm2⟩:∃q,q=(if m1.hi=0 then aF m1 ⟨false,-2147483648,-1⟩ else m1):=⟨_,rfl⟩;rw[<-hm2];have HM2:=ae hm2;have HS:=ae hs;clear hm2 hs;go_enter Tryz.func157,Tryz.ntmps157;go_upto_if 5 with fail
 generalize ((w.alloc (Cc #[Bb s.n,I Y s.lo,I Y s.hi] 89)).alloc (Cc #[Bb false,I Y 0,I Y 0] 89))=w0 at *;go_cut [] (λwy=>Cells wy w.heap.size [Bb m1.n,I Y m1.lo,I Y m1.hi]/\Cells wy (w.heap.size+1) [Bb false,I Y 0,I Y 0]/\bl w wy)
 case first=>
  have a0:=A0.1 0 _ rfl;have a1:=A0.1 1 _ rfl;have a2:=A0.1 2 _ rfl;by_cases e:s.lo=0
  ·have e1:=HM1.out
   rw[if_pos e] at e1;have E1:=ae e1;have eb:(s.lo==0)=true:=iG;clear e1 e;have HC:=ae (HM.out s ⟨false,1,2147483647⟩ w0 HS.out HK1.out);rw[<-E1.out] at HC;go_wp2_with (go_at_call 159;fail);refine HC.out.mono ?_;rintro e w1 ⟨rfl,hb1⟩;have A1:=A0.call hb1;have R1:=R0.call hb1;have B1:=B0.trans (hb1.mono B0.size);clear a0 a1 a2 hb1 A0 R0 B0 HC;have b0:=A1.1 0 _ rfl;have b1:=A1.1 1 _ rfl;have b2:=A1.1 2 _ rfl;have f0:=A1.2.2 0;have f1:=A1.2.2 1;have f2:=A1.2.2 2;go_wp2_with fail;go_meet;exact⟨((A1.put 0 ah _).put 1 ah _).put 2 ah _,((R1.far au _).far au _).far au _,((B1.setCell (lR _) _).setCell (lR _) _).setCell (lR _) _⟩
  ·have e1:=HM1.out
   rw[if_neg e] at e1;have eb:(s.lo==0)=false:=iG;clear e;subst e1;go_wp2_with fail;go_meet;exact⟨A0,R0,B0⟩
 obtain⟨A1,R1,B1⟩:=hcut;clear A0 R0 B0;generalize wc=w1 at *;clear wc;have a0:=A1.1 0 _ rfl;have a1:=A1.1 1 _ rfl;have a2:=A1.1 2 _ rfl;go_upto_if 14 with fail
 go_cut [] (λwy=>Cells wy w.heap.size [Bb m2.n,I Y m2.lo,I Y m2.hi]/\Cells wy (w.heap.size+1) [Bb false,I Y 0,I Y 0]/\bl w wy)
 case first=>
  by_cases e:m1.hi=0
  ·have e1:=HM2.out
   rw[if_pos e] at e1;have E1:=ae e1;have eb:(m1.hi==0)=true:=iG;clear e1 e;have HC:=ae (HM.out m1 ⟨false,-2147483648,-1⟩ w1 HO1.out HK2.out);rw[<-E1.out] at HC;go_wp2_with (go_at_call 159;fail);refine HC.out.mono ?_;rintro e w2 ⟨rfl,hb2⟩;have A2:=A1.call hb2;have R2:=R1.call hb2;have B2:=B1.trans (hb2.mono B1.size);clear a0 a1 a2 hb2 A1 R1 B1 HC;have b0:=A2.1 0 _ rfl;have b1:=A2.1 1 _ rfl;have b2:=A2.1 2 _ rfl;have f0:=A2.2.2 0;have f1:=A2.2.2 1;have f2:=A2.2.2 2;go_wp2_with fail;go_meet;exact⟨((A2.put 0 ah _).put 1 ah _).put 2 ah _,((R2.far au _).far au _).far au _,((B2.setCell (lR _) _).setCell (lR _) _).setCell (lR _) _⟩
  ·have e1:=HM2.out
   rw[if_neg e] at e1;have eb:(m1.hi==0)=false:=iG;clear e;subst e1;go_wp2_with fail;go_meet;exact⟨A1,R1,B1⟩
 obtain⟨A2,R2,B2⟩:=hcut;clear A1 R1 B1 a0 a1 a2;generalize wc=w2 at *;clear wc;have b0:=A2.1 0 _ rfl;have b1:=A2.1 1 _ rfl;have b2:=A2.1 2 _ rfl;have d0:=R2.1 0 _ rfl;have d1:=R2.1 1 _ rfl;have d2:=R2.1 2 _ rfl;have f0:=R2.2.2 0;have f1:=R2.2.2 1;have f2:=R2.2.2 2;go_wp2;refine bodyPost_ret (v:=sv m2) (by simp[results,Tryz.results157,go_sem,d0,d1,d2]) rfl ⟨rfl,?_⟩;exact((B2.setCell au _).setCell au _).setCell au _
end
section
theorem nl (c:UInt8):∀l,(cO c l).length<=l.length+1
 |[]=>by simp[cO]
 |b::l=>by
  have ih:=nl c l;obtain⟨x,r,h⟩:=iL c l;unfold cO;rw[h] at ih |-;simp only[j8] at ih |-;split<;>simp only[j8]<;>omega
theorem gR (c:UInt8)(x y:List UInt8)(r:List (List UInt8)):fJ c (x::y::r)=x++c::fJ c (y::r):=by simp[fJ]
theorem nr (c:UInt8):∀(ls:List (List UInt8)) (x:List UInt8),x∈ls->x.length<=(fJ c ls).length
 |[],x,h=>aX
 |[y],x,h=>by simp at h;subst h;simp[fJ]
 |y::z::r,x,h=>by
  rw[gR];rcases j7.1 h with rfl|h
  ·simp
  ·have:=nr c (z::r) x h
   simp;omega
theorem ox (c:UInt8):∀(ls:List (List UInt8)) (k:Nat),(fJ c (ls.drop k)).length<=(fJ c ls).length
 |ls,0=>ah
 |[],k+1=>ah
 |[y],k+1=>by simp[fJ]
 |y::z::r,k+1=>by
  have:=ox c (z::r) k;rw[List.drop_succ_cons,gR];simp at this |-;omega
def txB (ls:List (List UInt8))(k:Nat):ByteArray:=⟨(fJ 10 (ls.drop k)).toArray⟩
def lnB (ls:List (List UInt8))(k:Nat):ByteArray:=⟨(ls.getD k []).toArray⟩
theorem eS (ls:List (List UInt8))(k:Nat):(txB ls k).data.toList=fJ 10 (ls.drop k):=by simp[txB]
theorem dL (ls:List (List UInt8))(k:Nat):(lnB ls k).data.toList=ls.getD k []:=by simp[lnB]
theorem mY {ls:List (List UInt8)}{k:Nat}(h:k < ls.length):ls.getD k []=ls[k]:=by simp[j2,z4 h]
theorem uo {ls:List (List UInt8)}{k:Nat}(h:k+1 < ls.length)(hf:∀x∈ls,(10:UInt8)∉x):Lib.cut (txB ls k).data.toList [10]=((lnB ls k).data.toList,(txB ls (k+1)).data.toList,true):=by
 rw[eS,eS,dL,mY (by omega:k < ls.length),j9 (by omega:k < ls.length),j9 h,gR];exact C8 10 _ _ (hf _ (gM _))
theorem Df {ls:List (List UInt8)}{k:Nat}(h:k+1=ls.length)(hf:∀x∈ls,(10:UInt8)∉x):Lib.cut (txB ls k).data.toList [10]=((lnB ls k).data.toList,(⟨#[]⟩:ByteArray).data.toList,false):=by
 rw[eS,dL,mY (by omega:k < ls.length),j9 (by omega:k < ls.length),Z0 aa];simp only[fJ,List.flatMap_nil,Q9];exact Kn 10 _ (hf _ (gM _))
theorem DW {ls:List (List UInt8)}{k:Nat}(h:k+1 < ls.length):txB ls k≠⟨#[]⟩:=by
 intro e;have h2:(txB ls k).data.toList=[]:=by rw[e]
 rw[eS,j9 (by omega:k < ls.length),j9 h,gR] at h2;simp at h2
theorem Hi {ls:List (List UInt8)}{k:Nat}(h:k+1=ls.length):(txB ls k).data.toList=ls.getD k []:=by
 rw[eS,mY (by omega:k < ls.length),j9 (by omega:k < ls.length),Z0 aa];simp[fJ]
theorem DD:∀{ls:List (List UInt8)} {m:Nat} {c:List Ins},ir m ls=.ok c->ls.length=c.length+1/\ls.getD c.length []=[]/\∀k (h:k < c.length),gw (ls.getD k [])=sO c[k]
 |[],_,_,h=>aX
 |[x],m,c,h=>by
  unfold ir at h;split at h
  ·rename_i e
   cases h;exact⟨rfl,by rw[e];rfl,λk h=>aX⟩
  ·cases h
 |x::y::r,m,c,h=>by
  unfold ir at h;split at h
  ·cases h
  ·rename_i i hi
   split at h
   ·cases h
   ·rename_i c' hc
    cases h;obtain⟨h1,h2,h3⟩:=DD hc;refine⟨by simp only[j8] at h1 |-;omega,?_,?_⟩
    ·simpa using h2
    ·intro k hk
     cases k with
     |zero=>simpa using hi
     |succ k=>simpa using h3 k fC
theorem yK:∀{ls:List (List UInt8)} {m e:Nat},ls≠[]->ir m ls=.error e->∃n,e=m+n/\n < ls.length/\(∀k,k < n->∃i,gw (ls.getD k [])=sO i)/\((n+1=ls.length/\ls.getD n []≠[])\/(n+1 < ls.length/\gw (ls.getD n [])=nO))
 |[],_,_,hn,_=>absurd rfl hn
 |[x],m,e,_,h=>by
  unfold ir at h;split at h
  ·cases h
  ·rename_i hx
   cases h;exact⟨0,rfl,ah,λk hk=>aa,.inl ⟨rfl,by simpa using hx⟩⟩
 |x::y::r,m,e,_,h=>by
  unfold ir at h;split at h
  ·rename_i hi
   cases h;exact⟨0,rfl,ah,λk hk=>aa,.inr ⟨ah,d8⟩⟩
  ·rename_i i hi
   split at h
   ·rename_i e' hc
    cases h;obtain⟨n,h1,h2,h3,h4⟩:=yK ah hc;refine⟨n+1,aa,by simp only[j8] at h2 |-;omega,?_,?_⟩
    ·intro k hk
     cases k with
     |zero=>exact⟨i,d8⟩
     |succ k=>simpa using h3 k aa
    ·rcases h4 with⟨h5,h6⟩|⟨h5,h6⟩
     ·exact .inl ⟨by simp only[j8] at h5 |-;omega,by simpa using h6⟩
     ·exact .inr ⟨by simp only[j8] at h5 |-;omega,by simpa using h6⟩
   ·cases h
end
end Go.Proofs.YtmapdpcfanecdabGreatDoor
