import Derived.Test.YtmapdpcfanecdabGreatDoorM04
import Derived.Deep.DeepCutAuto
import Derived.Laws.EntriesVeiled
open Bool renaming and_eq_true→j4,false_eq_true→q6,or_eq_true→j6
open Go.Ending renaming returned→Rt
open Go.IntKind renaming i64→Y
open Go.Obj renaming cells→Cc
open Go.Proofs.Tryz renaming prog→pG
open Go.RowKit.Below renaming refl→bR
open Go.Value renaming agg→Ag,bool→Bb,int→I,ownBlock→j8,pointer→Pp,slice→U
open Go.World renaming cell?_setCell_far→Q7,cell?_setCell_other→Q6,size_alloc→zA
open Int renaming eq_ofNat_of_zero_le→j7,toNat_natCast→q4
open List renaming all_cons→Z2,any_cons→Z1,contains_iff_mem→z3,drop_eq_nil_of_le→x2,eq_of_mem_replicate→z8,ext_getElem→x9,foldl_append→J3,foldl_cons→q5,foldl_nil→J4,getD→j1,getElem?_eq_getElem→q8,getElem?_eq_none→Q1,getElem?_eq_some_iff→J6,getElem?_modify→J5,getElem?_set→z0,getElem_cons_zero→J7,getElem_map→Q8,getElem_mem→gM,getElem_of_mem→J9,getElem_range→Q9,getElem_zipWith→J2,length_cons→x7,length_eq_zero_iff→x6,length_pos_of_mem→Q5,length_zipWith→J0,map_cons→z5,mem_append→Q4,mem_cons→j5,mem_map→x8,mem_singleton→j9,pairwise_cons→z4,range→j2,range_succ→Q2,replicate→q3,set→j0,set_cons_succ→J8,sum_cons→z6
open Nat renaming le_refl→lR,le_succ→j3,le_trans→lT,lt_of_lt_of_le→lL,mod_two_eq_zero_or_one→Z0,mul_le_mul_right→z7,zero_le→q7
open Option renaming getD_some→q9,none→nO,some→sO,some→z9
set_option linter.unusedSimpArgs false
set_option linter.unusedVariables false
set_option maxHeartbeats 16000000
set_option maxRecDepth 100000
namespace Go.Proofs.YtmapdpcfanecdabGreatDoor
section
theorem l8:∀{l:List Int},cX l=true→l.Pairwise (· < ·)
 |[],_=>List.Pairwise.nil
 |[a],_=>List.pairwise_singleton _ _
 |a::b::r,h=>by
  unfold cX at h
  rw[j4,decide_eq_true_eq] at h
  have ih:=l8 h.2
  rw[z4]
  refine⟨λx hx=> ?_,ih⟩
  rcases j5.1 hx with rfl|hx
  ·exact h.1
  ·have:=(z4.1 ih).1 x hx
   omega
theorem gC:∀{a b:List Int},a.Pairwise (· < ·)→b.Pairwise (· < ·)→(∀x∈a,x∈b)→a.length≤b.length∧(a.length=b.length→a=b)
 |[],b,_,_,_=>⟨q7 _,λh=>(x6.1 h.symm).symm⟩
 |x::r,[],_,_,h=>absurd (h x (by simp)) (by simp)
 |x::r,y::q,ha,hb,h=>by
  obtain⟨a1,a2⟩:=z4.1 ha
  obtain⟨b1,b2⟩:=z4.1 hb
  by_cases e:x=y
  ·subst e
   have hs:∀z∈r,z∈q:=λz hz=>by
    rcases j5.1 (h z (by simp[hz])) with rfl|hq
    ·exact absurd (a1 z hz) (by omega)
    ·exact hq
   obtain⟨h1,h2⟩:=gC a2 b2 hs
   refine⟨by simp only[x7];omega,λhl=> ?_⟩
   rw[h2 (by simpa using hl)]
  ·have hyx:y < x:=by
    rcases j5.1 (h x (by simp)) with rfl|hq
    ·exact absurd rfl e
    ·exact b1 x hq
   have hs:∀z∈x::r,z∈q:=λz hz=>by
    rcases j5.1 (h z hz) with rfl|hq
    ·rcases j5.1 hz with rfl|hz
     ·exact absurd rfl e
     ·exact absurd (a1 z hz) (by omega)
    ·exact hq
   obtain⟨h1,h2⟩:=gC ha b2 hs
   simp only[x7] at h1 ⊢
   exact⟨by omega,λhl=>by omega⟩
theorem Ad {a b:List Int}(ha:a.Pairwise (· < ·))(hb:b.Pairwise (· < ·))(h:∀x,x∈a↔x∈b):a=b:=by
 obtain⟨h1,h2⟩:=gC ha hb λx hx=>(h x).1 hx
 obtain⟨h3,_⟩:=gC hb ha λx hx=>(h x).2 hx
 exact h2 (by omega)
theorem DB {s t:Sp}(hs:s.Ok)(ht:t.Ok)(h:eK t s=true):bq s t=s:=by
 obtain⟨_,_,s5,s6⟩:=hs
 obtain⟨_,_,t5,t6⟩:=ht
 rw[dD t6] at h
 unfold bq
 obtain⟨sn,slo,shi⟩:=s
 obtain⟨tn,tlo,thi⟩:=t
 simp only at h s5 t5 s6 t6 ⊢
 rcases h with h|⟨h1,h2,h3⟩
 ·subst h
  obtain⟨rfl,rfl⟩:=t5 rfl
  cases sn with
  |true=>obtain⟨rfl,rfl⟩:=s5 rfl;rfl
  |false=>rfl
 ·subst h1
  cases tn with
  |true=>rfl
  |false=>
   simp only[q6,if_false,Sp.mk.injEq,true_and]
   omega
theorem CY {s t:Sp}(hs:s.Ok)(ht:t.Ok)(h:eK t s=true):bB s t=s:=by
 obtain⟨_,_,s5,s6⟩:=hs
 obtain⟨_,_,t5,t6⟩:=ht
 rw[dD t6] at h
 unfold bB
 obtain⟨sn,slo,shi⟩:=s
 obtain⟨tn,tlo,thi⟩:=t
 simp only at h s5 t5 s6 t6 ⊢
 rcases h with h|⟨h1,h2,h3⟩
 ·subst h
  obtain⟨rfl,rfl⟩:=t5 rfl
  cases sn with
  |true=>obtain⟨rfl,rfl⟩:=s5 rfl;rfl
  |false=>rfl
 ·subst h1
  cases tn with
  |true=>rfl
  |false=>
   simp only[q6,if_false,Sp.mk.injEq,true_and]
   rw[if_neg (by omega),if_neg (by omega)]
   exact⟨rfl,rfl⟩
section
variable {c:List Ins} {g h k:Gs} {w:Bool}
theorem ll (hg:aC c g=0):g.s.Pairwise (· < ·):=l8 (ckGs_iff.1 hg).2.2
theorem kA (hg:aC c g=0):cB g g=true:=by
 rw[inGs_iff,dD (fQ hg)]
 refine⟨id,id,id,?_,λ_ h=>h⟩
 cases g.sp.n
 ·exact .inr ⟨rfl,by omega,by omega⟩
 ·exact .inl rfl
theorem gi (hg:aC c g=0)(hh:aC c h=0)(h1:cB g h=true)(h2:cB h k=true):cB g k=true:=by
 rw[inGs_iff,dD (fQ hg)] at h1
 rw[inGs_iff,dD (fQ hh)] at h2
 rw[inGs_iff,dD (fQ hg)]
 obtain⟨a1,a2,a3,a4,a5⟩:=h1
 obtain⟨b1,b2,b3,b4,b5⟩:=h2
 refine⟨λe=>b1 (a1 e),λe=>b2 (a2 e),λe=>b3 (a3 e),?_,λx hx=>b5 x (a5 x hx)⟩
 rcases a4 with a4|⟨a4,a6,a7⟩
 ·exact .inl a4
 ·rcases b4 with b4|⟨b4,b6,b7⟩
  ·rw[a4] at b4;cases b4
  ·exact .inr ⟨b4,by omega,by omega⟩
theorem oX (h60:c.length≤60)(hg:aC c g=0)(hh:aC c h=0)(hi:cB h g=true):ae w g h=g:=by
 obtain⟨a1,a2,a3,a4,a5⟩:=inGs_iff.1 hi
 have og:=(ckGs_iff.1 hg).1
 have oh:=(ckGs_iff.1 hh).1
 have e1:(if w then bB g.sp h.sp else bq g.sp h.sp)=g.sp:=by
  cases w
  ·exact DB og oh a4
  ·exact CY og oh a4
 have e2:gj g.s h.s=g.s:=by
  refine Ad (oq _ _) (ll hg) λx=> ?_
  rw[mem_siteSet]
  constructor
  ·rintro ⟨_,hx|hx⟩
   ·exact hx
   ·exact a5 x hx
  ·intro hx
   have:=dt ((ckGs_iff.1 hg).2.1 x hx)
   exact⟨⟨this.1,by omega⟩,.inl hx⟩
 unfold ae
 rw[e1,e2]
 obtain⟨gn,gsp,gt,gf,gs⟩:=g
 obtain⟨hn,hsp,ht,hf,hs⟩:=h
 simp only at a1 a2 a3 ⊢
 cases gn<;>cases hn<;>cases gt<;>cases ht<;>cases gf<;>cases hf<;>simp_all
end
def oa (s:Sp):Nat:=if s.n then 8589934592 else(s.lo+2147483648).toNat+(2147483647 - s.hi).toNat
def i7 (g:Gs):Nat:=b2n (!g.n)+b2n (!g.t)+b2n (!g.f)+(60 - g.s.length)+oa g.sp
def nP (l:List Gs):Nat:=(l.map i7).sum
def EK (l:List (List Gs)):Nat:=(l.map nP).sum
def gD (x:Pic):Nat:=if x.none then 2000000000000 else nP x.vars+EK x.flds
def gO (l:List Pic):Nat:=(l.map gD).sum
theorem Ht {s t:Sp}(hs:s.Ok)(ht:t.Ok)(h:eK s t=true):oa t≤oa s∧(oa t=oa s→s=t):=by
 obtain⟨⟨s1,s2⟩,⟨s3,s4⟩,s5,s6⟩:=hs
 obtain⟨⟨t1,t2⟩,⟨t3,t4⟩,t5,t6⟩:=ht
 rw[dD s6] at h
 unfold oa
 obtain⟨sn,slo,shi⟩:=s
 obtain⟨tn,tlo,thi⟩:=t
 simp only at h s1 s2 s3 s4 s5 s6 t1 t2 t3 t4 t5 t6 ⊢
 rcases h with h|⟨h1,h2,h3⟩
 ·subst h
  obtain⟨rfl,rfl⟩:=s5 rfl
  cases tn with
  |true=>obtain⟨rfl,rfl⟩:=t5 rfl;simp
  |false=>
   simp only[q6,if_false,if_true]
   exact⟨by omega,λe=>by omega⟩
 ·subst h1
  cases sn with
  |true=>
   simp only[q6,if_false,if_true]
   exact⟨by omega,λe=>by omega⟩
  |false=>
   simp only[q6,if_false,Sp.mk.injEq,true_and]
   exact⟨by omega,λe=>by omega⟩
theorem tP {a b:Bool}(h:a=true→b=true):b2n (!b)≤b2n (!a)∧(b2n (!b)=b2n (!a)→a=b):=by
 cases a<;>cases b<;>simp_all[b2n]
theorem Ax {c:List Ins}{g h:Gs}(h60:c.length≤60)(hg:aC c g=0)(hh:aC c h=0)(hi:cB g h=true):i7 h≤i7 g∧(i7 h=i7 g→g=h):=by
 obtain⟨a1,a2,a3,a4,a5⟩:=inGs_iff.1 hi
 obtain⟨b1,b1'⟩:=tP a1
 obtain⟨b2,b2'⟩:=tP a2
 obtain⟨b3,b3'⟩:=tP a3
 obtain⟨b4,b4'⟩:=Ht (ckGs_iff.1 hg).1 (ckGs_iff.1 hh).1 a4
 obtain⟨b5,b5'⟩:=gC (ll hg) (ll hh) a5
 have h6:h.s.length≤60:=by
  have hp:=ll hh
  have hr:∀x∈h.s,x∈((j2 60).map λn:Nat=>(n:Int)):=λx hx=>by
   have:=dt ((ckGs_iff.1 hh).2.1 x hx)
   rw[x8]
   exact⟨x.toNat,by rw[List.mem_range];omega,by omega⟩
  have h7:=(gC hp (b:=(j2 60).map λn:Nat=>(n:Int)) (by rw[List.pairwise_map];exact List.pairwise_lt_range.imp λh=>by omega) hr).1
  simpa using h7
 unfold i7
 refine⟨by omega,λe=> ?_⟩
 have e1:=b1' (by omega)
 have e2:=b2' (by omega)
 have e3:=b3' (by omega)
 have e4:=b4' (by omega)
 have e5:=b5' (by omega)
 obtain⟨gn,gsp,gt,gf,gs⟩:=g
 obtain⟨hn,hsp,ht,hf,hs⟩:=h
 simp only at e1 e2 e3 e4 e5
 rw[e1,e2,e3,e4,e5]
theorem rC {α:Type}(f:α→Nat):∀{a b:List α},a.length=b.length→(∀i (h1:i < a.length) (h2:i < b.length),f b[i]≤f a[i]∧(f b[i]=f a[i]→a[i]=b[i]))→(b.map f).sum≤(a.map f).sum∧((b.map f).sum=(a.map f).sum→a=b)
 |[],[],_,_=>⟨lR _,λ_=>rfl⟩
 |[],_::_,h,_=>by simp at h
 |_::_,[],h,_=>by simp at h
 |x::a,y::b,hl,h=>by
  obtain⟨h1,h2⟩:=rC f (a:=a) (b:=b) (by simpa using hl) λi k1 k2=>by
   have:=h (i+1) (by simp;omega) (by simp;omega)
   simpa using this
  have h0:=h 0 (by simp) (by simp)
  simp only[J7] at h0
  simp only[z5,z6]
  refine⟨by omega,λe=> ?_⟩
  rw[h0.2 (by omega),h2 (by omega)]
theorem nj {α:Type}(f:α→Nat)(m:Nat):∀{a:List α},(∀x∈a,f x≤m)→(a.map f).sum≤a.length * m
 |[],_=>by simp
 |x::a,h=>by
  have:=nj f m (a:=a) λy hy=>h y (by simp[hy])
  have:=h x (by simp)
  simp only[z5,z6,x7,Nat.add_mul]
  omega
theorem AB {α:Type}(f:α→Nat):∀{a:List α} {k:Nat} {y:α} (hk:k < a.length),f y < f a[k]→((a.set k y).map f).sum < (a.map f).sum
 |[],_,_,hk,_=>absurd hk (by simp)
 |x::a,0,y,_,h=>by simp only[J7] at h;simp only[List.set_cons_zero,z5,z6];omega
 |x::a,k+1,y,hk,h=>by
  have:=AB f (a:=a) (k:=k) (y:=y) (by simpa using hk) (by simpa using h)
  simp only[J8,z5,z6]
  omega
theorem Hx {s:Sp}(h:s.Ok):oa s≤8589934592:=by
 obtain⟨⟨s1,s2⟩,⟨s3,s4⟩,s5,s6⟩:=h
 unfold oa
 split<;>omega
theorem vN (b:Bool):b2n b≤1:=by cases b<;>decide
theorem Au {c:List Ins}{g:Gs}(h:aC c g=0):i7 g≤8600000000:=by
 have:=Hx (ckGs_iff.1 h).1
 have:=vN (!g.n)
 have:=vN (!g.t)
 have:=vN (!g.f)
 unfold i7
 omega
section
variable {V F:Int} {c:List Ins} {x y z:Pic} {w:Bool}
theorem uE (h0:ai V F c=0)(hx:PicOk V F c x):gD x < 2000000000000:=by
 have hp:=bK h0
 have h1:=hp.v8
 have h2:=hp.f3
 have h3:=hp.len
 have a1:=hx.vars
 have a2:=hx.flds
 obtain⟨G,hG⟩:∃G:Nat,G=8600000000:=⟨_,rfl⟩
 have b1:nP x.vars≤x.vars.length * G:=nj i7 G λg hg=>by rw[hG];exact Au (hx.gv g hg)
 have b2:∀r∈x.flds,nP r≤3 * G:=λr hr=>by
  obtain⟨k,hk,rfl⟩:=J9 hr
  have q:nP x.flds[k]≤x.flds[k].length * G:=nj i7 G λg hg=>by rw[hG];exact Au (hx.gf k hk g hg)
  have:=hx.row k hk
  have h8:x.flds[k].length≤3:=by omega
  exact lT q (z7 _ h8)
 have b3:EK x.flds≤x.flds.length * (3 * G):=nj nP _ b2
 have h4:x.vars.length≤8:=by omega
 have h5:x.flds.length≤60:=by omega
 have h6:x.vars.length * G≤8 * G:=z7 _ h4
 have h7:x.flds.length * (3 * G)≤60 * (3 * G):=z7 _ h5
 unfold gD
 rw[if_neg (by rw[hx.none];decide)]
 omega
theorem Aq (h0:ai V F c=0)(hx:aK V F c x=0):gD x≤2000000000000:=by
 cases hn:x.none with
 |true=>unfold gD;rw[if_pos hn];exact lR _
 |false=>exact Nat.le_of_lt (uE h0 (bY hx hn))
theorem rX (hx:aK V F c x=0):bw x x=true:=by
 cases hn:x.none with
 |true=>simp[bw,hn]
 |false=>
  have kx:=bY hx hn
  rw[dZ hn hn]
  exact⟨λi h1 _=>kA (kx.gv _ (gM _)),λk h1 _ i h3 _=>kA (kx.gf k h1 _ (gM _))⟩
theorem kq {x y:Pic}(h:bw x y=true)(hn:x.none=false):y.none=false:=by
 cases e:y.none with
 |false=>rfl
 |true=>simp[bw,e,hn] at h
theorem iP (hx:aK V F c x=0)(hy:aK V F c y=0)(hz:aK V F c z=0)(h1:bw x y=true)(h2:bw y z=true):bw x z=true:=by
 cases hn:x.none with
 |true=>simp[bw,hn]
 |false=>
  have hm:=kq h1 hn
  have ho:=kq h2 hm
  have kx:=bY hx hn
  have ky:=bY hy hm
  have kz:=bY hz ho
  have:=kx.vars
  have:=ky.vars
  have:=kz.vars
  have:=kx.flds
  have:=ky.flds
  have:=kz.flds
  obtain⟨a1,a2⟩:=(dZ hn hm).1 h1
  obtain⟨b1,b2⟩:=(dZ hm ho).1 h2
  rw[dZ hn ho]
  refine⟨λi p q=> ?_,λk p q i r s=> ?_⟩
  ·have hy':i < y.vars.length:=by omega
   exact gi (kx.gv _ (gM p)) (ky.gv _ (gM hy')) (a1 i p hy') (b1 i hy' q)
  ·have hy':k < y.flds.length:=by omega
   have:=kx.row k p
   have:=ky.row k hy'
   have hi':i < y.flds[k].length:=by omega
   exact gi (kx.gf k p _ (gM r)) (ky.gf k hy' _ (gM hi')) (a2 k p hy' i r hi') (b2 k hy' q i hi' s)
theorem wW (h0:ai V F c=0)(hx:aK V F c x=0)(hy:aK V F c y=0)(hi:bw y x=true):aT (ae w) x y=x:=by
 have h60:c.length≤60:=(bK h0).len
 unfold aT
 cases hm:y.none with
 |true=>
  have ey:=(kv hm).1 hy
  subst ey
  cases hn:x.none with
  |true=>rw[(kv hn).1 hx];rfl
  |false=>rfl
 |false=>
  have hn:=kq hi hm
  rw[hn]
  simp only[q6,if_false]
  have kx:=bY hx hn
  have ky:=bY hy hm
  have:=kx.vars
  have:=ky.vars
  have:=kx.flds
  have:=ky.flds
  obtain⟨a1,a2⟩:=(dZ hm hn).1 hi
  have v1:=kx.vars
  have v2:=kx.flds
  obtain⟨xn,xv,xf⟩:=x
  simp only at hn v1 v2
  subst hn
  simp only[Pic.mk.injEq,true_and]
  constructor
  ·refine x9 (by simp only[bh,J0];omega) λi p q=> ?_
   simp only[bh,J2]
   exact oX h60 (kx.gv _ (gM _)) (ky.gv _ (gM _)) (a1 i _ _)
  ·refine x9 (by simp only[J0];omega) λk p q=> ?_
   have hk:k < y.flds.length:=by omega
   have r1:=kx.row k q
   have r2:=ky.row k hk
   simp only[J2]
   refine x9 (by simp only[bh,J0];simp only at r1;omega) λi r s=> ?_
   simp only[bh,J2]
   exact oX h60 (kx.gf k q _ (gM _)) (ky.gf k hk _ (gM _)) (a2 k hk q i _ _)
theorem yB (h0:ai V F c=0)(hx:aK V F c x=0)(hy:aK V F c y=0):aT (ae w) x y=x↔bw y x=true:=by
 constructor
 ·intro h
  have:=(mH (w:=w) (bK h0).len hx hy).2
  rw[h] at this
  exact this
 ·exact wW h0 hx hy
theorem Gw (h0:ai V F c=0)(hx:aK V F c x=0)(hy:aK V F c y=0)(hi:bw x y=true):gD y≤gD x∧(gD y=gD x→x=y):=by
 have h60:c.length≤60:=(bK h0).len
 cases hn:x.none with
 |true=>
  have ex:=(kv hn).1 hx
  refine⟨by have:=Aq h0 hy;unfold gD at this ⊢;rw[if_pos hn];exact this,λe=> ?_⟩
  cases hm:y.none with
  |true=>rw[ex,(kv hm).1 hy]
  |false=>
   have:=uE h0 (bY hy hm)
   rw[e] at this
   unfold gD at this
   rw[if_pos hn] at this
   omega
 |false=>
  have hm:=kq hi hn
  have kx:=bY hx hn
  have ky:=bY hy hm
  have:=kx.vars
  have:=ky.vars
  have:=kx.flds
  have:=ky.flds
  obtain⟨a1,a2⟩:=(dZ hn hm).1 hi
  have b1:=rC i7 (a:=x.vars) (b:=y.vars) (by omega) λi p q=>Ax h60 (kx.gv _ (gM _)) (ky.gv _ (gM _)) (a1 i p q)
  have b2:=rC nP (a:=x.flds) (b:=y.flds) (by omega) λk p q=>by
   have:=kx.row k p
   have:=ky.row k q
   exact rC i7 (by omega) λi r s=>Ax h60 (kx.gf k p _ (gM _)) (ky.gf k q _ (gM _)) (a2 k p q i r s)
  unfold gD nP EK
  rw[if_neg (by rw[hm];decide),if_neg (by rw[hn];decide)]
  refine⟨by omega,λe=> ?_⟩
  have e1:=b1.2 (by omega)
  have e2:=b2.2 (by omega)
  obtain⟨xn,xv,xf⟩:=x
  obtain⟨yn,yv,yf⟩:=y
  simp only at hn hm e1 e2
  rw[hn,hm,e1,e2]
theorem Dw (h0:ai V F c=0)(hx:aK V F c x=0)(hy:aK V F c y=0)(hi:bw y x=false):gD (aT (ae w) x y) < gD x:=by
 have hj:=rQ (w:=w) hx hy
 have h1:=Gw h0 hx hj (mH (w:=w) (bK h0).len hx hy).1
 have h2:aT (ae w) x y≠x:=λe=>by rw[(yB h0 hx hy).1 e] at hi;cases hi
 rcases Nat.lt_or_eq_of_le h1.1 with h|h
 ·exact h
 ·exact absurd (h1.2 h).symm h2
end
def aU (l:List Pic)(p:Int):Pic:=l.getD p.toNat nonePic
def ig (n i tto:Int):Bool:=decide (4≤n)&&decide (tto≤i)
def cL (n i:Int)(s:List Pic×Bool)(e:Edg):List Pic×Bool:=
 if bw e.pic (aU s.1 e.tgt) then s else(s.1.set e.tgt.toNat (aT (ae (ig n i e.tgt)) (aU s.1 e.tgt) e.pic),true)
def cS (c:List Ins)(i:Nat)(x:Pic):List Edg:=(aA (aO c i) i x).1
def dO (c:List Ins)(n:Int)(s:List Pic×Bool)(i:Nat):List Pic×Bool:=(cS c i (aU s.1 i)).foldl (cL n i) s
def dS (c:List Ins)(n:Int)(l:List Pic):List Pic×Bool:=(j2 c.length).foldl (dO c n) (l,false)
def cD (n i:Int)(s:List Pic×List Int×Bool)(e:Edg):List Pic×List Int×Bool:=
 if bw e.pic (aU s.1 e.tgt) then s else(s.1.set e.tgt.toNat (aT (ae (ig n i e.tgt)) (aU s.1 e.tgt) e.pic),s.2.1.set e.tgt.toNat (if i < e.tgt then n else n+1),true)
def gA (c:List Ins)(n:Int)(s:List Pic×List Int×Bool)(i:Nat):List Pic×List Int×Bool:=if s.2.1.getD i 0=n then(cS c i (aU s.1 i)).foldl (cD n i) s else s
def eT (c:List Ins)(n:Int)(s:List Pic×List Int):List Pic×List Int×Bool:=(j2 c.length).foldl (gA c n) (s.1,s.2,false)

structure XsOk (V F:Int) (c:List Ins) (l:List Pic):Prop where
 len:l.length=c.length+1
 ck:∀x∈l,aK V F c x=0
def eD (c:List Ins)(l:List Pic)(i:Nat):Prop:=∀e∈cS c i (aU l i),bw e.pic (aU l e.tgt)=true
def LeX (l l':List Pic):Prop:=l'.length=l.length∧∀p:Int,bw (aU l p) (aU l' p)=true
section
variable {V F:Int} {c:List Ins} {l l' l2:List Pic} {n:Int}
theorem lm {k:Nat}(h:k < l.length):aU l (k:Int)=l[k]:=by unfold aU;simp[j1,h]
theorem XsOk.at (h:XsOk V F c l)(p:Int):aK V F c (aU l p)=0:=by
 unfold aU
 by_cases hp:p.toNat < l.length
 ·simp only[j1,q8 hp,q9]
  exact h.ck _ (gM hp)
 ·simp only[j1,Q1 (Nat.not_lt.1 hp),Option.getD_none]
  rfl
theorem LeX.refl (h:XsOk V F c l):LeX l l:=⟨rfl,λp=>rX (h.at p)⟩
theorem LeX.trans (h:XsOk V F c l)(h':XsOk V F c l')(h2:XsOk V F c l2)(a:LeX l l')(b:LeX l' l2):LeX l l2:=⟨by rw[b.1,a.1],λp=>iP (h.at p) (h'.at p) (h2.at p) (a.2 p) (b.2 p)⟩
theorem lj {p:Int}{q:Nat}{y:Pic}:aU (l.set q y) p=if q=p.toNat∧q < l.length then y else aU l p:=by
 unfold aU
 simp only[j1,z0]
 by_cases h:q=p.toNat
 ·by_cases hq:q < l.length
  ·rw[if_pos h,if_pos hq,if_pos ⟨h,hq⟩];rfl
  ·have hq':¬p.toNat < l.length:=by omega
   rw[if_pos h,if_neg hq,if_neg (by omega),Q1 (by omega)]
 ·rw[if_neg h,if_neg (by omega)]
def iR (V F:Int)(c:List Ins)(e:Edg):Prop:=aK V F c e.pic=0∧0≤e.tgt∧e.tgt≤c.length
theorem im (h0:ai V F c=0){x:Pic}(hx:aK V F c x=0){i:Nat}(hi:i < c.length):∀e∈cS c i x,iR V F c e:=λe he=>by
 have:=Cp (bK h0) hx (p:=(i:Int)) (by omega) (by omega) e he
 exact⟨this.1,this.2.2.1,this.2.2.2⟩
theorem XsOk.put (h:XsOk V F c l){y:Pic}(hy:aK V F c y=0)(q:Nat):XsOk V F c (l.set q y):=⟨by rw[List.length_set];exact h.len,λx hx=>by
 rcases List.mem_or_eq_of_mem_set hx with hx|rfl
 ·exact h.ck x hx
 ·exact hy⟩
theorem mb (h0:ai V F c=0){s:List Pic×Bool}{i:Int}{e:Edg}(h:XsOk V F c s.1)(he:iR V F c e):
  XsOk V F c (cL n i s e).1∧LeX s.1 (cL n i s e).1∧bw e.pic (aU (cL n i s e).1 e.tgt)=true∧((cL n i s e).2=false→s.2=false∧(cL n i s e).1=s.1)∧((cL n i s e).1=s.1∧(cL n i s e).2=s.2∨(cL n i s e).2=true∧gO (cL n i s e).1 < gO s.1):=by
 unfold cL
 by_cases hi:bw e.pic (aU s.1 e.tgt)=true
 ·rw[if_pos hi]
  exact⟨h,LeX.refl h,hi,λhf=>⟨hf,rfl⟩,.inl ⟨rfl,rfl⟩⟩
 ·rw[if_neg hi]
  have hi':bw e.pic (aU s.1 e.tgt)=false:=by simpa using hi
  have hc:=h.at e.tgt
  have hj:=rQ (w:=ig n i e.tgt) hc he.1
  have hin:=mH (w:=ig n i e.tgt) (bK h0).len hc he.1
  have hl:=h.len
  have hq:e.tgt.toNat < s.1.length:=by have:=he.2;omega
  refine⟨h.put hj _,⟨by simp,λp=> ?_⟩,?_,(λhf=>by cases hf),.inr ⟨rfl,?_⟩⟩
  ·rw[lj]
   split
   ·rename_i hp
    have:aU s.1 p=aU s.1 e.tgt:=by unfold aU;rw[hp.1]
    rw[this]
    exact hin.1
   ·exact rX (h.at p)
  ·rw[lj,if_pos ⟨rfl,hq⟩]
   exact hin.2
  ·have hp:=Dw (w:=ig n i e.tgt) h0 hc he.1 hi'
   have e1:aU s.1 e.tgt=s.1[e.tgt.toNat]:=by unfold aU;simp[j1,hq]
   refine AB gD hq ?_
   rw[e1] at hp ⊢
   exact hp
theorem v7 (h0:ai V F c=0)(h:XsOk V F c l)(h':XsOk V F c l')(hl:LeX l l'){i:Nat}(hi:i < c.length)(hs:eD c l i)(e:aU l' i=aU l i):eD c l' i:=by
 intro q hq
 rw[e] at hq
 exact iP (im h0 (h.at _) hi q hq).1 (h.at _) (h'.at _) (hs q hq) (hl.2 _)
theorem uF (h0:ai V F c=0){i:Int}:∀{E:List Edg} {s:List Pic×Bool},XsOk V F c s.1→(∀e∈E,iR V F c e)→
  XsOk V F c (E.foldl (cL n i) s).1∧LeX s.1 (E.foldl (cL n i) s).1∧(∀e∈E,bw e.pic (aU (E.foldl (cL n i) s).1 e.tgt)=true)∧((E.foldl (cL n i) s).2=false→s.2=false∧(E.foldl (cL n i) s).1=s.1)∧((E.foldl (cL n i) s).1=s.1∧(E.foldl (cL n i) s).2=s.2∨(E.foldl (cL n i) s).2=true∧gO (E.foldl (cL n i) s).1 < gO s.1)
 |[],s,h,_=>⟨h,LeX.refl h,λe he=>by simp at he,λhf=>⟨hf,rfl⟩,.inl ⟨rfl,rfl⟩⟩
 |e::E,s,h,hE=>by
  have he:=hE e (by simp)
  obtain⟨a1,a2,a3,a4,a5⟩:=mb (n:=n) (i:=i) h0 h he
  obtain⟨b1,b2,b3,b4,b5⟩:=uF h0 (i:=i) (E:=E) a1 λq hq=>hE q (by simp[hq])
  rw[q5]
  refine⟨b1,LeX.trans h a1 b1 a2 b2,λq hq=> ?_,λhf=> ?_,?_⟩
  ·rcases j5.1 hq with rfl|hq
   ·exact iP he.1 (a1.at _) (b1.at _) a3 (b2.2 _)
   ·exact b3 q hq
  ·obtain⟨c1,c2⟩:=b4 hf
   obtain⟨d1,d2⟩:=a4 c1
   exact⟨d1,by rw[c2,d2]⟩
  ·rcases b5 with⟨c1,c2⟩|⟨c1,c2⟩
   ·rcases a5 with⟨d1,d2⟩|⟨d1,d2⟩
    ·exact .inl ⟨by rw[c1,d1],by rw[c2,d2]⟩
    ·exact .inr ⟨by rw[c2,d1],by rw[c1];exact d2⟩
   ·rcases a5 with⟨d1,d2⟩|⟨d1,d2⟩
    ·exact .inr ⟨c1,by rw[←d1];exact c2⟩
    ·exact .inr ⟨c1,Nat.lt_trans c2 d2⟩
theorem Bn (h0:ai V F c=0){s:List Pic×Bool}(h:XsOk V F c s.1){i:Nat}(hi:i < c.length):
  XsOk V F c (dO c n s i).1∧LeX s.1 (dO c n s i).1∧((dO c n s i).2=false→s.2=false∧(dO c n s i).1=s.1∧eD c s.1 i)∧((dO c n s i).1=s.1∧(dO c n s i).2=s.2∨(dO c n s i).2=true∧gO (dO c n s i).1 < gO s.1):=by
 obtain⟨a1,a2,a3,a4,a5⟩:=uF (n:=n) (i:=(i:Int)) h0 h (im h0 (h.at _) hi)
 refine⟨a1,a2,λhf=> ?_,a5⟩
 obtain⟨b1,b2⟩:=a4 hf
 exact⟨b1,b2,λe he=>by have:=a3 e he;rw[b2] at this;exact this⟩
theorem un (h0:ai V F c=0):∀{k:Nat},k≤c.length→∀{s:List Pic×Bool},XsOk V F c s.1→
  XsOk V F c ((j2 k).foldl (dO c n) s).1∧LeX s.1 ((j2 k).foldl (dO c n) s).1∧(((j2 k).foldl (dO c n) s).2=false→s.2=false∧((j2 k).foldl (dO c n) s).1=s.1∧∀i,i < k→eD c s.1 i)∧(((j2 k).foldl (dO c n) s).1=s.1∧((j2 k).foldl (dO c n) s).2=s.2∨((j2 k).foldl (dO c n) s).2=true∧gO ((j2 k).foldl (dO c n) s).1 < gO s.1)
 |0,_,s,h=>⟨h,LeX.refl h,λhf=>⟨hf,rfl,λi hi=>absurd hi (by omega)⟩,.inl ⟨rfl,rfl⟩⟩
 |k+1,hk,s,h=>by
  rw[Q2,J3,q5,J4]
  obtain⟨a1,a2,a3,a4⟩:=un h0 (k:=k) (by omega) h
  obtain⟨b1,b2,b3,b4⟩:=Bn (n:=n) h0 a1 (i:=k) (by omega)
  refine⟨b1,LeX.trans h a1 b1 a2 b2,λhf=> ?_,?_⟩
  ·obtain⟨c1,c2,c3⟩:=b3 hf
   obtain⟨d1,d2,d3⟩:=a3 c1
   refine⟨d1,by rw[c2,d2],λi hi=> ?_⟩
   by_cases e:i=k
   ·rw[e];rw[d2] at c3;exact c3
   ·exact d3 i (by omega)
  ·rcases b4 with⟨c1,c2⟩|⟨c1,c2⟩
   ·rcases a4 with⟨d1,d2⟩|⟨d1,d2⟩
    ·exact .inl ⟨by rw[c1,d1],by rw[c2,d2]⟩
    ·exact .inr ⟨by rw[c2,d1],by rw[c1];exact d2⟩
   ·rcases a4 with⟨d1,d2⟩|⟨d1,d2⟩
    ·exact .inr ⟨c1,by rw[←d1];exact c2⟩
    ·exact .inr ⟨c1,Nat.lt_trans c2 d2⟩
theorem iM (h0:ai V F c=0)(h:XsOk V F c l):
  XsOk V F c (dS c n l).1∧LeX l (dS c n l).1∧((dS c n l).2=false→(dS c n l).1=l∧∀i,i < c.length→eD c l i)∧((dS c n l).2=true→gO (dS c n l).1 < gO l):=by
 obtain⟨a1,a2,a3,a4⟩:=un (n:=n) h0 (lR c.length) (s:=(l,false)) h
 refine⟨a1,a2,λhf=>(a3 hf).2,λht=> ?_⟩
 rcases a4 with⟨_,b⟩|⟨_,b⟩
 ·unfold dS at ht
  rw[b] at ht
  cases ht
 ·exact b

structure Due (V F:Int) (c:List Ins) (n:Int) (i:Nat) (l:List Pic) (d:List Int):Prop where
 ok:XsOk V F c l
 len:d.length=c.length+1
 set:∀k,k < c.length→(if k < i then d.getD k 0≠n+1 else d.getD k 0≠n)→eD c l k
theorem uu {d:List Int}{q k:Nat}{y:Int}(hq:q < d.length):(d.set q y).getD k 0=if q=k then y else d.getD k 0:=by
 simp only[j1,z0]
 by_cases h:q=k
 ·rw[if_pos h,if_pos hq,if_pos h];rfl
 ·rw[if_neg h,if_neg h]
structure DueIn (V F:Int) (c:List Ins) (n:Int) (i:Nat) (x:Pic) (P:List Edg) (s:List Pic×List Int×Bool):Prop where
 ok:XsOk V F c s.1
 len:s.2.1.length=c.length+1
 set:∀k,k < c.length→k≠i→(if k < i then s.2.1.getD k 0≠n+1 else s.2.1.getD k 0≠n)→eD c s.1 k
 own:s.2.1.getD i 0=n+1∨aU s.1 i=x
 past:∀e∈P,bw e.pic (aU s.1 e.tgt)=true
theorem mD {i:Int}{s:List Pic×List Int×Bool}{e:Edg}:((cD n i s e).1,(cD n i s e).2.2)=cL n i (s.1,s.2.2) e:=by
 unfold cD cL
 split<;>rfl
theorem o6 {i:Int}:∀{E:List Edg} {s:List Pic×List Int×Bool},((E.foldl (cD n i) s).1,(E.foldl (cD n i) s).2.2)=E.foldl (cL n i) (s.1,s.2.2)
 |[],_=>rfl
 |e::E,s=>by rw[q5,q5,o6,mD]
theorem DueIn.step (h0:ai V F c=0){i:Nat}(hi:i < c.length){x:Pic}{P:List Edg}{s:List Pic×List Int×Bool}(h:DueIn V F c n i x P s)(hP:∀e∈P,iR V F c e){e:Edg}(he:iR V F c e):DueIn V F c n i x (P++[e]) (cD n i s e):=by
 obtain⟨b1,b2,b3,-,-⟩:=mb (n:=n) (i:=(i:Int)) (s:=(s.1,s.2.2)) h0 h.ok he
 have e1:(cL n i (s.1,s.2.2) e).1=(cD n i s e).1:=by rw[←mD]
 rw[e1] at b1 b2 b3
 have hpast:∀q∈P++[e],bw q.pic (aU (cD n i s e).1 q.tgt)=true:=λq hq=>by
  rcases Q4.1 hq with hq|hq
  ·exact iP (hP q hq).1 (h.ok.at _) (b1.at _) (h.past q hq) (b2.2 _)
  ·rw[j9.1 hq];exact b3
 by_cases hin:bw e.pic (aU s.1 e.tgt)=true
 ·have es:cD n i s e=s:=by unfold cD;rw[if_pos hin]
  rw[es] at hpast ⊢
  exact⟨h.ok,h.len,h.set,h.own,hpast⟩
 ·have es:cD n i s e=(s.1.set e.tgt.toNat (aT (ae (ig n i e.tgt)) (aU s.1 e.tgt) e.pic),s.2.1.set e.tgt.toNat (if (i:Int) < e.tgt then n else n+1),true):=by unfold cD;rw[if_neg hin]
  have hl:=h.len
  have hq:e.tgt.toNat < s.2.1.length:=by have:=he.2;omega
  have hto:=he.2
  rw[es] at b1 b2 hpast ⊢
  refine⟨b1,by simpa using h.len,λk hk hne hd=> ?_,?_,hpast⟩
  ·simp only at hd ⊢
   rw[uu hq] at hd
   by_cases ek:e.tgt.toNat=k
   ·rw[if_pos ek] at hd
    exfalso
    by_cases hki:k < i
    ·rw[if_pos hki,if_neg (by omega)] at hd
     exact hd rfl
    ·rw[if_neg hki,if_pos (by omega)] at hd
     exact hd rfl
   ·rw[if_neg ek] at hd
    refine v7 h0 h.ok b1 b2 hk (h.set k hk hne hd) ?_
    rw[lj,if_neg (by omega)]
  ·simp only
   rw[uu hq]
   by_cases ek:e.tgt.toNat=i
   ·left
    rw[if_pos ek,if_neg (by omega)]
   ·rw[if_neg ek,lj,if_neg (by omega)]
    exact h.own
theorem DueIn.steps (h0:ai V F c=0){i:Nat}(hi:i < c.length){x:Pic}:∀{E P:List Edg} {s:List Pic×List Int×Bool},DueIn V F c n i x P s→(∀e∈P,iR V F c e)→(∀e∈E,iR V F c e)→DueIn V F c n i x (P++E) (E.foldl (cD n i) s)
 |[],P,s,h,_,_=>by rw[List.append_nil];exact h
 |e::E,P,s,h,hP,hE=>by
  have h1:=h.step h0 hi hP (hE e (by simp))
  have h2:=DueIn.steps h0 hi (E:=E) h1 (λq hq=>by
   rcases Q4.1 hq with hq|hq
   ·exact hP q hq
   ·rw[j9.1 hq];exact hE e (by simp)) λq hq=>hE q (by simp[hq])
  rw[List.append_assoc] at h2
  exact h2
theorem vS {s:List Pic×Bool}{i:Nat}(h:eD c s.1 i):dO c n s i=s:=by
 unfold dO
 have:∀(E:List Edg),(∀e∈E,bw e.pic (aU s.1 e.tgt)=true)→E.foldl (cL n i) s=s:=by
  intro E
  induction E with
  |nil=>exact λ_=>rfl
  |cons e E ih=>
   intro hE
   rw[q5]
   have:cL n i s e=s:=by unfold cL;rw[if_pos (hE e (by simp))]
   rw[this]
   exact ih λq hq=>hE q (by simp[hq])
 exact this _ h
theorem AV (h0:ai V F c=0){i:Nat}(hi:i < c.length){s:List Pic×List Int×Bool}(h:Due V F c n i s.1 s.2.1):Due V F c n (i+1) (gA c n s i).1 (gA c n s i).2.1∧((gA c n s i).1,(gA c n s i).2.2)=dO c n (s.1,s.2.2) i:=by
 unfold gA
 by_cases hd:s.2.1.getD i 0=n
 ·rw[if_pos hd]
  refine⟨?_,o6⟩
  have hE:=im h0 (h.ok.at (i:Int)) hi
  have h1:DueIn V F c n i (aU s.1 i) [] s:=⟨h.ok,h.len,λk hk _ hh=>h.set k hk hh,.inr rfl,λe he=>by simp at he⟩
  have h2:=h1.steps h0 hi (λe he=>by simp at he) hE
  rw[List.nil_append] at h2
  refine⟨h2.ok,h2.len,λk hk hh=> ?_⟩
  by_cases ek:k=i
  ·subst ek
   rw[if_pos (by omega)] at hh
   rcases h2.own with ho|ho
   ·exact absurd ho hh
   ·intro e he
    rw[ho] at he
    exact h2.past e he
  ·refine h2.set k hk ek ?_
   by_cases hki:k < i
   ·rw[if_pos hki];rw[if_pos (by omega)] at hh;exact hh
   ·rw[if_neg hki];rw[if_neg (by omega)] at hh;exact hh
 ·rw[if_neg hd]
  have hs:eD c s.1 i:=h.set i hi (by rw[if_neg (by omega)];exact hd)
  refine⟨⟨h.ok,h.len,λk hk hh=> ?_⟩,(vS hs).symm⟩
  by_cases ek:k=i
  ·rw[ek];exact hs
  ·refine h.set k hk ?_
   by_cases hki:k < i
   ·rw[if_pos hki];rw[if_pos (by omega)] at hh;exact hh
   ·rw[if_neg hki];rw[if_neg (by omega)] at hh;exact hh
theorem pd (h0:ai V F c=0):∀{k:Nat},k≤c.length→∀{s:List Pic×List Int×Bool},Due V F c n 0 s.1 s.2.1→Due V F c n k ((j2 k).foldl (gA c n) s).1 ((j2 k).foldl (gA c n) s).2.1∧(((j2 k).foldl (gA c n) s).1,((j2 k).foldl (gA c n) s).2.2)=(j2 k).foldl (dO c n) (s.1,s.2.2)
 |0,_,s,h=>⟨h,rfl⟩
 |k+1,hk,s,h=>by
  rw[Q2,J3,q5,J4,J3,q5,J4]
  obtain⟨a1,a2⟩:=pd h0 (k:=k) (by omega) h
  obtain⟨b1,b2⟩:=AV h0 (i:=k) (by omega) a1
  exact⟨b1,by rw[b2,a2]⟩
theorem pj (h0:ai V F c=0){d:List Int}(h:Due V F c n 0 l d):Due V F c (n+1) 0 (eT c n (l,d)).1 (eT c n (l,d)).2.1∧(eT c n (l,d)).1=(dS c n l).1∧(eT c n (l,d)).2.2=(dS c n l).2:=by
 obtain⟨a1,a2⟩:=pd h0 (lR c.length) (s:=(l,d,false)) h
 refine⟨⟨a1.ok,a1.len,λk hk hh=> ?_⟩,congrArg Prod.fst a2,congrArg Prod.snd a2⟩
 rw[if_neg (by omega)] at hh
 exact a1.set k hk (by rw[if_pos hk];exact hh)

def iX (V F:Int)(c:List Ins):List Pic:=cH V F c::q3 c.length nonePic
def aD (V F:Int)(c:List Ins):Nat→List Pic
 |0=>iX V F c
 |m+1=>(dS c ((m+1:Nat):Int) (aD V F c m)).1
def SolvedAt (V F:Int)(c:List Ins)(m:Nat):Prop:=(∀k,k < m→(dS c ((k+1:Nat):Int) (aD V F c k)).2=true)∧(dS c ((m+1:Nat):Int) (aD V F c m)).2=false
theorem SolvedAt.one {m m':Nat}(h:SolvedAt V F c m)(h':SolvedAt V F c m'):m=m':=by
 rcases Nat.lt_trichotomy m m' with e|e|e
 ·have:=h'.1 m e;rw[h.2] at this;cases this
 ·exact e
 ·have:=h.1 m' e;rw[h'.2] at this;cases this
theorem lJ (h0:ai V F c=0):PicOk V F c (cH V F c):=by
 have hp:=bK h0
 have h1:=hp.v1
 have h2:=hp.f0
 refine⟨rfl,by simp[cH];omega,by simp[cH],λk h=> ?_,λg hg=> ?_,λk h g hg=> ?_,λk h=>.inr λg hg=> ?_⟩
 ·simp[cH];omega
 ·rw[z8 hg];rfl
 ·have hg':g∈q3 F.toNat bX:=by simpa[cH] using hg
  rw[z8 hg'];rfl
 ·have hg':g∈q3 F.toNat bX:=by simpa[cH] using hg
  rw[z8 hg'];rfl
theorem iW (h0:ai V F c=0):XsOk V F c (iX V F c):=⟨by simp[iX],λx hx=>by
 rcases j5.1 hx with rfl|hx
 ·exact(lJ h0).ck
 ·rw[z8 hx];rfl⟩
theorem dV (h0:ai V F c=0):∀m,XsOk V F c (aD V F c m)
 |0=>iW h0
 |m+1=>(iM h0 (dV h0 m)).1
theorem oE (h0:ai V F c=0):∀m,LeX (iX V F c) (aD V F c m)
 |0=>LeX.refl (iW h0)
 |m+1=>LeX.trans (iW h0) (dV h0 m) (dV h0 (m+1)) (oE h0 m) (iM h0 (dV h0 m)).2.1
theorem Gl (h0:ai V F c=0)(h:XsOk V F c l):gO l≤200000000000000:=by
 obtain⟨G,hG⟩:∃G:Nat,G=2000000000000:=⟨_,rfl⟩
 have h1:gO l≤l.length * G:=nj gD G λx hx=>by rw[hG];exact Aq h0 (h.ck x hx)
 have h2:=h.len
 have h3:=(bK h0).len
 have h4:l.length≤61:=by omega
 have h5:l.length * G≤61 * G:=z7 _ h4
 omega
theorem sX (h0:ai V F c=0):∀{m:Nat},(∀k,k < m→(dS c ((k+1:Nat):Int) (aD V F c k)).2=true)→m+gO (aD V F c m)≤200000000000000
 |0,_=>by have:=Gl h0 (iW h0);simp only[aD];omega
 |m+1,h=>by
  have h1:=sX h0 (m:=m) λk hk=>h k (by omega)
  have h2:=(iM (n:=((m+1:Nat):Int)) h0 (dV h0 m)).2.2.2 (h m (by omega))
  have h3:gO (aD V F c (m+1)) < gO (aD V F c m):=h2
  omega
def DM (c:List Ins):List Int:=1::q3 c.length 0
theorem Ck (h0:ai V F c=0):Due V F c 1 0 (iX V F c) (DM c):=by
 refine⟨iW h0,by simp[DM],λk hk hd=> ?_⟩
 rw[if_neg (by omega)] at hd
 cases k with
 |zero=>exact absurd rfl hd
 |succ k=>
  intro e he
  have:aU (iX V F c) ((k+1:Nat):Int)=nonePic:=by
   rw[lm (by simp[iX];omega)]
   simp[iX]
  rw[this] at he
  simp[cS,aA,nonePic] at he
def vC (V F:Int)(c:List Ins)(l:List Pic):Bool:=bw (cH V F c) (aU l 0)&&(j2 c.length).all λi=>(cS c i (aU l i)).all λe=>bw e.pic (aU l e.tgt)
theorem fitsX_iff:vC V F c l=true↔bw (cH V F c) (aU l 0)=true∧∀i,i < c.length→eD c l i:=by
 unfold vC eD
 simp[List.all_eq_true]
theorem o9 (h0:ai V F c=0){m:Nat}(h:SolvedAt V F c m):aD V F c (m+1)=aD V F c m∧vC V F c (aD V F c m)=true:=by
 have h1:=(iM (n:=((m+1:Nat):Int)) h0 (dV h0 m)).2.2.1 h.2
 refine⟨h1.1,fitsX_iff.2 ⟨?_,h1.2⟩⟩
 have:=(oE h0 m).2 0
 exact this
end
theorem yI (i:Ins)(at_:Int)(x:Pic):(aA i at_ x).1.length≤2:=by
 unfold aA
 repeat' split
 all_goals simp
 all_goals (repeat' split)
 all_goals simp
section
variable {V F:Int} {c:List Ins} {x:Pic} {r r':St} {g:Gs} {v:Val}
theorem fO (hs:eX r v=eX r' v):bO r g v=bO r' g v:=by unfold bO;rw[hs]
theorem Cl (h:∀k,(r.things.getD k ⟨0,[]⟩).site=(r'.things.getD k ⟨0,[]⟩).site):eX r v=eX r' v:=by
 unfold eX
 rw[h]
theorem i6 (hx:PicOk V F c x)(hr:RunOk V F c r)(h:b9 x r=true){k:Nat}(hk:k < r.vars.length):bO r (gAt x (k:Int)) (dI r (k:Int))=true:=by
 have h1:=((fZ hx.none).1 h).1
 have l1:=hx.vars
 have l2:=hr.vars
 have hk':k < x.vars.length:=by omega
 have:=(showsRow_iff.1 h1) k hk' hk
 rw[gT hk]
 unfold gAt
 simp only[q4,j1,q8 hk',q9]
 exact this
theorem lU (hr:RunOk V F c r){t:Thg}(ht:t∈r.things):0≤t.site∧t.site < c.length∧bQ c t.site=true:=by
 have:=hr.sites t ht
 unfold fH btw at this
 simp only[j4,decide_eq_true_eq] at this
 refine⟨this.1.1,by omega,mA this.1.1 (by omega) this.2⟩
theorem gG (hx:PicOk V F c x)(hr:RunOk V F c r)(h:b9 x r=true){q f:Nat}(hq:q < r.things.length)(hf:f < r.things[q].fs.length):bO r (fAt x r.things[q].site (f:Int)) r.things[q].fs[f]=true:=by
 have h2:=((fZ hx.none).1 h).2 _ (gM hq)
 obtain⟨s0,s1,-⟩:=lU hr (gM hq)
 have l3:=hx.flds
 have hs:r.things[q].site.toNat < x.flds.length:=by omega
 rw[gS hs] at h2
 have hrow:=hx.row _ hs
 have hfl:=hr.fields _ (gM hq)
 have hf':f < x.flds[r.things[q].site.toNat].length:=by omega
 have:=(showsRow_iff.1 h2) f hf' hf
 unfold fAt
 rw[gS hs]
 simp only[q4,j1,q8 hf',q9]
 exact this
theorem mg (hx:PicOk V F c x)(hr:RunOk V F c r)(hv:∀k,k < r.vars.length→bO r (gAt x (k:Int)) (dI r (k:Int))=true)(hf:∀q (hq:q < r.things.length) f (hf:f < r.things[q].fs.length),bO r (fAt x r.things[q].site (f:Int)) r.things[q].fs[f]=true):b9 x r=true:=by
 rw[fZ hx.none]
 refine⟨showsRow_iff.2 λi h1 h2=> ?_,λt ht=> ?_⟩
 ·have:=hv i h2
  rw[gT h2] at this
  unfold gAt at this
  simp only[q4,j1,q8 h1,q9] at this
  exact this
 ·obtain⟨q,hq,rfl⟩:=J9 ht
  obtain⟨s0,s1,-⟩:=lU hr (gM hq)
  have l3:=hx.flds
  have hs:r.things[q].site.toNat < x.flds.length:=by omega
  rw[gS hs]
  refine showsRow_iff.2 λi h1 h2=> ?_
  have:=hf q hq i h2
  unfold fAt at this
  rw[gS hs] at this
  simp only[q4,j1,q8 h1,q9] at this
  exact this
theorem so {k:Nat}(hk:k < x.vars.length)(j:Nat):gAt (bd x (j:Int) g) (k:Int)=if j=k then g else gAt x (k:Int):=by
 unfold gAt bd
 simp only[q4,j1,z0]
 by_cases e:j=k
 ·subst e
  rw[if_pos rfl,if_pos rfl,if_pos hk]
  rfl
 ·rw[if_neg e,if_neg e]
theorem uk {k:Nat}(hk:k < r.vars.length)(j:Nat):dI (dg r (j:Int) v) (k:Int)=if j=k then v else dI r (k:Int):=by
 unfold dI dg
 simp only[q4,j1,z0]
 by_cases e:j=k
 ·subst e
  rw[if_pos rfl,if_pos rfl,if_pos hk]
  rfl
 ·rw[if_neg e,if_neg e]
theorem uj (hx:PicOk V F c x)(hr:RunOk V F c r)(h:b9 x r=true){j:Nat}(hj:j < r.vars.length)(hg:aC c g=0)(hv:bO r g v=true)(hr':RunOk V F c (dg r (j:Int) v)):b9 (bd x (j:Int) g) (dg r (j:Int) v)=true:=by
 have l1:=hx.vars
 have l2:=hr.vars
 have hs:∀u,eX (dg r (j:Int) v) u=eX r u:=λu=>rfl
 refine mg (hx.setVar _ hg) hr' (λk hk=> ?_) (λq hq f hf=> ?_)
 ·have hk':k < r.vars.length:=by simpa[dg] using hk
  rw[fO (r':=r) (hs _),so (by omega),uk hk']
  by_cases e:j=k
  ·rw[if_pos e,if_pos e];exact hv
  ·rw[if_neg e,if_neg e];exact i6 hx hr h hk'
 ·rw[fO (r':=r) (hs _)]
  exact gG hx hr h hq hf
theorem kK (hv:r'.vars=r.vars)(ht:r'.things=r.things):b9 x r'=b9 x r:=by
 unfold b9 ge bO eX
 rw[hv,ht]
end
theorem dj {r:St}{g:Gs}{v:Val}{T:Nat}(hv:bS T v)(h:bO r g v=true):aB g=false:=by
 cases e:aB g with
 |false=>rfl
 |true=>
  obtain⟨e1,e2,e3,e4,e5⟩:=nothing_iff.1 e
  unfold bO dB at h
  rcases hv with⟨k,_⟩|⟨k,_⟩|⟨k,_⟩|⟨k,_⟩
  ·rw[if_pos k,e2] at h;cases h
  ·rw[if_neg (by omega),if_pos k,has_iff,e1] at h;cases h.1
  ·rw[if_neg (by omega),if_neg (by omega),if_pos k,e3,e4] at h;simp at h
  ·rw[if_neg (by omega),if_neg (by omega),if_neg (by omega),e5] at h;simp at h
theorem kC {r:St}{g:Gs}{v:Val}{T:Nat}(hv:bS T v)(h:bO r g v=true)(hk:v.k≠1):aW g=true:=by
 unfold aW
 unfold bO dB at h
 rcases hv with⟨k,_⟩|⟨k,_⟩|⟨k,_⟩|⟨k,_⟩
 ·rw[if_pos k] at h;simp[h]
 ·exact absurd k hk
 ·rw[if_neg (by omega),if_neg (by omega),if_pos k] at h
  simp only[j6,j4] at h
  rcases h with h|h<;>simp[h.1]
 ·rw[if_neg (by omega),if_neg (by omega),if_neg (by omega),z3] at h
  have:0 < g.s.length:=Q5 h
  simp[this]
theorem nV {r:St}{g:Gs}{v:Val}{T:Nat}(hv:bS T v)(h:bO r g v=true)(hk:v.k≠3):bI g=true:=by
 unfold bI
 unfold bO dB at h
 rcases hv with⟨k,_⟩|⟨k,_⟩|⟨k,_⟩|⟨k,_⟩
 ·rw[if_pos k] at h;simp[h]
 ·rw[if_neg (by omega),if_pos k,has_iff] at h;simp[h.1]
 ·rw[if_neg (by omega),if_neg (by omega),if_pos k] at h
  simp only[j6,j4] at h
  rcases h with h|h<;>simp[h.1]
 ·exact absurd k hk
theorem gQ {r:St}{g:Gs}{v:Val}(hk:v.k=1):bO r g v=g.sp.has v.n:=by
 unfold bO dB
 rw[if_neg (by omega),if_pos hk]
theorem FO {r:St}{g:Gs}{b:Bool}:bO r g (b8 b)=((g.t&&b)||(g.f&& !b)):=by
 unfold bO dB b8
 cases b<;>simp
theorem sZ {r:St}{g:Gs}{v:Val}(hk:v.k=3)(h:bO r g v=true):(r.things.getD v.n.toNat ⟨0,[]⟩).site∈g.s:=by
 unfold bO dB eX at h
 rw[if_neg (by omega),if_neg (by omega),if_neg (by omega),if_pos hk,z3] at h
 exact h
theorem mI {r:St}{g:Gs}{v:Val}{T:Nat}(hv:bS T v)(h:bO r g v=true):(cnt v=true→ca g=true∧bO r (cW g) v=true)∧(cnt v=false→cT g=true∧bO r (da g) v=true):=by
 unfold cnt ca cT
 unfold bO dB at h ⊢
 rcases hv with⟨k,hn⟩|⟨k,hn⟩|⟨k,hn⟩|⟨k,hn⟩
 ·simp only[k,if_pos] at h ⊢
  simp[h,da,cW]
 ·rw[if_neg (by omega),if_pos k] at h
  rw[if_neg (by omega),if_pos k,if_neg (by omega),if_pos k]
  obtain⟨h1,h2,h3⟩:=has_iff.1 h
  constructor
  ·intro hc
   have hne:v.n≠0:=by simpa[k] using hc
   refine⟨?_,?_⟩
   ·simp only[h1,Bool.not_false,Bool.true_and,j6,Bool.not_eq_true',decide_eq_false_iff_not]
    left
    omega
   ·rw[has_iff]
    show (cn g.sp).n=false∧(cn g.sp).lo≤v.n∧v.n≤(cn g.sp).hi
    unfold cn
    rw[if_neg (by rw[h1];decide),if_neg]
    ·refine⟨rfl,?_,?_⟩
     ·simp only;split<;>omega
     ·simp only;split<;>omega
    ·split<;>split<;>omega
  ·intro hc
   have hz:v.n=0:=by simpa[k] using hc
   rw[hz] at h h2 h3 ⊢
   refine⟨by simp[h],?_⟩
   show (if g.sp.has 0=true then(⟨false,0,0⟩:Sp) else⟨true,0,0⟩).has 0=true
   rw[if_pos h]
   rfl
 ·rw[if_neg (by omega),if_neg (by omega),if_pos k] at h
  rw[if_neg (by omega),if_neg (by omega),if_pos k,if_neg (by omega),if_neg (by omega),if_pos k]
  rcases hn with hn|hn
  ·simp only[hn,k] at h ⊢
   simp at h
   simp[h,da]
  ·simp only[hn,k] at h ⊢
   simp at h
   simp[h,cW]
 ·rw[if_neg (by omega),if_neg (by omega),if_neg (by omega)] at h
  rw[if_neg (by omega),if_neg (by omega),if_neg (by omega),if_neg (by omega),if_neg (by omega),if_neg (by omega)]
  have hm:=z3.1 h
  have:0 < g.s.length:=Q5 hm
  refine⟨λ_=>⟨by simp[this],h⟩,λhc=> ?_⟩
  simp[k] at hc
section
variable {V F:Int} {c:List Ins} {x:Pic} {r:St} {ins:List Int} {i:Ins}
def dl (V F:Int)(c:List Ins)(x:Pic)(r:St)(ins:List Int)(i:Ins):Prop:=
 (ft r i=2→(aA i r.at_ x).2.1=true)∧(ft r i=3→(aA i r.at_ x).2.2=true)∧
 (ft r i=0→RunOk V F c (bV F ins r i (aOf r i) (bOf r i))→∃e∈(aA i r.at_ x).1,e.tgt=de r i (aOf r i)∧b9 e.pic (bV F ins r i (aOf r i) (bOf r i))=true)
structure StepCtx (V F:Int) (c:List Ins) (x:Pic) (r:St) (i:Ins):Prop where
 hp:ProgOk V F c
 hx:PicOk V F c x
 hr:RunOk V F c r
 hi:bD V F c.length i=0
 h:b9 x r=true
theorem StepCtx.a (K:StepCtx V F c x r i)(hA:nA i.k=true):bO r (gAt x i.a) (aOf r i)=true∧bS r.things.length (aOf r i)∧aC c (gAt x i.a)=0:=by
 have hb:=(bn K.hi).2.2.1 hA
 obtain⟨k,hk⟩:=j7 hb.1
 have hv:=K.hr.vars
 refine⟨?_,sP K.hr K.hi,fN K.hx _⟩
 unfold aOf
 rw[if_pos hA,hk]
 exact i6 K.hx K.hr K.h (by omega)
theorem StepCtx.b (K:StepCtx V F c x r i)(hB:nB i.k=true):bO r (gAt x i.b) (bOf r i)=true∧bS r.things.length (bOf r i)∧aC c (gAt x i.b)=0:=by
 have hb:=(bn K.hi).2.2.2.1 hB
 obtain⟨k,hk⟩:=j7 hb.1
 have hv:=K.hr.vars
 refine⟨?_,vK K.hr K.hi,fN K.hx _⟩
 unfold bOf
 rw[if_pos hB,hk]
 exact i6 K.hx K.hr K.h (by omega)
theorem dW (K:StepCtx V F c x r i)(hT:nTo i.k=true)(h11:i.k≠11){v:Val}{g:Gs}{wr:Bool}(hs:aA i r.at_ x=if aB g then([],wr,false) else([⟨r.at_+1,bd x i.tgt g⟩],wr,false))(hn:de r i (aOf r i)=r.at_+1)
  (he:(bV F ins r i (aOf r i) (bOf r i)).vars=(dg r i.tgt v).vars∧(bV F ins r i (aOf r i) (bOf r i)).things=r.things)(hg:aC c g=0)(hv:bO r g v=true)(ho:bS r.things.length v):
  RunOk V F c (bV F ins r i (aOf r i) (bOf r i))→∃e∈(aA i r.at_ x).1,e.tgt=de r i (aOf r i)∧b9 e.pic (bV F ins r i (aOf r i) (bOf r i))=true:=by
 intro hr'
 have hb:=(bn K.hi).2.1 hT
 obtain⟨k,hk⟩:=j7 hb.1
 have hvl:=K.hr.vars
 rw[hs,dj ho hv,hn]
 refine⟨_,j9.2 rfl,rfl,?_⟩
 simp only
 rw[kK (r:=dg r i.tgt v) he.1 (by rw[he.2];rfl)]
 rw[hk]
 refine uj K.hx K.hr K.h (by omega) hg hv ?_
 have e1:(dg r (k:Int) v).things=r.things:=rfl
 refine⟨K.hr.at0,K.hr.at1,K.hr.tk,K.hr.fin0,K.hr.fin5,?_,K.hr.things,K.hr.sites,K.hr.fields,λu hu=> ?_,K.hr.fvals⟩
 ·rw[←K.hr.vars];simp[dg]
 ·rcases ir hu with rfl|hu
  ·exact ho
  ·exact K.hr.vals u hu
theorem pU {lo hi n:Int}(h1:lo≤n)(h2:n≤hi):(⟨false,lo,hi⟩:Sp).has n=true:=has_iff.2 ⟨rfl,h1,h2⟩
theorem mC {r:St}{n t f:Bool}{sp:Sp}{b:Bool}(h:((t&&b)||(f&& !b))=true):bO r ⟨n,sp,t,f,[]⟩ (b8 b)=true:=by rw[FO];exact h
theorem eR (h0:ft r i=0)(h:ft r i=0→RunOk V F c (bV F ins r i (aOf r i) (bOf r i))→∃e∈(aA i r.at_ x).1,e.tgt=de r i (aOf r i)∧b9 e.pic (bV F ins r i (aOf r i) (bOf r i))=true):dl V F c x r ins i:=⟨λh2=>by omega,λh3=>by omega,h⟩
variable {t a b n g:Int}
theorem KL (K:StepCtx V F c x r ⟨1,t,a,b,n,g⟩):dl V F c x r ins ⟨1,t,a,b,n,g⟩:=by
 have hb:=(bn K.hi).2.2.2.2.2.2.1 rfl
 refine eR (cq _ 1 (by omega)) λ_=>dW K rfl (by simp) (v:=⟨1,n⟩) (g:=⟨false,⟨false,n,n⟩,false,false,[]⟩) (wr:=false) (by simp[aA,K.hx.none,aQ]) rfl ⟨rfl,rfl⟩ (cm (gk (by simp only at hb;omega) (by simp only at hb;omega) (by omega))) ?_ (.inr (.inl ⟨rfl,hb⟩))
 rw[gQ rfl]
 exact pU (by simp) (by simp)
theorem KN (K:StepCtx V F c x r ⟨2,t,a,b,n,g⟩):dl V F c x r ins ⟨2,t,a,b,n,g⟩:=by
 have hb:=(bn K.hi).2.2.2.2.2.2.2.1 rfl
 simp only at hb
 refine eR (cq _ 2 (by omega)) λ_=>dW K rfl (by simp) (v:=⟨2,n⟩) (g:=⟨false,⟨true,0,0⟩,decide (n=1),decide (n=0),[]⟩) (wr:=false) (by simp[aA,K.hx.none,aQ]) rfl ⟨rfl,rfl⟩ (cm dw) ?_ (.inr (.inr (.inl ⟨rfl,by simp only;omega⟩)))
 unfold bO dB
 rcases hb with hb|hb<;>simp[hb]
theorem KK (K:StepCtx V F c x r ⟨3,t,a,b,n,g⟩):dl V F c x r ins ⟨3,t,a,b,n,g⟩:=
 eR (cq _ 3 (by omega)) λ_=>dW K rfl (by simp) (v:=⟨0,0⟩) (g:=iw) (wr:=false) (by simp[aA,K.hx.none,aQ]) rfl ⟨rfl,rfl⟩ (cm dw) rfl gx
theorem KI (K:StepCtx V F c x r ⟨4,t,a,b,n,g⟩):dl V F c x r ins ⟨4,t,a,b,n,g⟩:=by
 obtain⟨h1,h2,h3⟩:=K.a rfl
 exact eR (cq _ 4 (by omega)) λ_=>dW K rfl (by simp) (v:=aOf r ⟨4,t,a,b,n,g⟩) (g:=gAt x a) (wr:=false) (by simp[aA,K.hx.none,aQ,cQ]) rfl ⟨rfl,rfl⟩ h3 h1 h2
theorem Ir (n:Int):wr n=wrS n:=rfl
theorem Ik {k:Int}(hk:k=5∨k=6∨k=7)(K:StepCtx V F c x r ⟨k,t,a,b,n,g⟩):dl V F c x r ins ⟨k,t,a,b,n,g⟩:=by
 obtain⟨h1,h2,h3⟩:=K.a (by rcases hk with rfl|rfl|rfl<;>rfl)
 obtain⟨g1,g2,g3⟩:=K.b (by rcases hk with rfl|rfl|rfl<;>rfl)
 have n1:=dj h2 h1
 have n2:=dj g2 g1
 simp only at h1 g1 h3 g3 n1 n2
 have hs:aA ⟨k,t,a,b,n,g⟩ r.at_ x=if aB (⟨false,cK k (gAt x a).sp (gAt x b).sp,false,false,[]⟩:Gs) then([],aW (gAt x a)||aW (gAt x b),false) else([⟨r.at_+1,bd x t ⟨false,cK k (gAt x a).sp (gAt x b).sp,false,false,[]⟩⟩],aW (gAt x a)||aW (gAt x b),false):=by
  rcases hk with rfl|rfl|rfl<;>simp[aA,K.hx.none,aQ,cQ,n1,n2]
 have hend:=oU (t:=t) (a:=a) (b:=b) (n:=n) (g:=g) (A:=aOf r ⟨k,t,a,b,n,g⟩) (C:=bOf r ⟨k,t,a,b,n,g⟩) r.things.length k (by omega)
 have he:ft r ⟨k,t,a,b,n,g⟩=if (decide ((aOf r ⟨k,t,a,b,n,g⟩).k≠1)||decide ((bOf r ⟨k,t,a,b,n,g⟩).k≠1))=true then 2 else 0:=hend
 refine⟨λh=> ?_,λh=> ?_,λh=> ?_⟩
 ·rw[he] at h
  split at h
  ·rename_i hc
   rw[hs]
   have hw:(aW (gAt x a)||aW (gAt x b))=true:=by
    simp only[j6,decide_eq_true_eq] at hc ⊢
    rcases hc with hc|hc
    ·exact .inl (kC h2 h1 hc)
    ·exact .inr (kC g2 g1 hc)
   split<;>exact hw
  ·cases h
 ·rw[he] at h;split at h<;>cases h
 ·rw[he] at h
  split at h
  ·cases h
  ·rename_i hc
   simp only[j6,decide_eq_true_eq,not_or,Decidable.not_not] at hc
   have m1:=h1
   have m2:=g1
   rw[gQ hc.1,has_iff] at m1
   rw[gQ hc.2,has_iff] at m2
   refine dW K (by rcases hk with rfl|rfl|rfl<;>rfl) (by simp only;omega) (v:=⟨1,wr (fi k (aOf r ⟨k,t,a,b,n,g⟩).n (bOf r ⟨k,t,a,b,n,g⟩).n)⟩) hs (by rcases hk with rfl|rfl|rfl<;>rfl) (by rcases hk with rfl|rfl|rfl<;>exact⟨rfl,rfl⟩) (cm (Ge (ckGs_iff.1 h3).1 (ckGs_iff.1 g3).1)) ?_ (lz _)
   rw[gQ rfl,Ir]
   exact IL hk m1.1 m2.1 m1.2 m2.2
theorem KO (K:StepCtx V F c x r ⟨8,t,a,b,n,g⟩):dl V F c x r ins ⟨8,t,a,b,n,g⟩:=by
 obtain⟨h1,h2,h3⟩:=K.a rfl
 obtain⟨g1,g2,g3⟩:=K.b rfl
 have n1:=dj h2 h1
 have n2:=dj g2 g1
 simp only at h1 g1 h3 g3 n1 n2
 have hs:aA ⟨8,t,a,b,n,g⟩ r.at_ x=if aB (⟨false,⟨true,0,0⟩,!((gAt x a).sp.n||(gAt x b).sp.n)&&decide ((gAt x a).sp.lo < (gAt x b).sp.hi),!((gAt x a).sp.n||(gAt x b).sp.n)&&decide ((gAt x b).sp.lo≤(gAt x a).sp.hi),[]⟩:Gs) then([],aW (gAt x a)||aW (gAt x b),false) else([⟨r.at_+1,bd x t ⟨false,⟨true,0,0⟩,!((gAt x a).sp.n||(gAt x b).sp.n)&&decide ((gAt x a).sp.lo < (gAt x b).sp.hi),!((gAt x a).sp.n||(gAt x b).sp.n)&&decide ((gAt x b).sp.lo≤(gAt x a).sp.hi),[]⟩⟩],aW (gAt x a)||aW (gAt x b),false):=by
  simp[aA,K.hx.none,aQ,cQ,n1,n2]
 have he:ft r ⟨8,t,a,b,n,g⟩=if (decide ((aOf r ⟨8,t,a,b,n,g⟩).k≠1)||decide ((bOf r ⟨8,t,a,b,n,g⟩).k≠1))=true then 2 else 0:=oU r.things.length 8 (by omega)
 refine⟨λh=> ?_,λh=> ?_,λh=> ?_⟩
 ·rw[he] at h
  split at h
  ·rename_i hc
   rw[hs]
   have hw:(aW (gAt x a)||aW (gAt x b))=true:=by
    simp only[j6,decide_eq_true_eq] at hc ⊢
    rcases hc with hc|hc
    ·exact .inl (kC h2 h1 hc)
    ·exact .inr (kC g2 g1 hc)
   split<;>exact hw
  ·cases h
 ·rw[he] at h;split at h<;>cases h
 ·rw[he] at h
  split at h
  ·cases h
  ·rename_i hc
   simp only[j6,decide_eq_true_eq,not_or,Decidable.not_not] at hc
   have m1:=h1
   have m2:=g1
   rw[gQ hc.1,has_iff] at m1
   rw[gQ hc.2,has_iff] at m2
   refine dW K rfl (by simp) (v:=b8 (decide ((aOf r ⟨8,t,a,b,n,g⟩).n < (bOf r ⟨8,t,a,b,n,g⟩).n))) hs rfl ⟨rfl,rfl⟩ (cm dw) (mC ?_) (ia _)
   rw[m1.1,m2.1]
   by_cases hl:(aOf r ⟨8,t,a,b,n,g⟩).n < (bOf r ⟨8,t,a,b,n,g⟩).n
   ·have:(gAt x a).sp.lo < (gAt x b).sp.hi:=by omega
    simp[hl,this]
   ·have:(gAt x b).sp.lo≤(gAt x a).sp.hi:=by omega
    simp[hl,this]
theorem Dx {A C:Val}{ga gb:Gs}(hA:bS r.things.length A)(hC:bS r.things.length C)(h1:bO r ga A=true)(h2:bO r gb C=true):
  ((decide (A.k=C.k)&&decide (A.n=C.n))=true→((ga.n&&gb.n)||(!(aR ga.sp gb.sp).n||((ga.t&&gb.t)||((ga.f&&gb.f)||ga.s.any λy=>gb.s.contains y))))=true)∧((decide (A.k=C.k)&&decide (A.n=C.n))=false→fA ga gb=false):=by
 constructor
 ·intro h
  simp only[j4,decide_eq_true_eq] at h
  obtain⟨e1,e2⟩:=h
  unfold bO dB eX at h1 h2
  rw[←e1,←e2] at h2
  rcases hA with⟨k,hn⟩|⟨k,hn⟩|⟨k,hn⟩|⟨k,hn⟩
  ·rw[if_pos k] at h1 h2
   simp[h1,h2]
  ·rw[if_neg (by omega),if_pos k,has_iff] at h1 h2
   have hm:(aR ga.sp gb.sp).n=false:=by
    unfold aR
    rw[if_neg]
    simp only[j6,decide_eq_true_eq,not_or]
    exact⟨⟨by simp[h1.1],by simp[h2.1]⟩,by omega⟩
   simp[hm]
  ·rw[if_neg (by omega),if_neg (by omega),if_pos k] at h1 h2
   simp only[j6,j4,decide_eq_true_eq] at h1 h2
   rcases h1 with⟨h1,q1⟩|⟨h1,q1⟩<;>rcases h2 with⟨h2,q2⟩|⟨h2,q2⟩
   ·simp[h1,h2]
   ·omega
   ·omega
   ·simp[h1,h2]
  ·rw[if_neg (by omega),if_neg (by omega),if_neg (by omega),z3] at h1 h2
   have:(ga.s.any λy=>gb.s.contains y)=true:=List.any_eq_true.2 ⟨_,h1,z3.2 h2⟩
   simp only[this,Bool.or_true]
 ·intro h
  cases ha:fA ga gb with
  |false=>rfl
  |true=>
   exfalso
   unfold fA at ha
   simp only[j4,beq_iff_eq,decide_eq_true_eq] at ha
   obtain⟨s1,s2,e1,e2,e3,e4⟩:=ha
   unfold fp at s1 s2
   simp only[j4,decide_eq_true_eq,x6] at s1 s2
   obtain⟨c1,l1,z1⟩:=s1
   obtain⟨c2,l2,z2⟩:=s2
   have hne:¬(A.k=C.k∧A.n=C.n):=by
    intro q
    simp[q.1,q.2] at h
   apply hne
   unfold bO dB at h1 h2
   unfold b2n at c1
   rcases hA with⟨k,hn⟩|⟨k,hn⟩|⟨k,hn⟩|⟨k,hn⟩
   ·rw[if_pos k] at h1
    rcases hC with⟨k',hn'⟩|⟨k',hn'⟩|⟨k',hn'⟩|⟨k',hn'⟩
    ·omega
    ·rw[if_neg (by omega),if_pos k',has_iff,←e2] at h2
     (simp[h1,h2.1] at c1<;>(repeat' split at c1)<;>omega)
    ·rw[if_neg (by omega),if_neg (by omega),if_pos k',←e3,←e4] at h2
     simp only[j6,j4] at h2
     rcases h2 with⟨h2,_⟩|⟨h2,_⟩<;>(simp[h1,h2] at c1<;>(repeat' split at c1)<;>omega)
    ·rw[if_neg (by omega),if_neg (by omega),if_neg (by omega),z2] at h2;simp at h2
   ·rw[if_neg (by omega),if_pos k,has_iff] at h1
    rcases hC with⟨k',hn'⟩|⟨k',hn'⟩|⟨k',hn'⟩|⟨k',hn'⟩
    ·rw[if_pos k',←e1] at h2
     (simp[h1.1,h2] at c1<;>(repeat' split at c1)<;>omega)
    ·rw[if_neg (by omega),if_pos k',has_iff,←e2] at h2
     omega
    ·rw[if_neg (by omega),if_neg (by omega),if_pos k',←e3,←e4] at h2
     simp only[j6,j4] at h2
     rcases h2 with⟨h2,_⟩|⟨h2,_⟩<;>(simp[h1.1,h2] at c1<;>(repeat' split at c1)<;>omega)
    ·rw[if_neg (by omega),if_neg (by omega),if_neg (by omega),z2] at h2;simp at h2
   ·rw[if_neg (by omega),if_neg (by omega),if_pos k] at h1
    simp only[j6,j4,decide_eq_true_eq] at h1
    rcases hC with⟨k',hn'⟩|⟨k',hn'⟩|⟨k',hn'⟩|⟨k',hn'⟩
    ·rw[if_pos k',←e1] at h2
     rcases h1 with⟨h1,_⟩|⟨h1,_⟩<;>(simp[h1,h2] at c1<;>(repeat' split at c1)<;>omega)
    ·rw[if_neg (by omega),if_pos k',has_iff,←e2] at h2
     rcases h1 with⟨h1,_⟩|⟨h1,_⟩<;>(simp[h1,h2.1] at c1<;>(repeat' split at c1)<;>omega)
    ·rw[if_neg (by omega),if_neg (by omega),if_pos k',←e3,←e4] at h2
     simp only[j6,j4,decide_eq_true_eq] at h2
     rcases h1 with⟨h1,q1⟩|⟨h1,q1⟩<;>rcases h2 with⟨h2,q2⟩|⟨h2,q2⟩
     ·omega
     ·(simp[h1,h2] at c1<;>(repeat' split at c1)<;>omega)
     ·(simp[h1,h2] at c1<;>(repeat' split at c1)<;>omega)
     ·omega
    ·rw[if_neg (by omega),if_neg (by omega),if_neg (by omega),z2] at h2;simp at h2
   ·rw[if_neg (by omega),if_neg (by omega),if_neg (by omega),z1] at h1;simp at h1
theorem KT (K:StepCtx V F c x r ⟨9,t,a,b,n,g⟩):dl V F c x r ins ⟨9,t,a,b,n,g⟩:=by
 obtain⟨h1,h2,h3⟩:=K.a rfl
 obtain⟨g1,g2,g3⟩:=K.b rfl
 have n1:=dj h2 h1
 have n2:=dj g2 g1
 simp only at h1 g1 h3 g3 n1 n2
 obtain⟨q1,q2⟩:=Dx h2 g2 h1 g1
 refine eR (cq _ 9 (by omega)) λ_=>dW K rfl (by simp) (v:=b8 (decide ((aOf r ⟨9,t,a,b,n,g⟩).k=(bOf r ⟨9,t,a,b,n,g⟩).k)&&decide ((aOf r ⟨9,t,a,b,n,g⟩).n=(bOf r ⟨9,t,a,b,n,g⟩).n))) (g:=⟨false,⟨true,0,0⟩,((gAt x a).n&&(gAt x b).n)||(!(aR (gAt x a).sp (gAt x b).sp).n||(((gAt x a).t&&(gAt x b).t)||(((gAt x a).f&&(gAt x b).f)||(gAt x a).s.any λy=>(gAt x b).s.contains y))),!fA (gAt x a) (gAt x b),[]⟩) (wr:=false) (by simp[aA,K.hx.none,aQ,cQ,n1,n2]) rfl ⟨rfl,rfl⟩ (cm dw) (mC ?_) (ia _)
 cases hb:(decide ((aOf r ⟨9,t,a,b,n,g⟩).k=(bOf r ⟨9,t,a,b,n,g⟩).k)&&decide ((aOf r ⟨9,t,a,b,n,g⟩).n=(bOf r ⟨9,t,a,b,n,g⟩).n)) with
 |true=>rw[q1 hb];rfl
 |false=>rw[q2 hb];simp
theorem Kn (K:StepCtx V F c x r ⟨10,t,a,b,n,g⟩):dl V F c x r ins ⟨10,t,a,b,n,g⟩:=by
 obtain⟨h1,h2,h3⟩:=K.a rfl
 obtain⟨q1,q2⟩:=mI h2 h1
 refine eR (cq _ 10 (by omega)) λ_=>dW K rfl (by simp) (v:=b8 (!cnt (aOf r ⟨10,t,a,b,n,g⟩))) (g:=⟨false,⟨true,0,0⟩,cT (gAt x a),ca (gAt x a),[]⟩) (wr:=false) (by simp[aA,K.hx.none,aQ,cQ]) rfl ⟨rfl,rfl⟩ (cm dw) (mC ?_) (ia _)
 cases hc:cnt (aOf r ⟨10,t,a,b,n,g⟩) with
 |true=>rw[(q1 hc).1];simp
 |false=>rw[(q2 hc).1];simp
theorem Ko (K:StepCtx V F c x r ⟨14,t,a,b,n,g⟩):dl V F c x r ins ⟨14,t,a,b,n,g⟩:=by
 have hb:=(bn K.hi).2.2.2.2.2.2.2.2 rfl
 simp only at hb
 have hm:=lC (x:=ins.getD r.taken.toNat 0) hb.1
 refine eR (cq _ 14 (by omega)) λ_=>dW K rfl (by simp) (v:=⟨1,if r.taken < ins.length then kh n (ins.getD r.taken.toNat 0) else 0⟩) (g:=⟨false,⟨false,-n,n⟩,false,false,[]⟩) (wr:=false) (by simp[aA,K.hx.none,aQ]) rfl ⟨rfl,rfl⟩ (cm (gk (by omega) (by omega) (by omega))) ?_ (.inr (.inl ⟨rfl,by simp only;split<;>omega⟩))
 rw[gQ rfl]
 simp only
 split
 ·exact pU (by omega) (by omega)
 ·exact pU (by omega) (by omega)
end
section
variable {V F:Int} {c:List Ins} {x:Pic} {r:St} {ins:List Int} {i:Ins}
theorem Cr (p:Int)(k:Int):gAt (fg p x) k=gAt x k:=rfl
theorem Bi (j:Int)(g:Gs)(s n:Int):fAt (bd x j g) s n=fAt x s n:=rfl
theorem ru {p s f:Nat}(hs:s < x.flds.length)(hf:f < x.flds[s].length):fAt (fg (p:Int) x) (s:Int) (f:Int)=if p=s then {fAt x (s:Int) (f:Int) with n:=true} else fAt x (s:Int) (f:Int):=by
 unfold fAt fg
 simp only[q4,j1,J5]
 by_cases e:p=s
 ·subst e
  simp[hs,hf]
 ·simp[e]
theorem Dj {g:Gs}{k n s:Int}(h:dB g k n s=true):dB {g with n:=true} k n s=true:=by
 unfold dB at h ⊢
 split
 ·rfl
 ·rename_i h0
  rw[if_neg h0] at h
  exact h
theorem sU {t:Thg}{v:Val}{r':St}(hr':r'.things=r.things++[t])(hv:bS r.things.length v):eX r' v=eX r v:=by
 unfold eX
 rw[hr']
 split
 ·rename_i hk
  have hn:v.n.toNat < r.things.length:=by
   rcases hv with⟨k,_⟩|⟨k,_⟩|⟨k,_⟩|⟨k,h1,h2⟩<;>omega
  simp only[j1,List.getElem?_append_left hn]
 ·rfl
variable {t a b n g:Int}
theorem Kg (K:StepCtx V F c x r ⟨11,t,a,b,n,g⟩):dl V F c x r ins ⟨11,t,a,b,n,g⟩:=by
 have he:ft r ⟨11,t,a,b,n,g⟩=if r.things.length=100 then 5 else 0:=DU _
 refine⟨λh=>by rw[he] at h;split at h<;>omega,λh=>by rw[he] at h;split at h<;>omega,λh0 hr'=> ?_⟩
 have hb:=(bn K.hi).2.1 rfl
 simp only at hb
 obtain⟨k,hk⟩:=j7 hb.1
 obtain⟨p,hp⟩:=j7 K.hr.at0
 have hvl:=K.hr.vars
 have hxl:=K.hx.vars
 have hes:aA ⟨11,t,a,b,n,g⟩ r.at_ x=([⟨r.at_+1,bd (fg r.at_ x) t ⟨false,⟨true,0,0⟩,false,false,[r.at_]⟩⟩],false,false):=by
  simp[aA,K.hx.none,aQ,aB,aW]
 rw[hes]
 refine⟨_,j9.2 rfl,rfl,?_⟩
 simp only
 rw[D7] at hr' ⊢
 have hst:bQ c r.at_=true:=(lU hr' (t:=⟨r.at_,q3 F.toNat ⟨0,0⟩⟩) (by simp)).2.2
 have hnx:=K.hx.newPic K.hr.at0 hst
 have hg:aC c ⟨false,⟨true,0,0⟩,false,false,[r.at_]⟩=0:=ckGs_iff.2 ⟨dw,λy hy=>by rw[j9.1 hy];exact hst,rfl⟩
 refine mg (hnx.setVar _ hg) hr' (λj hj=> ?_) (λq hq f hf=> ?_)
 ·have hj':j < r.vars.length:=by simpa using hj
  rw[hk,so (by show j < x.vars.length;omega)]
  have ev:dI {r with vars:=r.vars.set t.toNat ⟨3,r.things.length⟩,things:=r.things++[⟨r.at_,q3 F.toNat ⟨0,0⟩⟩]} (j:Int)=dI (dg r (k:Int) ⟨3,r.things.length⟩) (j:Int):=by rw[hk];rfl
  rw[hk] at ev
  rw[ev,uk hj']
  by_cases e:k=j
  ·rw[if_pos e,if_pos e]
   simp[bO,dB,eX]
  ·rw[if_neg e,if_neg e,Cr]
   have ho:bS r.things.length (dI r (j:Int)):=by rw[gT hj'];exact K.hr.vals _ (gM _)
   rw[fO (r':=r) (sU rfl ho)]
   exact i6 K.hx K.hr K.h hj'
 ·rw[Bi]
  by_cases hqt:q < r.things.length
  ·have eq:(r.things++[(⟨r.at_,q3 F.toNat ⟨0,0⟩⟩:Thg)])[q]'(by simpa using hq)=r.things[q]:=List.getElem_append_left hqt
   simp only[eq] at hf ⊢
   obtain⟨s0,s1,-⟩:=lU K.hr (gM hqt)
   obtain⟨s,hs⟩:=j7 s0
   have hfl:=K.hx.flds
   have hsl:s < x.flds.length:=by omega
   have hrw:=K.hx.row s hsl
   have hff:=K.hr.fields _ (gM hqt)
   have ho:bS r.things.length r.things[q].fs[f]:=K.hr.fvals _ (gM hqt) _ (gM _)
   rw[fO (r':=r) (sU rfl ho)]
   have h1:=gG K.hx K.hr K.h hqt hf
   rw[hs] at h1 ⊢
   rw[hp,ru hsl (by omega)]
   split
   ·exact Dj h1
   ·exact h1
  ·have hq1:q=r.things.length:=by simp at hq;omega
   subst hq1
   have eq:(r.things++[(⟨r.at_,q3 F.toNat ⟨0,0⟩⟩:Thg)])[r.things.length]'(by simp)=⟨r.at_,q3 F.toNat ⟨0,0⟩⟩:=by simp
   simp only[eq,List.length_replicate,List.getElem_replicate] at hf ⊢
   have hfl:=K.hx.flds
   have hsr:=(dt hst).2
   have hsl:p < x.flds.length:=by omega
   have hrw:=K.hx.row p hsl
   rw[hp,ru hsl (by omega),if_pos rfl]
   rfl
theorem wZ (h60:c.length≤60)(hx:PicOk V F c x)(n:Int):∀(l:List Int) (g0:Gs),aC c g0=0→cB g0 (l.foldl (λg s=>ae false g (fAt x s n)) g0)=true∧∀s∈l,cB (fAt x s n) (l.foldl (λg s=>ae false g (fAt x s n)) g0)=true
 |[],g0,h=>⟨kA h,λs hs=>by simp at hs⟩
 |q::l,g0,h=>by
  have hq:=gd hx q n
  have hj:=gY (w:=false) h hq
  obtain⟨a1,a2⟩:=wZ h60 hx n l _ hj
  obtain⟨b1,b2⟩:=kM (w:=false) h60 h hq
  rw[q5]
  refine⟨gi h hj b1 a1,λs hs=> ?_⟩
  rcases j5.1 hs with rfl|hs
  ·exact gi hq hj b2 a1
  ·exact a2 s hs
theorem pn {T:Nat}{v:Val}(h:bS T v)(hk:v.k=3):0≤v.n∧v.n.toNat < T:=by
 rcases h with⟨k,_⟩|⟨k,_⟩|⟨k,_⟩|⟨k,h1,h2⟩<;>omega
theorem IZ (K:StepCtx V F c x r ⟨12,t,a,b,n,g⟩):dl V F c x r ins ⟨12,t,a,b,n,g⟩:=by
 obtain⟨h1,h2,h3⟩:=K.a rfl
 have hb:=(bn K.hi).2.2.2.2.1 (.inl rfl)
 simp only at hb h1 h2 h3
 have he:ft r ⟨12,t,a,b,n,g⟩=if (aOf r ⟨12,t,a,b,n,g⟩).k=3 then 0 else 2:=th _ 12 (.inl rfl)
 generalize hA:aOf r ⟨12,t,a,b,n,g⟩=A at *
 have hes:aA ⟨12,t,a,b,n,g⟩ r.at_ x=if aB (fq x n (gAt x a).s) then([],bI (gAt x a),false) else([⟨r.at_+1,bd x t (fq x n (gAt x a).s)⟩],bI (gAt x a),false):=by
  simp[aA,K.hx.none,aQ]
 by_cases hk:A.k=3
 ·rw[if_pos hk] at he
  refine eR he λ_=> ?_
  obtain⟨q0,q1⟩:=pn h2 hk
  obtain⟨f,hf⟩:=j7 hb.1
  have hff:=K.hr.fields _ (gM q1)
  have hfl:f < r.things[A.n.toNat].fs.length:=by omega
  have hfa:iE r A.n n=r.things[A.n.toNat].fs[f]:=by unfold iE;simp[j1,q1,hf,hfl]
  have hs:r.things[A.n.toNat].site∈(gAt x a).s:=by
   have:=sZ hk h1
   simpa[j1,q1] using this
  have h4:=gG K.hx K.hr K.h q1 hfl
  rw[←hf] at h4
  have hin:=(wZ K.hp.len K.hx n (gAt x a).s bX rfl).2 _ hs
  have hgk:=pQ K.hx n (gAt x a).s
  refine dW K rfl (by simp) (v:=iE r A.n n) (g:=fq x n (gAt x a).s) (wr:=bI (gAt x a)) hes rfl ⟨by rw[hA];rfl,rfl⟩ hgk ?_ ?_
  ·rw[hfa]
   unfold bO at h4 ⊢
   exact lV hin (fQ (gd K.hx _ _)) h4
  ·rw[hfa]
   exact K.hr.fvals _ (gM q1) _ (gM _)
 ·rw[if_neg hk] at he
  refine⟨λ_=> ?_,λh=>by omega,λh=>by omega⟩
  rw[hes]
  have:=nV h2 h1 hk
  split<;>exact this
theorem BZ {p q s f:Nat}{y:Gs}(hs:s < x.flds.length)(hf:f < x.flds[s].length):fAt (gH x (p:Int) (q:Int) y) (s:Int) (f:Int)=if p=s∧q=f then y else fAt x (s:Int) (f:Int):=by
 unfold fAt gH
 simp only[q4,j1,J5]
 by_cases e:p=s
 ·subst e
  by_cases e2:q=f
  ·subst e2
   simp[hs,hf]
  ·simp[hs,hf,e2,z0]
 ·simp[e]
theorem uz (h60:c.length≤60){y:Gs}(hy:aC c y=0){q:Nat}:∀(l:List Int) {x:Pic},PicOk V F c x→(∀s∈l,bQ c s=true)→∀{s f:Nat} (hs:s < x.flds.length) (hf:f < x.flds[s].length),cB (fAt x (s:Int) (f:Int)) (fAt (cN x (q:Int) y l) (s:Int) (f:Int))=true∧(f=q→(s:Int)∈l→cB y (fAt (cN x (q:Int) y l) (s:Int) (f:Int))=true)
 |[],x,hx,_,s,f,hs,hf=>⟨kA (gd hx _ _),λ_ h=>by simp at h⟩
 |p::l,x,hx,hl,s,f,hs,hf=>by
  have hp:=hl p (by simp)
  obtain⟨p0,p1⟩:=dt hp
  obtain⟨m,hm⟩:=j7 p0
  have hj:=gY (w:=false) (gd hx p (q:Int)) hy
  have hx':=hx.setFld p (q:Int) p0 hp hj
  have e:cN x (q:Int) y (p::l)=cN (gH x p (q:Int) (ae false (fAt x p (q:Int)) y)) (q:Int) y l:=rfl
  have hs':s < (gH x p (q:Int) (ae false (fAt x p (q:Int)) y)).flds.length:=by simpa[gH] using hs
  have hr1:=hx.row s hs
  have hr2:=hx'.row s hs'
  obtain⟨a1,a2⟩:=uz h60 hy (q:=q) l hx' (λz hz=>hl z (by simp[hz])) hs' (f:=f) (by omega)
  obtain⟨b1,b2⟩:=kM (w:=false) h60 (gd hx p (q:Int)) hy
  rw[e]
  rw[hm] at a1 a2 b1 b2 hj hx' ⊢
  rw[BZ hs hf] at a1
  by_cases ee:m=s∧q=f
  ·rw[if_pos ee] at a1
   obtain⟨rfl,rfl⟩:=ee
   refine⟨gi (gd hx _ _) hj b1 a1,λ_ _=>gi hy hj b2 a1⟩
  ·rw[if_neg ee] at a1
   refine⟨a1,λhfq hmem=>a2 hfq ?_⟩
   rcases j5.1 hmem with h|h
   ·exact absurd ⟨by omega,hfq.symm⟩ ee
   ·exact h
theorem rE (n:Int)(y:Gs)(k:Int):∀(l:List Int) (x:Pic),gAt (cN x n y l) k=gAt x k
 |[],_=>rfl
 |s::l,x=>(rE n y k l _).trans rfl
theorem Ka (K:StepCtx V F c x r ⟨13,t,a,b,n,g⟩):dl V F c x r ins ⟨13,t,a,b,n,g⟩:=by
 obtain⟨h1,h2,h3⟩:=K.a rfl
 obtain⟨g1,g2,g3⟩:=K.b rfl
 have hb:=(bn K.hi).2.2.2.2.1 (.inr rfl)
 simp only at hb h1 h2 h3 g1 g2 g3
 have he:ft r ⟨13,t,a,b,n,g⟩=if (aOf r ⟨13,t,a,b,n,g⟩).k=3 then 0 else 2:=th _ 13 (.inr rfl)
 generalize hA:aOf r ⟨13,t,a,b,n,g⟩=A at *
 generalize hC:bOf r ⟨13,t,a,b,n,g⟩=C at *
 have hes:aA ⟨13,t,a,b,n,g⟩ r.at_ x=if (gAt x a).s.length=0 then([],bI (gAt x a),false) else([⟨r.at_+1,cN x n (gAt x b) (gAt x a).s⟩],bI (gAt x a),false):=by
  simp[aA,K.hx.none]
 by_cases hk:A.k=3
 ·rw[if_pos hk] at he
  refine eR he λ_ hr'=> ?_
  rw[hA,hC,vI] at hr'
  obtain⟨q0,q1⟩:=pn h2 hk
  obtain⟨f,hf⟩:=j7 hb.1
  have hs:r.things[A.n.toNat].site∈(gAt x a).s:=by
   have:=sZ hk h1
   simpa[j1,q1] using this
  have hne:(gAt x a).s.length≠0:=λe=>by rw[x6.1 e] at hs;simp at hs
  have hsi:∀s∈(gAt x a).s,bQ c s=true:=(ckGs_iff.1 h3).2.1
  have hpk:=nS K.hx n g3 (gAt x a).s hsi
  rw[hes,if_neg hne]
  refine⟨_,j9.2 rfl,rfl,?_⟩
  simp only
  rw[hA,hC,vI]
  have hst:∀v,eX (bT r A.n n C) v=eX r v:=λv=>Cl λk=>by
   unfold bT
   simp only[j1,J5]
   cases hh:r.things[k]? with
   |none=>simp
   |some z=>simp;split<;>rfl
  refine mg hpk hr' (λj hj=> ?_) (λq hq e' hf'=> ?_)
  ·rw[fO (r':=r) (hst _),rE]
   exact i6 K.hx K.hr K.h hj
  ·rw[fO (r':=r) (hst _)]
   have hq':q < r.things.length:=by simpa[bT] using hq
   have eth:(bT r A.n n C).things[q]=if A.n.toNat=q then {r.things[q] with fs:=r.things[q].fs.set n.toNat C} else r.things[q]:=by
    simp[bT,List.getElem_modify]
   have esite:(bT r A.n n C).things[q].site=r.things[q].site:=by rw[eth];split<;>rfl
   obtain⟨s0,s1,-⟩:=lU K.hr (gM hq')
   obtain⟨s,hsn⟩:=j7 s0
   have hfl:=K.hx.flds
   have hsl:s < x.flds.length:=by omega
   have hrw:=K.hx.row s hsl
   have hff:=K.hr.fields _ (gM hq')
   have hlen:(bT r A.n n C).things[q].fs.length=r.things[q].fs.length:=by rw[eth];split<;>simp
   have hf2:e' < r.things[q].fs.length:=by omega
   have hfx:e' < x.flds[s].length:=by omega
   rw[esite,hsn]
   have hin:=uz K.hp.len (q:=f) g3 (gAt x a).s K.hx hsi hsl hfx
   rw[←hf] at hin
   by_cases hqa:A.n.toNat=q
   ·have ev:(bT r A.n n C).things[q].fs[e']=if f=e' then C else r.things[q].fs[e']:=by
     have:∀(z:Thg) (hz:(bT r A.n n C).things[q]=z) (h':e' < z.fs.length),(bT r A.n n C).things[q].fs[e']=z.fs[e']:=by intro z hz h';subst hz;rfl
     rw[this {r.things[q] with fs:=r.things[q].fs.set n.toNat C} (by rw[eth,if_pos hqa]) (by simpa using hf2)]
     simp only[hf,q4,List.getElem_set]
    rw[ev]
    split
    ·rename_i hfe
     subst hqa
     have hm:(s:Int)∈(gAt x a).s:=by rw[←hsn];exact hs
     unfold bO at g1 ⊢
     exact lV (hin.2 hfe.symm hm) (fQ g3) g1
    ·have h4:=gG K.hx K.hr K.h hq' hf2
     rw[hsn] at h4
     unfold bO at h4 ⊢
     exact lV hin.1 (fQ (gd K.hx _ _)) h4
   ·have ev:(bT r A.n n C).things[q].fs[e']=r.things[q].fs[e']:=by
     have:∀(z:Thg) (hz:(bT r A.n n C).things[q]=z) (h':e' < z.fs.length),(bT r A.n n C).things[q].fs[e']=z.fs[e']:=by intro z hz h';subst hz;rfl
     exact this r.things[q] (by rw[eth,if_neg hqa]) hf2
    rw[ev]
    have h4:=gG K.hx K.hr K.h hq' hf2
    rw[hsn] at h4
    unfold bO at h4 ⊢
    exact lV hin.1 (fQ (gd K.hx _ _)) h4
 ·rw[if_neg hk] at he
  refine⟨λ_=> ?_,λh=>by omega,λh=>by omega⟩
  rw[hes]
  have:=nV h2 h1 hk
  split<;>exact this
theorem my (K:StepCtx V F c x r i)(hA:nA i.k=true){y:Gs}(hy:aC c y=0)(h:bO r y (aOf r i)=true):b9 (bd x i.a y) r=true:=by
 have hb:=(bn K.hi).2.2.1 hA
 obtain⟨k,hk⟩:=j7 hb.1
 have hvl:=K.hr.vars
 have hkl:k < r.vars.length:=by omega
 have ea:aOf r i=dI r (k:Int):=by unfold aOf;rw[if_pos hA,hk]
 have e:dg r (k:Int) (dI r (k:Int))=r:=by
  unfold dg
  rw[gT hkl]
  simp
 have:=uj K.hx K.hr K.h (j:=k) (g:=y) (v:=dI r (k:Int)) hkl hy (by rw[←ea];exact h) (by rw[e];exact K.hr)
 rw[e] at this
 rw[hk]
 exact this
theorem Kl (K:StepCtx V F c x r ⟨15,t,a,b,n,g⟩):dl V F c x r ins ⟨15,t,a,b,n,g⟩:=by
 obtain⟨h1,h2,h3⟩:=K.a rfl
 obtain⟨q1,q2⟩:=mI h2 h1
 refine eR (cq _ 15 (by omega)) λ_ _=> ?_
 rw[gX 15 (by omega)]
 have hes:(aA ⟨15,t,a,b,n,g⟩ r.at_ x).1=(if ca (gAt x a) then [⟨g,bd x a (cW (gAt x a))⟩] else [])++(if cT (gAt x a) then [⟨r.at_+1,bd x a (da (gAt x a))⟩] else []):=by
  simp[aA,K.hx.none]
 rw[hes]
 cases hc:cnt (aOf r ⟨15,t,a,b,n,g⟩) with
 |true=>
  obtain⟨y1,y2⟩:=q1 hc
  have y1':ca (gAt x a)=true:=y1
  refine⟨_,List.mem_append_left _ (by rw[y1'];exact j9.2 rfl),by simp[de,hc],?_⟩
  exact my K rfl (lf h3) y2
 |false=>
  obtain⟨y1,y2⟩:=q2 hc
  have y1':cT (gAt x a)=true:=y1
  refine⟨_,List.mem_append_right _ (by rw[y1'];exact j9.2 rfl),by simp[de,hc],?_⟩
  exact my K rfl (sD h3) y2
theorem IW (K:StepCtx V F c x r ⟨16,t,a,b,n,g⟩):dl V F c x r ins ⟨16,t,a,b,n,g⟩:=by
 refine eR (cq _ 16 (by omega)) λ_ _=> ?_
 rw[gX 16 (by omega)]
 have hes:(aA ⟨16,t,a,b,n,g⟩ r.at_ x).1=[⟨g,x⟩]:=by simp[aA,K.hx.none]
 rw[hes]
 exact⟨_,j9.2 rfl,by simp[de],K.h⟩
theorem Kk (K:StepCtx V F c x r ⟨17,t,a,b,n,g⟩):dl V F c x r ins ⟨17,t,a,b,n,g⟩:=by
 obtain⟨h1,h2,h3⟩:=K.a rfl
 obtain⟨q1,q2⟩:=mI h2 h1
 have he:ft r ⟨17,t,a,b,n,g⟩=if cnt (aOf r ⟨17,t,a,b,n,g⟩)=true then 0 else 3:=DO _
 have hes:aA ⟨17,t,a,b,n,g⟩ r.at_ x=((if ca (gAt x a) then [⟨r.at_+1,bd x a (cW (gAt x a))⟩] else []),false,cT (gAt x a)):=by simp[aA,K.hx.none]
 unfold dl
 rw[gX 17 (by omega),hes]
 cases hc:cnt (aOf r ⟨17,t,a,b,n,g⟩) with
 |true=>
  rw[hc,if_pos rfl] at he
  obtain⟨y1,y2⟩:=q1 hc
  have y1':ca (gAt x a)=true:=y1
  refine⟨λh=>by omega,λh=>by omega,λ_ _=>⟨_,by simp only;rw[y1'];exact j9.2 rfl,by simp[de],my K rfl (lf h3) y2⟩⟩
 |false=>
  rw[hc] at he
  simp only[q6,if_false] at he
  exact⟨λh=>by omega,λ_=>(q2 hc).1,λh=>by omega⟩
theorem Kp (K:StepCtx V F c x r ⟨18,t,a,b,n,g⟩):dl V F c x r ins ⟨18,t,a,b,n,g⟩:=by
 refine eR (cq _ 18 (by omega)) λ_ _=> ?_
 rw[Da]
 have hes:(aA ⟨18,t,a,b,n,g⟩ r.at_ x).1=[⟨r.at_+1,x⟩]:=by simp[aA,K.hx.none]
 rw[hes]
 exact⟨_,j9.2 rfl,by simp[de],Eq.trans (kK (r:=r) (by rfl) (by rfl)) K.h⟩
theorem Kf:dl V F c x r ins ⟨19,t,a,b,n,g⟩:=by
 have he:ft r ⟨19,t,a,b,n,g⟩=1:=Dl _
 exact⟨λh=>by omega,λh=>by omega,λh=>by omega⟩
theorem Cg (K:StepCtx V F c x r i):dl V F c x r ins i:=by
 have hk:=(bn K.hi).1
 obtain⟨k,t,a,b,n,g⟩:=i
 unfold btw at hk
 simp only[j4,decide_eq_true_eq] at hk
 have h19:k=1∨k=2∨k=3∨k=4∨(k=5∨k=6∨k=7)∨k=8∨k=9∨k=10∨k=11∨k=12∨k=13∨k=14∨k=15∨k=16∨k=17∨k=18∨k=19:=by omega
 rcases h19 with rfl|rfl|rfl|rfl|h|rfl|rfl|rfl|rfl|rfl|rfl|rfl|rfl|rfl|rfl|rfl|rfl
 ·exact KL K
 ·exact KN K
 ·exact KK K
 ·exact KI K
 ·exact Ik h K
 ·exact KO K
 ·exact KT K
 ·exact Kn K
 ·exact Kg K
 ·exact IZ K
 ·exact Ka K
 ·exact Ko K
 ·exact Kl K
 ·exact IW K
 ·exact Kk K
 ·exact Kp K
 ·exact Kf
end
section
variable {V F:Int} {c:List Ins} {l:List Pic} {r:St} {ins:List Int}
def g9 (l:List Pic)(r:St):Prop:=b9 (aU l r.at_) r=true
theorem rD {x:Pic}(h:b9 x r=true):x.none=false:=by
 cases e:x.none with
 |false=>rfl
 |true=>simp[b9,e] at h
theorem AF (h0:ai V F c=0)(hl:XsOk V F c l)(hs:∀i,i < c.length→eD c l i)(hr:RunOk V F c r)(htk:r.taken < 9223372036854775807)(h:g9 l r):g9 l (bp F c ins r)∧(r.fin=0→(bp F c ins r).fin=2→(bp F c ins r).at_=r.at_∧r.at_ < c.length∧(aA (aO c r.at_) r.at_ (aU l r.at_)).2.1=true)∧(r.fin=0→(bp F c ins r).fin=3→(bp F c ins r).at_=r.at_∧r.at_ < c.length∧(aA (aO c r.at_) r.at_ (aU l r.at_)).2.2=true):=by
 have hok:=nv ins (bK h0) hr htk
 have hxn:=rD h
 have hx:=bY (hl.at r.at_) hxn
 have ha0:=hr.at0
 have ha1:=hr.at1
 rw[ie] at hok ⊢
 split
 ·exact⟨h,λh2=>by contradiction,λh2=>by contradiction⟩
 rename_i hfin
 rw[if_neg hfin] at hok
 split
 ·refine⟨h,λ_ h2=>by simp at h2,λ_ h2=>by simp at h2⟩
 rename_i hat
 rw[if_neg hat] at hok
 have hlt:r.at_ < c.length:=by omega
 have K:StepCtx V F c (aU l r.at_) r (aO c r.at_):=⟨bK h0,hx,hr,(bK h0).each _ (hU ha0 hlt),h⟩
 obtain⟨s1,s2,s3⟩:=Cg (ins:=ins) K
 split
 ·refine⟨h,λ_ h2=>⟨rfl,hlt,s1 h2⟩,λ_ h2=>⟨rfl,hlt,s2 h2⟩⟩
 ·rename_i hend
  have hend':ft r (aO c r.at_)=0:=Decidable.not_not.1 hend
  rw[if_neg hend] at hok
  have hrf:RunOk V F c (bV F ins r (aO c r.at_) (aOf r (aO c r.at_)) (bOf r (aO c r.at_))):=by
   refine⟨?_,?_,hok.tk,hok.fin0,hok.fin5,hok.vars,hok.things,hok.sites,hok.fields,hok.vals,hok.fvals⟩
   ·rw[pF];exact ha0
   ·rw[pF];exact ha1
  obtain⟨e,he,e1,e2⟩:=s3 hend' hrf
  have hfe:(bV F ins r (aO c r.at_) (aOf r (aO c r.at_)) (bOf r (aO c r.at_))).fin=0:=by rw[ud];exact Decidable.not_not.1 hfin
  obtain⟨p,hp⟩:=j7 ha0
  have hpl:p < c.length:=by omega
  refine⟨?_,λ_ h2=> ?_,λ_ h2=> ?_⟩
  ·unfold g9
   rw[←e1]
   refine Eq.trans (kK (r:=bV F ins r (aO c r.at_) (aOf r (aO c r.at_)) (bOf r (aO c r.at_))) (by rfl) (by rfl)) ?_
   have hin:bw e.pic (aU l e.tgt)=true:=hs p hpl e (by unfold cS;rw[←hp];exact he)
   have hek:=im h0 (hl.at (p:Int)) hpl e (by unfold cS;rw[←hp];exact he)
   exact wR hek.1 (hl.at _) hin e2
  ·simp only at h2;omega
  ·simp only at h2;omega
theorem o0 (h0:ai V F c=0)(hl:XsOk V F c l)(hs:∀i,i < c.length→eD c l i):∀{n:Nat} {r:St},RunOk V F c r→r.taken+n < 9223372036854775807→g9 l r→RunOk V F c (stepsSt F c ins n r).1∧g9 l (stepsSt F c ins n r).1∧(r.fin=0→(stepsSt F c ins n r).1.fin=2→(stepsSt F c ins n r).1.at_ < c.length∧(aA (aO c (stepsSt F c ins n r).1.at_) (stepsSt F c ins n r).1.at_ (aU l (stepsSt F c ins n r).1.at_)).2.1=true)∧(r.fin=0→(stepsSt F c ins n r).1.fin=3→(stepsSt F c ins n r).1.at_ < c.length∧(aA (aO c (stepsSt F c ins n r).1.at_) (stepsSt F c ins n r).1.at_ (aU l (stepsSt F c ins n r).1.at_)).2.2=true)
 |0,r,hr,_,h=>⟨hr,h,λa b=>by simp only[stepsSt] at b;omega,λa b=>by simp only[stepsSt] at b;omega⟩
 |n+1,r,hr,ht,h=>by
  by_cases hf:r.fin=0
  ·rw[rq hf]
   have htk:r.taken < 9223372036854775807:=by omega
   obtain⟨a1,a2,a3⟩:=AF (ins:=ins) h0 hl hs hr htk h
   have hr1:=nv ins (bK h0) hr htk
   have ht1:=nu F c ins r hr.tk htk
   obtain⟨b0,b1,b2,b3⟩:=o0 h0 hl hs (n:=n) hr1 (by omega) a1
   refine⟨b0,b1,λ_ h2=> ?_,λ_ h3=> ?_⟩
   ·by_cases hf1:(bp F c ins r).fin=0
    ·exact b2 hf1 h2
    ·rw[fW (.inr hf1)] at h2 ⊢
     obtain⟨c1,c2,c3⟩:=a2 hf h2
     simp only
     rw[c1]
     exact⟨c2,c3⟩
   ·by_cases hf1:(bp F c ins r).fin=0
    ·exact b3 hf1 h3
    ·rw[fW (.inr hf1)] at h3 ⊢
     obtain⟨c1,c2,c3⟩:=a3 hf h3
     simp only
     rw[c1]
     exact⟨c2,c3⟩
  ·rw[fW (.inr hf)]
   exact⟨hr,h,λa=>absurd a hf,λa=>absurd a hf⟩
theorem yU (h0:ai V F c=0)(hl:XsOk V F c l)(hi:bw (cH V F c) (aU l 0)=true):g9 l (bj V):=by
 refine wR (lJ h0).ck (hl.at 0) hi ?_
 refine mg (lJ h0) (mc (bK h0)) (λk hk=> ?_) (λq hq=> ?_)
 ·have hk':k < V.toNat:=by simpa[bj] using hk
  have e1:gAt (cH V F c) (k:Int)=iw:=by unfold gAt cH;simp[j1,hk']
  have e2:dI (bj V) (k:Int)=⟨0,0⟩:=by unfold dI bj;simp[j1,hk']
  rw[e1,e2]
  rfl
 ·simp[bj] at hq
theorem CC (h0:ai V F c=0)(hl:XsOk V F c l)(hf:vC V F c l=true){fuel:Nat}(hfu:(fuel:Int) < 9223372036854775807):RunOk V F c (bE V F c ins fuel).1∧g9 l (bE V F c ins fuel).1∧((bE V F c ins fuel).1.fin=2→(bE V F c ins fuel).1.at_ < c.length∧(aA (aO c (bE V F c ins fuel).1.at_) (bE V F c ins fuel).1.at_ (aU l (bE V F c ins fuel).1.at_)).2.1=true)∧((bE V F c ins fuel).1.fin=3→(bE V F c ins fuel).1.at_ < c.length∧(aA (aO c (bE V F c ins fuel).1.at_) (bE V F c ins fuel).1.at_ (aU l (bE V F c ins fuel).1.at_)).2.2=true):=by
 obtain⟨hi,hs⟩:=fitsX_iff.1 hf
 have hb:=mc (c:=c) (F:=F) (bK h0)
 have ht:(bj V).taken=0:=rfl
 obtain⟨b0,b1,b2,b3⟩:=o0 (ins:=ins) h0 hl hs (n:=fuel) hb (by rw[ht];omega) (yU h0 hl hi)
 have hb0:(bj V).fin=0:=rfl
 unfold bE
 simp only
 split
 ·rename_i h4
  refine⟨⟨b0.at0,b0.at1,b0.tk,by simp,by simp,b0.vars,b0.things,b0.sites,b0.fields,b0.vals,b0.fvals⟩,?_,λh=>by simp at h,λh=>by simp at h⟩
  unfold g9 at b1 ⊢
  exact Eq.trans (kK (r:=(stepsSt F c ins fuel (bj V)).1) (by rfl) (by rfl)) b1
 ·exact⟨b0,b1,b2 hb0,b3 hb0⟩
end
end
section
open Go.RowKit
attribute [local go_sem ↓] Go.wp_at_zero Go.wp_at_succ
theorem oM (n:Int):wr (wrap64 n)=wr n:=by unfold wr wrap64;omega
theorem pN (n:Int):wr (IntKind.i64.wrap n)=wr n:=by
 have:IntKind.i64.wrap n=wrap64 n:=by simp[wrap64,IntKind.wrap_i64]
 rw[this,oM]
def iG (k:Int)(a b:Val):Val:=if k=5 then⟨1,wr (a.n+b.n)⟩ else if k=6 then⟨1,wr (a.n - b.n)⟩ else if k=7 then⟨1,wr (a.n * b.n)⟩ else b8 (decide (a.n < b.n))
def gq (a b:Val):Int:=if (decide (a.k≠1)||decide (b.k≠1))=true then 2 else 0
def fB (s:St)(t:Nat)(k:Int)(a b:Val):St:=if (decide (a.k≠1)||decide (b.k≠1))=true then s else {s with vars:=s.vars.set t (iG k a b)}
theorem kE {a b:Val}(h1:a.k=1)(h2:b.k=1)(s:St)(t:Nat)(k:Int):gq a b=0∧fB s t k a b={s with vars:=s.vars.set t (iG k a b)}:=by simp[gq,fB,h1,h2]
theorem lq {a b:Val}(h:a.k≠1∨b.k≠1)(s:St)(t:Nat)(k:Int):gq a b=2∧fB s t k a b=s:=by
 rcases h with h|h<;>simp[gq,fB,h]
theorem kn (m B t x y:Nat)(s:St)(vv tv lv:Value)(fv:List Value)(k n g:Int)(w:World)(h:OwnRun w B m s vv tv lv fv)(hB:B≤w.heap.size)(ht:t < s.vars.length)(hx:x < s.vars.length)(hy:y < s.vars.length)(hk:k=5∨k=6∨k=7∨k=8):
  Calls pG 147 #[Pp (sO ⟨m,0,nO⟩),Ag #[I Y k,I Y t,I Y x,I Y y,I Y n,I Y g]] w λe w'=>e=Rt (I Y (gq s.vars[x] s.vars[y]))∧MStep w w' B m (ag m vv tv lv fv) (fB s t k s.vars[x] s.vars[y]):=by
 have hm:m < w.heap.size:=h.lt (by simp[ag])
 have z1:m < w.heap.size+1:=by omega
 obtain⟨gb,cap,rfl,hg1,hg2,hcell,hfz⟩:=h.form (by omega)
 have am:m≠gb:=h.vars_apart rfl m (by simp)
 have q1:=h.vars_
 have z2:gb < w.heap.size+1:=by omega
 obtain⟨kt0,kt1⟩:=hcell t ht
 have nt0:(0:Int)≤(t:Int):=by omega
 have nt1:(t:Int) < (s.vars.length:Int):=by omega
 obtain⟨kx0,kx1⟩:=hcell x hx
 have nx0:(0:Int)≤(x:Int):=by omega
 have nx1:(x:Int) < (s.vars.length:Int):=by omega
 obtain⟨ky0,ky1⟩:=hcell y hy
 have ny0:(0:Int)≤(y:Int):=by omega
 have ny1:(y:Int) < (s.vars.length:Int):=by omega
 have f0:=hfz (t * 2)
 have f1:=hfz (t * 2+1)
 have K1:∀wx,Below (w.heap.size+1) (w.alloc (Cc #[I Y k,I Y t,I Y x,I Y y,I Y n,I Y g] 100)) wx→wx.cell? ⟨m,1,nO⟩=sO (U (sO ⟨gb,0,nO⟩) s.vars.length cap)∧wx.cell? ⟨w.heap.size,2,nO⟩=sO (I Y x)∧wx.cell? ⟨w.heap.size,3,nO⟩=sO (I Y y)∧wx.cell? ⟨gb,x * 2,nO⟩=sO (I Y s.vars[x].k)∧wx.cell? ⟨gb,x * 2+1,nO⟩=sO (I Y s.vars[x].n)∧wx.cell? ⟨gb,y * 2,nO⟩=sO (I Y s.vars[y].k)∧wx.cell? ⟨gb,y * 2+1,nO⟩=sO (I Y s.vars[y].n):=by
  intro wx hb
  rw[hb.cell (by simpa using z1),hb.cell (by simp),hb.cell (by simp),hb.cell (by simpa using z2),hb.cell (by simpa using z2),hb.cell (by simpa using z2),hb.cell (by simpa using z2)]
  simp[go_sem,hm,q1,hg2,kx0,kx1,ky0,ky1]
 clear hcell hfz
 go_enter Tryz.func147,Tryz.ntmps147
 go_upto_region 1 with fail
 go_cut [5,6] (λp5 p6 wy=>∃ba bb,p5=Pp (sO ⟨ba,0,nO⟩)∧p6=Pp (sO ⟨bb,0,nO⟩)∧VAt wy ba s.vars[x]∧VAt wy bb s.vars[y]∧w.heap.size+1≤ba∧w.heap.size+1≤bb∧Below (w.heap.size+1) (w.alloc (Cc #[I Y k,I Y t,I Y x,I Y y,I Y n,I Y g] 100)) wy)
 case first=>
  rename_i J1 K1' hJ1 hK1
  refine au (S:=(λwx=>wx.cell? ⟨m,1,nO⟩=sO (U (sO ⟨gb,0,nO⟩) s.vars.length cap)∧wx.cell? ⟨w.heap.size,2,nO⟩=sO (I Y x)∧wx.cell? ⟨w.heap.size,3,nO⟩=sO (I Y y)∧wx.cell? ⟨gb,x * 2,nO⟩=sO (I Y s.vars[x].k)∧wx.cell? ⟨gb,x * 2+1,nO⟩=sO (I Y s.vars[x].n)∧wx.cell? ⟨gb,y * 2,nO⟩=sO (I Y s.vars[y].k)∧wx.cell? ⟨gb,y * 2+1,nO⟩=sO (I Y s.vars[y].n))) [] (by kernel_rfl) (K1 _ (bR _ _).drew) (λhHeld=> ?_)
  have HB0:Below (w.heap.size+1) (w.alloc (Cc #[I Y k,I Y t,I Y x,I Y y,I Y n,I Y g] 100)) (w.alloc (Cc #[I Y k,I Y t,I Y x,I Y y,I Y n,I Y g] 100)).drew:=(bR _ _).drew
  have hz0:(w.alloc (Cc #[I Y k,I Y t,I Y x,I Y y,I Y n,I Y g] 100)).drew.heap.size=w.heap.size+1:=by simp
  generalize (w.alloc (Cc #[I Y k,I Y t,I Y x,I Y y,I Y n,I Y g] 100)).drew=wq at *
  refine vZ 0 ?_ ?_
  refine vZ 1 ?_ ?_
  refine vZ 2 ?_ ?_
  refine vZ 3 ?_ ?_
  refine vZ 4 ?_ ?_
  refine vZ 5 ?_ ?_
  refine vZ 6 ?_ ?_
  refine vZ 7 ?_ ?_
  refine vZ 8 ?_ ?_
  refine vZ 9 ?_ ?_
  refine vZ 10 ?_ ?_
  refine vZ 11 ?_ ?_
  refine vZ 12 ?_ ?_
  refine vZ 13 ?_ ?_
  refine vZ 14 ?_ ?_
  refine vZ 15 ?_ ?_
  refine vZ 16 ?_ ?_
  refine vZ 17 ?_ ?_
  refine mS (i:=18) (j:=19) rfl rfl (by kernel_rfl) (λK hK=> ?_) (λK hK=> ?_)
  ·go_simp
   have HB1:Below (w.heap.size+1) (w.alloc (Cc #[I Y k,I Y t,I Y x,I Y y,I Y n,I Y g] 100)) (wq.alloc (Cc #[I Y 0,I Y 0] 82)):=HB0.alloc (by have:=HB0.size;simpa using this) _
   have V1:=VAt.new wq ⟨0,0⟩
   have hz1:(wq.alloc (Cc #[I Y 0,I Y 0] 82)).heap.size=w.heap.size+1+1:=by simp[hz0]
   rw[hz0] at V1
   refine hK.out _ _ (K1 _ HB1) (λhHeld=> ?_)
   clear hK K
   (try simp only[stp,j0])
   (try rw[hz0])
   simp only at V1
   generalize wq.alloc (Cc #[I Y 0,I Y 0] 82)=wa at *
   refine an (i:=19) rfl (by kernel_rfl) (λK hK=> ?_)
   go_simp
   have HB2:Below (w.heap.size+1) (w.alloc (Cc #[I Y k,I Y t,I Y x,I Y y,I Y n,I Y g] 100)) (wa.alloc (Cc #[I Y 0,I Y 0] 82)):=HB1.alloc (by have:=HB1.size;simpa using this) _
   have V2:=VAt.new wa ⟨0,0⟩
   have V1b:=V1.call (w':=wa.alloc (Cc #[I Y 0,I Y 0] 82)) (by go_grown)
   have hz2:(wa.alloc (Cc #[I Y 0,I Y 0] 82)).heap.size=w.heap.size+1+1+1:=by simp[hz1]
   rw[hz1] at V2
   refine hK.out _ _ (K1 _ HB2) (λhHeld=> ?_)
   clear hK K V1
   (try simp only[stp,j0])
   (try rw[hz1])
   simp only at V2
   generalize wa.alloc (Cc #[I Y 0,I Y 0] 82)=wb at *
   obtain⟨⟨a0,a1⟩,az,af⟩:=id V1b
   have af0:=af 0
   have af1:=af 1
   refine an (i:=20) rfl (by kernel_rfl) (λK hK=> ?_)
   go_simp
   have HB3:Below (w.heap.size+1) (w.alloc (Cc #[I Y k,I Y t,I Y x,I Y y,I Y n,I Y g] 100)) ((wb.setCell ⟨w.heap.size+1,0,nO⟩ (I Y s.vars[x].k)).setCell ⟨w.heap.size+1,1,nO⟩ (I Y s.vars[x].n)):=(HB2.setCell (by simp) _).setCell (by simp) _
   have VA3:=V1b.put s.vars[x]
   have VB3:=(V2.set (a:=⟨w.heap.size+1,0,nO⟩) (by simp) (I Y s.vars[x].k)).set (a:=⟨w.heap.size+1,1,nO⟩) (by simp) (I Y s.vars[x].n)
   refine hK.out _ _ (K1 _ HB3) (λhHeld=> ?_)
   clear hK K a0 a1 az af af0 af1 V1b V2
   (try simp only[stp,j0])
   generalize (wb.setCell ⟨w.heap.size+1,0,nO⟩ (I Y s.vars[x].k)).setCell ⟨w.heap.size+1,1,nO⟩ (I Y s.vars[x].n)=wd at *
   obtain⟨⟨a0,a1⟩,az,af⟩:=id VB3
   have af0:=af 0
   have af1:=af 1
   refine an (i:=21) rfl (by kernel_rfl) (λK hK=> ?_)
   go_simp
   have HB4:Below (w.heap.size+1) (w.alloc (Cc #[I Y k,I Y t,I Y x,I Y y,I Y n,I Y g] 100)) ((wd.setCell ⟨w.heap.size+1+1,0,nO⟩ (I Y s.vars[y].k)).setCell ⟨w.heap.size+1+1,1,nO⟩ (I Y s.vars[y].n)):=(HB3.setCell (by simp) _).setCell (by simp) _
   have VB4:=VB3.put s.vars[y]
   have VA4:=(VA3.set (a:=⟨w.heap.size+1+1,0,nO⟩) (by simp) (I Y s.vars[y].k)).set (a:=⟨w.heap.size+1+1,1,nO⟩) (by simp) (I Y s.vars[y].n)
   refine hK.out _ _ (K1 _ HB4) (λhHeld=> ?_)
   clear hK K
   (try simp only[stp,j0])
   refine aq (by kernel_rfl) ?_ _
   refine hK1 _ _ (Met.intro (hJ1 _ _ ?_))
   (repeat apply Exists.intro)
   refine⟨?_,rfl⟩
   exact⟨w.heap.size+1,w.heap.size+1+1,rfl,rfl,VA4,VB4,by omega,by omega,HB4⟩
  ·go_simp
   have HB1:Below (w.heap.size+1) (w.alloc (Cc #[I Y k,I Y t,I Y x,I Y y,I Y n,I Y g] 100)) (wq.alloc (Cc #[I Y 0,I Y 0] 82)):=HB0.alloc (by have:=HB0.size;simpa using this) _
   have V1:=VAt.new wq ⟨0,0⟩
   have hz1:(wq.alloc (Cc #[I Y 0,I Y 0] 82)).heap.size=w.heap.size+1+1:=by simp[hz0]
   rw[hz0] at V1
   refine hK.out _ _ (K1 _ HB1) (λhHeld=> ?_)
   clear hK K
   (try simp only[stp,j0])
   (try rw[hz0])
   simp only at V1
   generalize wq.alloc (Cc #[I Y 0,I Y 0] 82)=wa at *
   refine an (i:=18) rfl (by kernel_rfl) (λK hK=> ?_)
   go_simp
   have HB2:Below (w.heap.size+1) (w.alloc (Cc #[I Y k,I Y t,I Y x,I Y y,I Y n,I Y g] 100)) (wa.alloc (Cc #[I Y 0,I Y 0] 82)):=HB1.alloc (by have:=HB1.size;simpa using this) _
   have V2:=VAt.new wa ⟨0,0⟩
   have V1b:=V1.call (w':=wa.alloc (Cc #[I Y 0,I Y 0] 82)) (by go_grown)
   have hz2:(wa.alloc (Cc #[I Y 0,I Y 0] 82)).heap.size=w.heap.size+1+1+1:=by simp[hz1]
   rw[hz1] at V2
   refine hK.out _ _ (K1 _ HB2) (λhHeld=> ?_)
   clear hK K V1
   (try simp only[stp,j0])
   (try rw[hz1])
   simp only at V2
   generalize wa.alloc (Cc #[I Y 0,I Y 0] 82)=wb at *
   obtain⟨⟨a0,a1⟩,az,af⟩:=id V2
   have af0:=af 0
   have af1:=af 1
   refine an (i:=20) rfl (by kernel_rfl) (λK hK=> ?_)
   go_simp
   have HB3:Below (w.heap.size+1) (w.alloc (Cc #[I Y k,I Y t,I Y x,I Y y,I Y n,I Y g] 100)) ((wb.setCell ⟨w.heap.size+1+1,0,nO⟩ (I Y s.vars[x].k)).setCell ⟨w.heap.size+1+1,1,nO⟩ (I Y s.vars[x].n)):=(HB2.setCell (by simp) _).setCell (by simp) _
   have VA3:=V2.put s.vars[x]
   have VB3:=(V1b.set (a:=⟨w.heap.size+1+1,0,nO⟩) (by simp) (I Y s.vars[x].k)).set (a:=⟨w.heap.size+1+1,1,nO⟩) (by simp) (I Y s.vars[x].n)
   refine hK.out _ _ (K1 _ HB3) (λhHeld=> ?_)
   clear hK K a0 a1 az af af0 af1 V1b V2
   (try simp only[stp,j0])
   generalize (wb.setCell ⟨w.heap.size+1+1,0,nO⟩ (I Y s.vars[x].k)).setCell ⟨w.heap.size+1+1,1,nO⟩ (I Y s.vars[x].n)=wd at *
   obtain⟨⟨a0,a1⟩,az,af⟩:=id VB3
   have af0:=af 0
   have af1:=af 1
   refine an (i:=21) rfl (by kernel_rfl) (λK hK=> ?_)
   go_simp
   have HB4:Below (w.heap.size+1) (w.alloc (Cc #[I Y k,I Y t,I Y x,I Y y,I Y n,I Y g] 100)) ((wd.setCell ⟨w.heap.size+1,0,nO⟩ (I Y s.vars[y].k)).setCell ⟨w.heap.size+1,1,nO⟩ (I Y s.vars[y].n)):=(HB3.setCell (by simp) _).setCell (by simp) _
   have VB4:=VB3.put s.vars[y]
   have VA4:=(VA3.set (a:=⟨w.heap.size+1,0,nO⟩) (by simp) (I Y s.vars[y].k)).set (a:=⟨w.heap.size+1,1,nO⟩) (by simp) (I Y s.vars[y].n)
   refine hK.out _ _ (K1 _ HB4) (λhHeld=> ?_)
   clear hK K
   (try simp only[stp,j0])
   refine aq (by kernel_rfl) ?_ _
   refine hK1 _ _ (Met.intro (hJ1 _ _ ?_))
   (repeat apply Exists.intro)
   refine⟨?_,rfl⟩
   exact⟨w.heap.size+1+1,w.heap.size+1,rfl,rfl,VA4,VB4,by omega,by omega,HB4⟩
 obtain⟨ba,bb,rfl,rfl,VA,VB,hba,hbb,HBc⟩:=hcut
 have hzc:w.heap.size+1≤wc.heap.size:=by have:=HBc.size;simpa using this
 have c0:wc.cell? ⟨w.heap.size,0,nO⟩=sO (I Y k):=by rw[HBc.cell (by simp)];simp[go_sem]
 have c1:wc.cell? ⟨m,1,nO⟩=sO (U (sO ⟨gb,0,nO⟩) s.vars.length cap):=(K1 _ HBc).1
 have c2:wc.cell? ⟨w.heap.size,1,nO⟩=sO (I Y t):=by rw[HBc.cell (by simp)];simp[go_sem]
 have va0:=VA.1.1
 have vb0:=VB.1.1
 clear K1
 by_cases a1:s.vars[x].k=1
 ·by_cases b1:s.vars[y].k=1
  ·rw[a1] at va0
   rw[b1] at vb0
   rcases hk with rfl|rfl|rfl|rfl
   ·have KZ:∀wx,Below wc.heap.size wc wx→wx.cell? ⟨m,1,nO⟩=sO (U (sO ⟨gb,0,nO⟩) s.vars.length cap)∧wx.cell? ⟨w.heap.size,1,nO⟩=sO (I Y t)∧wx.cell? ⟨ba,1,nO⟩=sO (I Y s.vars[x].n)∧wx.cell? ⟨bb,1,nO⟩=sO (I Y s.vars[y].n):=λwx hx=>⟨by rw[hx.cell (by simp;omega)];exact c1,by rw[hx.cell (by simp;omega)];exact c2,by rw[hx.cell (by simpa using VA.2.1)];exact VA.1.2,by rw[hx.cell (by simpa using VB.2.1)];exact VB.1.2⟩
    go_wp2
    refine au (S:=(λwx=>wx.cell? ⟨m,1,nO⟩=sO (U (sO ⟨gb,0,nO⟩) s.vars.length cap)∧wx.cell? ⟨w.heap.size,1,nO⟩=sO (I Y t)∧wx.cell? ⟨ba,1,nO⟩=sO (I Y s.vars[x].n)∧wx.cell? ⟨bb,1,nO⟩=sO (I Y s.vars[y].n))) [14] (by kernel_rfl) (KZ _ (bR _ _).drew) (λhHeld=> ?_)
    refine vZ 0 ?_ ?_
    refine vZ 1 ?_ ?_
    refine vZ 2 ?_ ?_
    refine vZ 3 ?_ ?_
    refine vZ 4 ?_ ?_
    refine vZ 5 ?_ ?_
    refine vZ 6 ?_ ?_
    refine vZ 7 ?_ ?_
    refine vZ 8 ?_ ?_
    refine vZ 9 ?_ ?_
    refine vZ 10 ?_ ?_
    refine vZ 11 ?_ ?_
    refine an (i:=12) rfl (by kernel_rfl) (λK hK=> ?_)
    go_simp
    go_at_call 145
    refine(gh _ _).mono ?_
    rintro e w1 ⟨rfl,hb1⟩
    simp only[oM,pN]
    have HB1:Below wc.heap.size wc w1:=Below.trans (bR _ _).drew hb1
    go_wp2_with fail
    refine hK.out _ _ (KZ _ HB1) (λhHeld=> ?_)
    clear hK K
    (try simp only[stp,j0])
    refine vZ 13 ?_ ?_
    refine aL (i:=14) rfl (by kernel_rfl) (by kernel_rfl) (λK hK=> ?_)
    have HW:Below w.heap.size w w1:=Below.trans (by go_grown) (((HBc.trans (HB1.mono (by omega)))).mono (j3 _))
    have oL:=h.below HW
    have c0:w1.cell? ⟨gb,t * 2,nO⟩=sO (I Y s.vars[t].k):=by rw[HW.cell (by simpa using hg2)];exact kt0
    have c1':w1.cell? ⟨gb,t * 2+1,nO⟩=sO (I Y s.vars[t].n):=by rw[HW.cell (by simpa using hg2)];exact kt1
    have d0:w1.frozen? ⟨gb,t * 2,nO⟩=false:=by rw[HW.frozen (by simpa using hg2)];exact f0
    have d1:w1.frozen? ⟨gb,t * 2+1,nO⟩=false:=by rw[HW.frozen (by simpa using hg2)];exact f1
    go_simp
    refine hK.out _ _ ?_
    clear hK K
    (try simp only[stp,j0])
    refine aq (by kernel_rfl) ?_ _
    go_wp2
    go_ret
    have HY:=kE a1 b1 s t 5
    rw[show iG 5 s.vars[x] s.vars[y]=⟨1,wr (s.vars[x].n+s.vars[y].n)⟩ from rfl] at HY
    rw[HY.1,HY.2]
    refine⟨rfl,?_⟩
    exact⟨⟨_,_,_,_,oL.put t ht ⟨1,wr (s.vars[x].n+s.vars[y].n)⟩⟩,((HW.mono hB).setCell hg1 _).setCell hg1 _,λj _=>by rw[cY _ _ _ _ _ _ _ _ am];exact HW.cell hm,cZ HW (by simp[ag,j8]) _ _ _ _⟩
   ·have KZ:∀wx,Below wc.heap.size wc wx→wx.cell? ⟨m,1,nO⟩=sO (U (sO ⟨gb,0,nO⟩) s.vars.length cap)∧wx.cell? ⟨w.heap.size,1,nO⟩=sO (I Y t)∧wx.cell? ⟨ba,1,nO⟩=sO (I Y s.vars[x].n)∧wx.cell? ⟨bb,1,nO⟩=sO (I Y s.vars[y].n):=λwx hx=>⟨by rw[hx.cell (by simp;omega)];exact c1,by rw[hx.cell (by simp;omega)];exact c2,by rw[hx.cell (by simpa using VA.2.1)];exact VA.1.2,by rw[hx.cell (by simpa using VB.2.1)];exact VB.1.2⟩
    go_wp2
    refine au (S:=(λwx=>wx.cell? ⟨m,1,nO⟩=sO (U (sO ⟨gb,0,nO⟩) s.vars.length cap)∧wx.cell? ⟨w.heap.size,1,nO⟩=sO (I Y t)∧wx.cell? ⟨ba,1,nO⟩=sO (I Y s.vars[x].n)∧wx.cell? ⟨bb,1,nO⟩=sO (I Y s.vars[y].n))) [14] (by kernel_rfl) (KZ _ (bR _ _).drew) (λhHeld=> ?_)
    refine vZ 0 ?_ ?_
    refine vZ 1 ?_ ?_
    refine vZ 2 ?_ ?_
    refine vZ 3 ?_ ?_
    refine vZ 4 ?_ ?_
    refine vZ 5 ?_ ?_
    refine vZ 6 ?_ ?_
    refine vZ 7 ?_ ?_
    refine vZ 8 ?_ ?_
    refine vZ 9 ?_ ?_
    refine vZ 10 ?_ ?_
    refine vZ 11 ?_ ?_
    refine an (i:=12) rfl (by kernel_rfl) (λK hK=> ?_)
    go_simp
    go_at_call 145
    refine(gh _ _).mono ?_
    rintro e w1 ⟨rfl,hb1⟩
    simp only[oM,pN]
    have HB1:Below wc.heap.size wc w1:=Below.trans (bR _ _).drew hb1
    go_wp2_with fail
    refine hK.out _ _ (KZ _ HB1) (λhHeld=> ?_)
    clear hK K
    (try simp only[stp,j0])
    refine vZ 13 ?_ ?_
    refine aL (i:=14) rfl (by kernel_rfl) (by kernel_rfl) (λK hK=> ?_)
    have HW:Below w.heap.size w w1:=Below.trans (by go_grown) (((HBc.trans (HB1.mono (by omega)))).mono (j3 _))
    have oL:=h.below HW
    have c0:w1.cell? ⟨gb,t * 2,nO⟩=sO (I Y s.vars[t].k):=by rw[HW.cell (by simpa using hg2)];exact kt0
    have c1':w1.cell? ⟨gb,t * 2+1,nO⟩=sO (I Y s.vars[t].n):=by rw[HW.cell (by simpa using hg2)];exact kt1
    have d0:w1.frozen? ⟨gb,t * 2,nO⟩=false:=by rw[HW.frozen (by simpa using hg2)];exact f0
    have d1:w1.frozen? ⟨gb,t * 2+1,nO⟩=false:=by rw[HW.frozen (by simpa using hg2)];exact f1
    go_simp
    refine hK.out _ _ ?_
    clear hK K
    (try simp only[stp,j0])
    refine aq (by kernel_rfl) ?_ _
    go_wp2
    go_ret
    have HY:=kE a1 b1 s t 6
    rw[show iG 6 s.vars[x] s.vars[y]=⟨1,wr (s.vars[x].n - s.vars[y].n)⟩ from rfl] at HY
    rw[HY.1,HY.2]
    refine⟨rfl,?_⟩
    exact⟨⟨_,_,_,_,oL.put t ht ⟨1,wr (s.vars[x].n - s.vars[y].n)⟩⟩,((HW.mono hB).setCell hg1 _).setCell hg1 _,λj _=>by rw[cY _ _ _ _ _ _ _ _ am];exact HW.cell hm,cZ HW (by simp[ag,j8]) _ _ _ _⟩
   ·have KZ:∀wx,Below wc.heap.size wc wx→wx.cell? ⟨m,1,nO⟩=sO (U (sO ⟨gb,0,nO⟩) s.vars.length cap)∧wx.cell? ⟨w.heap.size,1,nO⟩=sO (I Y t)∧wx.cell? ⟨ba,1,nO⟩=sO (I Y s.vars[x].n)∧wx.cell? ⟨bb,1,nO⟩=sO (I Y s.vars[y].n):=λwx hx=>⟨by rw[hx.cell (by simp;omega)];exact c1,by rw[hx.cell (by simp;omega)];exact c2,by rw[hx.cell (by simpa using VA.2.1)];exact VA.1.2,by rw[hx.cell (by simpa using VB.2.1)];exact VB.1.2⟩
    go_wp2
    refine au (S:=(λwx=>wx.cell? ⟨m,1,nO⟩=sO (U (sO ⟨gb,0,nO⟩) s.vars.length cap)∧wx.cell? ⟨w.heap.size,1,nO⟩=sO (I Y t)∧wx.cell? ⟨ba,1,nO⟩=sO (I Y s.vars[x].n)∧wx.cell? ⟨bb,1,nO⟩=sO (I Y s.vars[y].n))) [14] (by kernel_rfl) (KZ _ (bR _ _).drew) (λhHeld=> ?_)
    refine vZ 0 ?_ ?_
    refine vZ 1 ?_ ?_
    refine vZ 2 ?_ ?_
    refine vZ 3 ?_ ?_
    refine vZ 4 ?_ ?_
    refine vZ 5 ?_ ?_
    refine vZ 6 ?_ ?_
    refine vZ 7 ?_ ?_
    refine vZ 8 ?_ ?_
    refine vZ 9 ?_ ?_
    refine vZ 10 ?_ ?_
    refine vZ 11 ?_ ?_
    refine an (i:=12) rfl (by kernel_rfl) (λK hK=> ?_)
    go_simp
    go_at_call 145
    refine(gh _ _).mono ?_
    rintro e w1 ⟨rfl,hb1⟩
    simp only[oM,pN]
    have HB1:Below wc.heap.size wc w1:=Below.trans (bR _ _).drew hb1
    go_wp2_with fail
    refine hK.out _ _ (KZ _ HB1) (λhHeld=> ?_)
    clear hK K
    (try simp only[stp,j0])
    refine vZ 13 ?_ ?_
    refine aL (i:=14) rfl (by kernel_rfl) (by kernel_rfl) (λK hK=> ?_)
    have HW:Below w.heap.size w w1:=Below.trans (by go_grown) (((HBc.trans (HB1.mono (by omega)))).mono (j3 _))
    have oL:=h.below HW
    have c0:w1.cell? ⟨gb,t * 2,nO⟩=sO (I Y s.vars[t].k):=by rw[HW.cell (by simpa using hg2)];exact kt0
    have c1':w1.cell? ⟨gb,t * 2+1,nO⟩=sO (I Y s.vars[t].n):=by rw[HW.cell (by simpa using hg2)];exact kt1
    have d0:w1.frozen? ⟨gb,t * 2,nO⟩=false:=by rw[HW.frozen (by simpa using hg2)];exact f0
    have d1:w1.frozen? ⟨gb,t * 2+1,nO⟩=false:=by rw[HW.frozen (by simpa using hg2)];exact f1
    go_simp
    refine hK.out _ _ ?_
    clear hK K
    (try simp only[stp,j0])
    refine aq (by kernel_rfl) ?_ _
    go_wp2
    go_ret
    have HY:=kE a1 b1 s t 7
    rw[show iG 7 s.vars[x] s.vars[y]=⟨1,wr (s.vars[x].n * s.vars[y].n)⟩ from rfl] at HY
    rw[HY.1,HY.2]
    refine⟨rfl,?_⟩
    exact⟨⟨_,_,_,_,oL.put t ht ⟨1,wr (s.vars[x].n * s.vars[y].n)⟩⟩,((HW.mono hB).setCell hg1 _).setCell hg1 _,λj _=>by rw[cY _ _ _ _ _ _ _ _ am];exact HW.cell hm,cZ HW (by simp[ag,j8]) _ _ _ _⟩
   ·have KZ:∀wx,Below wc.heap.size wc wx→wx.cell? ⟨m,1,nO⟩=sO (U (sO ⟨gb,0,nO⟩) s.vars.length cap)∧wx.cell? ⟨w.heap.size,1,nO⟩=sO (I Y t)∧wx.cell? ⟨ba,1,nO⟩=sO (I Y s.vars[x].n)∧wx.cell? ⟨bb,1,nO⟩=sO (I Y s.vars[y].n):=λwx hx=>⟨by rw[hx.cell (by simp;omega)];exact c1,by rw[hx.cell (by simp;omega)];exact c2,by rw[hx.cell (by simpa using VA.2.1)];exact VA.1.2,by rw[hx.cell (by simpa using VB.2.1)];exact VB.1.2⟩
    go_wp2
    refine au (S:=(λwx=>wx.cell? ⟨m,1,nO⟩=sO (U (sO ⟨gb,0,nO⟩) s.vars.length cap)∧wx.cell? ⟨w.heap.size,1,nO⟩=sO (I Y t)∧wx.cell? ⟨ba,1,nO⟩=sO (I Y s.vars[x].n)∧wx.cell? ⟨bb,1,nO⟩=sO (I Y s.vars[y].n))) [14] (by kernel_rfl) (KZ _ (bR _ _).drew) (λhHeld=> ?_)
    refine vZ 0 ?_ ?_
    refine vZ 1 ?_ ?_
    refine vZ 2 ?_ ?_
    refine vZ 3 ?_ ?_
    refine vZ 4 ?_ ?_
    refine vZ 5 ?_ ?_
    refine vZ 6 ?_ ?_
    refine vZ 7 ?_ ?_
    refine vZ 8 ?_ ?_
    refine vZ 9 ?_ ?_
    refine vZ 10 ?_ ?_
    refine iS (i:=11) (v:=Bb (decide (s.vars[x].n < s.vars[y].n))) rfl (by kernel_rfl) (by kernel_rfl) (by kernel_rfl) (λ_ _ _ h=>h) (Or.inl ⟨?_,?_⟩) (by assumption) ?_
    ·rfl
    ·intro w hSw
     (try dsimp only at hSw)
     go_simp
    (try simp only[stp,j0])
    refine an (i:=12) rfl (by kernel_rfl) (λK hK=> ?_)
    go_simp
    go_at_call 146
    refine(cP _ _).mono ?_
    rintro e w1 ⟨rfl,hb1⟩

    have HB1:Below wc.heap.size wc w1:=Below.trans (bR _ _).drew hb1
    go_wp2_with fail
    refine hK.out _ _ (KZ _ HB1) (λhHeld=> ?_)
    clear hK K
    (try simp only[stp,j0])
    refine vZ 13 ?_ ?_
    refine aL (i:=14) rfl (by kernel_rfl) (by kernel_rfl) (λK hK=> ?_)
    have HW:Below w.heap.size w w1:=Below.trans (by go_grown) (((HBc.trans (HB1.mono (by omega)))).mono (j3 _))
    have oL:=h.below HW
    have c0:w1.cell? ⟨gb,t * 2,nO⟩=sO (I Y s.vars[t].k):=by rw[HW.cell (by simpa using hg2)];exact kt0
    have c1':w1.cell? ⟨gb,t * 2+1,nO⟩=sO (I Y s.vars[t].n):=by rw[HW.cell (by simpa using hg2)];exact kt1
    have d0:w1.frozen? ⟨gb,t * 2,nO⟩=false:=by rw[HW.frozen (by simpa using hg2)];exact f0
    have d1:w1.frozen? ⟨gb,t * 2+1,nO⟩=false:=by rw[HW.frozen (by simpa using hg2)];exact f1
    go_simp
    refine hK.out _ _ ?_
    clear hK K
    (try simp only[stp,j0])
    refine aq (by kernel_rfl) ?_ _
    go_wp2
    go_ret
    have HY:=kE a1 b1 s t 8
    rw[show iG 8 s.vars[x] s.vars[y]=(b8 (decide (s.vars[x].n < s.vars[y].n))) from rfl] at HY
    rw[HY.1,HY.2]
    refine⟨rfl,?_⟩
    exact⟨⟨_,_,_,_,oL.put t ht (b8 (decide (s.vars[x].n < s.vars[y].n)))⟩,((HW.mono hB).setCell hg1 _).setCell hg1 _,λj _=>by rw[cY _ _ _ _ _ _ _ _ am];exact HW.cell hm,cZ HW (by simp[ag,j8]) _ _ _ _⟩
  ·have b1':(s.vars[y].k !=1)=true:=by simpa using b1
   rw[a1] at va0
   have HX:=aF (And.intro (h.below (Below.trans (by go_grown) (HBc.mono (j3 _)):Below w.heap.size w wc)) (Below.trans (by go_grown) (HBc.mono (j3 _)):Below w.heap.size w wc))
   clear h
   go_wp2
   go_ret
   rw[(lq (.inr b1) s t k).1,(lq (.inr b1) s t k).2]
   refine⟨rfl,?_⟩
   exact⟨⟨_,_,_,_,HX.out.1⟩,HX.out.2.mono hB,λj _=>HX.out.2.cell hm,cJ HX.out.2⟩
 ·have a1':(s.vars[x].k !=1)=true:=by simpa using a1
  have HX:=aF (And.intro (h.below (Below.trans (by go_grown) (HBc.mono (j3 _)):Below w.heap.size w wc)) (Below.trans (by go_grown) (HBc.mono (j3 _)):Below w.heap.size w wc))
  clear h
  go_wp2
  go_ret
  rw[(lq (.inl a1) s t k).1,(lq (.inl a1) s t k).2]
  refine⟨rfl,?_⟩
  exact⟨⟨_,_,_,_,HX.out.1⟩,HX.out.2.mono hB,λj _=>HX.out.2.cell hm,cJ HX.out.2⟩
theorem pB (m B x:Nat)(s:St)(vv tv lv:Value)(fv:List Value)(k t b n g:Int)(w:World)(h:OwnRun w B m s vv tv lv fv)(hB:B≤w.heap.size)(hx:x < s.vars.length)(hv:s.vars[x].k≠3):
  Calls pG 150 #[Pp (sO ⟨m,0,nO⟩),Ag #[I Y k,I Y t,I Y x,I Y b,I Y n,I Y g]] w λe w'=>e=Rt (I Y 2)∧MStep w w' B m (ag m vv tv lv fv) s:=by
 have hm:m < w.heap.size:=h.lt (by simp[ag])
 have z1:m < w.heap.size+1:=by omega
 obtain⟨gb,cap,rfl,hg1,hg2,hcell,hfz⟩:=h.form (by omega)
 have am:m≠gb:=h.vars_apart rfl m (by simp)
 have q1:=h.vars_
 have z2:gb < w.heap.size+1:=by omega
 obtain⟨kx0,kx1⟩:=hcell x hx
 have nx0:(0:Int)≤(x:Int):=by omega
 have nx1:(x:Int) < (s.vars.length:Int):=by omega
 have K1:∀wx,Below (w.heap.size+1) (w.alloc (Cc #[I Y k,I Y t,I Y x,I Y b,I Y n,I Y g] 100)) wx→wx.cell? ⟨m,1,nO⟩=sO (U (sO ⟨gb,0,nO⟩) s.vars.length cap)∧wx.cell? ⟨w.heap.size,2,nO⟩=sO (I Y x)∧wx.cell? ⟨gb,x * 2,nO⟩=sO (I Y s.vars[x].k)∧wx.cell? ⟨gb,x * 2+1,nO⟩=sO (I Y s.vars[x].n):=by
  intro wx hb
  rw[hb.cell (by simpa using z1),hb.cell (by simp),hb.cell (by simpa using z2),hb.cell (by simpa using z2)]
  simp[go_sem,hm,q1,hg2,kx0,kx1]
 clear hcell hfz
 go_enter Tryz.func150,Tryz.ntmps150
 go_wp2
 have HB0:Below (w.heap.size+1) (w.alloc (Cc #[I Y k,I Y t,I Y x,I Y b,I Y n,I Y g] 100)) (w.alloc (Cc #[I Y k,I Y t,I Y x,I Y b,I Y n,I Y g] 100)).drew:=(bR _ _).drew
 have hz0:(w.alloc (Cc #[I Y k,I Y t,I Y x,I Y b,I Y n,I Y g] 100)).drew.heap.size=w.heap.size+1:=by simp
 refine au (S:=(λwx=>wx.cell? ⟨m,1,nO⟩=sO (U (sO ⟨gb,0,nO⟩) s.vars.length cap)∧wx.cell? ⟨w.heap.size,2,nO⟩=sO (I Y x)∧wx.cell? ⟨gb,x * 2,nO⟩=sO (I Y s.vars[x].k)∧wx.cell? ⟨gb,x * 2+1,nO⟩=sO (I Y s.vars[x].n))) [] (by kernel_rfl) (K1 _ (bR _ _).drew) (λhHeld=> ?_)
 refine vZ 0 ?_ ?_
 refine vZ 1 ?_ ?_
 refine vZ 2 ?_ ?_
 refine vZ 3 ?_ ?_
 refine vZ 4 ?_ ?_
 refine vZ 5 ?_ ?_
 refine vZ 6 ?_ ?_
 refine vZ 7 ?_ ?_
 refine vZ 8 ?_ ?_
 refine an (i:=9) rfl (by kernel_rfl) (λK hK=> ?_)
 generalize (w.alloc (Cc #[I Y k,I Y t,I Y x,I Y b,I Y n,I Y g] 100)).drew=wq at *
 go_simp
 have HB1:Below (w.heap.size+1) (w.alloc (Cc #[I Y k,I Y t,I Y x,I Y b,I Y n,I Y g] 100)) (wq.alloc (Cc #[I Y 0,I Y 0] 82)):=HB0.alloc (by have:=HB0.size;simpa using this) _
 have V1:=VAt.new wq ⟨0,0⟩
 rw[hz0] at V1
 refine hK.out _ _ (K1 _ HB1) (λhHeld=> ?_)
 clear hK K
 (try simp only[stp,j0])
 (try rw[hz0])
 simp only at V1
 generalize wq.alloc (Cc #[I Y 0,I Y 0] 82)=wa at *
 refine an (i:=10) rfl (by kernel_rfl) (λK hK=> ?_)
 obtain⟨⟨a0,a1⟩,az,af⟩:=id V1
 have af0:=af 0
 have af1:=af 1
 go_simp
 have HB3:Below (w.heap.size+1) (w.alloc (Cc #[I Y k,I Y t,I Y x,I Y b,I Y n,I Y g] 100)) ((wa.setCell ⟨w.heap.size+1,0,nO⟩ (I Y s.vars[x].k)).setCell ⟨w.heap.size+1,1,nO⟩ (I Y s.vars[x].n)):=(HB1.setCell (by simp) _).setCell (by simp) _
 have VA:=V1.put s.vars[x]
 refine hK.out _ _ (K1 _ HB3) (λhHeld=> ?_)
 clear hK K a0 a1 az af af0 af1 V1
 (try simp only[stp,j0])
 generalize (wa.setCell ⟨w.heap.size+1,0,nO⟩ (I Y s.vars[x].k)).setCell ⟨w.heap.size+1,1,nO⟩ (I Y s.vars[x].n)=wd at *
 refine aq (by kernel_rfl) ?_ _
 have hzd:w.heap.size+1≤wd.heap.size:=by have:=HB3.size;simpa using this
 have va0:=VA.1.1
 have va1:=VA.1.2
 have HW:Below w.heap.size w wd:=Below.trans (by go_grown) (HB3.mono (j3 _))
 clear hHeld
 have a1':(s.vars[x].k !=3)=true:=by simpa using hv
 have HX:=aF (And.intro (h.below HW) HW)
 clear h
 go_wp2
 go_ret
 exact⟨rfl,⟨_,_,_,_,HX.out.1⟩,HX.out.2.mono hB,λj _=>HX.out.2.cell hm,cJ HX.out.2⟩

theorem CG (m B x q f t:Nat)(s:St)(vv tv lv:Value)(fv:List Value)(b g:Int)(w:World)(h:OwnRun w B m s vv tv lv fv)(hB:B≤w.heap.size)(hx:x < s.vars.length)(hv:s.vars[x]=⟨3,(q:Int)⟩)(hq:q < s.things.length)(hf:f < s.things[q].fs.length)(ht:t < s.vars.length):
  Calls pG 150 #[Pp (sO ⟨m,0,nO⟩),Ag #[I Y 12,I Y t,I Y x,I Y b,I Y f,I Y g]] w λe w'=>e=Rt (I Y 0)∧MStep w w' B m (ag m vv tv lv fv) {s with vars:=s.vars.set t s.things[q].fs[f]}:=by
 have hm:m < w.heap.size:=h.lt (by simp[ag])
 have z1:m < w.heap.size+1:=by omega
 obtain⟨gb,cap,rfl,hg1,hg2,hcell,hfz⟩:=h.form (by omega)
 have am:m≠gb:=h.vars_apart rfl m (by simp)
 have q1:=h.vars_
 have z2:gb < w.heap.size+1:=by omega
 obtain⟨kx0,kx1⟩:=hcell x hx
 have nx0:(0:Int)≤(x:Int):=by omega
 have nx1:(x:Int) < (s.vars.length:Int):=by omega
 obtain⟨gt,tc,etv,hgt,th0,th1,hgtB⟩:=h.thing hq
 obtain⟨gf,fc,efv,hgf,fd0,fd1,ffz,hgfB⟩:=h.field hq hf
 rw[efv] at th1
 have q2:=h.things_
 rw[etv] at q2
 have nq0:(0:Int)≤(q:Int):=by omega
 have nq1:(q:Int) < (s.things.length:Int):=by omega
 have nf0:(0:Int)≤(f:Int):=by omega
 have nf1:(f:Int) < (s.things[q].fs.length:Int):=by omega
 have HV:=aF hv
 clear hv
 obtain⟨kt0,kt1⟩:=hcell t ht
 have nt0:(0:Int)≤(t:Int):=by omega
 have nt1:(t:Int) < (s.vars.length:Int):=by omega
 have f0:=hfz (t * 2)
 have f1:=hfz (t * 2+1)
 have K1:∀wx,Below (w.heap.size+1) (w.alloc (Cc #[I Y 12,I Y t,I Y x,I Y b,I Y f,I Y g] 100)) wx→wx.cell? ⟨m,1,nO⟩=sO (U (sO ⟨gb,0,nO⟩) s.vars.length cap)∧wx.cell? ⟨w.heap.size,2,nO⟩=sO (I Y x)∧wx.cell? ⟨gb,x * 2,nO⟩=sO (I Y s.vars[x].k)∧wx.cell? ⟨gb,x * 2+1,nO⟩=sO (I Y s.vars[x].n):=by
  intro wx hb
  rw[hb.cell (by simpa using z1),hb.cell (by simp),hb.cell (by simpa using z2),hb.cell (by simpa using z2)]
  simp[go_sem,hm,q1,hg2,kx0,kx1]
 clear hcell hfz
 go_enter Tryz.func150,Tryz.ntmps150
 go_wp2
 have HB0:Below (w.heap.size+1) (w.alloc (Cc #[I Y 12,I Y t,I Y x,I Y b,I Y f,I Y g] 100)) (w.alloc (Cc #[I Y 12,I Y t,I Y x,I Y b,I Y f,I Y g] 100)).drew:=(bR _ _).drew
 have hz0:(w.alloc (Cc #[I Y 12,I Y t,I Y x,I Y b,I Y f,I Y g] 100)).drew.heap.size=w.heap.size+1:=by simp
 refine au (S:=(λwx=>wx.cell? ⟨m,1,nO⟩=sO (U (sO ⟨gb,0,nO⟩) s.vars.length cap)∧wx.cell? ⟨w.heap.size,2,nO⟩=sO (I Y x)∧wx.cell? ⟨gb,x * 2,nO⟩=sO (I Y s.vars[x].k)∧wx.cell? ⟨gb,x * 2+1,nO⟩=sO (I Y s.vars[x].n))) [] (by kernel_rfl) (K1 _ (bR _ _).drew) (λhHeld=> ?_)
 refine vZ 0 ?_ ?_
 refine vZ 1 ?_ ?_
 refine vZ 2 ?_ ?_
 refine vZ 3 ?_ ?_
 refine vZ 4 ?_ ?_
 refine vZ 5 ?_ ?_
 refine vZ 6 ?_ ?_
 refine vZ 7 ?_ ?_
 refine vZ 8 ?_ ?_
 refine an (i:=9) rfl (by kernel_rfl) (λK hK=> ?_)
 generalize (w.alloc (Cc #[I Y 12,I Y t,I Y x,I Y b,I Y f,I Y g] 100)).drew=wq at *
 go_simp
 have HB1:Below (w.heap.size+1) (w.alloc (Cc #[I Y 12,I Y t,I Y x,I Y b,I Y f,I Y g] 100)) (wq.alloc (Cc #[I Y 0,I Y 0] 82)):=HB0.alloc (by have:=HB0.size;simpa using this) _
 have V1:=VAt.new wq ⟨0,0⟩
 rw[hz0] at V1
 refine hK.out _ _ (K1 _ HB1) (λhHeld=> ?_)
 clear hK K
 (try simp only[stp,j0])
 (try rw[hz0])
 simp only at V1
 generalize wq.alloc (Cc #[I Y 0,I Y 0] 82)=wa at *
 refine an (i:=10) rfl (by kernel_rfl) (λK hK=> ?_)
 obtain⟨⟨a0,a1⟩,az,af⟩:=id V1
 have af0:=af 0
 have af1:=af 1
 go_simp
 have HB3:Below (w.heap.size+1) (w.alloc (Cc #[I Y 12,I Y t,I Y x,I Y b,I Y f,I Y g] 100)) ((wa.setCell ⟨w.heap.size+1,0,nO⟩ (I Y s.vars[x].k)).setCell ⟨w.heap.size+1,1,nO⟩ (I Y s.vars[x].n)):=(HB1.setCell (by simp) _).setCell (by simp) _
 have VA:=V1.put s.vars[x]
 refine hK.out _ _ (K1 _ HB3) (λhHeld=> ?_)
 clear hK K a0 a1 az af af0 af1 V1
 (try simp only[stp,j0])
 generalize (wa.setCell ⟨w.heap.size+1,0,nO⟩ (I Y s.vars[x].k)).setCell ⟨w.heap.size+1,1,nO⟩ (I Y s.vars[x].n)=wd at *
 refine aq (by kernel_rfl) ?_ _
 have hzd:w.heap.size+1≤wd.heap.size:=by have:=HB3.size;simpa using this
 have va0:=VA.1.1
 have va1:=VA.1.2
 have HW:Below w.heap.size w wd:=Below.trans (by go_grown) (HB3.mono (j3 _))
 clear hHeld
 rw[HV.out] at va0 va1
 simp only at va0 va1
 have c4:wd.cell? ⟨w.heap.size,4,nO⟩=sO (I Y f):=by rw[HB3.cell (by simp)];simp[go_sem]
 have c0:wd.cell? ⟨w.heap.size,0,nO⟩=sO (I Y 12):=by rw[HB3.cell (by simp)];simp[go_sem]
 have KZ:∀wx,Below wd.heap.size wd wx→wx.cell? ⟨m,2,nO⟩=sO (U (sO ⟨gt,0,nO⟩) s.things.length tc)∧wx.cell? ⟨w.heap.size+1,1,nO⟩=sO (I Y q)∧wx.cell? ⟨gt,q * 2+1,nO⟩=sO (U (sO ⟨gf,0,nO⟩) s.things[q].fs.length fc)∧wx.cell? ⟨w.heap.size,4,nO⟩=sO (I Y f):=λwx hx=>⟨by rw[hx.cell (by simp;omega),HW.cell (by simpa using hm)];exact q2,by rw[hx.cell (by simpa using VA.2.1)];exact va1,by rw[hx.cell (by simp;omega),HW.cell (by simpa using hgt)];exact th1,by rw[hx.cell (by simp;omega)];exact c4⟩
 go_wp2
 refine au (S:=(λwx=>wx.cell? ⟨m,2,nO⟩=sO (U (sO ⟨gt,0,nO⟩) s.things.length tc)∧wx.cell? ⟨w.heap.size+1,1,nO⟩=sO (I Y q)∧wx.cell? ⟨gt,q * 2+1,nO⟩=sO (U (sO ⟨gf,0,nO⟩) s.things[q].fs.length fc)∧wx.cell? ⟨w.heap.size,4,nO⟩=sO (I Y f))) [] (by kernel_rfl) (KZ _ (bR _ _).drew) (λhHeld=> ?_)
 refine vZ 0 ?_ ?_
 refine vZ 1 ?_ ?_
 refine vZ 2 ?_ ?_
 refine vZ 3 ?_ ?_
 refine vZ 4 ?_ ?_
 refine vZ 5 ?_ ?_
 refine vZ 6 ?_ ?_
 refine vZ 7 ?_ ?_
 refine vZ 8 ?_ ?_
 refine vZ 9 ?_ ?_
 refine vZ 10 ?_ ?_
 refine vZ 11 ?_ ?_
 refine vZ 12 ?_ ?_
 refine vZ 13 ?_ ?_
 refine aq (by kernel_rfl) ?_ _
 have c1:wd.cell? ⟨w.heap.size,1,nO⟩=sO (I Y t):=by rw[HB3.cell (by simp)];simp[go_sem]
 have KY:∀wx,Below wd.heap.size wd wx→wx.cell? ⟨m,1,nO⟩=sO (U (sO ⟨gb,0,nO⟩) s.vars.length cap)∧wx.cell? ⟨w.heap.size,1,nO⟩=sO (I Y t)∧wx.cell? ⟨gf,f * 2,nO⟩=sO (I Y s.things[q].fs[f].k)∧wx.cell? ⟨gf,f * 2+1,nO⟩=sO (I Y s.things[q].fs[f].n):=λwx hx=>⟨by rw[hx.cell (by simp;omega),HW.cell (by simpa using hm)];exact q1,by rw[hx.cell (by simp;omega)];exact c1,by rw[hx.cell (by simp;omega),HW.cell (by simpa using hgf)];exact fd0,by rw[hx.cell (by simp;omega),HW.cell (by simpa using hgf)];exact fd1⟩
 go_wp2
 refine au (S:=(λwx=>wx.cell? ⟨m,1,nO⟩=sO (U (sO ⟨gb,0,nO⟩) s.vars.length cap)∧wx.cell? ⟨w.heap.size,1,nO⟩=sO (I Y t)∧wx.cell? ⟨gf,f * 2,nO⟩=sO (I Y s.things[q].fs[f].k)∧wx.cell? ⟨gf,f * 2+1,nO⟩=sO (I Y s.things[q].fs[f].n))) [11] (by kernel_rfl) (KY _ ((bR _ _).drew.drew)) (λhHeld=> ?_)
 refine vZ 0 ?_ ?_
 refine vZ 1 ?_ ?_
 refine vZ 2 ?_ ?_
 refine vZ 3 ?_ ?_
 refine vZ 4 ?_ ?_
 refine vZ 5 ?_ ?_
 refine vZ 6 ?_ ?_
 refine vZ 7 ?_ ?_
 refine vZ 8 ?_ ?_
 refine vZ 9 ?_ ?_
 refine vZ 10 ?_ ?_
 refine aL (i:=11) rfl (by kernel_rfl) (by kernel_rfl) (λK hK=> ?_)
 have HWd:Below w.heap.size w wd.drew.drew:=HW.drew.drew
 have g0:wd.drew.drew.cell? ⟨gb,t * 2,nO⟩=sO (I Y s.vars[t].k):=by rw[HWd.cell (by simpa using hg2)];exact kt0
 have g1:wd.drew.drew.cell? ⟨gb,t * 2+1,nO⟩=sO (I Y s.vars[t].n):=by rw[HWd.cell (by simpa using hg2)];exact kt1
 have d0:wd.drew.drew.frozen? ⟨gb,t * 2,nO⟩=false:=by rw[HWd.frozen (by simpa using hg2)];exact f0
 have d1:wd.drew.drew.frozen? ⟨gb,t * 2+1,nO⟩=false:=by rw[HWd.frozen (by simpa using hg2)];exact f1
 have oL:=h.below HWd
 generalize wd.drew.drew=wl at *
 go_simp
 refine hK.out _ _ ?_
 clear hK K
 (try simp only[stp,j0])
 refine aq (by kernel_rfl) ?_ _
 go_wp2
 go_ret
 exact⟨rfl,⟨_,_,_,_,oL.put t ht s.things[q].fs[f]⟩,((HWd.mono hB).setCell hg1 _).setCell hg1 _,λj _=>by rw[cY _ _ _ _ _ _ _ _ am];exact HWd.cell hm,cZ HWd (by simp[ag,j8]) _ _ _ _⟩

theorem Cz (m B x q f y:Nat)(s:St)(vv tv lv:Value)(fv:List Value)(t g:Int)(w:World)(h:OwnRun w B m s vv tv lv fv)(hB:B≤w.heap.size)(hx:x < s.vars.length)(hv:s.vars[x]=⟨3,(q:Int)⟩)(hq:q < s.things.length)(hf:f < s.things[q].fs.length)(hy:y < s.vars.length):
  Calls pG 150 #[Pp (sO ⟨m,0,nO⟩),Ag #[I Y 13,I Y t,I Y x,I Y y,I Y f,I Y g]] w λe w'=>e=Rt (I Y 0)∧MStep w w' B m (ag m vv tv lv fv) (bT s q f s.vars[y]):=by
 have hm:m < w.heap.size:=h.lt (by simp[ag])
 have z1:m < w.heap.size+1:=by omega
 obtain⟨gb,cap,rfl,hg1,hg2,hcell,hfz⟩:=h.form (by omega)
 have am:m≠gb:=h.vars_apart rfl m (by simp)
 have q1:=h.vars_
 have z2:gb < w.heap.size+1:=by omega
 obtain⟨kx0,kx1⟩:=hcell x hx
 have nx0:(0:Int)≤(x:Int):=by omega
 have nx1:(x:Int) < (s.vars.length:Int):=by omega
 obtain⟨gt,tc,etv,hgt,th0,th1,hgtB⟩:=h.thing hq
 obtain⟨gf,fc,efv,hgf,fd0,fd1,ffz,hgfB⟩:=h.field hq hf
 rw[efv] at th1
 have q2:=h.things_
 rw[etv] at q2
 have nq0:(0:Int)≤(q:Int):=by omega
 have nq1:(q:Int) < (s.things.length:Int):=by omega
 have nf0:(0:Int)≤(f:Int):=by omega
 have nf1:(f:Int) < (s.things[q].fs.length:Int):=by omega
 have HV:=aF hv
 clear hv
 obtain⟨ky0,ky1⟩:=hcell y hy
 have ny0:(0:Int)≤(y:Int):=by omega
 have ny1:(y:Int) < (s.vars.length:Int):=by omega
 have f0:=ffz (f * 2)
 have f1:=ffz (f * 2+1)
 have K1:∀wx,Below (w.heap.size+1) (w.alloc (Cc #[I Y 13,I Y t,I Y x,I Y y,I Y f,I Y g] 100)) wx→wx.cell? ⟨m,1,nO⟩=sO (U (sO ⟨gb,0,nO⟩) s.vars.length cap)∧wx.cell? ⟨w.heap.size,2,nO⟩=sO (I Y x)∧wx.cell? ⟨gb,x * 2,nO⟩=sO (I Y s.vars[x].k)∧wx.cell? ⟨gb,x * 2+1,nO⟩=sO (I Y s.vars[x].n):=by
  intro wx hb
  rw[hb.cell (by simpa using z1),hb.cell (by simp),hb.cell (by simpa using z2),hb.cell (by simpa using z2)]
  simp[go_sem,hm,q1,hg2,kx0,kx1]
 clear hcell hfz
 go_enter Tryz.func150,Tryz.ntmps150
 go_wp2
 have HB0:Below (w.heap.size+1) (w.alloc (Cc #[I Y 13,I Y t,I Y x,I Y y,I Y f,I Y g] 100)) (w.alloc (Cc #[I Y 13,I Y t,I Y x,I Y y,I Y f,I Y g] 100)).drew:=(bR _ _).drew
 have hz0:(w.alloc (Cc #[I Y 13,I Y t,I Y x,I Y y,I Y f,I Y g] 100)).drew.heap.size=w.heap.size+1:=by simp
 refine au (S:=(λwx=>wx.cell? ⟨m,1,nO⟩=sO (U (sO ⟨gb,0,nO⟩) s.vars.length cap)∧wx.cell? ⟨w.heap.size,2,nO⟩=sO (I Y x)∧wx.cell? ⟨gb,x * 2,nO⟩=sO (I Y s.vars[x].k)∧wx.cell? ⟨gb,x * 2+1,nO⟩=sO (I Y s.vars[x].n))) [] (by kernel_rfl) (K1 _ (bR _ _).drew) (λhHeld=> ?_)
 refine vZ 0 ?_ ?_
 refine vZ 1 ?_ ?_
 refine vZ 2 ?_ ?_
 refine vZ 3 ?_ ?_
 refine vZ 4 ?_ ?_
 refine vZ 5 ?_ ?_
 refine vZ 6 ?_ ?_
 refine vZ 7 ?_ ?_
 refine vZ 8 ?_ ?_
 refine an (i:=9) rfl (by kernel_rfl) (λK hK=> ?_)
 generalize (w.alloc (Cc #[I Y 13,I Y t,I Y x,I Y y,I Y f,I Y g] 100)).drew=wq at *
 go_simp
 have HB1:Below (w.heap.size+1) (w.alloc (Cc #[I Y 13,I Y t,I Y x,I Y y,I Y f,I Y g] 100)) (wq.alloc (Cc #[I Y 0,I Y 0] 82)):=HB0.alloc (by have:=HB0.size;simpa using this) _
 have V1:=VAt.new wq ⟨0,0⟩
 rw[hz0] at V1
 refine hK.out _ _ (K1 _ HB1) (λhHeld=> ?_)
 clear hK K
 (try simp only[stp,j0])
 (try rw[hz0])
 simp only at V1
 generalize wq.alloc (Cc #[I Y 0,I Y 0] 82)=wa at *
 refine an (i:=10) rfl (by kernel_rfl) (λK hK=> ?_)
 obtain⟨⟨a0,a1⟩,az,af⟩:=id V1
 have af0:=af 0
 have af1:=af 1
 go_simp
 have HB3:Below (w.heap.size+1) (w.alloc (Cc #[I Y 13,I Y t,I Y x,I Y y,I Y f,I Y g] 100)) ((wa.setCell ⟨w.heap.size+1,0,nO⟩ (I Y s.vars[x].k)).setCell ⟨w.heap.size+1,1,nO⟩ (I Y s.vars[x].n)):=(HB1.setCell (by simp) _).setCell (by simp) _
 have VA:=V1.put s.vars[x]
 refine hK.out _ _ (K1 _ HB3) (λhHeld=> ?_)
 clear hK K a0 a1 az af af0 af1 V1
 (try simp only[stp,j0])
 generalize (wa.setCell ⟨w.heap.size+1,0,nO⟩ (I Y s.vars[x].k)).setCell ⟨w.heap.size+1,1,nO⟩ (I Y s.vars[x].n)=wd at *
 refine aq (by kernel_rfl) ?_ _
 have hzd:w.heap.size+1≤wd.heap.size:=by have:=HB3.size;simpa using this
 have va0:=VA.1.1
 have va1:=VA.1.2
 have HW:Below w.heap.size w wd:=Below.trans (by go_grown) (HB3.mono (j3 _))
 clear hHeld
 rw[HV.out] at va0 va1
 simp only at va0 va1
 have c4:wd.cell? ⟨w.heap.size,4,nO⟩=sO (I Y f):=by rw[HB3.cell (by simp)];simp[go_sem]
 have c0:wd.cell? ⟨w.heap.size,0,nO⟩=sO (I Y 13):=by rw[HB3.cell (by simp)];simp[go_sem]
 have KZ:∀wx,Below wd.heap.size wd wx→wx.cell? ⟨m,2,nO⟩=sO (U (sO ⟨gt,0,nO⟩) s.things.length tc)∧wx.cell? ⟨w.heap.size+1,1,nO⟩=sO (I Y q)∧wx.cell? ⟨gt,q * 2+1,nO⟩=sO (U (sO ⟨gf,0,nO⟩) s.things[q].fs.length fc)∧wx.cell? ⟨w.heap.size,4,nO⟩=sO (I Y f):=λwx hx=>⟨by rw[hx.cell (by simp;omega),HW.cell (by simpa using hm)];exact q2,by rw[hx.cell (by simpa using VA.2.1)];exact va1,by rw[hx.cell (by simp;omega),HW.cell (by simpa using hgt)];exact th1,by rw[hx.cell (by simp;omega)];exact c4⟩
 go_wp2
 refine au (S:=(λwx=>wx.cell? ⟨m,2,nO⟩=sO (U (sO ⟨gt,0,nO⟩) s.things.length tc)∧wx.cell? ⟨w.heap.size+1,1,nO⟩=sO (I Y q)∧wx.cell? ⟨gt,q * 2+1,nO⟩=sO (U (sO ⟨gf,0,nO⟩) s.things[q].fs.length fc)∧wx.cell? ⟨w.heap.size,4,nO⟩=sO (I Y f))) [] (by kernel_rfl) (KZ _ (bR _ _).drew) (λhHeld=> ?_)
 refine vZ 0 ?_ ?_
 refine vZ 1 ?_ ?_
 refine vZ 2 ?_ ?_
 refine vZ 3 ?_ ?_
 refine vZ 4 ?_ ?_
 refine vZ 5 ?_ ?_
 refine vZ 6 ?_ ?_
 refine vZ 7 ?_ ?_
 refine vZ 8 ?_ ?_
 refine vZ 9 ?_ ?_
 refine vZ 10 ?_ ?_
 refine vZ 11 ?_ ?_
 refine vZ 12 ?_ ?_
 refine vZ 13 ?_ ?_
 refine aq (by kernel_rfl) ?_ _
 have c1:wd.cell? ⟨w.heap.size,3,nO⟩=sO (I Y y):=by rw[HB3.cell (by simp)];simp[go_sem]
 have KY:∀wx,Below wd.heap.size wd wx→wx.cell? ⟨m,1,nO⟩=sO (U (sO ⟨gb,0,nO⟩) s.vars.length cap)∧wx.cell? ⟨w.heap.size,3,nO⟩=sO (I Y y)∧wx.cell? ⟨gb,y * 2,nO⟩=sO (I Y s.vars[y].k)∧wx.cell? ⟨gb,y * 2+1,nO⟩=sO (I Y s.vars[y].n):=λwx hx=>⟨by rw[hx.cell (by simp;omega),HW.cell (by simpa using hm)];exact q1,by rw[hx.cell (by simp;omega)];exact c1,by rw[hx.cell (by simp;omega),HW.cell (by simpa using hg2)];exact ky0,by rw[hx.cell (by simp;omega),HW.cell (by simpa using hg2)];exact ky1⟩
 go_wp2
 refine au (S:=(λwx=>wx.cell? ⟨m,1,nO⟩=sO (U (sO ⟨gb,0,nO⟩) s.vars.length cap)∧wx.cell? ⟨w.heap.size,3,nO⟩=sO (I Y y)∧wx.cell? ⟨gb,y * 2,nO⟩=sO (I Y s.vars[y].k)∧wx.cell? ⟨gb,y * 2+1,nO⟩=sO (I Y s.vars[y].n))) [11] (by kernel_rfl) (KY _ ((bR _ _).drew.drew)) (λhHeld=> ?_)
 refine vZ 0 ?_ ?_
 refine vZ 1 ?_ ?_
 refine vZ 2 ?_ ?_
 refine vZ 3 ?_ ?_
 refine vZ 4 ?_ ?_
 refine vZ 5 ?_ ?_
 refine vZ 6 ?_ ?_
 refine vZ 7 ?_ ?_
 refine vZ 8 ?_ ?_
 refine vZ 9 ?_ ?_
 refine vZ 10 ?_ ?_
 refine aL (i:=11) rfl (by kernel_rfl) (by kernel_rfl) (λK hK=> ?_)
 have HWd:Below w.heap.size w wd.drew.drew:=HW.drew.drew
 have g0:wd.drew.drew.cell? ⟨gf,f * 2,nO⟩=sO (I Y s.things[q].fs[f].k):=by rw[HWd.cell (by simpa using hgf)];exact fd0
 have g1:wd.drew.drew.cell? ⟨gf,f * 2+1,nO⟩=sO (I Y s.things[q].fs[f].n):=by rw[HWd.cell (by simpa using hgf)];exact fd1
 have d0:wd.drew.drew.frozen? ⟨gf,f * 2,nO⟩=false:=by rw[HWd.frozen (by simpa using hgf)];exact f0
 have d1:wd.drew.drew.frozen? ⟨gf,f * 2+1,nO⟩=false:=by rw[HWd.frozen (by simpa using hgf)];exact f1
 have oL:=h.below HWd
 generalize wd.drew.drew=wl at *
 go_simp
 refine hK.out _ _ ?_
 clear hK K
 (try simp only[stp,j0])
 refine aq (by kernel_rfl) ?_ _
 go_wp2
 go_ret
 have hgm:sO gf∈fv.map j8:=x8.2 ⟨_,gM (by rw[h.count];exact hq),by rw[efv];rfl⟩
 have amf:m≠gf:=λe=>h.parted.1 gf (by simp only[j5];right;right;right;exact hgm) e.symm
 exact⟨rfl,⟨_,_,_,_,oL.put_field q hq efv f hf s.vars[y]⟩,((HWd.mono hB).setCell hgfB _).setCell hgfB _,λj _=>by rw[cY _ _ _ _ _ _ _ _ amf];exact HWd.cell hm,cZ HWd (by simp only[ag,j5];right;right;right;right;exact hgm) _ _ _ _⟩
theorem IX (m B t:Nat)(s:St)(vv tv lv:Value)(fv:List Value)(a b n g:Int)(w:World)(h:OwnRun w B m s vv tv lv fv)(hB:B≤w.heap.size)(ht:t < s.vars.length)(hn:wr n=n):
  Calls pG 86 #[Pp (sO ⟨m,0,nO⟩),Ag #[I Y 1,I Y t,I Y a,I Y b,I Y n,I Y g]] w λe w'=>e=Rt (I Y 0)∧MStep w w' B m (ag m vv tv lv fv) {s with vars:=s.vars.set t ⟨1,n⟩}:=by
 have hm:m < w.heap.size:=h.lt (by simp[ag])
 have z1:m < w.heap.size+1:=by omega
 obtain⟨gb,cap,rfl,hg1,hg2,hcell,hfz⟩:=h.form (by omega)
 have am:m≠gb:=h.vars_apart rfl m (by simp)
 have ah:w.heap.size≠gb:=by omega
 have q1:=h.vars_
 have z2:gb < w.heap.size+1:=by omega
 obtain⟨kt0,kt1⟩:=hcell t ht
 have nt0:(0:Int)≤(t:Int):=by omega
 have nt1:(t:Int) < (s.vars.length:Int):=by omega
 have f0:=hfz (t * 2)
 have f1:=hfz (t * 2+1)
 have K1:∀wx,Below (w.heap.size+1) (w.alloc (Cc #[I Y 1,I Y t,I Y a,I Y b,I Y n,I Y g] 100)) wx→wx.cell? ⟨m,1,nO⟩=sO (U (sO ⟨gb,0,nO⟩) s.vars.length cap)∧wx.cell? ⟨w.heap.size,1,nO⟩=sO (I Y t)∧wx.cell? ⟨w.heap.size,4,nO⟩=sO (I Y n):=by
  intro wx hb
  rw[hb.cell (by simpa using z1),hb.cell (by simp),hb.cell (by simp)]
  simp[go_sem,hm,q1]
 clear hcell hfz
 go_enter Tryz.func86,Tryz.ntmps86
 go_wp2
 refine au (S:=(λwx=>wx.cell? ⟨m,1,nO⟩=sO (U (sO ⟨gb,0,nO⟩) s.vars.length cap)∧wx.cell? ⟨w.heap.size,1,nO⟩=sO (I Y t)∧wx.cell? ⟨w.heap.size,4,nO⟩=sO (I Y n))) [11] (by kernel_rfl) (K1 _ (bR _ _).drew) (λhHeld=> ?_)
 refine vZ 0 ?_ ?_
 refine vZ 1 ?_ ?_
 refine vZ 2 ?_ ?_
 refine vZ 3 ?_ ?_
 refine vZ 4 ?_ ?_
 refine vZ 5 ?_ ?_
 refine vZ 6 ?_ ?_
 refine vZ 7 ?_ ?_
 refine vZ 8 ?_ ?_
 refine an (i:=9) rfl (by kernel_rfl) (λK hK=> ?_)
 go_simp
 go_at_call 145
 refine(gh _ _).mono ?_
 rintro e w1 ⟨rfl,hb1⟩
 rw[hn]
 have HB1:Below (w.heap.size+1) (w.alloc (Cc #[I Y 1,I Y t,I Y a,I Y b,I Y n,I Y g] 100)) w1:=Below.trans (bR _ _).drew (Below.mono hb1 (by simp))
 go_wp2_with fail
 refine hK.out _ _ (K1 _ HB1) (λhHeld=> ?_)
 clear hK K
 (try simp only[stp,j0])
 refine vZ 10 ?_ ?_
 refine aL (i:=11) rfl (by kernel_rfl) (by kernel_rfl) (λK hK=> ?_)
 have HBL:Below (w.heap.size+1) (w.alloc (Cc #[I Y 1,I Y t,I Y a,I Y b,I Y n,I Y g] 100)) (w1):=HB1
 have c0:(w1).cell? ⟨gb,t * 2,nO⟩=sO (I Y s.vars[t].k):=by rw[HBL.cell (by simpa using z2)];simp[go_sem,hg2,kt0]
 have c1:(w1).cell? ⟨gb,t * 2+1,nO⟩=sO (I Y s.vars[t].n):=by rw[HBL.cell (by simpa using z2)];simp[go_sem,hg2,kt1]
 have d0:(w1).frozen? ⟨gb,t * 2,nO⟩=false:=by rw[HBL.frozen (by simpa using z2)];simp[go_sem,hg2,f0]
 have d1:(w1).frozen? ⟨gb,t * 2+1,nO⟩=false:=by rw[HBL.frozen (by simpa using z2)];simp[go_sem,hg2,f1]
 generalize w1=wl at *
 go_simp
 refine hK.out _ _ ?_
 clear hK K
 (try simp only[stp,j0])
 refine aq (by kernel_rfl) ?_ _
 go_wp2
 go_ret
 have HW:Below w.heap.size w wl:=Below.trans (by go_grown) (HBL.mono (j3 _))
 exact⟨rfl,⟨_,_,_,_,(h.below HW).put t ht ⟨1,n⟩⟩,((HW.mono hB).setCell hg1 _).setCell hg1 _,λj _=>by rw[cY _ _ _ _ _ _ _ _ am];exact HW.cell hm,cZ HW (by simp[ag,j8]) _ _ _ _⟩

theorem KA (m B t:Nat)(s:St)(vv tv lv:Value)(fv:List Value)(a b n g:Int)(w:World)(h:OwnRun w B m s vv tv lv fv)(hB:B≤w.heap.size)(ht:t < s.vars.length):
  Calls pG 86 #[Pp (sO ⟨m,0,nO⟩),Ag #[I Y 2,I Y t,I Y a,I Y b,I Y n,I Y g]] w λe w'=>e=Rt (I Y 0)∧MStep w w' B m (ag m vv tv lv fv) {s with vars:=s.vars.set t (b8 (n==1))}:=by
 have hm:m < w.heap.size:=h.lt (by simp[ag])
 have z1:m < w.heap.size+1:=by omega
 obtain⟨gb,cap,rfl,hg1,hg2,hcell,hfz⟩:=h.form (by omega)
 have am:m≠gb:=h.vars_apart rfl m (by simp)
 have ah:w.heap.size≠gb:=by omega
 have q1:=h.vars_
 have z2:gb < w.heap.size+1:=by omega
 obtain⟨kt0,kt1⟩:=hcell t ht
 have nt0:(0:Int)≤(t:Int):=by omega
 have nt1:(t:Int) < (s.vars.length:Int):=by omega
 have f0:=hfz (t * 2)
 have f1:=hfz (t * 2+1)
 have K1:∀wx,Below (w.heap.size+1) (w.alloc (Cc #[I Y 2,I Y t,I Y a,I Y b,I Y n,I Y g] 100)) wx→wx.cell? ⟨m,1,nO⟩=sO (U (sO ⟨gb,0,nO⟩) s.vars.length cap)∧wx.cell? ⟨w.heap.size,1,nO⟩=sO (I Y t)∧wx.cell? ⟨w.heap.size,4,nO⟩=sO (I Y n):=by
  intro wx hb
  rw[hb.cell (by simpa using z1),hb.cell (by simp),hb.cell (by simp)]
  simp[go_sem,hm,q1]
 clear hcell hfz
 go_enter Tryz.func86,Tryz.ntmps86
 go_wp2
 refine au (S:=(λwx=>wx.cell? ⟨m,1,nO⟩=sO (U (sO ⟨gb,0,nO⟩) s.vars.length cap)∧wx.cell? ⟨w.heap.size,1,nO⟩=sO (I Y t)∧wx.cell? ⟨w.heap.size,4,nO⟩=sO (I Y n))) [12] (by kernel_rfl) (K1 _ (bR _ _).drew) (λhHeld=> ?_)
 refine vZ 0 ?_ ?_
 refine vZ 1 ?_ ?_
 refine vZ 2 ?_ ?_
 refine vZ 3 ?_ ?_
 refine vZ 4 ?_ ?_
 refine vZ 5 ?_ ?_
 refine vZ 6 ?_ ?_
 refine vZ 7 ?_ ?_
 refine vZ 8 ?_ ?_
 refine vZ 9 ?_ ?_
 refine an (i:=10) rfl (by kernel_rfl) (λK hK=> ?_)
 go_simp
 go_at_call 146
 refine(cP _ _).mono ?_
 rintro e w1 ⟨rfl,hb1⟩
 have HB1:Below (w.heap.size+1) (w.alloc (Cc #[I Y 2,I Y t,I Y a,I Y b,I Y n,I Y g] 100)) w1:=Below.trans (bR _ _).drew (Below.mono hb1 (by simp))
 go_wp2_with fail
 refine hK.out _ _ (K1 _ HB1) (λhHeld=> ?_)
 clear hK K
 (try simp only[stp,j0])
 refine vZ 11 ?_ ?_
 refine aL (i:=12) rfl (by kernel_rfl) (by kernel_rfl) (λK hK=> ?_)
 have HBL:Below (w.heap.size+1) (w.alloc (Cc #[I Y 2,I Y t,I Y a,I Y b,I Y n,I Y g] 100)) (w1):=HB1
 have c0:(w1).cell? ⟨gb,t * 2,nO⟩=sO (I Y s.vars[t].k):=by rw[HBL.cell (by simpa using z2)];simp[go_sem,hg2,kt0]
 have c1:(w1).cell? ⟨gb,t * 2+1,nO⟩=sO (I Y s.vars[t].n):=by rw[HBL.cell (by simpa using z2)];simp[go_sem,hg2,kt1]
 have d0:(w1).frozen? ⟨gb,t * 2,nO⟩=false:=by rw[HBL.frozen (by simpa using z2)];simp[go_sem,hg2,f0]
 have d1:(w1).frozen? ⟨gb,t * 2+1,nO⟩=false:=by rw[HBL.frozen (by simpa using z2)];simp[go_sem,hg2,f1]
 generalize w1=wl at *
 go_simp
 refine hK.out _ _ ?_
 clear hK K
 (try simp only[stp,j0])
 refine aq (by kernel_rfl) ?_ _
 go_wp2
 go_ret
 have HW:Below w.heap.size w wl:=Below.trans (by go_grown) (HBL.mono (j3 _))
 exact⟨rfl,⟨_,_,_,_,(h.below HW).put t ht (b8 (n==1))⟩,((HW.mono hB).setCell hg1 _).setCell hg1 _,λj _=>by rw[cY _ _ _ _ _ _ _ _ am];exact HW.cell hm,cZ HW (by simp[ag,j8]) _ _ _ _⟩

theorem Ki (m B t:Nat)(s:St)(vv tv lv:Value)(fv:List Value)(a b n g:Int)(w:World)(h:OwnRun w B m s vv tv lv fv)(hB:B≤w.heap.size)(ht:t < s.vars.length):
  Calls pG 86 #[Pp (sO ⟨m,0,nO⟩),Ag #[I Y 3,I Y t,I Y a,I Y b,I Y n,I Y g]] w λe w'=>e=Rt (I Y 0)∧MStep w w' B m (ag m vv tv lv fv) {s with vars:=s.vars.set t ⟨0,0⟩}:=by
 have hm:m < w.heap.size:=h.lt (by simp[ag])
 have z1:m < w.heap.size+1:=by omega
 obtain⟨gb,cap,rfl,hg1,hg2,hcell,hfz⟩:=h.form (by omega)
 have am:m≠gb:=h.vars_apart rfl m (by simp)
 have ah:w.heap.size≠gb:=by omega
 have q1:=h.vars_
 have z2:gb < w.heap.size+1:=by omega
 obtain⟨kt0,kt1⟩:=hcell t ht
 have nt0:(0:Int)≤(t:Int):=by omega
 have nt1:(t:Int) < (s.vars.length:Int):=by omega
 have f0:=hfz (t * 2)
 have f1:=hfz (t * 2+1)
 have K1:∀wx,Below (w.heap.size+1) (w.alloc (Cc #[I Y 3,I Y t,I Y a,I Y b,I Y n,I Y g] 100)) wx→wx.cell? ⟨m,1,nO⟩=sO (U (sO ⟨gb,0,nO⟩) s.vars.length cap)∧wx.cell? ⟨w.heap.size,1,nO⟩=sO (I Y t):=by
  intro wx hb
  rw[hb.cell (by simpa using z1),hb.cell (by simp)]
  simp[go_sem,hm,q1]
 clear hcell hfz
 go_enter Tryz.func86,Tryz.ntmps86
 go_wp2
 refine au (S:=(λwx=>wx.cell? ⟨m,1,nO⟩=sO (U (sO ⟨gb,0,nO⟩) s.vars.length cap)∧wx.cell? ⟨w.heap.size,1,nO⟩=sO (I Y t))) [9] (by kernel_rfl) (K1 _ (bR _ _).drew) (λhHeld=> ?_)
 refine vZ 0 ?_ ?_
 refine vZ 1 ?_ ?_
 refine vZ 2 ?_ ?_
 refine vZ 3 ?_ ?_
 refine vZ 4 ?_ ?_
 refine vZ 5 ?_ ?_
 refine vZ 6 ?_ ?_
 refine vZ 7 ?_ ?_
 refine vZ 8 ?_ ?_
 refine aL (i:=9) rfl (by kernel_rfl) (by kernel_rfl) (λK hK=> ?_)
 have HBL:Below (w.heap.size+1) (w.alloc (Cc #[I Y 3,I Y t,I Y a,I Y b,I Y n,I Y g] 100)) ((w.alloc (Cc #[I Y 3,I Y t,I Y a,I Y b,I Y n,I Y g] 100)).drew):=(bR _ _).drew
 have c0:((w.alloc (Cc #[I Y 3,I Y t,I Y a,I Y b,I Y n,I Y g] 100)).drew).cell? ⟨gb,t * 2,nO⟩=sO (I Y s.vars[t].k):=by rw[HBL.cell (by simpa using z2)];simp[go_sem,hg2,kt0]
 have c1:((w.alloc (Cc #[I Y 3,I Y t,I Y a,I Y b,I Y n,I Y g] 100)).drew).cell? ⟨gb,t * 2+1,nO⟩=sO (I Y s.vars[t].n):=by rw[HBL.cell (by simpa using z2)];simp[go_sem,hg2,kt1]
 have d0:((w.alloc (Cc #[I Y 3,I Y t,I Y a,I Y b,I Y n,I Y g] 100)).drew).frozen? ⟨gb,t * 2,nO⟩=false:=by rw[HBL.frozen (by simpa using z2)];simp[go_sem,hg2,f0]
 have d1:((w.alloc (Cc #[I Y 3,I Y t,I Y a,I Y b,I Y n,I Y g] 100)).drew).frozen? ⟨gb,t * 2+1,nO⟩=false:=by rw[HBL.frozen (by simpa using z2)];simp[go_sem,hg2,f1]
 generalize (w.alloc (Cc #[I Y 3,I Y t,I Y a,I Y b,I Y n,I Y g] 100)).drew=wl at *
 go_simp
 refine hK.out _ _ ?_
 clear hK K
 (try simp only[stp,j0])
 refine aq (by kernel_rfl) ?_ _
 go_wp2
 go_ret
 have HW:Below w.heap.size w wl:=Below.trans (by go_grown) (HBL.mono (j3 _))
 exact⟨rfl,⟨_,_,_,_,(h.below HW).put t ht ⟨0,0⟩⟩,((HW.mono hB).setCell hg1 _).setCell hg1 _,λj _=>by rw[cY _ _ _ _ _ _ _ _ am];exact HW.cell hm,cZ HW (by simp[ag,j8]) _ _ _ _⟩
theorem KE (m B t x:Nat)(s:St)(vv tv lv:Value)(fv:List Value)(b n g:Int)(w:World)(h:OwnRun w B m s vv tv lv fv)(hB:B≤w.heap.size)(ht:t < s.vars.length)(hx:x < s.vars.length):
  Calls pG 86 #[Pp (sO ⟨m,0,nO⟩),Ag #[I Y 4,I Y t,I Y x,I Y b,I Y n,I Y g]] w λe w'=>e=Rt (I Y 0)∧MStep w w' B m (ag m vv tv lv fv) {s with vars:=s.vars.set t s.vars[x]}:=by
 have hm:m < w.heap.size:=h.lt (by simp[ag])
 have z1:m < w.heap.size+1:=by omega
 obtain⟨gb,cap,rfl,hg1,hg2,hcell,hfz⟩:=h.form (by omega)
 have am:m≠gb:=h.vars_apart rfl m (by simp)
 have ah:w.heap.size≠gb:=by omega
 have q1:=h.vars_
 have z2:gb < w.heap.size+1:=by omega
 obtain⟨kt0,kt1⟩:=hcell t ht
 have nt0:(0:Int)≤(t:Int):=by omega
 have nt1:(t:Int) < (s.vars.length:Int):=by omega
 obtain⟨kx0,kx1⟩:=hcell x hx
 have nx0:(0:Int)≤(x:Int):=by omega
 have nx1:(x:Int) < (s.vars.length:Int):=by omega
 have f0:=hfz (t * 2)
 have f1:=hfz (t * 2+1)
 have K1:∀wx,Below (w.heap.size+1) (w.alloc (Cc #[I Y 4,I Y t,I Y x,I Y b,I Y n,I Y g] 100)) wx→wx.cell? ⟨m,1,nO⟩=sO (U (sO ⟨gb,0,nO⟩) s.vars.length cap)∧wx.cell? ⟨w.heap.size,1,nO⟩=sO (I Y t)∧wx.cell? ⟨w.heap.size,2,nO⟩=sO (I Y x)∧wx.cell? ⟨gb,x * 2,nO⟩=sO (I Y s.vars[x].k)∧wx.cell? ⟨gb,x * 2+1,nO⟩=sO (I Y s.vars[x].n):=by
  intro wx hb
  rw[hb.cell (by simpa using z1),hb.cell (by simp),hb.cell (by simp),hb.cell (by simpa using z2),hb.cell (by simpa using z2)]
  simp[go_sem,hm,q1,hg2,kx0,kx1]
 clear hcell hfz
 go_enter Tryz.func86,Tryz.ntmps86
 go_wp2
 refine au (S:=(λwx=>wx.cell? ⟨m,1,nO⟩=sO (U (sO ⟨gb,0,nO⟩) s.vars.length cap)∧wx.cell? ⟨w.heap.size,1,nO⟩=sO (I Y t)∧wx.cell? ⟨w.heap.size,2,nO⟩=sO (I Y x)∧wx.cell? ⟨gb,x * 2,nO⟩=sO (I Y s.vars[x].k)∧wx.cell? ⟨gb,x * 2+1,nO⟩=sO (I Y s.vars[x].n))) [17] (by kernel_rfl) (K1 _ (bR _ _).drew) (λhHeld=> ?_)
 refine vZ 0 ?_ ?_
 refine vZ 1 ?_ ?_
 refine vZ 2 ?_ ?_
 refine vZ 3 ?_ ?_
 refine vZ 4 ?_ ?_
 refine vZ 5 ?_ ?_
 refine vZ 6 ?_ ?_
 refine vZ 7 ?_ ?_
 refine vZ 8 ?_ ?_
 refine vZ 9 ?_ ?_
 refine vZ 10 ?_ ?_
 refine vZ 11 ?_ ?_
 refine vZ 12 ?_ ?_
 refine vZ 13 ?_ ?_
 refine vZ 14 ?_ ?_
 refine vZ 15 ?_ ?_
 refine vZ 16 ?_ ?_
 refine aL (i:=17) rfl (by kernel_rfl) (by kernel_rfl) (λK hK=> ?_)
 have HBL:Below (w.heap.size+1) (w.alloc (Cc #[I Y 4,I Y t,I Y x,I Y b,I Y n,I Y g] 100)) ((w.alloc (Cc #[I Y 4,I Y t,I Y x,I Y b,I Y n,I Y g] 100)).drew):=(bR _ _).drew
 have c0:((w.alloc (Cc #[I Y 4,I Y t,I Y x,I Y b,I Y n,I Y g] 100)).drew).cell? ⟨gb,t * 2,nO⟩=sO (I Y s.vars[t].k):=by rw[HBL.cell (by simpa using z2)];simp[go_sem,hg2,kt0]
 have c1:((w.alloc (Cc #[I Y 4,I Y t,I Y x,I Y b,I Y n,I Y g] 100)).drew).cell? ⟨gb,t * 2+1,nO⟩=sO (I Y s.vars[t].n):=by rw[HBL.cell (by simpa using z2)];simp[go_sem,hg2,kt1]
 have d0:((w.alloc (Cc #[I Y 4,I Y t,I Y x,I Y b,I Y n,I Y g] 100)).drew).frozen? ⟨gb,t * 2,nO⟩=false:=by rw[HBL.frozen (by simpa using z2)];simp[go_sem,hg2,f0]
 have d1:((w.alloc (Cc #[I Y 4,I Y t,I Y x,I Y b,I Y n,I Y g] 100)).drew).frozen? ⟨gb,t * 2+1,nO⟩=false:=by rw[HBL.frozen (by simpa using z2)];simp[go_sem,hg2,f1]
 generalize (w.alloc (Cc #[I Y 4,I Y t,I Y x,I Y b,I Y n,I Y g] 100)).drew=wl at *
 go_simp
 refine hK.out _ _ ?_
 clear hK K
 (try simp only[stp,j0])
 refine aq (by kernel_rfl) ?_ _
 go_wp2
 go_ret
 have HW:Below w.heap.size w wl:=Below.trans (by go_grown) (HBL.mono (j3 _))
 exact⟨rfl,⟨_,_,_,_,(h.below HW).put t ht s.vars[x]⟩,((HW.mono hB).setCell hg1 _).setCell hg1 _,λj _=>by rw[cY _ _ _ _ _ _ _ _ am];exact HW.cell hm,cZ HW (by simp[ag,j8]) _ _ _ _⟩

theorem Iu (m B t x:Nat)(s:St)(vv tv lv:Value)(fv:List Value)(b n g:Int)(w:World)(h:OwnRun w B m s vv tv lv fv)(hB:B≤w.heap.size)(ht:t < s.vars.length)(hx:x < s.vars.length)(T:Nat)(hv:bS T s.vars[x]):
  Calls pG 86 #[Pp (sO ⟨m,0,nO⟩),Ag #[I Y 10,I Y t,I Y x,I Y b,I Y n,I Y g]] w λe w'=>e=Rt (I Y 0)∧MStep w w' B m (ag m vv tv lv fv) {s with vars:=s.vars.set t (b8 (!cnt s.vars[x]))}:=by
 have hm:m < w.heap.size:=h.lt (by simp[ag])
 have z1:m < w.heap.size+1:=by omega
 obtain⟨gb,cap,rfl,hg1,hg2,hcell,hfz⟩:=h.form (by omega)
 have am:m≠gb:=h.vars_apart rfl m (by simp)
 have ah:w.heap.size≠gb:=by omega
 have q1:=h.vars_
 have z2:gb < w.heap.size+1:=by omega
 obtain⟨kt0,kt1⟩:=hcell t ht
 have nt0:(0:Int)≤(t:Int):=by omega
 have nt1:(t:Int) < (s.vars.length:Int):=by omega
 obtain⟨kx0,kx1⟩:=hcell x hx
 have nx0:(0:Int)≤(x:Int):=by omega
 have nx1:(x:Int) < (s.vars.length:Int):=by omega
 have f0:=hfz (t * 2)
 have f1:=hfz (t * 2+1)
 have K1:∀wx,Below (w.heap.size+1) (w.alloc (Cc #[I Y 10,I Y t,I Y x,I Y b,I Y n,I Y g] 100)) wx→wx.cell? ⟨m,1,nO⟩=sO (U (sO ⟨gb,0,nO⟩) s.vars.length cap)∧wx.cell? ⟨w.heap.size,1,nO⟩=sO (I Y t)∧wx.cell? ⟨w.heap.size,2,nO⟩=sO (I Y x)∧wx.cell? ⟨gb,x * 2,nO⟩=sO (I Y s.vars[x].k)∧wx.cell? ⟨gb,x * 2+1,nO⟩=sO (I Y s.vars[x].n):=by
  intro wx hb
  rw[hb.cell (by simpa using z1),hb.cell (by simp),hb.cell (by simp),hb.cell (by simpa using z2),hb.cell (by simpa using z2)]
  simp[go_sem,hm,q1,hg2,kx0,kx1]
 clear hcell hfz
 go_enter Tryz.func86,Tryz.ntmps86
 go_wp2
 refine au (S:=(λwx=>wx.cell? ⟨m,1,nO⟩=sO (U (sO ⟨gb,0,nO⟩) s.vars.length cap)∧wx.cell? ⟨w.heap.size,1,nO⟩=sO (I Y t)∧wx.cell? ⟨w.heap.size,2,nO⟩=sO (I Y x)∧wx.cell? ⟨gb,x * 2,nO⟩=sO (I Y s.vars[x].k)∧wx.cell? ⟨gb,x * 2+1,nO⟩=sO (I Y s.vars[x].n))) [20] (by kernel_rfl) (K1 _ (bR _ _).drew) (λhHeld=> ?_)
 refine vZ 0 ?_ ?_
 refine vZ 1 ?_ ?_
 refine vZ 2 ?_ ?_
 refine vZ 3 ?_ ?_
 refine vZ 4 ?_ ?_
 refine vZ 5 ?_ ?_
 refine vZ 6 ?_ ?_
 refine vZ 7 ?_ ?_
 refine vZ 8 ?_ ?_
 refine vZ 9 ?_ ?_
 refine vZ 10 ?_ ?_
 refine vZ 11 ?_ ?_
 refine vZ 12 ?_ ?_
 refine vZ 13 ?_ ?_
 refine vZ 14 ?_ ?_
 refine vZ 15 ?_ ?_
 refine an (i:=16) rfl (by kernel_rfl) (λK hK=> ?_)
 go_simp
 go_at_call 148
 refine(mG T s.vars[x] _ hv).mono ?_
 rintro e w1 ⟨rfl,hb1⟩
 have HB1:Below (w.heap.size+1) (w.alloc (Cc #[I Y 10,I Y t,I Y x,I Y b,I Y n,I Y g] 100)) w1:=Below.trans (bR _ _).drew (Below.mono hb1 (by simp))
 go_wp2_with fail
 refine hK.out _ _ (K1 _ HB1) (λhHeld=> ?_)
 clear hK K
 (try simp only[stp,j0])
 refine vZ 17 ?_ ?_
 refine an (i:=18) rfl (by kernel_rfl) (λK hK=> ?_)
 go_simp
 go_at_call 146
 refine(cP _ _).mono ?_
 rintro e w2 ⟨rfl,hb2⟩
 have HB2:Below (w.heap.size+1) (w.alloc (Cc #[I Y 10,I Y t,I Y x,I Y b,I Y n,I Y g] 100)) w2:=Below.trans HB1 (Below.mono hb2 (by have:=HB1.size;simp at this;omega))
 go_wp2_with fail
 refine hK.out _ _ (K1 _ HB2) (λhHeld=> ?_)
 clear hK K
 (try simp only[stp,j0])
 refine vZ 19 ?_ ?_
 refine aL (i:=20) rfl (by kernel_rfl) (by kernel_rfl) (λK hK=> ?_)
 have HBL:Below (w.heap.size+1) (w.alloc (Cc #[I Y 10,I Y t,I Y x,I Y b,I Y n,I Y g] 100)) (w2):=HB2
 have c0:(w2).cell? ⟨gb,t * 2,nO⟩=sO (I Y s.vars[t].k):=by rw[HBL.cell (by simpa using z2)];simp[go_sem,hg2,kt0]
 have c1:(w2).cell? ⟨gb,t * 2+1,nO⟩=sO (I Y s.vars[t].n):=by rw[HBL.cell (by simpa using z2)];simp[go_sem,hg2,kt1]
 have d0:(w2).frozen? ⟨gb,t * 2,nO⟩=false:=by rw[HBL.frozen (by simpa using z2)];simp[go_sem,hg2,f0]
 have d1:(w2).frozen? ⟨gb,t * 2+1,nO⟩=false:=by rw[HBL.frozen (by simpa using z2)];simp[go_sem,hg2,f1]
 generalize w2=wl at *
 go_simp
 refine hK.out _ _ ?_
 clear hK K
 (try simp only[stp,j0])
 refine aq (by kernel_rfl) ?_ _
 go_wp2
 go_ret
 have HW:Below w.heap.size w wl:=Below.trans (by go_grown) (HBL.mono (j3 _))
 exact⟨rfl,⟨_,_,_,_,(h.below HW).put t ht (b8 (!cnt s.vars[x]))⟩,((HW.mono hB).setCell hg1 _).setCell hg1 _,λj _=>by rw[cY _ _ _ _ _ _ _ _ am];exact HW.cell hm,cZ HW (by simp[ag,j8]) _ _ _ _⟩
theorem KF (m B t x y:Nat)(s:St)(vv tv lv:Value)(fv:List Value)(n g:Int)(w:World)(h:OwnRun w B m s vv tv lv fv)(hB:B≤w.heap.size)(ht:t < s.vars.length)(hx:x < s.vars.length)(hy:y < s.vars.length):
  Calls pG 86 #[Pp (sO ⟨m,0,nO⟩),Ag #[I Y 9,I Y t,I Y x,I Y y,I Y n,I Y g]] w λe w'=>e=Rt (I Y 0)∧MStep w w' B m (ag m vv tv lv fv) {s with vars:=s.vars.set t (b8 (decide (s.vars[x].k=s.vars[y].k)&&decide (s.vars[x].n=s.vars[y].n)))}:=by
 have hm:m < w.heap.size:=h.lt (by simp[ag])
 have z1:m < w.heap.size+1:=by omega
 obtain⟨gb,cap,rfl,hg1,hg2,hcell,hfz⟩:=h.form (by omega)
 have am:m≠gb:=h.vars_apart rfl m (by simp)
 have ah:w.heap.size≠gb:=by omega
 have q1:=h.vars_
 have z2:gb < w.heap.size+1:=by omega
 obtain⟨kt0,kt1⟩:=hcell t ht
 have nt0:(0:Int)≤(t:Int):=by omega
 have nt1:(t:Int) < (s.vars.length:Int):=by omega
 obtain⟨kx0,kx1⟩:=hcell x hx
 have nx0:(0:Int)≤(x:Int):=by omega
 have nx1:(x:Int) < (s.vars.length:Int):=by omega
 obtain⟨ky0,ky1⟩:=hcell y hy
 have ny0:(0:Int)≤(y:Int):=by omega
 have ny1:(y:Int) < (s.vars.length:Int):=by omega
 have f0:=hfz (t * 2)
 have f1:=hfz (t * 2+1)
 have K1:∀wx,Below (w.heap.size+1) (w.alloc (Cc #[I Y 9,I Y t,I Y x,I Y y,I Y n,I Y g] 100)) wx→wx.cell? ⟨m,1,nO⟩=sO (U (sO ⟨gb,0,nO⟩) s.vars.length cap)∧wx.cell? ⟨w.heap.size,1,nO⟩=sO (I Y t)∧wx.cell? ⟨w.heap.size,2,nO⟩=sO (I Y x)∧wx.cell? ⟨w.heap.size,3,nO⟩=sO (I Y y)∧wx.cell? ⟨gb,x * 2,nO⟩=sO (I Y s.vars[x].k)∧wx.cell? ⟨gb,x * 2+1,nO⟩=sO (I Y s.vars[x].n)∧wx.cell? ⟨gb,y * 2,nO⟩=sO (I Y s.vars[y].k)∧wx.cell? ⟨gb,y * 2+1,nO⟩=sO (I Y s.vars[y].n):=by
  intro wx hb
  rw[hb.cell (by simpa using z1),hb.cell (by simp),hb.cell (by simp),hb.cell (by simp),hb.cell (by simpa using z2),hb.cell (by simpa using z2),hb.cell (by simpa using z2),hb.cell (by simpa using z2)]
  simp[go_sem,hm,q1,hg2,kx0,kx1,ky0,ky1]
 clear hcell hfz
 go_enter Tryz.func86,Tryz.ntmps86
 go_wp2
 refine au (S:=(λwx=>wx.cell? ⟨m,1,nO⟩=sO (U (sO ⟨gb,0,nO⟩) s.vars.length cap)∧wx.cell? ⟨w.heap.size,1,nO⟩=sO (I Y t)∧wx.cell? ⟨w.heap.size,2,nO⟩=sO (I Y x)∧wx.cell? ⟨w.heap.size,3,nO⟩=sO (I Y y)∧wx.cell? ⟨gb,x * 2,nO⟩=sO (I Y s.vars[x].k)∧wx.cell? ⟨gb,x * 2+1,nO⟩=sO (I Y s.vars[x].n)∧wx.cell? ⟨gb,y * 2,nO⟩=sO (I Y s.vars[y].k)∧wx.cell? ⟨gb,y * 2+1,nO⟩=sO (I Y s.vars[y].n))) [28] (by kernel_rfl) (K1 _ (bR _ _).drew) (λhHeld=> ?_)
 refine vZ 0 ?_ ?_
 refine vZ 1 ?_ ?_
 refine vZ 2 ?_ ?_
 refine vZ 3 ?_ ?_
 refine vZ 4 ?_ ?_
 refine vZ 5 ?_ ?_
 refine vZ 6 ?_ ?_
 refine vZ 7 ?_ ?_
 refine vZ 8 ?_ ?_
 refine vZ 9 ?_ ?_
 refine vZ 10 ?_ ?_
 refine vZ 11 ?_ ?_
 refine vZ 12 ?_ ?_
 refine vZ 13 ?_ ?_
 refine vZ 14 ?_ ?_
 refine vZ 15 ?_ ?_
 refine vZ 16 ?_ ?_
 refine vZ 17 ?_ ?_
 refine vZ 18 ?_ ?_
 refine vZ 19 ?_ ?_
 refine vZ 20 ?_ ?_
 refine vZ 21 ?_ ?_
 refine vZ 22 ?_ ?_
 refine vZ 23 ?_ ?_
 refine vZ 24 ?_ ?_
 refine iS (i:=25) (v:=Bb (decide (s.vars[x].k=s.vars[y].k)&&decide (s.vars[x].n=s.vars[y].n))) rfl (by kernel_rfl) (by kernel_rfl) (by kernel_rfl) (λ_ _ _ h=>h) (Or.inl ⟨?_,?_⟩) (by assumption) ?_
 ·rfl
 ·intro w hSw
  go_simp
  by_cases e1:s.vars[x].k=s.vars[y].k<;>by_cases e2:s.vars[x].n=s.vars[y].n<;>simp[e1,e2]
 (try simp only[stp,j0])
 refine an (i:=26) rfl (by kernel_rfl) (λK hK=> ?_)
 go_simp
 go_at_call 146
 refine(cP _ _).mono ?_
 rintro e w1 ⟨rfl,hb1⟩
 have HB1:Below (w.heap.size+1) (w.alloc (Cc #[I Y 9,I Y t,I Y x,I Y y,I Y n,I Y g] 100)) w1:=Below.trans (bR _ _).drew (Below.mono hb1 (by simp))
 go_wp2_with fail
 refine hK.out _ _ (K1 _ HB1) (λhHeld=> ?_)
 clear hK K
 (try simp only[stp,j0])
 refine vZ 27 ?_ ?_
 refine aL (i:=28) rfl (by kernel_rfl) (by kernel_rfl) (λK hK=> ?_)
 have HBL:Below (w.heap.size+1) (w.alloc (Cc #[I Y 9,I Y t,I Y x,I Y y,I Y n,I Y g] 100)) (w1):=HB1
 have c0:(w1).cell? ⟨gb,t * 2,nO⟩=sO (I Y s.vars[t].k):=by rw[HBL.cell (by simpa using z2)];simp[go_sem,hg2,kt0]
 have c1:(w1).cell? ⟨gb,t * 2+1,nO⟩=sO (I Y s.vars[t].n):=by rw[HBL.cell (by simpa using z2)];simp[go_sem,hg2,kt1]
 have d0:(w1).frozen? ⟨gb,t * 2,nO⟩=false:=by rw[HBL.frozen (by simpa using z2)];simp[go_sem,hg2,f0]
 have d1:(w1).frozen? ⟨gb,t * 2+1,nO⟩=false:=by rw[HBL.frozen (by simpa using z2)];simp[go_sem,hg2,f1]
 generalize w1=wl at *
 go_simp
 refine hK.out _ _ ?_
 clear hK K
 (try simp only[stp,j0])
 refine aq (by kernel_rfl) ?_ _
 go_wp2
 go_ret
 have HW:Below w.heap.size w wl:=Below.trans (by go_grown) (HBL.mono (j3 _))
 exact⟨rfl,⟨_,_,_,_,(h.below HW).put t ht (b8 (decide (s.vars[x].k=s.vars[y].k)&&decide (s.vars[x].n=s.vars[y].n)))⟩,((HW.mono hB).setCell hg1 _).setCell hg1 _,λj _=>by rw[cY _ _ _ _ _ _ _ _ am];exact HW.cell hm,cZ HW (by simp[ag,j8]) _ _ _ _⟩
theorem Iq (m B t:Nat)(s:St)(vv tv lv:Value)(fv:List Value)(a b n g:Int)(w:World)(h:OwnRun w B m s vv tv lv fv)(hB:B≤w.heap.size)(ht:t < s.vars.length)(is:Option Addr)(ic:Nat)(ins:List Int)(hl0:0≤n)(hl1:n≤1000000)(h9:w.cell? ⟨m,9,nO⟩=sO (U is ins.length ic))(hi:IntsAt w is ins)(htk:0≤s.taken):
  Calls pG 86 #[Pp (sO ⟨m,0,nO⟩),Ag #[I Y 14,I Y t,I Y a,I Y b,I Y n,I Y g]] w λe w'=>e=Rt (I Y 0)∧MStep w w' B m (ag m vv tv lv fv) {s with vars:=s.vars.set t ⟨1,eQ ins s.taken n⟩,taken:=w64 (s.taken+1)}:=by
 have hm:m < w.heap.size:=h.lt (by simp[ag])
 have z1:m < w.heap.size+1:=by omega
 obtain⟨gb,cap,rfl,hg1,hg2,hcell,hfz⟩:=h.form (by omega)
 have am:m≠gb:=h.vars_apart rfl m (by simp)
 have ah:w.heap.size≠gb:=by omega
 have q1:=h.vars_
 have z2:gb < w.heap.size+1:=by omega
 obtain⟨kt0,kt1⟩:=hcell t ht
 have nt0:(0:Int)≤(t:Int):=by omega
 have nt1:(t:Int) < (s.vars.length:Int):=by omega
 have f0:=hfz (t * 2)
 have f1:=hfz (t * 2+1)
 have K1:∀wx,Below (w.heap.size+1) (w.alloc (Cc #[I Y 14,I Y t,I Y a,I Y b,I Y n,I Y g] 100)) wx→wx.cell? ⟨m,1,nO⟩=sO (U (sO ⟨gb,0,nO⟩) s.vars.length cap)∧wx.cell? ⟨w.heap.size,1,nO⟩=sO (I Y t)∧wx.cell? ⟨w.heap.size,4,nO⟩=sO (I Y n):=by
  intro wx hb
  rw[hb.cell (by simpa using z1),hb.cell (by simp),hb.cell (by simp)]
  simp[go_sem,hm,q1]
 have hin:wr (eQ ins s.taken n)=eQ ins s.taken n:=by
  have: -1000000≤eQ ins s.taken n∧eQ ins s.taken n≤1000000:=by
   unfold eQ
   split
   ·have:=lC (x:=ins.getD s.taken.toNat 0) hl0
    omega
   ·omega
  unfold wr
  omega
 have hG:Below w.heap.size w (w.alloc (Cc #[I Y 14,I Y t,I Y a,I Y b,I Y n,I Y g] 100)).drew:=by go_grown
 have h9':(w.alloc (Cc #[I Y 14,I Y t,I Y a,I Y b,I Y n,I Y g] 100)).drew.cell? ⟨m,9,nO⟩=sO (U is ins.length ic):=by rw[hG.cell (by simpa using hm)];exact h9
 have HT:=aF (CM m B s _ tv lv fv n is ic ins (w.alloc (Cc #[I Y 14,I Y t,I Y a,I Y b,I Y n,I Y g] 100)).drew (h.below hG) hl0 hl1 h9' (hi.below hG (lR _)) htk)
 clear hcell hfz h9 h9' hi
 go_enter Tryz.func86,Tryz.ntmps86
 go_wp2
 refine au (S:=(λwx=>wx.cell? ⟨m,1,nO⟩=sO (U (sO ⟨gb,0,nO⟩) s.vars.length cap)∧wx.cell? ⟨w.heap.size,1,nO⟩=sO (I Y t)∧wx.cell? ⟨w.heap.size,4,nO⟩=sO (I Y n))) [13] (by kernel_rfl) (K1 _ (bR _ _).drew) (λhHeld=> ?_)
 refine vZ 0 ?_ ?_
 refine vZ 1 ?_ ?_
 refine vZ 2 ?_ ?_
 refine vZ 3 ?_ ?_
 refine vZ 4 ?_ ?_
 refine vZ 5 ?_ ?_
 refine vZ 6 ?_ ?_
 refine vZ 7 ?_ ?_
 refine vZ 8 ?_ ?_
 refine vZ 9 ?_ ?_
 refine an (i:=10) rfl (by kernel_rfl) (λK hK=> ?_)
 go_simp
 go_at_call 151
 refine HT.out.mono ?_
 rintro e w1 ⟨rfl,wa,hb1,rfl⟩
 have HBa:Below (w.heap.size+1) (w.alloc (Cc #[I Y 14,I Y t,I Y a,I Y b,I Y n,I Y g] 100)) wa:=Below.trans (bR _ _).drew (Below.mono hb1 (by simp))
 have hSa:(wa.setCell ⟨m,3,nO⟩ (I Y (w64 (s.taken+1)))).cell? ⟨m,1,nO⟩=sO (U (sO ⟨gb,0,nO⟩) s.vars.length cap)∧(wa.setCell ⟨m,3,nO⟩ (I Y (w64 (s.taken+1)))).cell? ⟨w.heap.size,1,nO⟩=sO (I Y t)∧(wa.setCell ⟨m,3,nO⟩ (I Y (w64 (s.taken+1)))).cell? ⟨w.heap.size,4,nO⟩=sO (I Y n):=by
  obtain⟨s1,s2,s3⟩:=K1 _ HBa
  refine⟨?_,?_,?_⟩
  ·rw[Q6 _ _ _ _ (by intro e;cases e)];exact s1
  ·rw[Q7 _ _ _ _ (by simp;omega)];exact s2
  ·rw[Q7 _ _ _ _ (by simp;omega)];exact s3
 go_wp2_with fail
 refine hK.out _ _ hSa (λhHeld=> ?_)
 clear hK K
 (try simp only[stp,j0])
 refine an (i:=11) rfl (by kernel_rfl) (λK hK=> ?_)
 go_simp
 go_at_call 145
 refine(gh _ _).mono ?_
 rintro e w2 ⟨rfl,hb2⟩
 rw[hin]
 have HB2:Below (wa.setCell ⟨m,3,nO⟩ (I Y (w64 (s.taken+1)))).heap.size (wa.setCell ⟨m,3,nO⟩ (I Y (w64 (s.taken+1)))) w2:=hb2
 have hwa:w.heap.size+1≤wa.heap.size:=by have:=HBa.size;simpa using this
 have hwz:(wa.setCell ⟨m,3,nO⟩ (I Y (w64 (s.taken+1)))).heap.size=wa.heap.size:=by simp[World.setCell]
 have hS2:w2.cell? ⟨m,1,nO⟩=sO (U (sO ⟨gb,0,nO⟩) s.vars.length cap)∧w2.cell? ⟨w.heap.size,1,nO⟩=sO (I Y t)∧w2.cell? ⟨w.heap.size,4,nO⟩=sO (I Y n):=by
  obtain⟨s1,s2,s3⟩:=hSa
  refine⟨?_,?_,?_⟩
  ·rw[HB2.cell (by simp only[hwz];omega)];exact s1
  ·rw[HB2.cell (by simp only[hwz];omega)];exact s2
  ·rw[HB2.cell (by simp only[hwz];omega)];exact s3
 go_wp2_with fail
 refine hK.out _ _ hS2 (λhHeld=> ?_)
 clear hK K
 (try simp only[stp,j0])
 refine vZ 12 ?_ ?_
 refine aL (i:=13) rfl (by kernel_rfl) (by kernel_rfl) (λK hK=> ?_)
 have oA:OwnRun wa B m s (U (sO ⟨gb,0,nO⟩) s.vars.length cap) tv lv fv:=h.below (hG.trans (hb1.mono hG.size))
 have oB:=oA.setM 3 (w64 (s.taken+1)) (by omega)
 have oC:=oB.below HB2
 simp only[Nat.reduceEqDiff,if_true,if_false] at oC
 obtain⟨gb',cap',e',-,-,hcell,hfz⟩:=oC.form (by simpa using(show 0 < s.vars.length by omega))
 cases e'
 obtain⟨c0,c1⟩:=hcell t ht
 have d0:=hfz (t * 2)
 have d1:=hfz (t * 2+1)
 clear hcell hfz
 go_simp
 refine hK.out _ _ ?_
 clear hK K
 (try simp only[stp,j0])
 refine aq (by kernel_rfl) ?_ _
 go_wp2
 go_ret
 have hBm:B≤m:=h.low
 have HW:Below B w w2:=Below.trans ((Below.trans (hG.mono hB) (hb1.mono (by have:=hG.size;omega))).setCell hBm _) (HB2.mono (by simp only[hwz];omega))
 refine⟨rfl,⟨_,_,_,_,oC.put t ht ⟨1,eQ ins s.taken n⟩⟩,(HW.setCell hg1 _).setCell hg1 _,λj hj=> ?_,?_⟩
 rotate_left
 ·refine cE (w1:=w2) ?_ HW.size (cZ (bR _ _) (by simp[ag,j8]) _ _ _ _)
  refine cE (cJ (hG.trans (hb1.mono hG.size))) (by omega) ?_
  exact cE (iU (by simp[ag]) _ _) (by omega) (cJ HB2)
 rw[cY _ _ _ _ _ _ _ _ am,HB2.cell (by simp only[hwz];omega),Q6 _ _ _ _ (by intro e;cases e;omega),hb1.cell (by simp;omega),hG.cell (by simpa using hm)]
theorem Im (m B x:Nat)(s:St)(vv tv lv:Value)(fv:List Value)(t b n g:Int)(w:World)(h:OwnRun w B m s vv tv lv fv)(hB:B≤w.heap.size)(hx:x < s.vars.length)(T:Nat)(hv:bS T s.vars[x]):
  Calls pG 86 #[Pp (sO ⟨m,0,nO⟩),Ag #[I Y 17,I Y t,I Y x,I Y b,I Y n,I Y g]] w λe w'=>e=Rt (I Y (if cnt s.vars[x]=true then 0 else 3))∧MStep w w' B m (ag m vv tv lv fv) s:=by
 have hm:m < w.heap.size:=h.lt (by simp[ag])
 have z1:m < w.heap.size+1:=by omega
 obtain⟨gb,cap,rfl,hg1,hg2,hcell,hfz⟩:=h.form (by omega)
 have am:m≠gb:=h.vars_apart rfl m (by simp)
 have ah:w.heap.size≠gb:=by omega
 have q1:=h.vars_
 have z2:gb < w.heap.size+1:=by omega
 obtain⟨kx0,kx1⟩:=hcell x hx
 have nx0:(0:Int)≤(x:Int):=by omega
 have nx1:(x:Int) < (s.vars.length:Int):=by omega
 have K1:∀wx,Below (w.heap.size+1) (w.alloc (Cc #[I Y 17,I Y t,I Y x,I Y b,I Y n,I Y g] 100)) wx→wx.cell? ⟨m,1,nO⟩=sO (U (sO ⟨gb,0,nO⟩) s.vars.length cap)∧wx.cell? ⟨w.heap.size,2,nO⟩=sO (I Y x)∧wx.cell? ⟨gb,x * 2,nO⟩=sO (I Y s.vars[x].k)∧wx.cell? ⟨gb,x * 2+1,nO⟩=sO (I Y s.vars[x].n):=by
  intro wx hb
  rw[hb.cell (by simpa using z1),hb.cell (by simp),hb.cell (by simpa using z2),hb.cell (by simpa using z2)]
  simp[go_sem,hm,q1,hg2,kx0,kx1]
 clear hcell hfz
 have HC:=aF (λwx=>mG T s.vars[x] wx hv)
 generalize cnt s.vars[x]=cv at *
 go_enter Tryz.func86,Tryz.ntmps86
 go_wp2
 refine au (S:=(λwx=>wx.cell? ⟨m,1,nO⟩=sO (U (sO ⟨gb,0,nO⟩) s.vars.length cap)∧wx.cell? ⟨w.heap.size,2,nO⟩=sO (I Y x)∧wx.cell? ⟨gb,x * 2,nO⟩=sO (I Y s.vars[x].k)∧wx.cell? ⟨gb,x * 2+1,nO⟩=sO (I Y s.vars[x].n))) [] (by kernel_rfl) (K1 _ (bR _ _).drew) (λhHeld=> ?_)
 refine vZ 0 ?_ ?_
 refine vZ 1 ?_ ?_
 refine vZ 2 ?_ ?_
 refine vZ 3 ?_ ?_
 refine vZ 4 ?_ ?_
 refine vZ 5 ?_ ?_
 refine vZ 6 ?_ ?_
 refine vZ 7 ?_ ?_
 refine vZ 8 ?_ ?_
 refine an (i:=9) rfl (by kernel_rfl) (λK hK=> ?_)
 go_simp
 go_at_call 148
 refine(HC.out _).mono ?_
 rintro e w1 ⟨rfl,hb1⟩
 have HB1:Below (w.heap.size+1) (w.alloc (Cc #[I Y 17,I Y t,I Y x,I Y b,I Y n,I Y g] 100)) w1:=Below.trans (bR _ _).drew (Below.mono hb1 (by simp))
 go_wp2_with fail
 refine hK.out _ _ (K1 _ HB1) (λhHeld=> ?_)
 clear hK K
 (try simp only[stp,j0])
 refine vZ 10 ?_ ?_
 refine aq (by kernel_rfl) ?_ _
 have HW:Below w.heap.size w w1:=Below.trans (by go_grown) (HB1.mono (j3 _))
 have HO:=h.below HW
 have HM:=HW.mono hB
 have HE:∀j,w1.cell? ⟨m,j,nO⟩=w.cell? ⟨m,j,nO⟩:=λj=>HW.cell hm
 have HX:=aF (And.intro HO (And.intro HM (And.intro HE HW)))
 clear HO HM HE h
 cases cv
 all_goals
  go_wp2
  go_ret
  exact⟨rfl,⟨_,_,_,_,HX.out.1⟩,HX.out.2.1,λj _=>HX.out.2.2.1 j,cJ HX.out.2.2.2⟩

theorem mj {p:Prop}(h:p:=by
 have HX:=aF (And.intro (h.below HW) (And.intro (HW.mono hB) (And.intro hc HW)))
 clear h hc HW
 go_enter Tryz.func86,Tryz.ntmps86
 go_wp2
 go_ret
 exact⟨rfl,⟨_,_,_,_,HX.out.1⟩,HX.out.2.1,λj _=>HX.out.2.2.1 j,cJ HX.out.2.2.2⟩):p:=h
theorem IH (m B:Nat)(s:St)(vv tv lv:Value)(fv:List Value)(t a b n g:Int)(w:World)(h:OwnRun w B m s vv tv lv fv)(hB:B≤w.heap.size):
  Calls pG 86 #[Pp (sO ⟨m,0,nO⟩),Ag #[I Y 15,I Y t,I Y a,I Y b,I Y n,I Y g]] w λe w'=>e=Rt (I Y 0)∧MStep w w' B m (ag m vv tv lv fv) s:=by
 have hm:m < w.heap.size:=h.lt (by simp[ag])
 have HW:Below w.heap.size w (w.alloc (Cc #[I Y 15,I Y t,I Y a,I Y b,I Y n,I Y g] 100)):=by go_grown
 have hc:∀j,(w.alloc (Cc #[I Y 15,I Y t,I Y a,I Y b,I Y n,I Y g] 100)).cell? ⟨m,j,nO⟩=w.cell? ⟨m,j,nO⟩:=λj=>HW.cell hm
 exact mj

theorem Ii (m B:Nat)(s:St)(vv tv lv:Value)(fv:List Value)(t a b n g:Int)(w:World)(h:OwnRun w B m s vv tv lv fv)(hB:B≤w.heap.size):
  Calls pG 86 #[Pp (sO ⟨m,0,nO⟩),Ag #[I Y 16,I Y t,I Y a,I Y b,I Y n,I Y g]] w λe w'=>e=Rt (I Y 0)∧MStep w w' B m (ag m vv tv lv fv) s:=by
 have hm:m < w.heap.size:=h.lt (by simp[ag])
 have HW:Below w.heap.size w (w.alloc (Cc #[I Y 16,I Y t,I Y a,I Y b,I Y n,I Y g] 100)):=by go_grown
 have hc:∀j,(w.alloc (Cc #[I Y 16,I Y t,I Y a,I Y b,I Y n,I Y g] 100)).cell? ⟨m,j,nO⟩=w.cell? ⟨m,j,nO⟩:=λj=>HW.cell hm
 exact mj

theorem Iv (m B:Nat)(s:St)(vv tv lv:Value)(fv:List Value)(t a b n g:Int)(w:World)(h:OwnRun w B m s vv tv lv fv)(hB:B≤w.heap.size):
  Calls pG 86 #[Pp (sO ⟨m,0,nO⟩),Ag #[I Y 19,I Y t,I Y a,I Y b,I Y n,I Y g]] w λe w'=>e=Rt (I Y 1)∧MStep w w' B m (ag m vv tv lv fv) s:=by
 have hm:m < w.heap.size:=h.lt (by simp[ag])
 have HW:Below w.heap.size w (w.alloc (Cc #[I Y 19,I Y t,I Y a,I Y b,I Y n,I Y g] 100)):=by go_grown
 have hc:∀j,(w.alloc (Cc #[I Y 19,I Y t,I Y a,I Y b,I Y n,I Y g] 100)).cell? ⟨m,j,nO⟩=w.cell? ⟨m,j,nO⟩:=λj=>HW.cell hm
 exact mj
theorem CT (m B:Nat)(s:St)(vv tv lv:Value)(fv:List Value)(k t a b n g:Int)(w:World)(h:OwnRun w B m s vv tv lv fv)(h15:k≠15)(h16:k≠16)(h0:0≤s.at_)(h60:s.at_≤60):
  Calls pG 87 #[Pp (sO ⟨m,0,nO⟩),Ag #[I Y k,I Y t,I Y a,I Y b,I Y n,I Y g]] w λe w'=>e=Rt (I Y (s.at_+1))∧Below w.heap.size w w':=by
 have hm:m < w.heap.size:=h.lt (by simp[ag])
 have q0:=h.at_
 have b15:(k==15)=false:=by simpa using h15
 have b16:(k==16)=false:=by simpa using h16
 have HW:Below w.heap.size w (w.alloc (Cc #[I Y k,I Y t,I Y a,I Y b,I Y n,I Y g] 100)):=by go_grown
 have q0':(w.alloc (Cc #[I Y k,I Y t,I Y a,I Y b,I Y n,I Y g] 100)).cell? ⟨m,0,nO⟩=sO (I Y s.at_):=by rw[HW.cell (by simpa using hm)];exact q0
 have x0:(w.alloc (Cc #[I Y k,I Y t,I Y a,I Y b,I Y n,I Y g] 100)).cell? ⟨w.heap.size,0,nO⟩=sO (I Y k):=by simp[go_sem]
 clear h
 go_enter Tryz.func87,Tryz.ntmps87
 go_wp2
 go_quiet (fail)
 go_wp2
 go_ret
 exact⟨rfl,HW.trans (below_drewN (bR _ _) _)⟩
theorem CI (m:Nat)(t a b n g:Int)(w:World):
  Calls pG 87 #[Pp (sO ⟨m,0,nO⟩),Ag #[I Y 16,I Y t,I Y a,I Y b,I Y n,I Y g]] w λe w'=>e=Rt (I Y g)∧Below w.heap.size w w':=by
 have HW:Below w.heap.size w (w.alloc (Cc #[I Y 16,I Y t,I Y a,I Y b,I Y n,I Y g] 100)):=by go_grown
 have x0:(w.alloc (Cc #[I Y 16,I Y t,I Y a,I Y b,I Y n,I Y g] 100)).cell? ⟨w.heap.size,0,nO⟩=sO (I Y 16):=by simp[go_sem]
 go_enter Tryz.func87,Tryz.ntmps87
 go_wp2
 go_quiet (fail)
 go_wp2
 go_ret
 exact⟨rfl,HW.trans (below_drewN (bR _ _) _)⟩
theorem Gi (m B x:Nat)(s:St)(vv tv lv:Value)(fv:List Value)(t b n g:Int)(w:World)(h:OwnRun w B m s vv tv lv fv)(hx:x < s.vars.length)(T:Nat)(hv:bS T s.vars[x])(h0:0≤s.at_)(h60:s.at_≤60):
  Calls pG 87 #[Pp (sO ⟨m,0,nO⟩),Ag #[I Y 15,I Y t,I Y x,I Y b,I Y n,I Y g]] w λe w'=>e=Rt (I Y (bif cnt s.vars[x] then g else s.at_+1))∧Below w.heap.size w w':=by
 have hm:m < w.heap.size:=h.lt (by simp[ag])
 have q0:=h.at_
 have q1:=h.vars_
 obtain⟨gb,cap,rfl,hg1,hg2,hcell,hfz⟩:=h.form (by omega)
 obtain⟨kx0,kx1⟩:=hcell x hx
 have nx0:(0:Int)≤(x:Int):=by omega
 have nx1:(x:Int) < (s.vars.length:Int):=by omega
 have HW:Below w.heap.size w (w.alloc (Cc #[I Y 15,I Y t,I Y x,I Y b,I Y n,I Y g] 100)):=by go_grown
 have KZ:∀wx,Below (w.heap.size+1) (w.alloc (Cc #[I Y 15,I Y t,I Y x,I Y b,I Y n,I Y g] 100)) wx→wx.cell? ⟨m,1,nO⟩=sO (U (sO ⟨gb,0,nO⟩) s.vars.length cap)∧wx.cell? ⟨w.heap.size,0,nO⟩=sO (I Y 15)∧wx.cell? ⟨w.heap.size,2,nO⟩=sO (I Y x)∧wx.cell? ⟨gb,x * 2,nO⟩=sO (I Y s.vars[x].k)∧wx.cell? ⟨gb,x * 2+1,nO⟩=sO (I Y s.vars[x].n):=by
  intro wx hb
  rw[hb.cell (by simp;omega),hb.cell (by simp),hb.cell (by simp),hb.cell (by simp;omega),hb.cell (by simp;omega)]
  simp[go_sem,hm,q1,hg2,kx0,kx1]
 have q0':(w.alloc (Cc #[I Y 15,I Y t,I Y x,I Y b,I Y n,I Y g] 100)).cell? ⟨m,0,nO⟩=sO (I Y s.at_):=by rw[HW.cell (by simpa using hm)];exact q0
 have HC:=aF (λwx=>mG T s.vars[x] wx hv)
 clear h hcell hfz q1
 generalize cnt s.vars[x]=cv at *
 go_enter Tryz.func87,Tryz.ntmps87
 go_wp2
 refine au (S:=(λwx=>wx.cell? ⟨m,1,nO⟩=sO (U (sO ⟨gb,0,nO⟩) s.vars.length cap)∧wx.cell? ⟨w.heap.size,0,nO⟩=sO (I Y 15)∧wx.cell? ⟨w.heap.size,2,nO⟩=sO (I Y x)∧wx.cell? ⟨gb,x * 2,nO⟩=sO (I Y s.vars[x].k)∧wx.cell? ⟨gb,x * 2+1,nO⟩=sO (I Y s.vars[x].n))) [] (by kernel_rfl) (KZ _ (bR _ _).drew) (λhHeld=> ?_)
 refine vZ 0 ?_ ?_
 refine vZ 1 ?_ ?_
 refine vZ 2 ?_ ?_
 refine vZ 3 ?_ ?_
 refine vZ 4 ?_ ?_
 refine vZ 5 ?_ ?_
 refine vZ 6 ?_ ?_
 refine vZ 7 ?_ ?_
 refine vZ 8 ?_ ?_
 refine vZ 9 ?_ ?_
 refine vZ 10 ?_ ?_
 refine vZ 11 ?_ ?_
 refine vZ 12 ?_ ?_
 refine vZ 13 ?_ ?_
 refine vZ 14 ?_ ?_
 refine vZ 15 ?_ ?_
 refine vZ 16 ?_ ?_
 refine an (i:=17) rfl (by kernel_rfl) (λK hK=> ?_)
 go_simp
 go_at_call 148
 refine(HC.out _).mono ?_
 rintro e w1 ⟨rfl,hb1⟩
 have HB1:Below (w.heap.size+1) (w.alloc (Cc #[I Y 15,I Y t,I Y x,I Y b,I Y n,I Y g] 100)) w1:=Below.trans (bR _ _).drew (Below.mono hb1 (by simp))
 go_wp2_with fail
 refine hK.out _ _ (KZ _ HB1) (λhHeld=> ?_)
 clear hK K
 refine sm ?_
 refine vZ 18 ?_ ?_
 refine vZ 19 ?_ ?_
 refine aq (by kernel_rfl) ?_ _
 have q0'':w1.cell? ⟨m,0,nO⟩=sO (I Y s.at_):=by rw[HB1.cell (by simp;omega)];exact q0'
 have x5:w1.cell? ⟨w.heap.size,5,nO⟩=sO (I Y g):=by rw[HB1.cell (by simp)];simp[go_sem]
 have HF:Below w.heap.size w w1:=HW.trans (HB1.mono (j3 _))
 cases cv
 all_goals
  go_wp2
  go_ret
  exact⟨rfl,HF⟩
theorem ThgsAt.list {w:World}{s:Option Addr}{l:List Thg}(h:ThgsAt w s l):∃fo:List Value,fo.length=l.length∧(∀k (h:k < l.length) (h':k < fo.length),∃f fc,fo[k]=U f l[k].fs.length fc∧ValsAt w f l[k].fs)∧(l=[]∨∃b off,s=sO ⟨b,off,nO⟩∧b < w.heap.size∧∀k (h:k < l.length) (h':k < fo.length),w.cell? ⟨b,off+k * 2,nO⟩=sO (I Y l[k].site)∧w.cell? ⟨b,off+k * 2+1,nO⟩=sO fo[k]):=by
 rcases h with rfl|⟨b,off,rfl,hb,hi⟩
 ·exact⟨[],rfl,λk h=>by simp at h,.inl rfl⟩
 ·have each:∀k,∃v:Value,∀h:k < l.length,(∃f fc,v=U f l[k].fs.length fc∧ValsAt w f l[k].fs)∧w.cell? ⟨b,off+k * 2+1,nO⟩=sO v:=by
   intro k
   by_cases hk:k < l.length
   ·obtain⟨-,f,fc,h2,h3⟩:=hi k hk
    exact⟨U f l[k].fs.length fc,λ_=>⟨⟨f,fc,rfl,h3⟩,h2⟩⟩
   ·exact⟨I Y 0,λh=>absurd h hk⟩
  refine⟨(j2 l.length).map λk=>Classical.choose (each k),by simp,λk h h'=> ?_,.inr ⟨b,off,rfl,hb,λk h h'=>⟨(hi k h).1,?_⟩⟩⟩
  ·simp only[Q8,Q9]
   exact(Classical.choose_spec (each k) h).1
  ·simp only[Q8,Q9]
   exact(Classical.choose_spec (each k) h).2
theorem wH (ss:List Int)(fs:List Value)(h:fs.length=ss.length)(j:Nat)(u:Value)(hu:(bL ss fs)[j]? =sO u):∃k,∃h1:k < ss.length,∃h2:k < fs.length,(j=k * 2∧u=I Y ss[k])∨(j=k * 2+1∧u=fs[k]):=by
 have hj:j < ss.length * 2:=by
  have:=(J6.1 hu).1
  rw[fS ss fs h] at this
  exact this
 have hk:j / 2 < ss.length:=by omega
 have hk':j / 2 < fs.length:=by omega
 refine⟨j / 2,hk,hk',?_⟩
 rcases Z0 j with hm|hm
 ·left
  have e:j=j / 2 * 2:=by omega
  refine⟨e,?_⟩
  have:=gK ss fs h (j / 2) hk
  rw[←e,hu] at this
  exact z9.inj this
 ·right
  have e:j=j / 2 * 2+1:=by omega
  refine⟨e,?_⟩
  have:=fu ss fs h (j / 2) hk'
  rw[←e,hu] at this
  exact z9.inj this
theorem yl (l:List Val)(j:Nat)(u:Value)(hu:(bU l)[j]? =sO u):∃k,∃h:k < l.length,(j=k * 2∧u=I Y l[k].k)∨(j=k * 2+1∧u=I Y l[k].n):=by
 have hj:j < l.length * 2:=by
  have:=(J6.1 hu).1
  rw[ip l] at this
  exact this
 have hk:j / 2 < l.length:=by omega
 refine⟨j / 2,hk,?_⟩
 rcases Z0 j with hm|hm
 ·left
  have e:j=j / 2 * 2:=by omega
  refine⟨e,?_⟩
  have:=kj l (j / 2) hk
  rw[←e,hu] at this
  exact z9.inj this
 ·right
  have e:j=j / 2 * 2+1:=by omega
  refine⟨e,?_⟩
  have:=kH l (j / 2) hk
  rw[←e,hu] at this
  exact z9.inj this
theorem nY:∀(ss:List Int) (fs:List Value) (_:fs.length=ss.length) (i:Nat) (_:i < fs.length) (v:Value),(bL ss fs).set (i * 2+1) v=bL ss (fs.set i v)
 |[],[],_,_,h,_=>by simp at h
 |[],_::_,h,_,_,_=>by simp at h
 |_::_,[],h,_,_,_=>by simp at h
 |_::_,_::_,_,0,_,_=>rfl
 |a::ss,b::fs,h,i+1,hi,v=>by
  have:=nY ss fs (by simpa using h) i (by simpa using hi) v
  rw[show (i+1) * 2+1=(i * 2+1)+1+1 by omega]
  simp only[bL,J8,this]
theorem ValsAt.news {w:World}{s:Option Addr}{l:List Val}(h:ValsAt w s l):∀ad,s=sO ad→∀j u,(bU l)[j]? =sO u→w.cell? (ad.add j)=sO u:=by
 intro ad hs j u hu
 rcases h with rfl|⟨b,off,rfl,hb,hi⟩
 ·simp[bU] at hu
 ·cases hs
  obtain⟨k,hk,⟨rfl,rfl⟩|⟨rfl,rfl⟩⟩:=yl l j u hu
  ·have e:(⟨b,off,nO⟩:Addr).add (k * 2)=⟨b,off+k * 2,nO⟩:=by unfold Addr.add;split<;>simp_all
   rw[e];exact(hi k hk).1
  ·have e:(⟨b,off,nO⟩:Addr).add (k * 2+1)=⟨b,off+k * 2+1,nO⟩:=by unfold Addr.add;split<;>simp_all[Nat.add_assoc]
   rw[e];exact(hi k hk).2
theorem ValsAt.nil {w:World}{s:Option Addr}{l:List Val}(h:ValsAt w s l):s=none→l.length=0:=by
 rintro rfl
 rcases h with rfl|⟨b,off,h,_⟩
 ·rfl
 ·cases h
theorem StrsAt.news {w:World}{s:Option Addr}{l:List ByteArray}(h:StrsAt w s l):∀ad,s=sO ad→∀j u,(l.map Value.string)[j]? =sO u→w.cell? (ad.add j)=sO u:=by
 intro ad hs j u hu
 rcases h with rfl|⟨b,off,rfl,hb,hi⟩
 ·simp at hu
 ·cases hs
  have hj:j < l.length:=by have:=(J6.1 hu).1;simpa using this
  have e:(⟨b,off,nO⟩:Addr).add j=⟨b,off+j,nO⟩:=by unfold Addr.add;split<;>simp_all
  rw[e,hi j hj]
  simpa[hj] using hu
theorem StrsAt.nil {w:World}{s:Option Addr}{l:List ByteArray}(h:StrsAt w s l):s=none→l.length=0:=by
 rintro rfl
 rcases h with rfl|⟨b,off,h,_⟩
 ·rfl
 ·cases h
theorem ThgsAt.nil {w:World}{s:Option Addr}{l:List Thg}(h:ThgsAt w s l):s=none→l.length=0:=by
 rintro rfl
 rcases h with rfl|⟨b,off,h,_⟩
 ·rfl
 ·cases h
theorem EE (l:List Val):∀u∈bU l,u.oneCell'=true:=by
 induction l with
 |nil=>intro u hu;cases hu
 |cons v r ih=>
  intro u hu
  simp only[bU,j5] at hu
  rcases hu with rfl|rfl|hu
  ·rfl
  ·rfl
  ·exact ih u hu
theorem Ff (l:List ByteArray):∀u∈l.map Value.string,u.oneCell'=true:=by
 intro u hu
 obtain⟨x,_,rfl⟩:=x8.1 hu
 rfl
theorem vX:∀(ss:List Int) (fs:List Value) (_:∀v∈fs,v.oneCell'=true),∀u∈bL ss fs,u.oneCell'=true
 |[],_,_,u,hu=>by simp[bL] at hu
 |_::_,[],_,u,hu=>by simp[bL] at hu
 |a::ss,b::fs,h,u,hu=>by
  simp only[bL,j5] at hu
  rcases hu with rfl|rfl|hu
  ·rfl
  ·exact h _ (by simp)
  ·exact vX ss fs (λv hv=>h v (by simp[hv])) u hu
theorem gp {α:Type}(l:List α)(p:α→Bool)(k:Nat)(h:k < l.length):(l.drop k).any p=(p l[k]||(l.drop (k+1)).any p):=by
 rw[List.drop_eq_getElem_cons h]
 rfl
def P3 (w:World)(b:Nat)(V F:Int)(s:Option Addr)(n cap:Nat):Prop:=(w.cell? ⟨b,0,nO⟩=sO (I Y V)∧w.cell? ⟨b,1,nO⟩=sO (I Y F)∧w.cell? ⟨b,2,nO⟩=sO (U s n cap))∧b < w.heap.size
theorem P3.new (w:World)(V F:Int)(s:Option Addr)(n cap:Nat):P3 (w.alloc (Cc #[I Y V,I Y F,U s n cap] 24)) w.heap.size V F s n cap:=by
 refine⟨⟨?_,?_,?_⟩,?_⟩<;>simp[go_sem]
theorem P3.below {w w':World}{B b:Nat}{V F:Int}{s:Option Addr}{n cap:Nat}(h:P3 w b V F s n cap)(hb:Below B w w')(hB:b < B):P3 w' b V F s n cap:=by
 obtain⟨⟨h0,h1,h2⟩,hz⟩:=h
 exact⟨⟨by rw[hb.cell hB];exact h0,by rw[hb.cell hB];exact h1,by rw[hb.cell hB];exact h2⟩,lL hz hb.size⟩
theorem P3.call {w w':World}{b:Nat}{V F:Int}{s:Option Addr}{n cap:Nat}(h:P3 w b V F s n cap)(hb:Below w.heap.size w w'):P3 w' b V F s n cap:=h.below hb h.2

theorem ku {p:Prop}(h:p:=by
 rintro e w1 ⟨rfl,hb1⟩
 cases hp:p l[k] with
 |true=>
  have HT:Hid (l.any p=true):=by show _=_;rw[HA.out,HN.out,hp];rfl
  clear HN HA
  go_wp2
  go_ret
  exact⟨_,rfl,by rw[HT.out];simp,hbr.trans (hb1.mono s0)⟩
 |false=>
  have HT:Hid (l.any p=(l.drop (k+1)).any p):=by show _=_;rw[HA.out,HN.out,hp];rfl
  clear HN HA
  go_wp2
  go_roundw
  case rel=>exact⟨k+1,by omega,by go_num,hbr.trans (hb1.mono s0),HT⟩
  case measure=>simp[intOf];omega):p:=h
theorem vp (q:Nat)(p:Val→Bool)(ss:Option Addr)(cap:Nat)(l:List Val)(w:World)(hl:l.length≤9223372036854775807)(hs:ValsAt w ss l)(hF:∀(x:Val) (wx:World),Below w.heap.size w wx→Calls pG 132 #[Ag #[I Y x.k,I Y x.n],Pp (sO ⟨q,0,nO⟩)] wx λe w'=>e=Rt (Bb (p x))∧Below wx.heap.size wx w'):
  Calls pG 188 #[U ss l.length cap,.func (.func 132) #[] #[Pp (sO ⟨q,0,nO⟩)]] w λe w'=>∃n:Int,e=Rt (I Y n)∧decide (0≤n)=l.any p∧Below w.heap.size w w':=by
 have HF:=aF hF
 clear hF
 go_enter Tryz.func188,Tryz.ntmps188
 go_wp2
 go_loopw [8] (λi wr=>∃k:Nat,k≤l.length∧i=I Y k∧Below w.heap.size w wr∧Hid (l.any p=(l.drop k).any p)) (λi _=>l.length - (intOf i).toNat)
 case atStart=>exact⟨0,q7 _,rfl,bR _ _,rfl⟩
 case round=>
  obtain⟨k,hk,rfl,hbr,HA⟩:=hrel
  by_cases hlt:k < l.length
  ·rcases hs with hs|⟨b,off,rfl,hb,hc⟩
   ·rw[hs] at hlt;simp at hlt
   have n0:(0:Int)≤(k:Int):=by omega
   have n1:(k:Int) < (l.length:Int):=by omega
   have s0:=hbr.size
   obtain⟨c0,c1⟩:=hc k hlt
   have c0:wr.cell? ⟨b,off+k * 2,nO⟩=sO (I Y l[k].k):=by rw[hbr.cell (by simpa using hb)];exact c0
   have c1:wr.cell? ⟨b,off+k * 2+1,nO⟩=sO (I Y l[k].n):=by rw[hbr.cell (by simpa using hb)];exact c1
   have HN:Hid ((l.drop k).any p=(p l[k]||(l.drop (k+1)).any p)):=gp l p k hlt
   clear hc
   go_wp2_with (go_at_call 132;fail)
   refine(HF.out _ _ hbr).mono ?_
   exact ku
  ·go_wp2
   go_ret
   exact⟨_,rfl,by rw[HA.out,x2 (by omega)];rfl,hbr⟩

theorem kT (q:Nat)(p:Val→Bool)(ss:Option Addr)(cap:Nat)(l:List Val)(w:World)(hl:l.length≤9223372036854775807)(hs:ValsAt w ss l)(hF:∀(x:Val) (wx:World),Below w.heap.size w wx→Calls pG 132 #[Ag #[I Y x.k,I Y x.n],Pp (sO ⟨q,0,nO⟩)] wx λe w'=>e=Rt (Bb (p x))∧Below wx.heap.size wx w'):
  Calls pG 135 #[U ss l.length cap,.func (.func 132) #[] #[Pp (sO ⟨q,0,nO⟩)]] w λe w'=>e=Rt (Bb (l.any p))∧Below w.heap.size w w':=by
 have HF:=aF hF
 clear hF
 go_enter Tryz.func135,Tryz.ntmps135
 go_wp2_with (go_at_call 188;fail)
 refine(vp q p ss cap l _ hl hs HF.out).mono ?_
 rintro e w1 ⟨n,rfl,hn,hb1⟩
 go_wp2
 go_ret
 exact⟨aI (by rw[←hn]),hb1⟩

theorem nW (q:Nat)(p:Thg→Bool)(ss:Option Addr)(cap:Nat)(l:List Thg)(w:World)(hl:l.length≤9223372036854775807)(hs:ThgsAt w ss l)(hF:∀(x:Thg) (f:Option Addr) (fc:Nat) (wx:World),x∈l→Below w.heap.size w wx→ValsAt wx f x.fs→Calls pG 130 #[Ag #[I Y x.site,U f x.fs.length fc],Pp (sO ⟨q,0,nO⟩)] wx λe w'=>e=Rt (Bb (p x))∧Below wx.heap.size wx w'):
  Calls pG 189 #[U ss l.length cap,.func (.func 130) #[] #[Pp (sO ⟨q,0,nO⟩)]] w λe w'=>∃n:Int,e=Rt (I Y n)∧decide (0≤n)=l.any p∧Below w.heap.size w w':=by
 have HF:=aF hF
 clear hF
 go_enter Tryz.func189,Tryz.ntmps189
 go_wp2
 go_loopw [8] (λi wr=>∃k:Nat,k≤l.length∧i=I Y k∧Below w.heap.size w wr∧Hid (l.any p=(l.drop k).any p)) (λi _=>l.length - (intOf i).toNat)
 case atStart=>exact⟨0,q7 _,rfl,bR _ _,rfl⟩
 case round=>
  obtain⟨k,hk,rfl,hbr,HA⟩:=hrel
  by_cases hlt:k < l.length
  ·rcases hs with hs|⟨b,off,rfl,hb,hc⟩
   ·rw[hs] at hlt;simp at hlt
   have n0:(0:Int)≤(k:Int):=by omega
   have n1:(k:Int) < (l.length:Int):=by omega
   have s0:=hbr.size
   obtain⟨c0,f,fc,c1,hv⟩:=hc k hlt
   have c0:wr.cell? ⟨b,off+k * 2,nO⟩=sO (I Y l[k].site):=by rw[hbr.cell (by simpa using hb)];exact c0
   have c1:wr.cell? ⟨b,off+k * 2+1,nO⟩=sO (U f l[k].fs.length fc):=by rw[hbr.cell (by simpa using hb)];exact c1
   have hv':=hv.below hbr (lR _)
   have HN:Hid ((l.drop k).any p=(p l[k]||(l.drop (k+1)).any p)):=gp l p k hlt
   clear hc
   go_wp2_with (go_at_call 130;fail)
   refine(HF.out _ _ _ _ (gM hlt) hbr hv').mono ?_
   exact ku
  ·go_wp2
   go_ret
   exact⟨_,rfl,by rw[HA.out,x2 (by omega)];rfl,hbr⟩

theorem lO (q:Nat)(p:Thg→Bool)(ss:Option Addr)(cap:Nat)(l:List Thg)(w:World)(hl:l.length≤9223372036854775807)(hs:ThgsAt w ss l)(hF:∀(x:Thg) (f:Option Addr) (fc:Nat) (wx:World),x∈l→Below w.heap.size w wx→ValsAt wx f x.fs→Calls pG 130 #[Ag #[I Y x.site,U f x.fs.length fc],Pp (sO ⟨q,0,nO⟩)] wx λe w'=>e=Rt (Bb (p x))∧Below wx.heap.size wx w'):
  Calls pG 136 #[U ss l.length cap,.func (.func 130) #[] #[Pp (sO ⟨q,0,nO⟩)]] w λe w'=>e=Rt (Bb (l.any p))∧Below w.heap.size w w':=by
 have HF:=aF hF
 clear hF
 go_enter Tryz.func136,Tryz.ntmps136
 go_wp2_with (go_at_call 189;fail)
 refine(nW q p ss cap l _ hl hs HF.out).mono ?_
 rintro e w1 ⟨n,rfl,hn,hb1⟩
 go_wp2
 go_ret
 exact⟨aI (by rw[←hn]),hb1⟩

theorem nh (q:Nat)(p:Thg→Bool)(ss:Option Addr)(cap:Nat)(l:List Thg)(w:World)(hl:l.length≤9223372036854775807)(hs:ThgsAt w ss l)(hF:∀(x:Thg) (f:Option Addr) (fc:Nat) (wx:World),x∈l→Below w.heap.size w wx→ValsAt wx f x.fs→Calls pG 131 #[Ag #[I Y x.site,U f x.fs.length fc],Pp (sO ⟨q,0,nO⟩)] wx λe w'=>e=Rt (Bb (p x))∧Below wx.heap.size wx w'):
  Calls pG 189 #[U ss l.length cap,.func (.func 131) #[] #[Pp (sO ⟨q,0,nO⟩)]] w λe w'=>∃n:Int,e=Rt (I Y n)∧decide (0≤n)=l.any p∧Below w.heap.size w w':=by
 have HF:=aF hF
 clear hF
 go_enter Tryz.func189,Tryz.ntmps189
 go_wp2
 go_loopw [8] (λi wr=>∃k:Nat,k≤l.length∧i=I Y k∧Below w.heap.size w wr∧Hid (l.any p=(l.drop k).any p)) (λi _=>l.length - (intOf i).toNat)
 case atStart=>exact⟨0,q7 _,rfl,bR _ _,rfl⟩
 case round=>
  obtain⟨k,hk,rfl,hbr,HA⟩:=hrel
  by_cases hlt:k < l.length
  ·rcases hs with hs|⟨b,off,rfl,hb,hc⟩
   ·rw[hs] at hlt;simp at hlt
   have n0:(0:Int)≤(k:Int):=by omega
   have n1:(k:Int) < (l.length:Int):=by omega
   have s0:=hbr.size
   obtain⟨c0,f,fc,c1,hv⟩:=hc k hlt
   have c0:wr.cell? ⟨b,off+k * 2,nO⟩=sO (I Y l[k].site):=by rw[hbr.cell (by simpa using hb)];exact c0
   have c1:wr.cell? ⟨b,off+k * 2+1,nO⟩=sO (U f l[k].fs.length fc):=by rw[hbr.cell (by simpa using hb)];exact c1
   have hv':=hv.below hbr (lR _)
   have HN:Hid ((l.drop k).any p=(p l[k]||(l.drop (k+1)).any p)):=gp l p k hlt
   clear hc
   go_wp2_with (go_at_call 131;fail)
   refine(HF.out _ _ _ _ (gM hlt) hbr hv').mono ?_
   exact ku
  ·go_wp2
   go_ret
   exact⟨_,rfl,by rw[HA.out,x2 (by omega)];rfl,hbr⟩

theorem lH (q:Nat)(p:Thg→Bool)(ss:Option Addr)(cap:Nat)(l:List Thg)(w:World)(hl:l.length≤9223372036854775807)(hs:ThgsAt w ss l)(hF:∀(x:Thg) (f:Option Addr) (fc:Nat) (wx:World),x∈l→Below w.heap.size w wx→ValsAt wx f x.fs→Calls pG 131 #[Ag #[I Y x.site,U f x.fs.length fc],Pp (sO ⟨q,0,nO⟩)] wx λe w'=>e=Rt (Bb (p x))∧Below wx.heap.size wx w'):
  Calls pG 136 #[U ss l.length cap,.func (.func 131) #[] #[Pp (sO ⟨q,0,nO⟩)]] w λe w'=>e=Rt (Bb (l.any p))∧Below w.heap.size w w':=by
 have HF:=aF hF
 clear hF
 go_enter Tryz.func136,Tryz.ntmps136
 go_wp2_with (go_at_call 189;fail)
 refine(nh q p ss cap l _ hl hs HF.out).mono ?_
 rintro e w1 ⟨n,rfl,hn,hb1⟩
 go_wp2
 go_ret
 exact⟨aI (by rw[←hn]),hb1⟩

theorem nI (q:Nat)(p:Thg→Bool)(ss:Option Addr)(cap:Nat)(l:List Thg)(w:World)(hl:l.length≤9223372036854775807)(hs:ThgsAt w ss l)(hF:∀(x:Thg) (f:Option Addr) (fc:Nat) (wx:World),x∈l→Below w.heap.size w wx→ValsAt wx f x.fs→Calls pG 134 #[Ag #[I Y x.site,U f x.fs.length fc],Pp (sO ⟨q,0,nO⟩)] wx λe w'=>e=Rt (Bb (p x))∧Below wx.heap.size wx w'):
  Calls pG 189 #[U ss l.length cap,.func (.func 134) #[] #[Pp (sO ⟨q,0,nO⟩)]] w λe w'=>∃n:Int,e=Rt (I Y n)∧decide (0≤n)=l.any p∧Below w.heap.size w w':=by
 have HF:=aF hF
 clear hF
 go_enter Tryz.func189,Tryz.ntmps189
 go_wp2
 go_loopw [8] (λi wr=>∃k:Nat,k≤l.length∧i=I Y k∧Below w.heap.size w wr∧Hid (l.any p=(l.drop k).any p)) (λi _=>l.length - (intOf i).toNat)
 case atStart=>exact⟨0,q7 _,rfl,bR _ _,rfl⟩
 case round=>
  obtain⟨k,hk,rfl,hbr,HA⟩:=hrel
  by_cases hlt:k < l.length
  ·rcases hs with hs|⟨b,off,rfl,hb,hc⟩
   ·rw[hs] at hlt;simp at hlt
   have n0:(0:Int)≤(k:Int):=by omega
   have n1:(k:Int) < (l.length:Int):=by omega
   have s0:=hbr.size
   obtain⟨c0,f,fc,c1,hv⟩:=hc k hlt
   have c0:wr.cell? ⟨b,off+k * 2,nO⟩=sO (I Y l[k].site):=by rw[hbr.cell (by simpa using hb)];exact c0
   have c1:wr.cell? ⟨b,off+k * 2+1,nO⟩=sO (U f l[k].fs.length fc):=by rw[hbr.cell (by simpa using hb)];exact c1
   have hv':=hv.below hbr (lR _)
   have HN:Hid ((l.drop k).any p=(p l[k]||(l.drop (k+1)).any p)):=gp l p k hlt
   clear hc
   go_wp2_with (go_at_call 134;fail)
   refine(HF.out _ _ _ _ (gM hlt) hbr hv').mono ?_
   exact ku
  ·go_wp2
   go_ret
   exact⟨_,rfl,by rw[HA.out,x2 (by omega)];rfl,hbr⟩

theorem lY (q:Nat)(p:Thg→Bool)(ss:Option Addr)(cap:Nat)(l:List Thg)(w:World)(hl:l.length≤9223372036854775807)(hs:ThgsAt w ss l)(hF:∀(x:Thg) (f:Option Addr) (fc:Nat) (wx:World),x∈l→Below w.heap.size w wx→ValsAt wx f x.fs→Calls pG 134 #[Ag #[I Y x.site,U f x.fs.length fc],Pp (sO ⟨q,0,nO⟩)] wx λe w'=>e=Rt (Bb (p x))∧Below wx.heap.size wx w'):
  Calls pG 136 #[U ss l.length cap,.func (.func 134) #[] #[Pp (sO ⟨q,0,nO⟩)]] w λe w'=>e=Rt (Bb (l.any p))∧Below w.heap.size w w':=by
 have HF:=aF hF
 clear hF
 go_enter Tryz.func136,Tryz.ntmps136
 go_wp2_with (go_at_call 189;fail)
 refine(nI q p ss cap l _ hl hs HF.out).mono ?_
 rintro e w1 ⟨n,rfl,hn,hb1⟩
 go_wp2
 go_ret
 exact⟨aI (by rw[←hn]),hb1⟩
theorem wK {c:List Ins}{x:Int}(h:x < 0∨(c.length:Int)≤x):fH c x=false:=by
 unfold fH
 rw[show btw x 0 ((c.length:Int) - 1)=false by simp[btw];omega]
 rfl
theorem FV {c:List Ins}{k:Nat}(h:k < c.length):fH c (k:Int)=decide (c[k].k=11):=by
 unfold fH
 rw[pS h,iB (by omega) (by omega)]
 rfl
theorem vi (x:Thg)(f:Option Addr)(fc q:Nat)(V F:Int)(s:Option Addr)(c:List Ins)(cap:Nat)(w:World)(hp:P3 w q V F s c.length cap)(hc:CodeAt w s c)(hl:c.length≤60):
  Calls pG 130 #[Ag #[I Y x.site,U f x.fs.length fc],Pp (sO ⟨q,0,nO⟩)] w λe w'=>e=Rt (Bb (!fH c x.site))∧Below w.heap.size w w':=by
 obtain⟨⟨p0,p1,p2⟩,p3⟩:=hp
 obtain⟨x,fs⟩:=x
 simp only
 have hl':(c.length:Int)≤60:=by omega
 have HG:Below w.heap.size w (w.alloc (Cc #[I Y x,U f fs.length fc] 84)):=by go_grown
 have ne:q≠w.heap.size:=by omega
 by_cases h0:x < 0
 ·have HR:=aF (wK (c:=c) (.inl h0))
  clear hc
  go_enter Tryz.func130,Tryz.ntmps130
  go_wp2
  go_ret
  exact⟨aI (by rw[HR.out];rfl),HG⟩
 by_cases h1:x < (c.length:Int)
 ·obtain⟨k,rfl⟩:=j7 (show 0≤x by omega)
  have hk:k < c.length:=by omega
  rcases hc with hc|⟨b,off,rfl,hb,hi⟩
  ·rw[hc] at hk;simp at hk
  obtain⟨i0,-,-,-,-,-⟩:=hi k hk
  have HR:=aF (FV hk)
  clear hi
  have n0:(0:Int)≤(k:Int):=by omega
  by_cases h11:c[k].k=11
  ·have e11:(c[k].k !=11)=false:=by simp[h11]
   go_enter Tryz.func130,Tryz.ntmps130
   go_wp2
   go_ret
   exact⟨aI (by rw[HR.out];simp[h11,hk]),HG⟩
  ·have e11:(c[k].k !=11)=true:=by simpa using h11
   go_enter Tryz.func130,Tryz.ntmps130
   go_wp2
   go_ret
   exact⟨aI (by rw[HR.out];simp[h11,hk]),HG⟩
 ·have HR:=aF (wK (c:=c) (x:=x) (.inr (by omega)))
  clear hc
  go_enter Tryz.func130,Tryz.ntmps130
  go_wp2
  go_ret
  exact⟨aI (by rw[HR.out];rfl),HG⟩
theorem uT (x:Thg)(f:Option Addr)(fc q:Nat)(V F:Int)(s:Option Addr)(n cap:Nat)(w:World)(hp:P3 w q V F s n cap):
  Calls pG 131 #[Ag #[I Y x.site,U f x.fs.length fc],Pp (sO ⟨q,0,nO⟩)] w λe w'=>e=Rt (Bb (!decide ((x.fs.length:Int)=F)))∧Below w.heap.size w w':=by
 obtain⟨⟨p0,p1,p2⟩,p3⟩:=hp
 obtain⟨x,fs⟩:=x
 simp only
 have HG:Below w.heap.size w (w.alloc (Cc #[I Y x,U f fs.length fc] 84)):=by go_grown
 have ne:q≠w.heap.size:=by omega
 by_cases h:(fs.length:Int)=F
 ·subst h
  go_enter Tryz.func131,Tryz.ntmps131
  go_wp2
  go_ret
  exact⟨aI (by simp),HG⟩
 ·have hb:((fs.length:Int)!=F)=true:=by simpa using h
  go_enter Tryz.func131,Tryz.ntmps131
  go_wp2
  go_ret
  exact⟨aI (by simp[h]),HG⟩
theorem Ar (x:Val)(q T:Nat)(x0 x1 x3 x4 x5:Value)(ts:Option Addr)(tc:Nat)(w:World)(hp:R6 w q x0 x1 (U ts T tc) x3 x4 x5):
  Calls pG 132 #[Ag #[I Y x.k,I Y x.n],Pp (sO ⟨q,0,nO⟩)] w λe w'=>e=Rt (Bb (!bF T x))∧Below w.heap.size w w':=by
 obtain⟨⟨-,-,p2,-,-,-⟩,p3,-⟩:=hp
 have HG:Below w.heap.size w (w.alloc (Cc #[I Y x.k,I Y x.n] 82)):=by go_grown
 have ne:q≠w.heap.size:=by omega
 have HI:=aF (λwx=>Aj x.k x.n T wx)
 go_enter Tryz.func132,Tryz.ntmps132
 go_wp2_with (go_at_call 133;fail)
 refine(HI.out _).mono ?_
 rintro e w1 ⟨rfl,hb1⟩
 clear HI
 go_wp2
 go_ret
 exact⟨rfl,HG.trans (hb1.mono HG.size)⟩
theorem wC (x:Thg)(f:Option Addr)(fc q qr T:Nat)(x0 x1 x3 x4 x5:Value)(ts:Option Addr)(tc:Nat)(w:World)(hv:ValsAt w f x.fs)(hlen:x.fs.length≤9223372036854775807)(hq:w.cell? ⟨q,0,nO⟩=sO (.func (.func 132) #[] #[Pp (sO ⟨qr,0,nO⟩)]))(hqz:q < w.heap.size)(hp:R6 w qr x0 x1 (U ts T tc) x3 x4 x5):
  Calls pG 134 #[Ag #[I Y x.site,U f x.fs.length fc],Pp (sO ⟨q,0,nO⟩)] w λe w'=>e=Rt (Bb (x.fs.any λv=> !bF T v))∧Below w.heap.size w w':=by
 have HG:Below w.heap.size w (w.alloc (Cc #[I Y x.site,U f x.fs.length fc] 84)):=by go_grown
 have ne:q≠w.heap.size:=by omega
 have HI:=aF (kT qr (λv=> !bF T v) f fc x.fs _ hlen (hv.below HG (lR _)) (λy wx hx=>Ar y qr T x0 x1 x3 x4 x5 ts tc wx ((hp.call HG).call hx)))
 clear hv hp
 go_enter Tryz.func134,Tryz.ntmps134
 go_wp2_with (go_at_call 135;fail)
 refine HI.out.mono ?_
 rintro e w1 ⟨rfl,hb1⟩
 clear HI
 go_wp2
 go_ret
 exact⟨rfl,HG.trans (hb1.mono HG.size)⟩
def iC (F:Int)(c:List Ins)(r:St):Int:=
 if r.things.all (λt=>fH c t.site)=false then 5
 else if r.things.all (λt=>decide ((t.fs.length:Int)=F))=false then 1
 else if (r.vars.all (bF r.things.length)&&r.things.all λt=>t.fs.all (bF r.things.length))=false then 4
 else 0
theorem il {α:Type}(l:List α)(p:α→Bool):(l.any λx=> !p x)= !l.all p:=by
 induction l with
 |nil=>rfl
 |cons a r ih=>simp only[Z1,Z2,ih,Bool.not_and]
theorem yT (l:List Thg)(p:Val→Bool):(l.any λt=>t.fs.any λv=> !p v)= !l.all λt=>t.fs.all p:=by
 induction l with
 |nil=>rfl
 |cons a r ih=>simp only[Z1,Z2,ih,Bool.not_and,il]
theorem sK (V F:Int)(s:Option Addr)(c:List Ins)(cap:Nat)(r:St)(vs:Option Addr)(vc:Nat)(ts:Option Addr)(tc:Nat)(ls:Option Addr)(lc:Nat)(w:World)(hc:CodeAt w s c)(hl60:c.length≤60)(hl:kD r)(hr:RunAt w r vs ts ls):
  Calls pG 79 #[Ag #[I Y V,I Y F,U s c.length cap],mL r vs vc ts tc ls lc] w λe w'=>e=Rt (I Y (iC F c r))∧Below w.heap.size w w':=by
 unfold mL
 obtain⟨hl1,hl2,hl3,hl4⟩:=hl
 have hm:maxLen≤9223372036854775807:=by decide
 have hmf:∀(fn:Fn) (first cp:Array Value) (w:World),(Instr.makeFunc fn first cp).run pG w=.ok (.func fn first cp) w:=λ_ _ _ _=>rfl
 have hb0:Below w.heap.size w ((w.alloc (Cc #[I Y V,I Y F,U s c.length cap] 24)).alloc (Cc #[I Y r.at_,U vs r.vars.length vc,U ts r.things.length tc,I Y r.taken,U ls r.lines.length lc,I Y r.fin] 33)):=by go_grown
 have P0:=(P3.new w V F s c.length cap).call (w':=((w.alloc (Cc #[I Y V,I Y F,U s c.length cap] 24)).alloc (Cc #[I Y r.at_,U vs r.vars.length vc,U ts r.things.length tc,I Y r.taken,U ls r.lines.length lc,I Y r.fin] 33))) (by go_grown)
 have Q0:=R6.new (w.alloc (Cc #[I Y V,I Y F,U s c.length cap] 24)) 33 (I Y r.at_) (U vs r.vars.length vc) (U ts r.things.length tc) (I Y r.taken) (U ls r.lines.length lc) (I Y r.fin)
 rw[zA] at Q0
 have C0:=hc.below hb0 (lR _)
 have A0:=hr.below hb0 (lR _)
 have hz0:((w.alloc (Cc #[I Y V,I Y F,U s c.length cap] 24)).alloc (Cc #[I Y r.at_,U vs r.vars.length vc,U ts r.things.length tc,I Y r.taken,U ls r.lines.length lc,I Y r.fin] 33)).heap.size=w.heap.size+1+1:=by simp
 have HR:Hid (iC F c r=bif (r.things.any λt=> !fH c t.site) then 5 else bif (r.things.any λt=> !decide ((t.fs.length:Int)=F)) then 1 else bif ((r.vars.any λv=> !bF r.things.length v)||(r.things.any λt=>t.fs.any λv=> !bF r.things.length v)) then 4 else 0):=by
  show _=_
  rw[il,il,il,yT]
  unfold iC
  cases r.things.all (λt=>fH c t.site)<;>cases r.things.all (λt=>decide ((t.fs.length:Int)=F))<;>cases r.vars.all (bF r.things.length)<;>cases r.things.all (λt=>t.fs.all (bF r.things.length))<;>rfl
 have HB3:Below ((w.alloc (Cc #[I Y V,I Y F,U s c.length cap] 24)).alloc (Cc #[I Y r.at_,U vs r.vars.length vc,U ts r.things.length tc,I Y r.taken,U ls r.lines.length lc,I Y r.fin] 33)).heap.size ((w.alloc (Cc #[I Y V,I Y F,U s c.length cap] 24)).alloc (Cc #[I Y r.at_,U vs r.vars.length vc,U ts r.things.length tc,I Y r.taken,U ls r.lines.length lc,I Y r.fin] 33)) (((w.alloc (Cc #[I Y V,I Y F,U s c.length cap] 24)).alloc (Cc #[I Y r.at_,U vs r.vars.length vc,U ts r.things.length tc,I Y r.taken,U ls r.lines.length lc,I Y r.fin] 33)).alloc (Cc #[(.func (.func 132) #[] #[Pp (sO ⟨w.heap.size+1,0,nO⟩)])] 185)):=by go_grown
 have b3:Below w.heap.size w (((w.alloc (Cc #[I Y V,I Y F,U s c.length cap] 24)).alloc (Cc #[I Y r.at_,U vs r.vars.length vc,U ts r.things.length tc,I Y r.taken,U ls r.lines.length lc,I Y r.fin] 33)).alloc (Cc #[(.func (.func 132) #[] #[Pp (sO ⟨w.heap.size+1,0,nO⟩)])] 185)):=hb0.alloc hb0.size _
 have F3:(((w.alloc (Cc #[I Y V,I Y F,U s c.length cap] 24)).alloc (Cc #[I Y r.at_,U vs r.vars.length vc,U ts r.things.length tc,I Y r.taken,U ls r.lines.length lc,I Y r.fin] 33)).alloc (Cc #[(.func (.func 132) #[] #[Pp (sO ⟨w.heap.size+1,0,nO⟩)])] 185)).cell? ⟨w.heap.size+1+1,0,nO⟩=sO (.func (.func 132) #[] #[Pp (sO ⟨w.heap.size+1,0,nO⟩)]):=by rw[←hz0];simp[go_sem]
 have hz3:w.heap.size+1+1 < (((w.alloc (Cc #[I Y V,I Y F,U s c.length cap] 24)).alloc (Cc #[I Y r.at_,U vs r.vars.length vc,U ts r.things.length tc,I Y r.taken,U ls r.lines.length lc,I Y r.fin] 33)).alloc (Cc #[(.func (.func 132) #[] #[Pp (sO ⟨w.heap.size+1,0,nO⟩)])] 185)).heap.size:=by simp
 have P3':=P0.call HB3
 have Q3:=Q0.call HB3
 have C3:=C0.below HB3 (lR _)
 have A3:=A0.below HB3 (lR _)
 have H1:=aF (λ(wx:World) (hx:Below (((w.alloc (Cc #[I Y V,I Y F,U s c.length cap] 24)).alloc (Cc #[I Y r.at_,U vs r.vars.length vc,U ts r.things.length tc,I Y r.taken,U ls r.lines.length lc,I Y r.fin] 33)).alloc (Cc #[(.func (.func 132) #[] #[Pp (sO ⟨w.heap.size+1,0,nO⟩)])] 185)).heap.size (((w.alloc (Cc #[I Y V,I Y F,U s c.length cap] 24)).alloc (Cc #[I Y r.at_,U vs r.vars.length vc,U ts r.things.length tc,I Y r.taken,U ls r.lines.length lc,I Y r.fin] 33)).alloc (Cc #[(.func (.func 132) #[] #[Pp (sO ⟨w.heap.size+1,0,nO⟩)])] 185)) wx)=>lO w.heap.size (λt=> !fH c t.site) ts tc r.things wx (by omega) (A3.below hx (lR _)).2.1 (λx f fc wy _ hy _=>vi x f fc w.heap.size V F s c cap wy ((P3'.call hx).call hy) ((C3.below hx (lR _)).below hy (lR _)) hl60))
 have H2:=aF (λ(wx:World) (hx:Below (((w.alloc (Cc #[I Y V,I Y F,U s c.length cap] 24)).alloc (Cc #[I Y r.at_,U vs r.vars.length vc,U ts r.things.length tc,I Y r.taken,U ls r.lines.length lc,I Y r.fin] 33)).alloc (Cc #[(.func (.func 132) #[] #[Pp (sO ⟨w.heap.size+1,0,nO⟩)])] 185)).heap.size (((w.alloc (Cc #[I Y V,I Y F,U s c.length cap] 24)).alloc (Cc #[I Y r.at_,U vs r.vars.length vc,U ts r.things.length tc,I Y r.taken,U ls r.lines.length lc,I Y r.fin] 33)).alloc (Cc #[(.func (.func 132) #[] #[Pp (sO ⟨w.heap.size+1,0,nO⟩)])] 185)) wx)=>lH w.heap.size (λt=> !decide ((t.fs.length:Int)=F)) ts tc r.things wx (by omega) (A3.below hx (lR _)).2.1 (λx f fc wy _ hy _=>uT x f fc w.heap.size V F s c.length cap wy ((P3'.call hx).call hy)))
 have H3:=aF (λ(wx:World) (hx:Below (((w.alloc (Cc #[I Y V,I Y F,U s c.length cap] 24)).alloc (Cc #[I Y r.at_,U vs r.vars.length vc,U ts r.things.length tc,I Y r.taken,U ls r.lines.length lc,I Y r.fin] 33)).alloc (Cc #[(.func (.func 132) #[] #[Pp (sO ⟨w.heap.size+1,0,nO⟩)])] 185)).heap.size (((w.alloc (Cc #[I Y V,I Y F,U s c.length cap] 24)).alloc (Cc #[I Y r.at_,U vs r.vars.length vc,U ts r.things.length tc,I Y r.taken,U ls r.lines.length lc,I Y r.fin] 33)).alloc (Cc #[(.func (.func 132) #[] #[Pp (sO ⟨w.heap.size+1,0,nO⟩)])] 185)) wx)=>kT (w.heap.size+1) (λv=> !bF r.things.length v) vs vc r.vars wx (by omega) (A3.below hx (lR _)).1 (λx wy hy=>Ar x (w.heap.size+1) r.things.length _ _ _ _ _ ts tc wy ((Q3.call hx).call hy)))
 have H4:=aF (λ(wx:World) (hx:Below (((w.alloc (Cc #[I Y V,I Y F,U s c.length cap] 24)).alloc (Cc #[I Y r.at_,U vs r.vars.length vc,U ts r.things.length tc,I Y r.taken,U ls r.lines.length lc,I Y r.fin] 33)).alloc (Cc #[(.func (.func 132) #[] #[Pp (sO ⟨w.heap.size+1,0,nO⟩)])] 185)).heap.size (((w.alloc (Cc #[I Y V,I Y F,U s c.length cap] 24)).alloc (Cc #[I Y r.at_,U vs r.vars.length vc,U ts r.things.length tc,I Y r.taken,U ls r.lines.length lc,I Y r.fin] 33)).alloc (Cc #[(.func (.func 132) #[] #[Pp (sO ⟨w.heap.size+1,0,nO⟩)])] 185)) wx)=>lY (w.heap.size+1+1) (λt=>t.fs.any λv=> !bF r.things.length v) ts tc r.things wx (by omega) (A3.below hx (lR _)).2.1 (λx f fc wy hmem hy hv=>wC x f fc (w.heap.size+1+1) (w.heap.size+1) r.things.length _ _ _ _ _ ts tc wy hv (by have:=hl4 x hmem;omega) (by rw[hy.cell (by have:=hx.size;simp only;omega),hx.cell (by simp)];exact F3) (by have:=hy.size;have:=hx.size;omega) ((Q3.call hx).call hy)))
 have HQ:=aF (λ(wx:World) (hx:Below (((w.alloc (Cc #[I Y V,I Y F,U s c.length cap] 24)).alloc (Cc #[I Y r.at_,U vs r.vars.length vc,U ts r.things.length tc,I Y r.taken,U ls r.lines.length lc,I Y r.fin] 33)).alloc (Cc #[(.func (.func 132) #[] #[Pp (sO ⟨w.heap.size+1,0,nO⟩)])] 185)).heap.size (((w.alloc (Cc #[I Y V,I Y F,U s c.length cap] 24)).alloc (Cc #[I Y r.at_,U vs r.vars.length vc,U ts r.things.length tc,I Y r.taken,U ls r.lines.length lc,I Y r.fin] 33)).alloc (Cc #[(.func (.func 132) #[] #[Pp (sO ⟨w.heap.size+1,0,nO⟩)])] 185)) wx)=>And.intro (Q3.call hx).1.2.1 (And.intro (Q3.call hx).1.2.2.1 (show wx.cell? ⟨w.heap.size+1+1,0,nO⟩=sO (.func (.func 132) #[] #[Pp (sO ⟨w.heap.size+1,0,nO⟩)]) by rw[hx.cell (by simp)];exact F3)))
 generalize (r.things.any λt=> !fH c t.site)=d1 at *
 generalize (r.things.any λt=> !decide ((t.fs.length:Int)=F))=d2 at *
 generalize (r.vars.any λv=> !bF r.things.length v)=d3 at *
 generalize (r.things.any λt=>t.fs.any λv=> !bF r.things.length v)=d4 at *
 clear hb0 P0 Q0 C0 A0 HB3 F3 P3' Q3 C3 A3 hc hr hl1 hl2 hl3 hl4 hz0
 go_enter Tryz.func79,Tryz.ntmps79
 go_wp2_with (go_at_call 136;fail)
 generalize ((w.alloc (Cc #[I Y V,I Y F,U s c.length cap] 24)).alloc (Cc #[I Y r.at_,U vs r.vars.length vc,U ts r.things.length tc,I Y r.taken,U ls r.lines.length lc,I Y r.fin] 33)).alloc (Cc #[(.func (.func 132) #[] #[Pp (sO ⟨w.heap.size+1,0,nO⟩)])] 185)=w3 at *
 refine(H1.out w3 (bR _ _)).mono ?_
 rintro e w4 ⟨rfl,hb4⟩
 clear H1
 have b4:=b3.trans (hb4.mono b3.size)
 cases d1 with
 |true=>
  clear H2 H3 H4 HQ
  go_wp2
  go_ret
  exact⟨bu (by rw[HR.out];rfl),b4⟩
 |false=>
  obtain⟨v4,t4,g4⟩:=HQ.out w4 hb4
  go_wp2_with (go_at_call 136;fail)
  refine(H2.out w4 hb4).mono ?_
  rintro e w5 ⟨rfl,hb5⟩
  clear H2 v4 t4 g4
  have c5:=hb4.trans (hb5.mono hb4.size)
  have b5:=b3.trans (c5.mono b3.size)
  cases d2 with
  |true=>
   clear H3 H4 HQ
   go_wp2
   go_ret
   exact⟨bu (by rw[HR.out];rfl),b5⟩
  |false=>
   obtain⟨v5,t5,g5⟩:=HQ.out w5 c5
   go_wp2_with (go_at_call 135;fail)
   refine(H3.out w5 c5).mono ?_
   rintro e w6 ⟨rfl,hb6⟩
   clear H3 v5 t5 g5
   have c6:=c5.trans (hb6.mono c5.size)
   have b6:=b3.trans (c6.mono b3.size)
   cases d3 with
   |true=>
    clear H4 HQ
    go_wp2
    go_ret
    exact⟨bu (by rw[HR.out];rfl),b6⟩
   |false=>
    obtain⟨v6,t6,g6⟩:=HQ.out w6 c6
    go_wp2_with (go_at_call 136;fail)
    refine(H4.out w6 c6).mono ?_
    rintro e w7 ⟨rfl,hb7⟩
    clear H4 v6 t6 g6 HQ
    have c7:=c6.trans (hb7.mono c6.size)
    have b7:=b3.trans (c7.mono b3.size)
    cases d4 with
    |true=>
     go_wp2
     go_ret
     exact⟨bu (by rw[HR.out];rfl),b7⟩
    |false=>
     go_wp2
     go_ret
     exact⟨bu (by rw[HR.out];rfl),b7⟩
end
end Go.Proofs.YtmapdpcfanecdabGreatDoor
