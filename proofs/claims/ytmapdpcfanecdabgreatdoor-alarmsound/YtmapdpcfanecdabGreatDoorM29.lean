import Derived.Test.YtmapdpcfanecdabGreatDoorM27
import Derived.Test.YtmapdpcfanecdabGreatDoorM28
open Go.Ending renaming returned→Rt
open Go.IntKind renaming i64→Y
open Go.Obj renaming cells→Cc
open Go.Proofs.Tryz renaming prog→pG
open Go.RowKit.Below renaming heap_setCell→hSe,refl→bR
open Go.Value renaming bool→Bb,int→I,pointer→Pp,slice→U,tuple→Tu
open Go.World renaming size_alloc→zA
open Int renaming eq_ofNat_of_zero_le→j4
open List renaming Pairwise→j2,getElem_mem→gM,mem_cons→j3,mem_filter→j0,mem_map→j5,mem_range→j1,pairwise_lt_range→j7,pairwise_map→j6
open Nat renaming le_refl→lR,lt_of_lt_of_le→lL
open Option renaming none→nO,some→sO
set_option linter.unusedSimpArgs false
set_option linter.unusedVariables false
set_option maxHeartbeats 8000000
set_option maxRecDepth 10000
namespace Go.Proofs.YtmapdpcfanecdabGreatDoor
section
open Go.RowKit
theorem AD {V F:Int}{c:List Ins}{g:Gs}(hk:aX V F c [g]=0):ai V F c=0∧aC c g=0:=by
 unfold aX at hk
 by_cases h0:ai V F c=0
 ·rw[if_pos h0] at hk
  have e:bW c [g]=if aC c g=0 then 0 else aC c g:=rfl
  rw[e] at hk
  by_cases hg:aC c g=0
  ·exact⟨h0,hg⟩
  ·rw[if_neg hg] at hk;exact absurd hk hg
 ·rw[if_neg h0] at hk;exact absurd hk h0
theorem oI {c:List Ins}{g:Gs}(h:aC c g=0):dd g.sp=0:=by
 unfold aC at h
 split at h
 ·assumption
 ·rename_i hn;exact Decidable.not_not.1 hn
theorem IP (w:World)(V F:Int)(s:Option Addr)(c:List Ins)(cap:Nat)(g:Gs)(ss:Option Addr)(gc:Nat):GuAt (pgW w V F s c cap g ss gc) (w.heap.size+1) 0 g ss gc∧Below w.heap.size w (pgW w V F s c cap g ss gc):=by
 refine⟨?_,by go_grown⟩
 have:=GuAt.new (w.alloc (Cc #[I Y V,I Y F,U s c.length cap] 24)) g ss gc
 rw[zA] at this
 exact this

theorem Du (V F:Int)(s:Option Addr)(c:List Ins)(cap:Nat)(g:Gs)(ss:Option Addr)(gc:Nat)(w:World)(hcd:CodeAt w s c)(hs:IntsAt w ss g.s)(h1:g.s.length≤gc)(h2:gc≤maxLen)(hck:aX V F c [g]=0):
  Calls pG 160 #[pv V F s c cap,gv g ss gc] w λe w'=>e=Rt (Tu #[Bb (ca g),Bb (cT g),I Y 0])∧Below w.heap.size w w':=by
 obtain⟨G0,B0⟩:=IP w V F s c cap g ss gc
 have I0:IntsAt (pgW w V F s c cap g ss gc) ss g.s:=hs.below B0 (lR _)
 have L0:=GsAt.new1 (pgW w V F s c cap g ss gc) g ss gc I0 h1 h2
 simp only[zA] at L0
 have HC:=aa (bZ V F s c cap (sO ⟨w.heap.size+1+1,0,nO⟩) [g] 1 _ ((hcd.below B0 (lR _)).alloc _) L0 (by simp))
 have HT:=aa (λw=>rU g ss gc w (oI (AD hck).2))
 rw[hck] at HC
 generalize ca g=y at HT ⊢
 generalize cT g=n at HT ⊢
 clear hck hcd hs I0 L0
 go_enter Tryz.func160,Tryz.ntmps160
 go_wp2_with (go_at_call 142;fail)
 refine HC.out.mono ?_
 rintro e w1 ⟨rfl,hb1⟩
 have G1:=(G0.alloc _).call hb1
 have B1:Below w.heap.size w w1:=(B0.alloc B0.size _).trans (hb1.mono (by simp;omega))
 clear hb1 HC G0 B0
 obtain⟨⟨g0,g1,g2,g3,g4,g5,g6⟩,gz⟩:=id G1
 simp only[Nat.zero_add] at g0 g1 g2 g3 g4 g5 g6
 go_wp2_with (go_at_call 198;fail)
 refine(HT.out _).mono ?_
 rintro e w2 ⟨rfl,hb2⟩
 go_wp2
 go_ret3
 exact⟨rfl,B1.trans (hb2.mono B1.size)⟩
theorem tB {w:World}{B n b j z:Nat}{e:TypeId}{v u:Value}{xs:List Value}(h:w.ownsRow B e z v n xs)(hb:b < B):(w.setCell ⟨b,j,nO⟩ u).ownsRow B e z v n xs:=
 ⟨h.1,h.2.imp id λ⟨g,cap,cur,r1,r2,r3,r4⟩=>⟨g,cap,cur,r1,r2,by rw[hSe _ _ _ _ (by show g≠b;omega)];exact r3,r4⟩⟩

def n8 (a b:List Int)(k:Nat):List Int:=((List.range k).map λn:Nat=>(n:Int)).filter λx=>a.contains x||b.contains x
end
section
theorem mt:∀(a b:List Int),a.Pairwise (· < ·)→b.Pairwise (· < ·)→(∀x,x∈a↔x∈b)→a=b
 |[],[],_,_,_=>rfl
 |[],y::b,_,_,h=>absurd ((h y).2 (by simp)) (by simp)
 |x::a,[],_,_,h=>absurd ((h x).1 (by simp)) (by simp)
 |x::a,y::b,ha,hb,h=>by
  rw[List.pairwise_cons] at ha hb
  have exy:x=y:=by
   have h1:=(h x).1 (by simp)
   have h2:=(h y).2 (by simp)
   rw[j3] at h1 h2
   rcases h1 with e|h1
   ·exact e
   ·rcases h2 with e|h2
    ·exact e.symm
    ·have:=ha.1 y h2
     have:=hb.1 x h1
     omega
  subst exy
  rw[mt a b ha.2 hb.2 λz=> ?_]
  constructor
  ·intro hz
   have:=(h z).1 (by simp[hz])
   rw[j3] at this
   rcases this with e|h1
   ·have:=ha.1 z hz;omega
   ·exact h1
  ·intro hz
   have:=(h z).2 (by simp[hz])
   rw[j3] at this
   rcases this with e|h1
   ·have:=hb.1 z hz;omega
   ·exact h1

theorem sd (a b:List Int)(k:Nat)(x:Int):x∈n8 a b k↔(0≤x∧x < k)∧(x∈a∨x∈b):=by
 unfold n8
 rw[j0,j5]
 simp only[j1,Bool.or_eq_true,List.contains_iff_mem]
 constructor
 ·rintro ⟨⟨n,hn,rfl⟩,h⟩
  exact⟨⟨by omega,by omega⟩,h⟩
 ·rintro ⟨⟨h0,h1⟩,h⟩
  exact⟨⟨x.toNat,by omega,by omega⟩,h⟩

theorem n9 (a b:List Int)(k:Nat):(n8 a b k).Pairwise (· < ·):=by
 unfold n8
 refine j2.filter _ ?_
 rw[j6]
 exact j2.imp (λh=>by omega) j7

open Go.Lib in
theorem tL (l:List Int)(h:l.Pairwise (· ≤·)):(compact l).Pairwise (· < ·)∧∀x,x∈compact l↔x∈l:=by
 have get:∀j (hj:j < l.length),l.toArray[j]! =l[j]:=λj hj=>by simp[hj]
 have mono:∀i j (hi:i < l.length) (hj:j < l.length),i≤j→l[i]≤l[j]:=by
  intro i j hi hj hij
  by_cases e:i=j
  ·subst e;exact Int.le_refl _
  ·exact List.pairwise_iff_getElem.1 h i j hi hj (by omega)
 constructor
 ·unfold compact compactUpTo
  rw[j6]
  refine j2.imp_of_mem ?_ (j2.filter _ j7)
  intro i j hi hj hij
  rw[j0,j1] at hi hj
  rw[get i hi.1,get j hj.1]
  have hk:=hj.2
  unfold keeps at hk
  rw[decide_eq_true_eq] at hk
  rcases hk with e|hne
  ·omega
  ·rw[get j hj.1,get (j - 1) (by omega)] at hne
   have h1:=mono i (j - 1) hi.1 (by omega) (by omega)
   have h2:=mono (j - 1) j (by omega) hj.1 (by omega)
   omega
 ·intro x
  unfold compact compactUpTo
  rw[j5]
  constructor
  ·rintro ⟨j,hj,rfl⟩
   rw[j0,j1] at hj
   rw[get j hj.1]
   exact gM _
  ·intro hx
   obtain⟨j,hj,rfl⟩:=List.getElem_of_mem hx
   have ex:∃i,i≤j∧∃(hi:i < l.length),l[i]=l[j]∧keeps l.toArray i=true:=by
    clear hx
    induction j with
    |zero=>exact⟨0,lR _,hj,rfl,by simp[keeps]⟩
    |succ j ih=>
     by_cases e:l[j+1]=l[j]
     ·obtain⟨i,hi,hil,h1,h2⟩:=ih (by omega)
      exact⟨i,by omega,hil,by rw[h1,e],h2⟩
     ·refine⟨j+1,lR _,hj,rfl,?_⟩
      unfold keeps
      rw[decide_eq_true_eq]
      right
      rw[get (j+1) hj,get (j+1 - 1) (by omega)]
      exact e
   obtain⟨i,-,hil,h1,h2⟩:=ex
   refine⟨i,?_,by rw[get i hil,h1]⟩
   rw[j0,j1]
   exact⟨hil,h2⟩

theorem mi (g h:Gs)(hg:∀x∈g.s,0≤x∧x < 60)(hh:∀x∈h.s,0≤x∧x < 60):cA [g,h]=n8 g.s h.s 60:=by
 have hs:(([g,h].flatMap Gs.s).mergeSort λx y=>decide (x≤y)).Pairwise (· ≤·):=by
  have:=List.pairwise_mergeSort (le:=λx y:Int=>decide (x≤y)) (by intro a b c;simp;omega) (by intro a b;simp;omega) ([g,h].flatMap Gs.s)
  exact this.imp λh=>by simpa using h
 obtain⟨h1,h2⟩:=tL _ hs
 refine mt _ _ h1 (n9 _ _ _) λx=> ?_
 rw[show cA [g,h]=Go.Lib.compact (([g,h].flatMap Gs.s).mergeSort λx y=>decide (x≤y)) from rfl,h2,List.mem_mergeSort,sd]
 simp only[List.flatMap_cons,List.flatMap_nil,List.append_nil,List.mem_append]
 constructor
 ·rintro (h|h)
  ·exact⟨hg x h,.inl h⟩
  ·exact⟨hh x h,.inr h⟩
 ·exact λh=>h.2

theorem DD {c:List Ins}(hl:c.length≤60){x:Int}(h:bQ c x=true):0≤x∧x < 60:=by
 unfold bQ at h
 simp only[Bool.and_eq_true,decide_eq_true_eq] at h
 omega

theorem du {c:List Ins}{g:Gs}(hl:c.length≤60)(h:aC c g=0):(∀x∈g.s,0≤x∧x < 60)∧cX g.s=true:=by
 unfold aC at h
 split at h
 ·contradiction
 ·split at h
  ·cases h
  ·split at h
   ·cases h
   ·rename_i h1 h2
    refine⟨λx hx=> ?_,by simpa using h2⟩
    have:g.s.all (bQ c)=true:=by simpa using h1
    exact DD hl (List.all_eq_true.1 this x hx)
theorem eY {l:List Int}(hr:cX l=true)(hb:∀x∈l,0≤x∧x < 60):l.length≤60:=by
 have key:∀k (h:k < l.length),(k:Int)≤l[k]:=by
  intro k
  induction k with
  |zero=>intro h;exact(hb _ (gM h)).1
  |succ k ih=>
   intro h
   have h1:=ih (by omega)
   have h2:=(rm l).1 hr k h
   omega
 by_cases h0:l.length=0
 ·omega
 ·have h1:=key (l.length - 1) (by omega)
  have h2:=(hb _ (gM (show l.length - 1 < l.length by omega))).2
  omega
end
section
open Go.RowKit
def dh (op:Sp→Sp→Sp)(g h:Gs):Gs:=⟨g.n||h.n,op g.sp h.sp,g.t||h.t,g.f||h.f,cA [g,h]⟩

theorem sI {V F:Int}{c:List Ins}{g h:Gs}(hk:aX V F c [g,h]=0):ai V F c=0∧aC c g=0∧aC c h=0:=by
 unfold aX at hk
 split at hk
 ·rename_i hp
  simp only[bW] at hk
  split at hk
  ·rename_i hg
   split at hk
   ·rename_i hh
    exact⟨hp,hg,hh⟩
   ·contradiction
  ·contradiction
 ·contradiction

theorem ld {V F:Int}{c:List Ins}{g h:Gs}(hk:aX V F c [g,h]=0):((∀x∈g.s,0≤x∧x < 60)∧cX g.s=true)∧((∀x∈h.s,0≤x∧x < 60)∧cX h.s=true):=by
 obtain⟨a,b,d⟩:=sI hk
 have hl:c.length≤60:=by
  unfold ai at a
  split at a
  ·contradiction
  ·split at a
   ·contradiction
   ·omega
 exact⟨du hl b,du hl d⟩

theorem GL (V F:Int)(s:Option Addr)(c:List Ins)(cap:Nat)(g:Gs)(ss:Option Addr)(gc:Nat)(h:Gs)(st:Option Addr)(hc:Nat)(w:World)(hcd:CodeAt w s c)(hs:IntsAt w ss g.s)(h1:g.s.length≤gc)(h2:gc≤maxLen)(ht:IntsAt w st h.s)(h3:h.s.length≤hc)(h4:hc≤maxLen):
  Calls pG 161 #[pv V F s c cap,gv g ss gc,gv h st hc] w λe w'=>e=Rt (Tu #[Bb (if aX V F c [g,h]=0 then cB g h else false),I Y (aX V F c [g,h])])∧Below w.heap.size w w':=by
 by_cases hck:aX V F c [g,h]=0
 ·refine(rT V F s c cap g ss gc h st hc w hcd hs h1 h2 ht h3 h4 hck).mono ?_
  rintro e w' ⟨rfl,hb⟩
  exact⟨by rw[if_pos hck,hck],hb⟩
 ·refine(yw V F s c cap g ss gc h st hc w hcd hs h1 h2 ht h3 h4 hck).mono ?_
  rintro e w' ⟨rfl,hb⟩
  exact⟨by rw[if_neg hck],hb⟩
end
section
open Go.RowKit
attribute [local go_sem ↓] Go.wp_at_zero Go.wp_at_succ
structure SCtx (V F:Int) (c:List Ins) (x:Pic) (vc fc:Nat) (i:Ins) (at_:Int):Prop where
 h0:ai V F c=0
 kx:PicOk V F c x
 hi:i=aO c at_
 a0:0≤at_
 a1:at_ < c.length
 cv:x.vars.length≤vc∧vc≤maxLen
 cf:x.flds.length≤fc∧fc≤maxLen
section
variable {V F:Int} {c:List Ins} {x:Pic} {vc fc:Nat} {i:Ins} {at_:Int}
theorem SCtx.one (K:SCtx V F c x vc fc i at_):bD V F c.length i=0:=by rw[K.hi];exact(bK K.h0).each _ (hU K.a0 K.a1)
theorem SCtx.lens (K:SCtx V F c x vc fc i at_):x.vars.length≤8∧c.length≤60∧x.flds.length=c.length∧0≤F∧F≤3∧0≤V:=by
 have hp:=bK K.h0
 have:=hp.v1
 have:=hp.v8
 have:=hp.f0
 have:=hp.f3
 have:=hp.len
 have:=K.kx.vars
 have:=K.kx.flds
 omega
theorem kL {x:Pic}{k:Nat}(h:k < x.vars.length):gAt x (k:Int)=x.vars[k]:=by unfold gAt;simp[List.getD,List.getElem?_eq_getElem h]
theorem SCtx.varA (K:SCtx V F c x vc fc i at_)(hA:nA i.k=true):∃k:Nat,i.a=k∧k < x.vars.length:=by
 have:=(bn K.one).2.2.1 hA
 have hv:=K.kx.vars
 obtain⟨k,hk⟩:=j4 this.1
 exact⟨k,hk,by omega⟩
theorem SCtx.varB (K:SCtx V F c x vc fc i at_)(hB:nB i.k=true):∃k:Nat,i.b=k∧k < x.vars.length:=by
 have:=(bn K.one).2.2.2.1 hB
 have hv:=K.kx.vars
 obtain⟨k,hk⟩:=j4 this.1
 exact⟨k,hk,by omega⟩
theorem SCtx.varTo (K:SCtx V F c x vc fc i at_)(hT:nTo i.k=true):∃k:Nat,i.tgt=k∧k < x.vars.length:=by
 have:=(bn K.one).2.1 hT
 have hv:=K.kx.vars
 obtain⟨k,hk⟩:=j4 this.1
 exact⟨k,hk,by omega⟩
theorem SCtx.uno (K:SCtx V F c x vc fc i at_){g:Gs}(hg:aC c g=0):aX V F c [g]=0:=by unfold aX;rw[if_pos K.h0];unfold bW;rw[if_pos hg];rfl
theorem SCtx.duo (K:SCtx V F c x vc fc i at_){g h:Gs}(hg:aC c g=0)(hh:aC c h=0):aX V F c [g,h]=0:=by unfold aX;rw[if_pos K.h0];unfold bW;rw[if_pos hg];unfold bW;rw[if_pos hh];rfl
end
theorem mE (sb:Nat)(i:Ins)(V F:Int)(s:Option Addr)(c:List Ins)(cap:Nat)(at_:Int)(x:Pic)(vs:Option Addr)(vc:Nat)(fs:Option Addr)(fc:Nat)(ev:Value)(wr fl:Bool)(w:World)(hS:Cells w sb (aP i V F s c cap at_ x vs vc fs fc ev wr fl))(hc:CodeAt w s c)(hx:PicAt w x vs fs)(K:SCtx V F c x vc fc i at_)(hA:nA i.k=true):
  Calls pG 95 #[Pp (sO ⟨sb,0,nO⟩)] w λe w'=>e=Rt (Tu #[Bb (ca (gAt x i.a)),Bb (cT (gAt x i.a))])∧Below w.heap.size w w':=by
 obtain⟨k,ek,hk⟩:=K.varA hA
 have eg:gAt x i.a=x.vars[k]:=by rw[ek,kL hk]
 rw[eg]
 have hgk:=K.kx.gv _ (gM hk)
 obtain⟨b1,o1,e1,ss1,g1,G1,I1,k1,m1⟩:=hx.1 k hk
 subst e1
 have n0:(0:Int)≤(k:Int):=by omega
 have n1:(k:Int) < (x.vars.length:Int):=by omega
 have HT:Hid (∀wx,Below w.heap.size w wx→Calls pG 160 #[pv V F s c cap,gv x.vars[k] ss1 g1] wx λe w'=>e=Rt (Tu #[Bb (ca x.vars[k]),Bb (cT x.vars[k]),I Y 0])∧Below wx.heap.size wx w'):=λwx hb=>Du V F s c cap x.vars[k] ss1 g1 wx (hc.call hb) (I1.call hb) k1 m1 (K.uno hgk)
 have HKZ:Hid (∀wx,Below w.heap.size w wx→(wx.cell? ⟨sb,6,nO⟩=sO (I Y V)∧wx.cell? ⟨sb,7,nO⟩=sO (I Y F)∧wx.cell? ⟨sb,8,nO⟩=sO (U s c.length cap))∧(wx.cell? ⟨sb,2,nO⟩=sO (I Y (k:Int))∧wx.cell? ⟨sb,11,nO⟩=sO (U (sO ⟨b1,o1,nO⟩) x.vars.length vc))∧(wx.cell? ⟨b1,o1+k * 7,nO⟩=sO (Bb x.vars[k].n)∧wx.cell? ⟨b1,o1+k * 7+1,nO⟩=sO (Bb x.vars[k].sp.n)∧wx.cell? ⟨b1,o1+k * 7+2,nO⟩=sO (I Y x.vars[k].sp.lo)∧wx.cell? ⟨b1,o1+k * 7+3,nO⟩=sO (I Y x.vars[k].sp.hi)∧wx.cell? ⟨b1,o1+k * 7+4,nO⟩=sO (Bb x.vars[k].t)∧wx.cell? ⟨b1,o1+k * 7+5,nO⟩=sO (Bb x.vars[k].f)∧wx.cell? ⟨b1,o1+k * 7+6,nO⟩=sO (U ss1 x.vars[k].s.length g1))):=λwx hb=>⟨⟨(hS.call hb).1 6 _ rfl,(hS.call hb).1 7 _ rfl,(hS.call hb).1 8 _ rfl⟩,⟨by rw[←ek];exact(hS.call hb).1 2 _ rfl,(hS.call hb).1 11 _ rfl⟩,(G1.call hb).1⟩
 clear hS hc hx eg ek hA
 go_enter Tryz.func95,Tryz.ntmps95
 go_upto_region 1 with fail
 have B1:Below w.heap.size w w.drew:=(bR _ _).drew
 refine wp_region_held_drew (S:=(λwx=>(wx.cell? ⟨sb,6,nO⟩=sO (I Y V)∧wx.cell? ⟨sb,7,nO⟩=sO (I Y F)∧wx.cell? ⟨sb,8,nO⟩=sO (U s c.length cap))∧(wx.cell? ⟨sb,2,nO⟩=sO (I Y (k:Int))∧wx.cell? ⟨sb,11,nO⟩=sO (U (sO ⟨b1,o1,nO⟩) x.vars.length vc))∧(wx.cell? ⟨b1,o1+k * 7,nO⟩=sO (Bb x.vars[k].n)∧wx.cell? ⟨b1,o1+k * 7+1,nO⟩=sO (Bb x.vars[k].sp.n)∧wx.cell? ⟨b1,o1+k * 7+2,nO⟩=sO (I Y x.vars[k].sp.lo)∧wx.cell? ⟨b1,o1+k * 7+3,nO⟩=sO (I Y x.vars[k].sp.hi)∧wx.cell? ⟨b1,o1+k * 7+4,nO⟩=sO (Bb x.vars[k].t)∧wx.cell? ⟨b1,o1+k * 7+5,nO⟩=sO (Bb x.vars[k].f)∧wx.cell? ⟨b1,o1+k * 7+6,nO⟩=sO (U ss1 x.vars[k].s.length g1)))) (by kernel_rfl) (HKZ.out _ B1) (λhHeld=> ?_)
 generalize w.drew=w1 at *
 refine vH 0 ?_ ?_
 refine vH 1 ?_ ?_
 refine vH 2 ?_ ?_
 refine vH 3 ?_ ?_
 refine vH 4 ?_ ?_
 refine vH 5 ?_ ?_
 refine vH 6 ?_ ?_
 refine vH 7 ?_ ?_
 refine vH 8 ?_ ?_
 refine vH 9 ?_ ?_
 refine vH 10 ?_ ?_
 refine vH 11 ?_ ?_
 refine vH 12 ?_ ?_
 refine vH 13 ?_ ?_
 refine vH 14 ?_ ?_
 refine vH 15 ?_ ?_
 refine wpAnyH_ready (rs:=[16]) (by kernel_rfl) (by simp) ?_
 refine AllReadyH.cons rfl (λK hK=> ?_) AllReadyH.nil
 go_simp
 refine(HT.out w1 B1).mono ?_
 rintro e w2 ⟨rfl,hb2⟩
 have B2:=B1.trans (hb2.mono (B1.size))
 refine hK.out _ _ (HKZ.out _ B2) (λhHeld2=> ?_)
 clear hK K hb2 B1
 refine sm ?_
 refine vH 17 ?_ ?_
 refine vH 18 ?_ ?_
 refine vH 19 ?_ ?_
 refine vH 20 ?_ ?_
 refine vH 21 ?_ ?_
 refine vH 22 ?_ ?_
 refine vH 23 ?_ ?_
 refine wpAnyH_done (by kernel_rfl) ?_ _
 go_wp2
 refine bodyPost_ret (v:=Tu #[Bb (ca x.vars[k]),Bb (cT x.vars[k])]) (by simp[results,Tryz.results95,go_sem]) rfl ⟨rfl,B2⟩
def ModS (sb:Nat)(w w':World):Prop:=Below sb w w'∧∀b,b < w.heap.size→b≠sb→w'.heap[b]? =w.heap[b]?
theorem ModS.of {sb:Nat}{w w':World}(h:Below w.heap.size w w')(hs:sb < w.heap.size):ModS sb w w':=⟨h.mono (Nat.le_of_lt hs),λb hb _=>h.block b hb⟩
theorem ModS.trans {sb:Nat}{w w1 w2:World}(h:ModS sb w w1)(h':ModS sb w1 w2):ModS sb w w2:=⟨h.1.trans h'.1,λb hb hne=>by rw[h'.2 b (lL hb h.1.size) hne,h.2 b hb hne]⟩
theorem ModS.put {sb:Nat}{w w1:World}(h:ModS sb w w1)(j:Nat)(u:Value):ModS sb w (w1.setCell ⟨sb,j,nO⟩ u):=⟨h.1.setCell (lR _) _,λb hb hne=>by rw[hSe _ _ _ _ hne];exact h.2 b hb hne⟩
theorem rA (sb:Nat)(i:Ins)(V F:Int)(s:Option Addr)(c:List Ins)(cap:Nat)(at_:Int)(x:Pic)(vs:Option Addr)(vc:Nat)(fs:Option Addr)(fc:Nat)(ev:Value)(wr fl:Bool)(w0 w:World)(hS:Cells w sb (aP i V F s c cap at_ x vs vc fs fc ev wr fl))(hc0:CodeAt w0 s c)(hx0:PicAt w0 x vs fs)(hz0:w0.heap.size≤sb)(hB0:Below w0.heap.size w0 w)(K:SCtx V F c x vc fc i at_)(hA:nA i.k=true):
  Calls pG 154 #[Pp (sO ⟨sb,0,nO⟩)] w λe w'=>(∃ss gc,e=Rt (U ss (gAt x i.a).s.length gc)∧IntsAt w0 ss (gAt x i.a).s∧(gAt x i.a).s.length≤gc∧gc≤maxLen)∧Cells w' sb (aP i V F s c cap at_ x vs vc fs fc ev (bI (gAt x i.a)) fl)∧ModS sb w w':=by
 have hx:=hx0
 obtain⟨k,ek,hk⟩:=K.varA hA
 have eg:gAt x i.a=x.vars[k]:=by rw[ek,kL hk]
 rw[eg]
 have hgk:=K.kx.gv _ (gM hk)
 obtain⟨b1,o1,e1,ss1,g1,G1,I1,k1,m1⟩:=hx.1 k hk
 subst e1
 have n0:(0:Int)≤(k:Int):=by omega
 have n1:(k:Int) < (x.vars.length:Int):=by omega
 have I0:=I1
 have HKZ:Hid (∀wx,Below w.heap.size w wx→(wx.cell? ⟨sb,2,nO⟩=sO (I Y (k:Int))∧wx.cell? ⟨sb,11,nO⟩=sO (U (sO ⟨b1,o1,nO⟩) x.vars.length vc))∧(wx.cell? ⟨b1,o1+k * 7,nO⟩=sO (Bb x.vars[k].n)∧wx.cell? ⟨b1,o1+k * 7+1,nO⟩=sO (Bb x.vars[k].sp.n)∧wx.cell? ⟨b1,o1+k * 7+2,nO⟩=sO (I Y x.vars[k].sp.lo)∧wx.cell? ⟨b1,o1+k * 7+3,nO⟩=sO (I Y x.vars[k].sp.hi)∧wx.cell? ⟨b1,o1+k * 7+4,nO⟩=sO (Bb x.vars[k].t)∧wx.cell? ⟨b1,o1+k * 7+5,nO⟩=sO (Bb x.vars[k].f)∧wx.cell? ⟨b1,o1+k * 7+6,nO⟩=sO (U ss1 x.vars[k].s.length g1))):=λwx hb=>⟨⟨by rw[←ek];exact(hS.call hb).1 2 _ rfl,(hS.call hb).1 11 _ rfl⟩,((G1.call hB0).call hb).1⟩
 have HSS:=aa hS
 clear hS hc0 hx hx0 eg ek hA hgk G1
 go_enter Tryz.func154,Tryz.ntmps154
 go_upto_region 1 with fail
 go_cut [3] (λt3 wc=>∃ab,t3=Pp (sO ⟨ab,0,nO⟩)∧w.heap.size≤ab∧Cells wc ab [Bb x.vars[k].n,Bb x.vars[k].sp.n,I Y x.vars[k].sp.lo,I Y x.vars[k].sp.hi,Bb x.vars[k].t,Bb x.vars[k].f,U ss1 x.vars[k].s.length g1]∧Below w.heap.size w wc)
 case first=>
  rename_i J1 K1 hJ1 hK1
  have B1:Below w.heap.size w w.drew:=(bR _ _).drew
  refine wp_region_held_drew (S:=(λwx=>(wx.cell? ⟨sb,2,nO⟩=sO (I Y (k:Int))∧wx.cell? ⟨sb,11,nO⟩=sO (U (sO ⟨b1,o1,nO⟩) x.vars.length vc))∧(wx.cell? ⟨b1,o1+k * 7,nO⟩=sO (Bb x.vars[k].n)∧wx.cell? ⟨b1,o1+k * 7+1,nO⟩=sO (Bb x.vars[k].sp.n)∧wx.cell? ⟨b1,o1+k * 7+2,nO⟩=sO (I Y x.vars[k].sp.lo)∧wx.cell? ⟨b1,o1+k * 7+3,nO⟩=sO (I Y x.vars[k].sp.hi)∧wx.cell? ⟨b1,o1+k * 7+4,nO⟩=sO (Bb x.vars[k].t)∧wx.cell? ⟨b1,o1+k * 7+5,nO⟩=sO (Bb x.vars[k].f)∧wx.cell? ⟨b1,o1+k * 7+6,nO⟩=sO (U ss1 x.vars[k].s.length g1)))) (by kernel_rfl) (HKZ.out _ B1) (λhHeld=> ?_)
  generalize w.drew=w1 at *
  refine vH 0 ?_ ?_
  refine vH 1 ?_ ?_
  refine vH 2 ?_ ?_
  refine vH 3 ?_ ?_
  refine vH 4 ?_ ?_
  refine vH 5 ?_ ?_
  refine vH 6 ?_ ?_
  refine vH 7 ?_ ?_
  refine vH 8 ?_ ?_
  refine vH 9 ?_ ?_
  refine vH 10 ?_ ?_
  refine vH 11 ?_ ?_
  refine wpAnyH_ready (rs:=[12]) (by kernel_rfl) (by simp) ?_
  refine AllReadyH.cons rfl (λK hK=> ?_) AllReadyH.nil
  go_simp
  have hb2:Below w1.heap.size w1 (w1.alloc (Cc #[Bb false,Bb false,I Y 0,I Y 0,Bb false,Bb false,U nO 0 0] 91)):=by go_grown
  have B2:=B1.trans (hb2.mono (B1.size))
  have A2:Cells (w1.alloc (Cc #[Bb false,Bb false,I Y 0,I Y 0,Bb false,Bb false,U nO 0 0] 91)) w1.heap.size [Bb false,Bb false,I Y 0,I Y 0,Bb false,Bb false,U nO 0 0]:=Cells.new w1 91 [Bb false,Bb false,I Y 0,I Y 0,Bb false,Bb false,U nO 0 0]
  have zab:=B1.size
  clear B1
  refine hK.out _ _ (HKZ.out _ B2) (λhHeld2=> ?_)
  clear hK K hb2
  refine sm ?_
  generalize w1.alloc (Cc #[Bb false,Bb false,I Y 0,I Y 0,Bb false,Bb false,U nO 0 0] 91)=w2 at *
  generalize w1.heap.size=ab at *
  refine wpAnyH_ready (rs:=[13]) (by kernel_rfl) (by simp) ?_
  refine AllReadyH.cons rfl (λK hK=> ?_) AllReadyH.nil
  have r0:=A2.1 0 _ rfl
  have r1:=A2.1 1 _ rfl
  have r2:=A2.1 2 _ rfl
  have r3:=A2.1 3 _ rfl
  have r4:=A2.1 4 _ rfl
  have r5:=A2.1 5 _ rfl
  have r6:=A2.1 6 _ rfl
  have f0:=A2.2.2 0
  have f1:=A2.2.2 1
  have f2:=A2.2.2 2
  have f3:=A2.2.2 3
  have f4:=A2.2.2 4
  have f5:=A2.2.2 5
  have f6:=A2.2.2 6
  go_simp
  have A3:Cells (((((((w2.setCell ⟨ab,0,nO⟩ (Bb x.vars[k].n)).setCell ⟨ab,1,nO⟩ (Bb x.vars[k].sp.n)).setCell ⟨ab,2,nO⟩ (I Y x.vars[k].sp.lo)).setCell ⟨ab,3,nO⟩ (I Y x.vars[k].sp.hi)).setCell ⟨ab,4,nO⟩ (Bb x.vars[k].t)).setCell ⟨ab,5,nO⟩ (Bb x.vars[k].f)).setCell ⟨ab,6,nO⟩ (U ss1 x.vars[k].s.length g1)) ab [Bb x.vars[k].n,Bb x.vars[k].sp.n,I Y x.vars[k].sp.lo,I Y x.vars[k].sp.hi,Bb x.vars[k].t,Bb x.vars[k].f,U ss1 x.vars[k].s.length g1]:=(((((((A2.put 0 (by simp) _).put 1 (by simp) _).put 2 (by simp) _).put 3 (by simp) _).put 4 (by simp) _).put 5 (by simp) _).put 6 (by simp) _)
  have B3:Below w.heap.size w (((((((w2.setCell ⟨ab,0,nO⟩ (Bb x.vars[k].n)).setCell ⟨ab,1,nO⟩ (Bb x.vars[k].sp.n)).setCell ⟨ab,2,nO⟩ (I Y x.vars[k].sp.lo)).setCell ⟨ab,3,nO⟩ (I Y x.vars[k].sp.hi)).setCell ⟨ab,4,nO⟩ (Bb x.vars[k].t)).setCell ⟨ab,5,nO⟩ (Bb x.vars[k].f)).setCell ⟨ab,6,nO⟩ (U ss1 x.vars[k].s.length g1)):=(((((((B2.setCell (by simp only;omega) _).setCell (by simp only;omega) _).setCell (by simp only;omega) _).setCell (by simp only;omega) _).setCell (by simp only;omega) _).setCell (by simp only;omega) _).setCell (by simp only;omega) _)
  refine hK.out _ _ (HKZ.out _ B3) (λhHeld3=> ?_)
  clear hK K r0 f0 r1 f1 r2 f2 r3 f3 r4 f4 r5 f5 r6 f6 A2 B2
  refine sm ?_
  generalize (((((((w2.setCell ⟨ab,0,nO⟩ (Bb x.vars[k].n)).setCell ⟨ab,1,nO⟩ (Bb x.vars[k].sp.n)).setCell ⟨ab,2,nO⟩ (I Y x.vars[k].sp.lo)).setCell ⟨ab,3,nO⟩ (I Y x.vars[k].sp.hi)).setCell ⟨ab,4,nO⟩ (Bb x.vars[k].t)).setCell ⟨ab,5,nO⟩ (Bb x.vars[k].f)).setCell ⟨ab,6,nO⟩ (U ss1 x.vars[k].s.length g1))=w3 at *
  refine wpAnyH_done (by kernel_rfl) ?_ _
  first|refine hK1 _ _ (Met.intro (hJ1 _ _ ?_))|refine Met.intro (hJ1 _ _ ?_)|refine hJ1 _ _ ?_
  (repeat apply Exists.intro)
  refine⟨?_,rfl⟩
  exact⟨ab,rfl,zab,A3,B3⟩
 obtain⟨ab,rfl,zab,A1,B1⟩:=hcut
 have S1:=HSS.out.call B1
 have M1:=ModS.of B1 HSS.out.2.1
 have zsb:=HSS.out.2.1
 have a0:=A1.1 0 _ rfl
 have a1:=A1.1 1 _ rfl
 have a4:=A1.1 4 _ rfl
 have a5:=A1.1 5 _ rfl
 have a6:=A1.1 6 _ rfl
 have s14:=S1.1 14 _ rfl
 have f14:=S1.2.2 14
 cases hn:x.vars[k].n with
 |true=>
  rw[hn] at a0
  go_wp2
  go_ret
  exact⟨⟨ss1,g1,rfl,I0,k1,m1⟩,by rw[show bI x.vars[k]=true by simp[bI,hn]];exact S1.put 14 (by simp[aP]) _,M1.put 14 _⟩
 |false=>
  rw[hn] at a0
  cases hp:x.vars[k].sp.n with
  |false=>
   rw[hp] at a1
   go_wp2
   go_ret
   exact⟨⟨ss1,g1,rfl,I0,k1,m1⟩,by rw[show bI x.vars[k]=true by simp[bI,hn,hp]];exact S1.put 14 (by simp[aP]) _,M1.put 14 _⟩
  |true=>
   rw[hp] at a1
   cases ht:x.vars[k].t with
   |true=>
    rw[ht] at a4
    go_wp2
    go_ret
    exact⟨⟨ss1,g1,rfl,I0,k1,m1⟩,by rw[show bI x.vars[k]=true by simp[bI,hn,hp,ht]];exact S1.put 14 (by simp[aP]) _,M1.put 14 _⟩
   |false=>
    rw[ht] at a4
    cases hf:x.vars[k].f with
    |true=>
     rw[hf] at a5
     go_wp2
     go_ret
     exact⟨⟨ss1,g1,rfl,I0,k1,m1⟩,by rw[show bI x.vars[k]=true by simp[bI,hn,hp,ht,hf]];exact S1.put 14 (by simp[aP]) _,M1.put 14 _⟩
    |false=>
     rw[hf] at a5
     go_wp2
     go_ret
     exact⟨⟨ss1,g1,rfl,I0,k1,m1⟩,by rw[show bI x.vars[k]=false by simp[bI,hn,hp,ht,hf]];exact S1.put 14 (by simp[aP]) _,M1.put 14 _⟩
end
end Go.Proofs.YtmapdpcfanecdabGreatDoor
