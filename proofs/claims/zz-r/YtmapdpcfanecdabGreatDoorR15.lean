import Derived.Test.YtmapdpcfanecdabGreatDoorR14
open Go.Ending renaming returned→Rt
open Go.IntKind renaming i64→Y
open Go.Obj renaming cells→Cc
open Go.Proofs.Tryz renaming prog→pG
open Go.RowKit.Below renaming heap_setCell→hSe,refl→bR
open Go.Value renaming agg→Ag,bool→Bb,int→I,pointer→Pp,slice→U,tuple→Tu
open Go.World renaming cell?_of_block→j5,frozen?_of_block→j6,size_alloc→zA
open List renaming Pairwise→j3,append_nil→q5,filter_cons→q0,filter_nil→q4,getElem?_eq_getElem→q9,getElem_mem→gM,map_append→j7,map_cons→j8,map_nil→j9,mem_cons→j4,mem_filter→j1,mem_map→q6,mem_range→j2,pairwise_lt_range→q8,pairwise_map→q7
open Nat renaming le_refl→lR,le_trans→lT,lt_of_lt_of_le→lL,zero_add→j0
open Option renaming none→nO,some→sO
set_option linter.unusedSimpArgs false
set_option linter.unusedVariables false
set_option maxHeartbeats 8000000
set_option maxRecDepth 100000
namespace Go.Proofs.YtmapdpcfanecdabGreatDoor
section
open Go.RowKit
attribute [local go_sem ↓] Go.wp_at_zero Go.wp_at_succ
theorem fi {V F:Int}{c:lI}(h:au V F c=0):(1<=V/\V<=8)/\(0<=F/\F<=3)/\c.length<=60:=by
 unfold au at h;split at h
 ·cases h
 ·rename_i h3
  split at h
  ·cases h
  ·rename_i h60
   simp[btw] at h3;exact⟨⟨aa,aa⟩,⟨aa,aa⟩,aa⟩
def XsAt (w:World)(ls:oA)(L:List Pic):Prop:=
 ∀i (h:i < L.length),∃b off,ls=sO ⟨b,off,nO⟩/\b < w.heap.size/\∃vs vc fs fc,(w.cell? ⟨b,off+i * 3,nO⟩=sO (Bb L[i].none)/\w.cell? ⟨b,off+i * 3+1,nO⟩=sO (U vs L[i].vq.length vc)/\w.cell? ⟨b,off+i * 3+2,nO⟩=sO (U fs L[i].fq.length fc))/\PicAt w L[i] vs fs/\(L[i].vq.length<=vc/\vc<=maxLen)/\(L[i].fq.length<=fc/\fc<=maxLen)
theorem XsAt.below {B:Nat}{w w':World}{ls:oA}{L:List Pic}(h:XsAt w ls L)(hb:Below B w w')(hB:w.heap.size<=B):XsAt w' ls L:=by
 intro i hi;obtain⟨b,off,e,hz,vs,vc,fs,fc,⟨h0,h1,h2⟩,hP,hQ⟩:=h i hi;exact⟨b,off,e,lL hz hb.size,vs,vc,fs,fc,⟨by rw[hb.cell (by simp only;omega)];exact h0,by rw[hb.cell (by simp only;omega)];exact h1,by rw[hb.cell (by simp only;omega)];exact h2⟩,hP.below hb hB,hQ⟩
theorem Lv (V F:Int)(c:lI)(L:List Pic)(k:Nat)(h:k < L.length):cT V F c (L.drop k)=if aM V F c L[k]=0 then cT V F c (L.drop (k+1)) else aM V F c L[k]:=by
 rw[List.drop_eq_getElem_cons h];rfl
end
section
open Go.RowKit
abbrev Dn (w:World)(V F:Int)(s:oA)(c:lI)(cap:Nat)(g:Gs)(ss:oA)(gc:Nat)(h:Gs)(st:oA)(hc:Nat):World:=
 ((w.alloc (Cc #[I Y V,I Y F,U s c.length cap] 24)).alloc (Cc #[Bb g.n,Bb g.sp.n,I Y g.sp.lo,I Y g.sp.hi,Bb g.t,Bb g.f,U ss g.s.length gc] 91)).alloc (Cc #[Bb h.n,Bb h.sp.n,I Y h.sp.lo,I Y h.sp.hi,Bb h.t,Bb h.f,U st h.s.length hc] 91)
theorem M8 (w:World)(V F:Int)(s:oA)(c:lI)(cap:Nat)(g:Gs)(ss:oA)(gc:Nat)(h:Gs)(st:oA)(hc:Nat):
  GuAt (Dn w V F s c cap g ss gc h st hc) (w.heap.size+1) 0 g ss gc/\GuAt (Dn w V F s c cap g ss gc h st hc) (w.heap.size+1+1) 0 h st hc/\bl w (Dn w V F s c cap g ss gc h st hc):=by
 refine⟨?_,?_,am⟩
 ·have:=GuAt.new (w.alloc (Cc #[I Y V,I Y F,U s c.length cap] 24)) g ss gc
  rw[zA] at this;exact this.alloc _
 ·have:=GuAt.new ((w.alloc (Cc #[I Y V,I Y F,U s c.length cap] 24)).alloc (Cc #[Bb g.n,Bb g.sp.n,I Y g.sp.lo,I Y g.sp.hi,Bb g.t,Bb g.f,U ss g.s.length gc] 91)) h st hc
  simp only[zA] at this;exact this

theorem Dg {a c:Bool}{b d:Int}(h:a=c)(h':b=d):Ending.returned (Tu #[Bb a,I Y b])=Rt (Tu #[Bb c,I Y d]):=by rw[h,h']
theorem gI (a b:Bool):(a=true/\b=false)\/a=false\/(a=true/\b=true):=by cases a<;>cases b<;>simp

theorem Tq {s t:Sp}(hs:s.Ok)(ht:t.Ok):decide (aL s t=s)=fH s t:=by
 obtain⟨n,lo,hi⟩:=s;obtain⟨n',lo',hi'⟩:=t;obtain⟨-,-,hz,hl⟩:=hs;obtain⟨-,-,hz',hl'⟩:=ht;cases n with
 |true=>
  obtain⟨h1,h2⟩:=hz rfl;simp only at h1 h2;subst h1 h2;rfl
 |false=>
  cases n' with
  |true=>
   have e0:aL ⟨false,lo,hi⟩ ⟨true,lo',hi'⟩=⟨true,0,0⟩:=rfl;rw[e0];simp[fH,Sp.has]
  |false=>
   simp only at hl hl';rw[Bool.eq_iff_iff,decide_eq_true_eq];unfold aL fH Sp.has;simp only[Bool.false_or,Bool.not_false,Bool.true_and,decide_eq_true_eq,Bool.and_eq_true];constructor
   ·intro h
    split at h
    ·cases h
    ·simp only[Sp.mk.injEq,true_and] at h
     omega
   ·intro h
    rw[if_neg aa];simp only[Sp.mk.injEq,true_and];omega

theorem K7 (V F:Int)(s:oA)(c:lI)(cap:Nat)(g:Gs)(ss:oA)(gc:Nat)(h:Gs)(st:oA)(hc:Nat)(w:World)
  (hcd:CodeAt w s c)(hs:IntsAt w ss g.s)(h1:g.s.length<=gc)(h2:gc<=maxLen)(ht:IntsAt w st h.s)(h3:h.s.length<=hc)(h4:hc<=maxLen)(hck:aZ V F c [g,h]≠0):
  Calls pG 161 #[pv V F s c cap,gv g ss gc,gv h st hc] w λe w'=>e=Rt (Tu #[Bb false,I Y (aZ V F c [g,h])])/\bl w w':=by
 obtain⟨G0,H0,B0⟩:=M8 w V F s c cap g ss gc h st hc;have I0:=KY;have J0:=Kq;have L0:=GQ;simp only[zA] at L0;have HC:=GT;have hne:(aZ V F c [g,h]!=0)=true:=by simpa using hck
 generalize aZ V F c [g,h]=ce at HC hne |-;clear hck hcd hs ht I0 J0 L0 G0 H0;go_enter Tryz.func161,Tryz.ntmps161;go_wp2_with fail;refine HC.out.mono ?_;rintro e w1 ⟨rfl,hb1⟩;go_wp2
 go_ret2
 exact wR

theorem fS {p:Prop}(h:p:=by
 rintro e w2 ⟨rfl,hb2⟩;rw[vD];have G2:=G1.call hb2;have H2:=H1.call hb2;have B2:=gD;clear hb2 G1 H1 B1 I1 J1 g0 g1 g2 g3 g4 g5 g6 gz k0 k1 k2 k3 k4 k5 k6 kz;obtain⟨⟨g0,g1,g2,g3,g4,g5,g6⟩,gz⟩:=id G2;obtain⟨⟨k0,k1,k2,k3,k4,k5,k6⟩,kz⟩:=id H2;simp only[Nat.zero_add] at g0 g1 g2 g3 g4 g5 g6 k0 k1 k2 k3 k4 k5 k6;generalize hA:(sl.all λx=>h'.contains x)=al at *;have HA:=ah hA;clear hA;cases al with
 |false=>
  go_wp2
  go_ret2
  exact⟨Dg (by rw[HR.out];simp) rfl,B2⟩
 |true=>
  go_wp2_with fail;refine(HW.out _).mono ?_;rintro e w3 ⟨rfl,hb3⟩;go_wp2
  go_ret2
  exact⟨Dg (by rw[HR.out];simp) rfl,B2.trans (hb3.mono B2.size)⟩):p:=h
theorem Av (V F:Int)(s:oA)(c:lI)(cap:Nat)(g:Gs)(ss:oA)(gc:Nat)(h:Gs)(st:oA)(hc:Nat)(w:World)
  (hcd:CodeAt w s c)(hs:IntsAt w ss g.s)(h1:g.s.length<=gc)(h2:gc<=maxLen)(ht:IntsAt w st h.s)(h3:h.s.length<=hc)(h4:hc<=maxLen)(hck:aZ V F c [g,h]=0):
  Calls pG 161 #[pv V F s c cap,gv g ss gc,gv h st hc] w λe w'=>e=Rt (Tu #[Bb (dp g h),I Y 0])/\bl w w':=by
 obtain⟨G0,H0,B0⟩:=M8 w V F s c cap g ss gc h st hc;have I0:=KY;have J0:=Kq;have L0:=GQ;simp only[zA] at L0;have HC:=GT;obtain⟨hos,hot⟩:=ckSps_ok.1 (fu hck);have hW:=λw=>Oe g.sp h.sp w;rw[fu hck,show (decide ((0:Int)=0)&&decide (aL g.sp h.sp=g.sp))=fH g.sp h.sp by rw[Tq hos hot];rfl] at hW;have HW:=ah hW;have hgl:g.s.length<=9223372036854775807:=by unfold maxLen at h2;omega
 have hlt:h.s.length<=9223372036854775807:=by unfold maxLen at h4;omega
 have HR:Hid (dp g h=(!(g.n&& !h.n)&&(!(g.t&& !h.t)&&(!(g.f&& !h.f)&&(fH g.sp h.sp&&g.s.all λx=>h.s.contains x))))):=rfl;generalize dp g h=res at HR |-;generalize fH g.sp h.sp=si at HR HW;rw[hck] at HC;clear hck hcd hs ht L0 hW hos hot;go_enter Tryz.func161,Tryz.ntmps161;go_wp2_with fail;refine HC.out.mono ?_;rintro e w1 ⟨rfl,hb1⟩;have G1:=eT;have H1:=fC;have I1:=gj;have J1:=gh;have B1:=eS;clear hb1 G0 H0 I0 J0 B0 HC;obtain⟨⟨g0,g1,g2,g3,g4,g5,g6⟩,gz⟩:=id G1;obtain⟨⟨k0,k1,k2,k3,k4,k5,k6⟩,kz⟩:=id H1;simp only[j0] at g0 g1 g2 g3 g4 g5 g6 k0 k1 k2 k3 k4 k5 k6;obtain⟨n,sp,t,f,sl⟩:=g;obtain⟨n',sp',t',f',h'⟩:=h;simp only at hgl hlt;rcases gI n n' with⟨rfl,rfl⟩|rfl|⟨rfl,rfl⟩
 ·go_wp2
  go_ret2
  exact kd
 ·rcases gI t t' with⟨rfl,rfl⟩|rfl|⟨rfl,rfl⟩
  ·go_wp2
   go_ret2
   exact kd
  ·rcases gI f f' with⟨rfl,rfl⟩|rfl|⟨rfl,rfl⟩
   ·go_wp2
    go_ret2
    exact kd
   ·go_wp2_with fail
    refine(cO (w.heap.size+1+1) (λx=> !h'.contains x) ss gc sl _ aa I1 λx wx hbx=>ie x _ ⟨n',sp',t',f',h'⟩ st hc wx (H1.call hbx) (J1.call hbx) dm).mono ?_;exact fS
   ·go_wp2_with fail
    refine(cO (w.heap.size+1+1) (λx=> !h'.contains x) ss gc sl _ aa I1 λx wx hbx=>ie x _ ⟨n',sp',t',true,h'⟩ st hc wx (H1.call hbx) (J1.call hbx) dm).mono ?_;exact fS
  ·rcases gI f f' with⟨rfl,rfl⟩|rfl|⟨rfl,rfl⟩
   ·go_wp2
    go_ret2
    exact kd
   ·go_wp2_with fail
    refine(cO (w.heap.size+1+1) (λx=> !h'.contains x) ss gc sl _ aa I1 λx wx hbx=>ie x _ ⟨n',sp',true,f',h'⟩ st hc wx (H1.call hbx) (J1.call hbx) dm).mono ?_;exact fS
   ·go_wp2_with fail
    refine(cO (w.heap.size+1+1) (λx=> !h'.contains x) ss gc sl _ aa I1 λx wx hbx=>ie x _ ⟨n',sp',true,true,h'⟩ st hc wx (H1.call hbx) (J1.call hbx) dm).mono ?_;exact fS
 ·rcases gI t t' with⟨rfl,rfl⟩|rfl|⟨rfl,rfl⟩
  ·go_wp2
   go_ret2
   exact kd
  ·rcases gI f f' with⟨rfl,rfl⟩|rfl|⟨rfl,rfl⟩
   ·go_wp2
    go_ret2
    exact kd
   ·go_wp2_with fail
    refine(cO (w.heap.size+1+1) (λx=> !h'.contains x) ss gc sl _ aa I1 λx wx hbx=>ie x _ ⟨true,sp',t',f',h'⟩ st hc wx (H1.call hbx) (J1.call hbx) dm).mono ?_;exact fS
   ·go_wp2_with fail
    refine(cO (w.heap.size+1+1) (λx=> !h'.contains x) ss gc sl _ aa I1 λx wx hbx=>ie x _ ⟨true,sp',t',true,h'⟩ st hc wx (H1.call hbx) (J1.call hbx) dm).mono ?_;exact fS
  ·rcases gI f f' with⟨rfl,rfl⟩|rfl|⟨rfl,rfl⟩
   ·go_wp2
    go_ret2
    exact kd
   ·go_wp2_with fail
    refine(cO (w.heap.size+1+1) (λx=> !h'.contains x) ss gc sl _ aa I1 λx wx hbx=>ie x _ ⟨true,sp',true,f',h'⟩ st hc wx (H1.call hbx) (J1.call hbx) dm).mono ?_;exact fS
   ·go_wp2_with fail
    refine(cO (w.heap.size+1+1) (λx=> !h'.contains x) ss gc sl _ aa I1 λx wx hbx=>ie x _ ⟨true,sp',true,true,h'⟩ st hc wx (H1.call hbx) (J1.call hbx) dm).mono ?_;exact fS
theorem NE {V F:Int}{c:lI}{g:Gs}(hk:aZ V F c [g]=0):au V F c=0/\aE c g=0:=by
 unfold aZ at hk;by_cases h0:au V F c=0
 ·rw[if_pos h0] at hk
  have e:b8 c [g]=if aE c g=0 then 0 else aE c g:=rfl
  rw[e] at hk;by_cases hg:aE c g=0
  ·exact⟨h0,hg⟩
  ·rw[if_neg hg] at hk;exact absurd hk hg
 ·rw[if_neg h0] at hk;exact absurd hk h0
theorem kQ {c:lI}{g:Gs}(h:aE c g=0):cD g.sp=0:=by
 unfold aE at h;split at h
 ·assumption
 ·rename_i hn;exact Decidable.not_not.1 hn
theorem Wk (w:World)(V F:Int)(s:oA)(c:lI)(cap:Nat)(g:Gs)(ss:oA)(gc:Nat):GuAt (pgW w V F s c cap g ss gc) (w.heap.size+1) 0 g ss gc/\bl w (pgW w V F s c cap g ss gc):=by
 refine⟨?_,am⟩;have:=GuAt.new (w.alloc (Cc #[I Y V,I Y F,U s c.length cap] 24)) g ss gc;rw[zA] at this;exact this

theorem Sj (V F:Int)(s:oA)(c:lI)(cap:Nat)(g:Gs)(ss:oA)(gc:Nat)(w:World)(hcd:CodeAt w s c)(hs:IntsAt w ss g.s)(h1:g.s.length<=gc)(h2:gc<=maxLen)(hck:aZ V F c [g]=0):
  Calls pG 160 #[pv V F s c cap,gv g ss gc] w λe w'=>e=Rt (Tu #[Bb (cd g),Bb (cR g),I Y 0])/\bl w w':=by
 obtain⟨G0,B0⟩:=Wk w V F s c cap g ss gc;have I0:IntsAt (pgW w V F s c cap g ss gc) ss g.s:=hs.below B0 (lR _);have L0:=GsAt.new1 (pgW w V F s c cap g ss gc) g ss gc I0 h1 h2;simp only[zA] at L0;have HC:=ah (eU V F s c cap (sO ⟨w.heap.size+1+1,0,nO⟩) [g] 1 _ ((hcd.below B0 (lR _)).alloc _) L0 ag);have HT:=ah (λw=>Bw g ss gc w (kQ (NE hck).2));rw[hck] at HC;generalize cd g=y at HT |-;generalize cR g=n at HT |-;clear hck hcd hs I0 L0;go_enter Tryz.func160,Tryz.ntmps160;go_wp2_with fail;refine HC.out.mono ?_;rintro e w1 ⟨rfl,hb1⟩;have G1:=eT;have B1:=eS;clear hb1 HC G0 B0;obtain⟨⟨g0,g1,g2,g3,g4,g5,g6⟩,gz⟩:=id G1;simp only[j0] at g0 g1 g2 g3 g4 g5 g6;go_wp2_with fail;refine(HT.out _).mono ?_;rintro e w2 ⟨rfl,hb2⟩;go_wp2
 go_ret3
 exact⟨rfl,B1.trans (hb2.mono B1.size)⟩
theorem GuAt.grown {w w':World}{vb:Option Nat}{b o:Nat}{g:Gs}{ss:oA}{cap:Nat}(hg:w.grownBy w' vb)(h:GuAt w b o g ss cap)(hne:sO b≠vb):GuAt w' b o g ss cap:=by
 obtain⟨⟨h0,h1,h2,h3,h4,h5,h6⟩,hz⟩:=h;have hk:=hg.block b hz hne;have c:∀j,w'.cell? ⟨b,j,nO⟩=w.cell? ⟨b,j,nO⟩:=λj=>j5 (a:=⟨b,j,nO⟩) hk;exact⟨⟨by rw[c];exact h0,by rw[c];exact h1,by rw[c];exact h2,by rw[c];exact h3,by rw[c];exact h4,by rw[c];exact h5,by rw[c];exact h6⟩,lL hz hg.size⟩
theorem Fr7.grown {w w':World}{vb:Option Nat}{b:Nat}(hg:w.grownBy w' vb)(h:Fr7 w b)(hne:sO b≠vb):Fr7 w' b:=by
 have hk:=hg.block b h.2 hne;exact⟨λj=>by rw[j6 (a:=⟨b,j,nO⟩) hk];exact h.1 j,lL h.2 hg.size⟩
theorem GuAt.setFar {w:World}{b b' o j:Nat}{g:Gs}{ss:oA}{cap:Nat}{v:Value}(h:GuAt w b o g ss cap)(hne:b≠b'):GuAt (w.setCell ⟨b',j,nO⟩ v) b o g ss cap:=by
 obtain⟨⟨h0,h1,h2,h3,h4,h5,h6⟩,hz⟩:=h;have c:∀i,(w.setCell ⟨b',j,nO⟩ v).cell? ⟨b,i,nO⟩=w.cell? ⟨b,i,nO⟩:=λi=>World.cell?_setCell_far _ ⟨b',j,nO⟩ ⟨b,i,nO⟩ _ (λe=>hne e.symm);exact⟨⟨by rw[c];exact h0,by rw[c];exact h1,by rw[c];exact h2,by rw[c];exact h3,by rw[c];exact h4,by rw[c];exact h5,by rw[c];exact h6⟩,fm⟩
theorem GuAt.setS {w:World}{b:Nat}{g:Gs}{ss ss':oA}{cap cap':Nat}{s':List Int}(h:GuAt w b 0 g ss cap):GuAt (w.setCell ⟨b,6,nO⟩ (U ss' s'.length cap')) b 0 ⟨g.n,g.sp,g.t,g.f,s'⟩ ss' cap':=by
 obtain⟨⟨h0,h1,h2,h3,h4,h5,h6⟩,hz⟩:=h;simp only[j0] at h0 h1 h2 h3 h4 h5 h6;refine⟨?_,fm⟩;simp[go_sem,h0,h1,h2,h3,h4,h5,h6]
theorem Fr7.set {w:World}{b b' j:Nat}{v:Value}(h:Fr7 w b):Fr7 (w.setCell ⟨b',j,nO⟩ v) b:=⟨λi=>by simp[go_sem,h.1 i],by simpa using h.2⟩
theorem ou {w:World}{B n b j z:Nat}{e:TypeId}{v u:Value}{xs:List Value}(h:w.ownsRow B e z v n xs)(hb:b < B):(w.setCell ⟨b,j,nO⟩ u).ownsRow B e z v n xs:=
 ⟨h.1,h.2.imp id λ⟨g,cap,cur,r1,r2,r3,r4⟩=>⟨g,cap,cur,r1,r2,by rw[hSe _ _ _ _ (by show g≠b;omega)];exact r3,r4⟩⟩

def bH (a b:List Int)(k:Nat):List Int:=((List.range k).map λn:Nat=>(n:Int)).filter λx=>a.contains x||b.contains x
theorem Lj (a b:List Int)(k:Nat):bH a b (k+1)=bH a b k++(if (a.contains (k:Int)||b.contains (k:Int))=true then [(k:Int)] else []):=by
 unfold bH;rw[List.range_succ,j7,List.filter_append];congr 1;by_cases h:(a.contains (k:Int)||b.contains (k:Int))=true
 ·simp only[j8,j9,q0,h,if_true,q4]
 ·simp only[j8,j9,q0,h,if_false,q4,Bool.false_eq_true]
theorem Pq (a b:List Int)(k:Nat):(bH a b k).length<=k:=by
 unfold bH;exact lT (List.length_filter_le _ _) ag
def NJ (w:World)(g:Gs)(ss:oA)(gc:Nat)(h:Gs)(st:oA)(hc:Nat)(w':World):Prop:=
 (w'.cell? ⟨w.heap.size,0,nO⟩=sO (Bb g.n)/\w'.cell? ⟨w.heap.size,1,nO⟩=sO (Bb g.sp.n)/\w'.cell? ⟨w.heap.size,2,nO⟩=sO (I Y g.sp.lo)/\w'.cell? ⟨w.heap.size,3,nO⟩=sO (I Y g.sp.hi)/\w'.cell? ⟨w.heap.size,4,nO⟩=sO (Bb g.t)/\w'.cell? ⟨w.heap.size,5,nO⟩=sO (Bb g.f)/\w'.cell? ⟨w.heap.size,6,nO⟩=sO (U ss g.s.length gc))/\
 (w'.cell? ⟨w.heap.size+1,0,nO⟩=sO (Bb h.n)/\w'.cell? ⟨w.heap.size+1,1,nO⟩=sO (Bb h.sp.n)/\w'.cell? ⟨w.heap.size+1,2,nO⟩=sO (I Y h.sp.lo)/\w'.cell? ⟨w.heap.size+1,3,nO⟩=sO (I Y h.sp.hi)/\w'.cell? ⟨w.heap.size+1,4,nO⟩=sO (Bb h.t)/\w'.cell? ⟨w.heap.size+1,5,nO⟩=sO (Bb h.f)/\w'.cell? ⟨w.heap.size+1,6,nO⟩=sO (U st h.s.length hc))
theorem Aq {p:Prop}(h:p:=by
 have hln:=HL.out k;go_wp2_with (at_builtin;refine wpList_append_own _ rfl _ _ 34 rfl W.heap.size 3 ti (.int .i64 0) 1 8 Tryz.underlying34 hi hz0 hz1 hz2 rfl ai _ _ _ rfl (OR.alloc _) ⟨wr.heap.size,0,none⟩ 1 1 [.int .i64 (k:Int)] rfl rfl (cell_one_new _ _ _) (λx hx=>km) cN aa ap ?_;intro v' w3 hown' hgrow3 hnil3;have hlow:∀b,b < W.heap.size->some b≠(Value.slice vs (bH sl h.s k).length vc).ownBlock:=(λb hb e=>by have:=mU OR e.symm;omega);have O3:w3.ownsRow W.heap.size 3 1 v' (bH sl h.s (k+1)).length ((bH sl h.s (k+1)).map (.int .i64)):=(by rw[HT.out,List.map_append,List.length_append];exact hown');obtain⟨vs',vc',hv',-⟩:=IntsAt.own O3;subst hv';have G3:=((GR.alloc _).grown hgrow3 (hlow _ aa));have H3:=((HR.alloc _).grown hgrow3 (hlow _ aa));have R3:=((RR.alloc _).grown hgrow3 (hlow _ aa));have F3:=((FR.alloc _).grown hgrow3 (hlow _ aa));have U3:=((UR.alloc _).grown hgrow3 (hlow _ aa));have X3:=((XR.alloc _).grown hgrow3 (hlow _ aa));have B3:=((BR.alloc BR.size _).grown hgrow3 (by simp;have:=BR.size;omega) (λj hj=>by have:=mU OR hj;omega));have z3:=hgrow3.size;simp only[World.size_alloc] at z3;obtain⟨⟨u0,u1,u2,u3,u4,u5,u6⟩,uz⟩:=id U3;simp only[Nat.zero_add] at u0 u1 u2 u3 u4 u5 u6;have fz3:=X3.1);go_roundw
 case rel=>exact⟨k+1,vs',vc',aa,aF,G3.setFar aa,H3.setFar aa,R3.setFar aa,F3.set,U3.setS,X3.set,ou O3 aa,ap,B3.setCell (by show w.heap.size<=ob;omega) _⟩
 case measure=>simp[intOf];omega):p:=h
theorem AY {p:Prop}(h:p:=by
 go_wp2_with fail;refine(Aj (k:Int) ss gc sl _ hgl IR).mono ?_;rintro e w5 ⟨rfl,hw5⟩;have hw6:=hw5.symm;subst hw6;have HD:Hid (sl.contains (k:Int)=sl.contains (k:Int)):=rfl;generalize hd:sl.contains (k:Int)=d at *;have HE:=ah hd;clear hd HD hw5;cases d with
 |true=>
  have HT:Hid (bH sl h.s (k+1)=bH sl h.s k++[(k:Int)]):=by show _=_;rw[HS.out k,if_pos];simp only[HE.out,Bool.true_or]
  exact Aq
 |false=>
  go_wp2_with fail;refine(Aj (k:Int) st hc h.s _ hlt' JR).mono ?_;rintro e w5 ⟨rfl,hw5⟩;have hw6:=hw5.symm;subst hw6;generalize hd2:h.s.contains (k:Int)=d2 at *;have HE2:=ah hd2;clear hd2 hw5;cases d2 with
  |true=>
   have HT:Hid (bH sl h.s (k+1)=bH sl h.s k++[(k:Int)]):=by show _=_;rw[HS.out k,if_pos];simp only[HE.out,HE2.out,Bool.false_or]
   exact Aq
  |false=>
   have HT:Hid (bH sl h.s (k+1)=bH sl h.s k):=by show _=_;rw[HS.out k,if_neg (by simp only[HE.out,HE2.out];simp),List.append_nil]
   go_wp2;go_roundw
   case rel=>exact⟨k+1,vs,vc,aa,aF,GR,HR,RR,FR,by rw[HT.out];exact UR,XR,by rw[HT.out];exact OR,zR,BR⟩
   case measure=>simp[intOf];omega):p:=h
theorem BL {p:Prop}(h:p:=by
 have HS:=ah (Lj g.s h.s);have HL:=ah (Pq g.s h.s);clear G0 H0 B0;go_enter Tryz.func114,Tryz.ntmps114;go_wp2;generalize ((w.alloc (.cells #[.bool g.n,.bool g.sp.n,.int .i64 g.sp.lo,.int .i64 g.sp.hi,.bool g.t,.bool g.f,.slice ss g.s.length gc] 91)).alloc (.cells #[.bool h.n,.bool h.sp.n,.int .i64 h.sp.lo,.int .i64 h.sp.hi,.bool h.t,.bool h.f,.slice st h.s.length hc] 91)).alloc (.cells #[.bool false,.bool false,.int .i64 0,.int .i64 0,.bool false,.bool false,.slice none 0 0] 91)=w1 at *;have KS:∀wx,GuAt wx w.heap.size 0 g ss gc->GuAt wx (w.heap.size+1) 0 h st hc->NJ w g ss gc h st hc wx:=λwx a b=>⟨by simpa using a.1,by simpa using b.1⟩;unfold NJ at KS;obtain⟨n,sp,t,f,sl⟩:=g;refine wp_region_held_drew (S:=NJ w ⟨n,sp,t,f,sl⟩ ss gc h st hc) ae (KS _ G1.drew H1.drew) (λhHeld=> ?_);unfold NJ at hHeld |-;refine vH 0 ?_ ?_;refine vH 1 ?_ ?_;refine vH 2 ?_ ?_;refine wpAnyH_take (i:=3) (v:=if n=true then undef else .pointer (some ⟨w.heap.size+1,0,none⟩)) rfl ae ae ae (λ_ _ _ h=>h) ?_ cn ?_
 ·cases n
  ·refine Or.inl ⟨?_,?_⟩
   ·rfl
   ·(intro w hSw;(try dsimp only at hSw);first|(go_simp;done)|(go_simp;with_reducible rfl))
  ·exact dj
 refine sm ?_;refine wpAnyH_take (i:=4) (v:=if n=true then undef else .bool h.n) rfl ae ae ae (λ_ _ _ h=>h) ?_ cn ?_
 ·cases n
  ·refine Or.inl ⟨?_,?_⟩
   ·rfl
   ·(intro w hSw;(try dsimp only at hSw);first|(go_simp;done)|(go_simp;with_reducible rfl))
  ·exact dj
 refine sm ?_;refine wpAnyH_take (i:=5) (v:=.bool (n||h.n)) rfl ae ae ae (λ_ _ _ h=>h) ?_ cn ?_
 ·cases n
  ·refine Or.inl ⟨?_,?_⟩
   ·rfl
   ·(intro w hSw;(try dsimp only at hSw);first|(go_simp;done)|(go_simp;with_reducible rfl))
  ·refine Or.inl ⟨?_,?_⟩
   ·rfl
   ·(intro w hSw;(try dsimp only at hSw);first|(go_simp;done)|(go_simp;with_reducible rfl))
 refine sm ?_;refine vH 6 ?_ ?_;refine vH 7 ?_ ?_;refine vH 8 ?_ ?_;refine vH 9 ?_ ?_;refine vH 10 ?_ ?_;refine vH 12 ?_ ?_;refine vH 13 ?_ ?_;refine vH 18 ?_ ?_;refine vH 19 ?_ ?_;refine wpAnyH_ready (rs:=[11,25]) ae ag ?_;refine AllReadyH.cons rfl (λK hK=> ?_) (AllReadyH.cons rfl (λK hK=> ?_) AllReadyH.nil)
 ·go_simp
  refine(HJ.out _).mono ?_;rintro e w2 ⟨rfl,hb2⟩;have G2:=G1.drew.call hb2;have H2:=H1.drew.call hb2;have R2:=R1.drew.call hb2;have F2:=F1.drew.call hb2;have B2:bl w w2:=B1.drew.trans (hb2.mono B1.size);clear hb2 G1 H1 R1 F1 B1;refine hK.out _ _ (KS _ G2 H2) (λhHeld=> ?_);clear hK K;refine sm ?_;refine vH 14 ?_ ?_;refine wpAnyH_take (i:=15) (v:=if t=true then undef else .pointer (some ⟨w.heap.size+1,4,none⟩)) rfl ae ae ae (λ_ _ _ h=>h) ?_ cn ?_
  ·cases t
   ·refine Or.inl ⟨?_,?_⟩
    ·rfl
    ·(intro w hSw;(try dsimp only at hSw);first|(go_simp;done)|(go_simp;with_reducible rfl))
   ·exact dj
  refine sm ?_;refine wpAnyH_take (i:=16) (v:=if t=true then undef else .bool h.t) rfl ae ae ae (λ_ _ _ h=>h) ?_ cn ?_
  ·cases t
   ·refine Or.inl ⟨?_,?_⟩
    ·rfl
    ·(intro w hSw;(try dsimp only at hSw);first|(go_simp;done)|(go_simp;with_reducible rfl))
   ·exact dj
  refine sm ?_;refine wpAnyH_take (i:=17) (v:=.bool (t||h.t)) rfl ae ae ae (λ_ _ _ h=>h) ?_ cn ?_
  ·cases t
   ·refine Or.inl ⟨?_,?_⟩
    ·rfl
    ·(intro w hSw;(try dsimp only at hSw);first|(go_simp;done)|(go_simp;with_reducible rfl))
   ·refine Or.inl ⟨?_,?_⟩
    ·rfl
    ·(intro w hSw;(try dsimp only at hSw);first|(go_simp;done)|(go_simp;with_reducible rfl))
  refine sm ?_;refine vH 20 ?_ ?_;refine wpAnyH_take (i:=21) (v:=if f=true then undef else .pointer (some ⟨w.heap.size+1,5,none⟩)) rfl ae ae ae (λ_ _ _ h=>h) ?_ cn ?_
  ·cases f
   ·refine Or.inl ⟨?_,?_⟩
    ·rfl
    ·(intro w hSw;(try dsimp only at hSw);first|(go_simp;done)|(go_simp;with_reducible rfl))
   ·exact dj
  refine sm ?_;refine wpAnyH_take (i:=22) (v:=if f=true then undef else .bool h.f) rfl ae ae ae (λ_ _ _ h=>h) ?_ cn ?_
  ·cases f
   ·refine Or.inl ⟨?_,?_⟩
    ·rfl
    ·(intro w hSw;(try dsimp only at hSw);first|(go_simp;done)|(go_simp;with_reducible rfl))
   ·exact dj
  refine sm ?_;refine wpAnyH_take (i:=23) (v:=.bool (f||h.f)) rfl ae ae ae (λ_ _ _ h=>h) ?_ cn ?_
  ·cases f
   ·refine Or.inl ⟨?_,?_⟩
    ·rfl
    ·(intro w hSw;(try dsimp only at hSw);first|(go_simp;done)|(go_simp;with_reducible rfl))
   ·refine Or.inl ⟨?_,?_⟩
    ·rfl
    ·(intro w hSw;(try dsimp only at hSw);first|(go_simp;done)|(go_simp;with_reducible rfl))
  refine sm ?_;refine vH 24 ?_ ?_;refine wpAnyH_ready (rs:=[25]) ae ag ?_;refine AllReadyH.cons rfl (λK hK=> ?_) AllReadyH.nil;go_simp;refine hK.out _ _ (KS _ (G2.alloc _) (H2.alloc _)) (λhHeld=> ?_);clear hK K;refine sm ?_;refine wpAnyH_ready (rs:=[26]) ae ag ?_;refine AllReadyH.cons rfl (λK hK=> ?_) AllReadyH.nil;go_simp;refine hK.out _ _ (KS _ (G2.alloc _) (H2.alloc _)) (λhHeld=> ?_);clear hK K;refine sm ?_;have GW:=G2.alloc (.cells #[.bool (n||h.n),.bool J.n,.int .i64 J.lo,.int .i64 J.hi,.bool (t||h.t),.bool (f||h.f),.slice none 0 0] 91);have HW:=H2.alloc (.cells #[.bool (n||h.n),.bool J.n,.int .i64 J.lo,.int .i64 J.hi,.bool (t||h.t),.bool (f||h.f),.slice none 0 0] 91);have RW:=R2.alloc (.cells #[.bool (n||h.n),.bool J.n,.int .i64 J.lo,.int .i64 J.hi,.bool (t||h.t),.bool (f||h.f),.slice none 0 0] 91);have FW:=F2.alloc (.cells #[.bool (n||h.n),.bool J.n,.int .i64 J.lo,.int .i64 J.hi,.bool (t||h.t),.bool (f||h.f),.slice none 0 0] 91);have BW:=B2.alloc B2.size (.cells #[.bool (n||h.n),.bool J.n,.int .i64 J.lo,.int .i64 J.hi,.bool (t||h.t),.bool (f||h.f),.slice none 0 0] 91);have UW:GuAt (w2.alloc (.cells #[.bool (n||h.n),.bool J.n,.int .i64 J.lo,.int .i64 J.hi,.bool (t||h.t),.bool (f||h.f),.slice none 0 0] 91)) w2.heap.size 0 ⟨n||h.n,J,t||h.t,f||h.f,bH sl h.s 0⟩ none 0:=GuAt.new w2 ⟨n||h.n,J,t||h.t,f||h.f,[]⟩ none 0;have XW:Fr7 (w2.alloc (.cells #[.bool (n||h.n),.bool J.n,.int .i64 J.lo,.int .i64 J.hi,.bool (t||h.t),.bool (f||h.f),.slice none 0 0] 91)) w2.heap.size:=⟨λj=>aW,ag⟩;have zo:w.heap.size+1+1 < w2.heap.size:=F2.2;have zw:=XW.2;clear G2 H2 R2 F2 B2;generalize w2.alloc (.cells #[.bool (n||h.n),.bool J.n,.int .i64 J.lo,.int .i64 J.hi,.bool (t||h.t),.bool (f||h.f),.slice none 0 0] 91)=W at *;generalize w2.heap.size=ob at *;refine wpAnyH_done ae ?_ _;generalize (if n=true then undef else(.pointer (some ⟨w.heap.size+1,0,none⟩):Value))=y0;generalize (if n=true then undef else(.bool h.n:Value))=y1;generalize (if t=true then undef else(.pointer (some ⟨w.heap.size+1,4,none⟩):Value))=y2;generalize (if t=true then undef else(.bool h.t:Value))=y3;generalize (if f=true then undef else(.pointer (some ⟨w.heap.size+1,5,none⟩):Value))=y4;generalize (if f=true then undef else(.bool h.f:Value))=y5;clear hHeld KS HJ;go_wp2;go_loopw [8] (λi wr=>∃(k:Nat) (vs:oA) (vc:Nat),k<=60/\i=.int .i64 k/\GuAt wr w.heap.size 0 ⟨n,sp,t,f,sl⟩ ss gc/\GuAt wr (w.heap.size+1) 0 h st hc/\GuAt wr (w.heap.size+1+1) 0 bF none 0/\Fr7 wr (w.heap.size+1+1)/\GuAt wr ob 0 ⟨n||h.n,J,t||h.t,f||h.f,bH sl h.s k⟩ vs vc/\Fr7 wr ob/\wr.ownsRow W.heap.size 3 1 (.slice vs (bH sl h.s k).length vc) (bH sl h.s k).length ((bH sl h.s k).map (.int .i64))/\W.heap.size<=wr.heap.size/\bl w wr) (λi _=>60 - (intOf i).toNat)
  case atStart=>exact⟨0,none,0,aa,rfl,GW,HW,RW,FW,UW,XW,⟨by simp[bH],.inl ⟨rfl,by simp[bH]⟩⟩,Nat.le_refl _,BW⟩
  case round=>
   obtain⟨k,vs,vc,hk,rfl,GR,HR,RR,FR,UR,XR,OR,zR,BR⟩:=hrel;clear GW HW RW FW UW XW BW;have IR:=hs.below BR (Nat.le_refl _);have JR:=ht.below BR (Nat.le_refl _);obtain⟨⟨g0,g1,g2,g3,g4,g5,g6⟩,gz⟩:=id GR;obtain⟨⟨k0,k1,k2,k3,k4,k5,k6⟩,kz⟩:=id HR;obtain⟨⟨u0,u1,u2,u3,u4,u5,u6⟩,uz⟩:=id UR;simp only[Nat.zero_add] at g0 g1 g2 g3 g4 g5 g6 k0 k1 k2 k3 k4 k5 k6 u0 u1 u2 u3 u4 u5 u6;by_cases hlt:k < 60
   ·have n1:(k:Int) < 60:=by omega
    exact AY
   ·have hk':k=60:=by omega
    subst hk';obtain⟨⟨r0,r1,r2,r3,r4,r5,r6⟩,rz⟩:=id RR;simp only[Nat.zero_add,bF] at r0 r1 r2 r3 r4 r5 r6;have fz:=FR.1;go_wp2;refine bodyPost_ret (v:=.agg #[.bool (n||h.n),.bool J.n,.int .i64 J.lo,.int .i64 J.hi,.bool (t||h.t),.bool (f||h.f),.slice vs (bH sl h.s 60).length vc]) Nf rfl ⟨_,rfl,?_,?_⟩
    ·exact gw (gr OR aa) aa
    ·exact bB BR aa
 ·go_simp
  have GA:=(G1.alloc (.cells #[.bool false,.bool false,.int .i64 0,.int .i64 0,.bool false,.bool false,.slice none 0 0] 91)).drew;have HA:=(H1.alloc (.cells #[.bool false,.bool false,.int .i64 0,.int .i64 0,.bool false,.bool false,.slice none 0 0] 91)).drew;have RA:=(R1.alloc (.cells #[.bool false,.bool false,.int .i64 0,.int .i64 0,.bool false,.bool false,.slice none 0 0] 91)).drew;have FA:=(F1.alloc (.cells #[.bool false,.bool false,.int .i64 0,.int .i64 0,.bool false,.bool false,.slice none 0 0] 91)).drew;have BA:=(B1.alloc B1.size (.cells #[.bool false,.bool false,.int .i64 0,.int .i64 0,.bool false,.bool false,.slice none 0 0] 91)).drew;have UA:GuAt (w1.alloc (.cells #[.bool false,.bool false,.int .i64 0,.int .i64 0,.bool false,.bool false,.slice none 0 0] 91)).drew w1.heap.size 0 bF none 0:=(GuAt.new w1 bF none 0).drew;have XA:Fr7 (w1.alloc (.cells #[.bool false,.bool false,.int .i64 0,.int .i64 0,.bool false,.bool false,.slice none 0 0] 91)).drew w1.heap.size:=Fr7.drew ⟨λj=>aW,ag⟩;have zo:w.heap.size+1+1 < w1.heap.size:=F1.2;refine hK.out _ _ (KS _ GA HA) (λhHeld=> ?_);clear hK K G1 H1 R1 F1 B1;refine sm ?_;refine wpAnyH_ready (rs:=[11]) ae ag ?_;refine AllReadyH.cons rfl (λK hK=> ?_) AllReadyH.nil;go_simp;refine(HJ.out _).mono ?_;rintro e w2 ⟨rfl,hb2⟩;have G2:=GA.call hb2;have H2:=HA.call hb2;have R2:=RA.call hb2;have F2:=FA.call hb2;have U2:=UA.call hb2;have X2:=XA.call hb2;have B2:bl w w2:=BA.trans (hb2.mono BA.size);clear hb2 GA HA RA FA BA UA XA;generalize w1.heap.size=ob at *;refine hK.out _ _ (KS _ G2 H2) (λhHeld=> ?_);clear hK K;refine sm ?_;refine vH 14 ?_ ?_;refine wpAnyH_take (i:=15) (v:=if t=true then undef else .pointer (some ⟨w.heap.size+1,4,none⟩)) rfl ae ae ae (λ_ _ _ h=>h) ?_ cn ?_
  ·cases t
   ·refine Or.inl ⟨?_,?_⟩
    ·rfl
    ·(intro w hSw;(try dsimp only at hSw);first|(go_simp;done)|(go_simp;with_reducible rfl))
   ·exact dj
  refine sm ?_;refine wpAnyH_take (i:=16) (v:=if t=true then undef else .bool h.t) rfl ae ae ae (λ_ _ _ h=>h) ?_ cn ?_
  ·cases t
   ·refine Or.inl ⟨?_,?_⟩
    ·rfl
    ·(intro w hSw;(try dsimp only at hSw);first|(go_simp;done)|(go_simp;with_reducible rfl))
   ·exact dj
  refine sm ?_;refine wpAnyH_take (i:=17) (v:=.bool (t||h.t)) rfl ae ae ae (λ_ _ _ h=>h) ?_ cn ?_
  ·cases t
   ·refine Or.inl ⟨?_,?_⟩
    ·rfl
    ·(intro w hSw;(try dsimp only at hSw);first|(go_simp;done)|(go_simp;with_reducible rfl))
   ·refine Or.inl ⟨?_,?_⟩
    ·rfl
    ·(intro w hSw;(try dsimp only at hSw);first|(go_simp;done)|(go_simp;with_reducible rfl))
  refine sm ?_;refine vH 20 ?_ ?_;refine wpAnyH_take (i:=21) (v:=if f=true then undef else .pointer (some ⟨w.heap.size+1,5,none⟩)) rfl ae ae ae (λ_ _ _ h=>h) ?_ cn ?_
  ·cases f
   ·refine Or.inl ⟨?_,?_⟩
    ·rfl
    ·(intro w hSw;(try dsimp only at hSw);first|(go_simp;done)|(go_simp;with_reducible rfl))
   ·exact dj
  refine sm ?_;refine wpAnyH_take (i:=22) (v:=if f=true then undef else .bool h.f) rfl ae ae ae (λ_ _ _ h=>h) ?_ cn ?_
  ·cases f
   ·refine Or.inl ⟨?_,?_⟩
    ·rfl
    ·(intro w hSw;(try dsimp only at hSw);first|(go_simp;done)|(go_simp;with_reducible rfl))
   ·exact dj
  refine sm ?_;refine wpAnyH_take (i:=23) (v:=.bool (f||h.f)) rfl ae ae ae (λ_ _ _ h=>h) ?_ cn ?_
  ·cases f
   ·refine Or.inl ⟨?_,?_⟩
    ·rfl
    ·(intro w hSw;(try dsimp only at hSw);first|(go_simp;done)|(go_simp;with_reducible rfl))
   ·refine Or.inl ⟨?_,?_⟩
    ·rfl
    ·(intro w hSw;(try dsimp only at hSw);first|(go_simp;done)|(go_simp;with_reducible rfl))
  refine sm ?_;refine vH 24 ?_ ?_;obtain⟨⟨o0,o1,o2,o3,o4,o5,o6⟩,oz⟩:=id U2;simp only[Nat.zero_add,bF] at o0 o1 o2 o3 o4 o5 o6;have fzo:=X2.1;refine wpAnyH_ready (rs:=[26]) ae ag ?_;refine AllReadyH.cons rfl (λK hK=> ?_) AllReadyH.nil;go_simp;have GW:=GuAt.put7 (b:=ob) (v0:=.bool (n||h.n)) (v1:=.bool J.n) (v2:=.int .i64 J.lo) (v3:=.int .i64 J.hi) (v4:=.bool (t||h.t)) (v5:=.bool (f||h.f)) (v6:=.slice none 0 0) G2 aa;have HW:=GuAt.put7 (b:=ob) (v0:=.bool (n||h.n)) (v1:=.bool J.n) (v2:=.int .i64 J.lo) (v3:=.int .i64 J.hi) (v4:=.bool (t||h.t)) (v5:=.bool (f||h.f)) (v6:=.slice none 0 0) H2 aa;have RW:=GuAt.put7 (b:=ob) (v0:=.bool (n||h.n)) (v1:=.bool J.n) (v2:=.int .i64 J.lo) (v3:=.int .i64 J.hi) (v4:=.bool (t||h.t)) (v5:=.bool (f||h.f)) (v6:=.slice none 0 0) R2 aa;have FW:Fr7 (i7 w2 ob (.bool (n||h.n)) (.bool J.n) (.int .i64 J.lo) (.int .i64 J.hi) (.bool (t||h.t)) (.bool (f||h.f)) (.slice none 0 0)) (w.heap.size+1+1):=((((((F2.set).set).set).set).set).set).set;have XW:Fr7 (i7 w2 ob (.bool (n||h.n)) (.bool J.n) (.int .i64 J.lo) (.int .i64 J.hi) (.bool (t||h.t)) (.bool (f||h.f)) (.slice none 0 0)) ob:=((((((X2.set).set).set).set).set).set).set;have UW:GuAt (i7 w2 ob (.bool (n||h.n)) (.bool J.n) (.int .i64 J.lo) (.int .i64 J.hi) (.bool (t||h.t)) (.bool (f||h.f)) (.slice none 0 0)) ob 0 ⟨n||h.n,J,t||h.t,f||h.f,bH sl h.s 0⟩ none 0:=⟨by simp[go_sem,i7,o0,o1,o2,o3,o4,o5,o6,bH],by rw[tM];exact oz⟩;have BW:bl w (i7 w2 ob (.bool (n||h.n)) (.bool J.n) (.int .i64 J.lo) (.int .i64 J.hi) (.bool (t||h.t)) (.bool (f||h.f)) (.slice none 0 0)):=bB B2 aa;refine hK.out _ _ (KS _ GW HW) (λhHeld=> ?_);have zw:=XW.2;clear hK K G2 H2 R2 F2 U2 X2 B2 o0 o1 o2 o3 o4 o5 o6 fzo oz;refine sm ?_;unfold i7 at GW HW RW FW XW UW BW zw;generalize ((((((w2.setCell ⟨ob,0,none⟩ (.bool (n||h.n))).setCell ⟨ob,1,none⟩ (.bool J.n)).setCell ⟨ob,2,none⟩ (.int .i64 J.lo)).setCell ⟨ob,3,none⟩ (.int .i64 J.hi)).setCell ⟨ob,4,none⟩ (.bool (t||h.t))).setCell ⟨ob,5,none⟩ (.bool (f||h.f))).setCell ⟨ob,6,none⟩ (.slice none 0 0)=W at *;refine wpAnyH_done ae ?_ _;generalize (if n=true then undef else(.pointer (some ⟨w.heap.size+1,0,none⟩):Value))=y0;generalize (if n=true then undef else(.bool h.n:Value))=y1;generalize (if t=true then undef else(.pointer (some ⟨w.heap.size+1,4,none⟩):Value))=y2;generalize (if t=true then undef else(.bool h.t:Value))=y3;generalize (if f=true then undef else(.pointer (some ⟨w.heap.size+1,5,none⟩):Value))=y4;generalize (if f=true then undef else(.bool h.f:Value))=y5;clear hHeld KS HJ;go_wp2;go_loopw [8] (λi wr=>∃(k:Nat) (vs:oA) (vc:Nat),k<=60/\i=.int .i64 k/\GuAt wr w.heap.size 0 ⟨n,sp,t,f,sl⟩ ss gc/\GuAt wr (w.heap.size+1) 0 h st hc/\GuAt wr (w.heap.size+1+1) 0 bF none 0/\Fr7 wr (w.heap.size+1+1)/\GuAt wr ob 0 ⟨n||h.n,J,t||h.t,f||h.f,bH sl h.s k⟩ vs vc/\Fr7 wr ob/\wr.ownsRow W.heap.size 3 1 (.slice vs (bH sl h.s k).length vc) (bH sl h.s k).length ((bH sl h.s k).map (.int .i64))/\W.heap.size<=wr.heap.size/\bl w wr) (λi _=>60 - (intOf i).toNat)
  case atStart=>exact⟨0,none,0,aa,rfl,GW,HW,RW,FW,UW,XW,⟨by simp[bH],.inl ⟨rfl,by simp[bH]⟩⟩,Nat.le_refl _,BW⟩
  case round=>
   obtain⟨k,vs,vc,hk,rfl,GR,HR,RR,FR,UR,XR,OR,zR,BR⟩:=hrel;clear GW HW RW FW UW XW BW;have IR:=hs.below BR (Nat.le_refl _);have JR:=ht.below BR (Nat.le_refl _);obtain⟨⟨g0,g1,g2,g3,g4,g5,g6⟩,gz⟩:=id GR;obtain⟨⟨k0,k1,k2,k3,k4,k5,k6⟩,kz⟩:=id HR;obtain⟨⟨u0,u1,u2,u3,u4,u5,u6⟩,uz⟩:=id UR;simp only[Nat.zero_add] at g0 g1 g2 g3 g4 g5 g6 k0 k1 k2 k3 k4 k5 k6 u0 u1 u2 u3 u4 u5 u6;by_cases hlt:k < 60
   ·have n1:(k:Int) < 60:=by omega
    exact AY
   ·have hk':k=60:=by omega
    subst hk';obtain⟨⟨r0,r1,r2,r3,r4,r5,r6⟩,rz⟩:=id RR;simp only[Nat.zero_add,bF] at r0 r1 r2 r3 r4 r5 r6;have fz:=FR.1;go_wp2;refine bodyPost_ret (v:=.agg #[.bool (n||h.n),.bool J.n,.int .i64 J.lo,.int .i64 J.hi,.bool (t||h.t),.bool (f||h.f),.slice vs (bH sl h.s 60).length vc]) Nf rfl ⟨_,rfl,?_,?_⟩
    ·exact gw (gr OR aa) aa
    ·exact bB BR aa):p:=h
end
section
theorem pE:∀(a b:List Int),a.Pairwise (· < ·)->b.Pairwise (· < ·)->(∀x,x∈a↔x∈b)->a=b
 |[],[],_,_,_=>rfl
 |[],y::b,_,_,h=>absurd ((h y).2 ag) ag
 |x::a,[],_,_,h=>absurd ((h x).1 ag) ag
 |x::a,y::b,ha,hb,h=>by
  rw[List.pairwise_cons] at ha hb;have exy:x=y:=by
   have h1:=(h x).1 ag;have h2:=(h y).2 ag;rw[j4] at h1 h2;rcases h1 with e|h1
   ·exact e
   ·rcases h2 with e|h2
    ·exact e.symm
    ·have:=ha.1 y h2
     have:=hb.1 x h1;omega
  subst exy;rw[pE a b ha.2 hb.2 λz=> ?_];constructor
  ·intro hz
   have:=(h z).1 (by simp[hz]);rw[j4] at this;rcases this with e|h1
   ·have:=ha.1 z hz;omega
   ·exact h1
  ·intro hz
   have:=(h z).2 (by simp[hz]);rw[j4] at this;rcases this with e|h1
   ·have:=hb.1 z hz;omega
   ·exact h1

theorem CG (a b:List Int)(k:Nat)(x:Int):x∈bH a b k↔(0<=x/\x < k)/\(x∈a\/x∈b):=by
 unfold bH;rw[j1,q6];simp only[j2,Bool.or_eq_true,List.contains_iff_mem];constructor
 ·rintro ⟨⟨n,hn,rfl⟩,h⟩
  exact⟨⟨aa,aa⟩,h⟩
 ·rintro ⟨⟨h0,h1⟩,h⟩
  exact⟨⟨x.toNat,aa,aa⟩,h⟩

theorem tJ (a b:List Int)(k:Nat):(bH a b k).Pairwise (· < ·):=by
 unfold bH;refine j3.filter _ ?_;rw[q7];exact j3.imp (λh=>aa) q8

open Go.Lib in
theorem Df (l:List Int)(h:l.Pairwise (· <=·)):(compact l).Pairwise (· < ·)/\∀x,x∈compact l↔x∈l:=by
 have get:∀j (hj:j < l.length),l.toArray[j]! =l[j]:=λj hj=>by simp[hj]
 have mono:∀i j (hi:i < l.length) (hj:j < l.length),i<=j->l[i]<=l[j]:=by
  intro i j hi hj hij;by_cases e:i=j
  ·subst e;exact Int.le_refl _
  ·exact List.pairwise_iff_getElem.1 h i j hi hj aa
 constructor
 ·unfold compact compactUpTo
  rw[q7];refine j3.imp_of_mem ?_ (j3.filter _ q8);intro i j hi hj hij;rw[j1,j2] at hi hj;rw[get i hi.1,get j hj.1];have hk:=hj.2;unfold keeps at hk;rw[decide_eq_true_eq] at hk;rcases hk with e|hne
  ·omega
  ·rw[get j hj.1,get (j - 1) aa] at hne
   have h1:=mono i (j - 1) hi.1 aa aa;have h2:=mono (j - 1) j aa hj.1 aa;omega
 ·intro x
  unfold compact compactUpTo;rw[q6];constructor
  ·rintro ⟨j,hj,rfl⟩
   rw[j1,j2] at hj;rw[get j hj.1];exact gM _
  ·intro hx
   obtain⟨j,hj,rfl⟩:=List.getElem_of_mem hx;have ex:∃i,i<=j/\∃(hi:i < l.length),l[i]=l[j]/\keeps l.toArray i=true:=by
    clear hx;induction j with
    |zero=>exact⟨0,lR _,hj,rfl,by simp[keeps]⟩
    |succ j ih=>
     by_cases e:l[j+1]=l[j]
     ·obtain⟨i,hi,hil,h1,h2⟩:=ih aa
      exact⟨i,aa,hil,by rw[h1,e],h2⟩
     ·refine⟨j+1,lR _,hj,rfl,?_⟩
      unfold keeps;rw[decide_eq_true_eq];right;rw[get (j+1) hj,get (j+1 - 1) aa];exact e
   obtain⟨i,-,hil,h1,h2⟩:=ex;refine⟨i,?_,by rw[get i hil,h1]⟩;rw[j1,j2];exact⟨hil,h2⟩

theorem mv (g h:Gs)(hg:∀x∈g.s,0<=x/\x < 60)(hh:∀x∈h.s,0<=x/\x < 60):cH [g,h]=bH g.s h.s 60:=by
 have hs:(([g,h].flatMap Gs.s).mergeSort λx y=>decide (x<=y)).Pairwise (· <=·):=by
  have:=List.pairwise_mergeSort (le:=λx y:Int=>decide (x<=y)) (by intro a b c;simp;omega) (by intro a b;simp;omega) ([g,h].flatMap Gs.s);exact this.imp λh=>cq
 obtain⟨h1,h2⟩:=Df _ hs;refine pE _ _ h1 (tJ _ _ _) λx=> ?_;rw[show cH [g,h]=Go.Lib.compact (([g,h].flatMap Gs.s).mergeSort λx y=>decide (x<=y)) from rfl,h2,List.mem_mergeSort,CG];simp only[List.flatMap_cons,List.flatMap_nil,q5,List.mem_append];constructor
 ·rintro (h|h)
  ·exact⟨hg x h,.inl h⟩
  ·exact⟨hh x h,.inr h⟩
 ·exact λh=>h.2

theorem PL {c:lI}(hl:c.length<=60){x:Int}(h:b9 c x=true):0<=x/\x < 60:=by
 unfold b9 at h;simp only[Bool.and_eq_true,decide_eq_true_eq] at h;omega

theorem dx {c:lI}{g:Gs}(hl:c.length<=60)(h:aE c g=0):(∀x∈g.s,0<=x/\x < 60)/\dg g.s=true:=by
 unfold aE at h;split at h
 ·contradiction
 ·split at h
  ·cases h
  ·split at h
   ·cases h
   ·rename_i h1 h2
    refine⟨λx hx=> ?_,lE⟩;have:g.s.all (b9 c)=true:=gS;exact PL hl (List.all_eq_true.1 this x hx)
theorem dd {l:List Int}(hr:dg l=true)(hb:∀x∈l,0<=x/\x < 60):l.length<=60:=by
 have key:∀k (h:k < l.length),(k:Int)<=l[k]:=by
  intro k;induction k with
  |zero=>intro h;exact(hb _ (gM h)).1
  |succ k ih=>
   intro h;have h1:=ih aa;have h2:=(AU l).1 hr k h;omega
 by_cases h0:l.length=0
 ·omega
 ·have h1:=key (l.length - 1) aa
  have h2:=(hb _ (gM (show l.length - 1 < l.length by omega))).2;omega
end
section
open Go.RowKit
theorem Dz (g:Gs)(ss:oA)(gc:Nat)(h:Gs)(st:oA)(hc:Nat)(w:World)(hs:IntsAt w ss g.s)(hgl:g.s.length<=9223372036854775807)(ht:IntsAt w st h.s)(hlt':h.s.length<=9223372036854775807):
  Calls pG 114 #[gv g ss gc,gv h st hc,Bb false] w λe w'=>∃v,e=Rt (Ag #[Bb (g.n||h.n),Bb (bi g.sp h.sp).n,I Y (bi g.sp h.sp).lo,I Y (bi g.sp h.sp).hi,Bb (g.t||h.t),Bb (g.f||h.f),v])/\w'.ownsRow w.heap.size 3 1 v (bH g.s h.s 60).length ((bH g.s h.s 60).map (.int .i64))/\bl w w':=by
 obtain⟨ti,hi,hz0,hz1,hz2⟩:=info_parts Tryz.info_intG;obtain⟨G0,H0,B0⟩:=Iw w g ss gc h st hc;have G1:=Is;have H1:=Kr;have B1:=GM;have R1:GuAt (((w.alloc (Cc #[Bb g.n,Bb g.sp.n,I Y g.sp.lo,I Y g.sp.hi,Bb g.t,Bb g.f,U ss g.s.length gc] 91)).alloc (Cc #[Bb h.n,Bb h.sp.n,I Y h.sp.lo,I Y h.sp.hi,Bb h.t,Bb h.f,U st h.s.length hc] 91)).alloc (Cc #[Bb false,Bb false,I Y 0,I Y 0,Bb false,Bb false,U nO 0 0] 91)) (w.heap.size+1+1) 0 bF nO 0:=by
  have:=GuAt.new ((w.alloc (Cc #[Bb g.n,Bb g.sp.n,I Y g.sp.lo,I Y g.sp.hi,Bb g.t,Bb g.f,U ss g.s.length gc] 91)).alloc (Cc #[Bb h.n,Bb h.sp.n,I Y h.sp.lo,I Y h.sp.hi,Bb h.t,Bb h.f,U st h.s.length hc] 91)) bF nO 0;simp only[zA] at this;exact this
 have F1:=Ka;have HJ:=ah (λw=>KG g.sp h.sp w);generalize bi g.sp h.sp=J at HJ |-;exact BL
theorem DQ (g:Gs)(ss:oA)(gc:Nat)(h:Gs)(st:oA)(hc:Nat)(w:World)(hs:IntsAt w ss g.s)(hgl:g.s.length<=9223372036854775807)(ht:IntsAt w st h.s)(hlt':h.s.length<=9223372036854775807):
  Calls pG 114 #[gv g ss gc,gv h st hc,Bb true] w λe w'=>∃v,e=Rt (Ag #[Bb (g.n||h.n),Bb (bo g.sp h.sp).n,I Y (bo g.sp h.sp).lo,I Y (bo g.sp h.sp).hi,Bb (g.t||h.t),Bb (g.f||h.f),v])/\w'.ownsRow w.heap.size 3 1 v (bH g.s h.s 60).length ((bH g.s h.s 60).map (.int .i64))/\bl w w':=by
 obtain⟨ti,hi,hz0,hz1,hz2⟩:=info_parts Tryz.info_intG;obtain⟨G0,H0,B0⟩:=Iw w g ss gc h st hc;have G1:=Is;have H1:=Kr;have B1:=GM;have R1:GuAt (((w.alloc (Cc #[Bb g.n,Bb g.sp.n,I Y g.sp.lo,I Y g.sp.hi,Bb g.t,Bb g.f,U ss g.s.length gc] 91)).alloc (Cc #[Bb h.n,Bb h.sp.n,I Y h.sp.lo,I Y h.sp.hi,Bb h.t,Bb h.f,U st h.s.length hc] 91)).alloc (Cc #[Bb false,Bb false,I Y 0,I Y 0,Bb false,Bb false,U nO 0 0] 91)) (w.heap.size+1+1) 0 bF nO 0:=by
  have:=GuAt.new ((w.alloc (Cc #[Bb g.n,Bb g.sp.n,I Y g.sp.lo,I Y g.sp.hi,Bb g.t,Bb g.f,U ss g.s.length gc] 91)).alloc (Cc #[Bb h.n,Bb h.sp.n,I Y h.sp.lo,I Y h.sp.hi,Bb h.t,Bb h.f,U st h.s.length hc] 91)) bF nO 0;simp only[zA] at this;exact this
 have F1:=Ka;have HJ:=ah (λw=>Kl g.sp h.sp w);generalize bo g.sp h.sp=J at HJ |-;exact BL
theorem VO (V F:Int)(s:oA)(c:lI)(cap:Nat)(g:Gs)(ss:oA)(gc:Nat)(h:Gs)(st:oA)(hc:Nat)(kind:Int)(w:World)
  (hcd:CodeAt w s c)(hs:IntsAt w ss g.s)(h1:g.s.length<=gc)(h2:gc<=maxLen)(ht:IntsAt w st h.s)(h3:h.s.length<=hc)(h4:hc<=maxLen)(hck:aZ V F c [g,h]≠0):
  Calls pG 164 #[pv V F s c cap,I Y kind,gv g ss gc,gv h st hc] w λe w'=>e=Rt (Tu #[gv bF nO 0,Bb false,I Y (aZ V F c [g,h])])/\bl w w':=by
 obtain⟨P0,G0,H0,R0,F0⟩:=d7;have B0:=dW;have C0:=dY;have I0:=dS;have J0:=dP;have L0:=fr;simp only[zA] at L0;have HC:=ll;have hne:(aZ V F c [g,h]!=0)=true:=by simpa using hck
 generalize aZ V F c [g,h]=ce at HC hne |-;clear hck;go_enter Tryz.func164,Tryz.ntmps164;go_wp2_with fail;refine HC.out.mono ?_;rintro e w1 ⟨rfl,hb1⟩;have G1:=eT;have H1:=fC;have R1:=gL;have I1:=gj;have J1:=gh;have F1:=gC;have B1:=eS;clear hb1 G0 H0 R0 I0 J0 F0 B0 C0 P0 L0 hcd hs ht HC;obtain⟨⟨g0,g1,g2,g3,g4,g5,g6⟩,gz⟩:=id G1;obtain⟨⟨k0,k1,k2,k3,k4,k5,k6⟩,kz⟩:=id H1;simp only[j0] at g0 g1 g2 g3 g4 g5 g6 k0 k1 k2 k3 k4 k5 k6;obtain⟨⟨r0,r1,r2,r3,r4,r5,r6⟩,rz⟩:=id R1;simp only[j0,bF] at r0 r1 r2 r3 r4 r5 r6;have fz:=F1.1;go_wp2;refine bodyPost_ret (v:=Tu #[gv bF nO 0,Bb false,I Y ce]) Ms rfl ⟨rfl,?_⟩;exact bB B1 aa

theorem Tp (V F:Int)(s:oA)(c:lI)(cap:Nat)(g:Gs)(ss:oA)(gc:Nat)(h:Gs)(st:oA)(hc:Nat)(kind:Int)(w:World)
  (hcd:CodeAt w s c)(hs:IntsAt w ss g.s)(h1:g.s.length<=gc)(h2:gc<=maxLen)(ht:IntsAt w st h.s)(h3:h.s.length<=hc)(h4:hc<=maxLen)(hck:aZ V F c [g,h]=0)(hk4:(kind==4)=false)(hk5:(kind==5)=false)(hk6:(kind==6)=false)(hk7:(kind==7)=false)(hk8:(kind==8)=false)(hk9:(kind==9)=false)(hk10:(kind==10)=false):
  Calls pG 164 #[pv V F s c cap,I Y kind,gv g ss gc,gv h st hc] w λe w'=>e=Rt (Tu #[gv bF nO 0,Bb false,I Y 6])/\bl w w':=by
 obtain⟨P0,G0,H0,R0,F0⟩:=d7;have B0:=dW;have C0:=dY;have I0:=dS;have J0:=dP;have L0:=fr;simp only[zA] at L0;have HC:=ll;rw[hck] at HC;go_enter Tryz.func164,Tryz.ntmps164;go_wp2_with fail;refine HC.out.mono ?_;rintro e w1 ⟨rfl,hb1⟩;have G1:=eT;have H1:=fC;have R1:=gL;have I1:=gj;have J1:=gh;have F1:=gC;have B1:=eS;clear hb1 G0 H0 R0 I0 J0 F0 B0 C0 P0 L0 hcd hs ht HC;obtain⟨⟨g0,g1,g2,g3,g4,g5,g6⟩,gz⟩:=id G1;obtain⟨⟨k0,k1,k2,k3,k4,k5,k6⟩,kz⟩:=id H1;simp only[j0] at g0 g1 g2 g3 g4 g5 g6 k0 k1 k2 k3 k4 k5 k6;obtain⟨⟨r0,r1,r2,r3,r4,r5,r6⟩,rz⟩:=id R1;simp only[j0,bF] at r0 r1 r2 r3 r4 r5 r6;have fz:=F1.1;go_wp2;refine bodyPost_ret (v:=Tu #[gv bF nO 0,Bb false,I Y 6]) Ms rfl ⟨rfl,?_⟩;exact bB B1 aa

theorem UF (V F:Int)(s:oA)(c:lI)(cap:Nat)(g:Gs)(ss:oA)(gc:Nat)(h:Gs)(st:oA)(hc:Nat)(w:World)
  (hcd:CodeAt w s c)(hs:IntsAt w ss g.s)(h1:g.s.length<=gc)(h2:gc<=maxLen)(ht:IntsAt w st h.s)(h3:h.s.length<=hc)(h4:hc<=maxLen)(hck:aZ V F c [g,h]=0)(y n:Bool)(hS:∀wx,bl w wx->Calls pG 206 #[gv g ss gc,gv h st hc] wx λe w'=>e=Rt (Tu #[Bb y,Bb n])/\bl wx w'):
  Calls pG 164 #[pv V F s c cap,I Y 9,gv g ss gc,gv h st hc] w λe w'=>e=Rt (Tu #[gv ⟨false,⟨true,0,0⟩,y,n,[]⟩ nO 0,Bb false,I Y 0])/\bl w w':=by
 obtain⟨P0,G0,H0,R0,F0⟩:=d7;have B0:=dW;have C0:=dY;have I0:=dS;have J0:=dP;have L0:=fr;simp only[zA] at L0;have HC:=ll;rw[hck] at HC;have HS:=ah hS;clear hS;go_enter Tryz.func164,Tryz.ntmps164;go_wp2_with fail;refine HC.out.mono ?_;rintro e w1 ⟨rfl,hb1⟩;have G1:=eT;have H1:=fC;have R1:=gL;have I1:=gj;have J1:=gh;have F1:=gC;have B1:=eS;clear hb1 G0 H0 R0 I0 J0 F0 B0 C0 P0 L0 hcd hs ht HC;obtain⟨⟨g0,g1,g2,g3,g4,g5,g6⟩,gz⟩:=id G1;obtain⟨⟨k0,k1,k2,k3,k4,k5,k6⟩,kz⟩:=id H1;simp only[j0] at g0 g1 g2 g3 g4 g5 g6 k0 k1 k2 k3 k4 k5 k6;go_wp2_with fail;refine(HS.out _ B1).mono ?_;rintro e w2 ⟨rfl,hb2⟩;have R2:=R1.call hb2;have F2:=F1.call hb2;have B2:=gD;clear hb2;go_wp2_with fail;refine(mi _ _ _).mono ?_;rintro e w3 ⟨rfl,hb3⟩;have R3:=R2.call hb3;have F3:=F2.call hb3;have B3:=fG;clear hb3;obtain⟨⟨r0,r1,r2,r3,r4,r5,r6⟩,rz⟩:=id R3;simp only[j0,bF] at r0 r1 r2 r3 r4 r5 r6;have fz:=F3.1;go_wp2;refine bodyPost_ret (v:=Tu #[gv ⟨false,⟨true,0,0⟩,y,n,[]⟩ nO 0,Bb false,I Y 0]) uN rfl ⟨rfl,?_⟩;exact bB B3 aa

theorem Wo (V F:Int)(s:oA)(c:lI)(cap:Nat)(g:Gs)(ss:oA)(gc:Nat)(h:Gs)(st:oA)(hc:Nat)(w:World)
  (hcd:CodeAt w s c)(hs:IntsAt w ss g.s)(h1:g.s.length<=gc)(h2:gc<=maxLen)(ht:IntsAt w st h.s)(h3:h.s.length<=hc)(h4:hc<=maxLen)(hck:aZ V F c [g,h]=0)(hsp:cD g.sp=0):
  Calls pG 164 #[pv V F s c cap,I Y 10,gv g ss gc,gv h st hc] w λe w'=>e=Rt (Tu #[gv ⟨false,⟨true,0,0⟩,cR g,cd g,[]⟩ nO 0,Bb false,I Y 0])/\bl w w':=by
 obtain⟨P0,G0,H0,R0,F0⟩:=d7;have B0:=dW;have C0:=dY;have I0:=dS;have J0:=dP;have L0:=fr;simp only[zA] at L0;have HC:=ll;rw[hck] at HC;have HS:=ah (λw=>Bw g ss gc w hsp);generalize cd g=y at HS |-;generalize cR g=n at HS |-;clear hsp;go_enter Tryz.func164,Tryz.ntmps164;go_wp2_with fail;refine HC.out.mono ?_;rintro e w1 ⟨rfl,hb1⟩;have G1:=eT;have H1:=fC;have R1:=gL;have I1:=gj;have J1:=gh;have F1:=gC;have B1:=eS;clear hb1 G0 H0 R0 I0 J0 F0 B0 C0 P0 L0 hcd hs ht HC;obtain⟨⟨g0,g1,g2,g3,g4,g5,g6⟩,gz⟩:=id G1;obtain⟨⟨k0,k1,k2,k3,k4,k5,k6⟩,kz⟩:=id H1;simp only[j0] at g0 g1 g2 g3 g4 g5 g6 k0 k1 k2 k3 k4 k5 k6;go_wp2_with fail;refine(HS.out _).mono ?_;rintro e w2 ⟨rfl,hb2⟩;have R2:=R1.call hb2;have F2:=F1.call hb2;have B2:=gD;clear hb2;go_wp2_with fail;refine(mi _ _ _).mono ?_;rintro e w3 ⟨rfl,hb3⟩;have R3:=R2.call hb3;have F3:=F2.call hb3;have B3:=fG;clear hb3;obtain⟨⟨r0,r1,r2,r3,r4,r5,r6⟩,rz⟩:=id R3;simp only[j0,bF] at r0 r1 r2 r3 r4 r5 r6;have fz:=F3.1;go_wp2;refine bodyPost_ret (v:=Tu #[gv ⟨false,⟨true,0,0⟩,n,y,[]⟩ nO 0,Bb false,I Y 0]) uN rfl ⟨rfl,?_⟩;exact bB B3 aa
theorem NZ (ss:oA)(cap:Nat)(l:List Int)(w:World)(hl:l.length<=1000000)(hs:IntsAt w ss l):
  Calls pG 179 #[U ss l.length cap] w λe w'=>∃v,e=Rt v/\w'.ownsRow w.heap.size 3 1 v l.length (l.map (.int .i64))/\bl w w':=by
 cases ss with
 |none=>
  have h0:l=[]:=by
   rcases hs with h|⟨_,_,h,_⟩
   ·exact h
   ·cases h
  subst h0;refine(Tryz.slices_Clone_int_nil _ _ _).mono ?_;rintro e w' ⟨rfl,rfl⟩;exact⟨_,rfl,⟨rfl,.inl ⟨rfl,rfl⟩⟩,bR _ _⟩
 |some a=>
  by_cases h0:l=[]
  ·subst h0
   refine(Tryz.slices_Clone_int_zero a cap w).mono ?_;rintro e w' ⟨v,rfl,ho,-,hb⟩;exact⟨_,rfl,ho,hb⟩
  ·obtain⟨b,off,e,hb,hc⟩:=hs.get 0 (List.length_pos_iff.2 h0)
   cases e;refine(Tryz.slices_Clone_int b off l.length cap l w (lR _) aa (λj hj=> ?_)).mono ?_
   ·rw[hc j hj]
    simp[List.getD,q9 hj]
   ·rintro e w' ⟨v,rfl,ho,-,hb'⟩
    rw[List.take_length] at ho;exact⟨_,rfl,ho,hb'⟩

theorem WN (V F:Int)(s:oA)(c:lI)(cap:Nat)(g:Gs)(ss:oA)(gc:Nat)(h:Gs)(st:oA)(hc:Nat)(w:World)
  (hcd:CodeAt w s c)(hs:IntsAt w ss g.s)(h1:g.s.length<=gc)(h2:gc<=maxLen)(ht:IntsAt w st h.s)(h3:h.s.length<=hc)(h4:hc<=maxLen)(hck:aZ V F c [g,h]=0)(hlen:g.s.length<=1000000):
  Calls pG 164 #[pv V F s c cap,I Y 4,gv g ss gc,gv h st hc] w λe w'=>∃v,e=Rt (Tu #[Ag #[Bb g.n,Bb g.sp.n,I Y g.sp.lo,I Y g.sp.hi,Bb g.t,Bb g.f,v],Bb false,I Y 0])/\w'.ownsRow w.heap.size 3 1 v g.s.length (g.s.map (.int .i64))/\bl w w':=by
 obtain⟨P0,G0,H0,R0,F0⟩:=d7;have B0:=dW;have C0:=dY;have I0:=dS;have J0:=dP;have L0:=fr;simp only[zA] at L0;have HC:=ll;have FG:Fr7 (nv w V F s c cap g ss gc h st hc) (w.heap.size+1):=⟨λj=>aW,ag⟩;rw[hck] at HC;go_enter Tryz.func164,Tryz.ntmps164;go_wp2_with fail;refine HC.out.mono ?_;rintro e w1 ⟨rfl,hb1⟩;have G1:=eT;have H1:=fC;have R1:=gL;have I1:=gj;have J1:=gh;have F1:=gC;have B1:=eS;have X1:Fr7 w1 (w.heap.size+1):=(FG.alloc _).call hb1;clear hb1 FG G0 H0 R0 I0 J0 F0 B0 C0 P0 L0 hcd hs ht HC;obtain⟨⟨g0,g1,g2,g3,g4,g5,g6⟩,gz⟩:=id G1;obtain⟨⟨k0,k1,k2,k3,k4,k5,k6⟩,kz⟩:=id H1;simp only[j0] at g0 g1 g2 g3 g4 g5 g6 k0 k1 k2 k3 k4 k5 k6;go_wp2_with fail;refine(NZ ss gc g.s _ hlen I1).mono ?_;rintro e w2 ⟨v,rfl,hown,hb2⟩;have G2:=G1.call hb2;have R2:=R1.call hb2;have F2:=F1.call hb2;have X2:=X1.call hb2;have B2:=gD;have z2:=F1.2;clear hb2 g0 g1 g2 g3 g4 g5 g6 gz k0 k1 k2 k3 k4 k5 k6 kz;have O2:=hown;obtain⟨vs,vc,hv,-,-,-,-⟩:=ik;subst hv;obtain⟨⟨g0,g1,g2,g3,g4,g5,g6⟩,gz⟩:=id G2;simp only[j0] at g0 g1 g2 g3 g4 g5 g6;have fx:=X2.1;obtain⟨⟨r0,r1,r2,r3,r4,r5,r6⟩,rz⟩:=id R2;simp only[j0,bF] at r0 r1 r2 r3 r4 r5 r6;have fz:=F2.1;clear hown;go_wp2;refine bodyPost_ret (v:=Tu #[Ag #[Bb g.n,Bb g.sp.n,I Y g.sp.lo,I Y g.sp.hi,Bb g.t,Bb g.f,U vs g.s.length vc],Bb false,I Y 0]) (by simp[results,Tryz.results164,go_sem,r0,r1,r2,r3,r4,r5,r6,g0,g1,g2,g3,g4,g5,g6]) rfl ⟨_,rfl,?_,?_⟩
 ·exact gw (gr (ou O2 aa) aa) aa
 ·exact bB (B2.setCell (by show w.heap.size<=w.heap.size+1;omega) _) aa
def Ui (w:World)(g:Gs)(ss:oA)(gc:Nat)(h:Gs)(st:oA)(hc:Nat)(w':World):Prop:=
 (w'.cell? ⟨w.heap.size+1,0,nO⟩=sO (Bb g.n)/\w'.cell? ⟨w.heap.size+1,1,nO⟩=sO (Bb g.sp.n)/\w'.cell? ⟨w.heap.size+1,2,nO⟩=sO (I Y g.sp.lo)/\w'.cell? ⟨w.heap.size+1,3,nO⟩=sO (I Y g.sp.hi)/\w'.cell? ⟨w.heap.size+1,4,nO⟩=sO (Bb g.t)/\w'.cell? ⟨w.heap.size+1,5,nO⟩=sO (Bb g.f)/\w'.cell? ⟨w.heap.size+1,6,nO⟩=sO (U ss g.s.length gc))/\
 (w'.cell? ⟨w.heap.size+1+1,0,nO⟩=sO (Bb h.n)/\w'.cell? ⟨w.heap.size+1+1,1,nO⟩=sO (Bb h.sp.n)/\w'.cell? ⟨w.heap.size+1+1,2,nO⟩=sO (I Y h.sp.lo)/\w'.cell? ⟨w.heap.size+1+1,3,nO⟩=sO (I Y h.sp.hi)/\w'.cell? ⟨w.heap.size+1+1,4,nO⟩=sO (Bb h.t)/\w'.cell? ⟨w.heap.size+1+1,5,nO⟩=sO (Bb h.f)/\w'.cell? ⟨w.heap.size+1+1,6,nO⟩=sO (U st h.s.length hc))

theorem Cg {p:Prop}(h:p:=by
 refine wpAnyH_ready (rs:=[11]) ae ag ?_;refine AllReadyH.cons rfl (λK hK=> ?_) AllReadyH.nil;go_simp;refine(HW.out _ 2 _ L5).mono ?_;rintro e w6 ⟨rfl,hb6⟩;have G6:=G5.call hb6;have H6:=H5.call hb6;have R6:=R5.call hb6;have F6:=F5.call hb6;have L6:=L5.call hb6;have B6:=rU;refine hK.out _ _ (KS _ G6 H6) (λhHeld6=> ?_);clear hK K hb6;refine sm ?_;obtain⟨⟨r0,r1,r2,r3,r4,r5,r6⟩,rz⟩:=id R6;simp only[Nat.zero_add,bF] at r0 r1 r2 r3 r4 r5 r6;have fz:=F6.1;refine wpAnyH_ready (rs:=[12]) ae ag ?_;refine AllReadyH.cons rfl (λK hK=> ?_) AllReadyH.nil;go_simp;refine hK.out _ _ (KS _ (G6.put7 aa) (H6.put7 aa)) (λhHeldz=> ?_);clear hK K;refine sm ?_;refine vH 13 ?_ ?_;refine vH 14 ?_ ?_;refine wpAnyH_done ae ?_ _;go_wp2;refine bodyPost_ret (v:=.tuple #[gv ⟨false,⟨true,0,0⟩,y,n,[]⟩ none 0,.bool wr,.int .i64 0]) uN rfl ⟨rfl,?_⟩;exact bB B6 aa):p:=h
theorem Cp {p:Prop}(h:p:=by
 refine wpAnyH_ready (rs:=[7]) ae ag ?_;refine AllReadyH.cons rfl (λK hK=> ?_) AllReadyH.nil;go_simp;refine(mi _ _ _).mono ?_;rintro e w5 ⟨rfl,hb5⟩;have G5:=G4.call hb5;have H5:=H4.call hb5;have R5:=R4.call hb5;have F5:=F4.call hb5;have L5:=L4.call hb5;have B5:=lq;refine hK.out _ _ (KS _ G5 H5) (λhHeld5=> ?_);clear hK K hb5;refine sm ?_;exact Cg):p:=h
theorem WJ (V F:Int)(s:oA)(c:lI)(cap:Nat)(g:Gs)(ss:oA)(gc:Nat)(h:Gs)(st:oA)(hc:Nat)(w:World)
  (hcd:CodeAt w s c)(hs:IntsAt w ss g.s)(h1:g.s.length<=gc)(h2:gc<=maxLen)(ht:IntsAt w st h.s)(h3:h.s.length<=hc)(h4:hc<=maxLen)(hck:aZ V F c [g,h]=0):
  Calls pG 164 #[pv V F s c cap,I Y 8,gv g ss gc,gv h st hc] w λe w'=>e=Rt (Tu #[gv ⟨false,⟨true,0,0⟩,!(g.sp.n||h.sp.n)&&decide (g.sp.lo < h.sp.hi),!(g.sp.n||h.sp.n)&&decide (h.sp.lo<=g.sp.hi),[]⟩ nO 0,Bb ([g,h].any aO&& ![g,h].any an),I Y 0])/\bl w w':=by
 obtain⟨P0,G0,H0,R0,F0⟩:=d7;have B0:=dW;have C0:=dY;have I0:=dS;have J0:=dP;have L0:=fr;simp only[zA] at L0;have HC:=ll;rw[hck] at HC;have HL:=ah (λw=>Uj g.sp h.sp w);generalize (!(g.sp.n||h.sp.n)&&decide (g.sp.lo < h.sp.hi))=y at HL |-;generalize (!(g.sp.n||h.sp.n)&&decide (h.sp.lo<=g.sp.hi))=n at HL |-;have HW:=ah (λls lc w hL=>vQ ls [g,h] lc w ag hL);generalize ([g,h].any aO&& ![g,h].any an)=wr at HW |-;go_enter Tryz.func164,Tryz.ntmps164;go_wp2_with fail;refine HC.out.mono ?_;rintro e w1 ⟨rfl,hb1⟩;have G1:=eT;have H1:=fC;have R1:=gL;have I1:=gj;have J1:=gh;have F1:=gC;have B1:=eS;clear hb1 G0 H0 R0 I0 J0 F0 B0 C0 P0 L0 hcd hs ht HC;clear I1 J1;obtain⟨⟨g0,g1,g2,g3,g4,g5,g6⟩,gz⟩:=id G1;obtain⟨⟨k0,k1,k2,k3,k4,k5,k6⟩,kz⟩:=id H1;simp only[j0] at g0 g1 g2 g3 g4 g5 g6 k0 k1 k2 k3 k4 k5 k6;go_wp2;have KS:∀wx,GuAt wx (w.heap.size+1) 0 g ss gc->GuAt wx (w.heap.size+1+1) 0 h st hc->Ui w g ss gc h st hc wx:=λwx a b=>⟨by simpa using a.1,by simpa using b.1⟩;have G2:=G1.drew;have H2:=H1.drew;have R2:=R1.drew;have F2:=F1.drew;have B2:=B1.drew;refine wp_region_held_drew (S:=Ui w g ss gc h st hc) ae (KS _ G2 H2) (λhHeld=> ?_);unfold Ui at hHeld KS |-;clear G1 H1 R1 F1 B1 g0 g1 g2 g3 g4 g5 g6 gz k0 k1 k2 k3 k4 k5 k6 kz;generalize w1.drew=w2 at *;refine vH 0 ?_ ?_;refine vH 1 ?_ ?_;refine vH 2 ?_ ?_;refine vH 3 ?_ ?_;refine vH 8 ?_ ?_;refine vH 9 ?_ ?_;refine wpAnyH_ready (rs:=[4,10]) ae ag ?_;refine AllReadyH.cons rfl (λK hK=> ?_) (AllReadyH.cons rfl (λK hK=> ?_) AllReadyH.nil)
 ·go_simp
  refine(HL.out _).mono ?_;rintro e w3 ⟨rfl,hb3⟩;have G3:=G2.call hb3;have H3:=H2.call hb3;have R3:=R2.call hb3;have F3:=F2.call hb3;have B3:=fG;refine hK.out _ _ (KS _ G3 H3) (λhHeld3=> ?_);clear hK K hb3;refine sm ?_;refine vH 5 ?_ ?_;refine vH 6 ?_ ?_;refine wpAnyH_ready (rs:=[7,10]) ae ag ?_;refine AllReadyH.cons rfl (λK hK=> ?_) (AllReadyH.cons rfl (λK hK=> ?_) AllReadyH.nil)
  ·go_simp
   refine(mi _ _ _).mono ?_;rintro e w4 ⟨rfl,hb4⟩;have G4:=G3.call hb4;have H4:=H3.call hb4;have R4:=R3.call hb4;have F4:=F3.call hb4;have B4:=lF;refine hK.out _ _ (KS _ G4 H4) (λhHeld4=> ?_);clear hK K hb4;refine sm ?_;refine wpAnyH_ready (rs:=[10]) ae ag ?_;refine AllReadyH.cons rfl (λK hK=> ?_) AllReadyH.nil;go_simp;have G5:=G4.alloc (Cc #[Bb g.n,Bb g.sp.n,I Y g.sp.lo,I Y g.sp.hi,Bb g.t,Bb g.f,U ss g.s.length gc,Bb h.n,Bb h.sp.n,I Y h.sp.lo,I Y h.sp.hi,Bb h.t,Bb h.f,U st h.s.length hc] 91);have H5:=H4.alloc (Cc #[Bb g.n,Bb g.sp.n,I Y g.sp.lo,I Y g.sp.hi,Bb g.t,Bb g.f,U ss g.s.length gc,Bb h.n,Bb h.sp.n,I Y h.sp.lo,I Y h.sp.hi,Bb h.t,Bb h.f,U st h.s.length hc] 91);have R5:=R4.alloc (Cc #[Bb g.n,Bb g.sp.n,I Y g.sp.lo,I Y g.sp.hi,Bb g.t,Bb g.f,U ss g.s.length gc,Bb h.n,Bb h.sp.n,I Y h.sp.lo,I Y h.sp.hi,Bb h.t,Bb h.f,U st h.s.length hc] 91);have F5:=F4.alloc (Cc #[Bb g.n,Bb g.sp.n,I Y g.sp.lo,I Y g.sp.hi,Bb g.t,Bb g.f,U ss g.s.length gc,Bb h.n,Bb h.sp.n,I Y h.sp.lo,I Y h.sp.hi,Bb h.t,Bb h.f,U st h.s.length hc] 91);have B5:=B4.alloc B4.size (Cc #[Bb g.n,Bb g.sp.n,I Y g.sp.lo,I Y g.sp.hi,Bb g.t,Bb g.f,U ss g.s.length gc,Bb h.n,Bb h.sp.n,I Y h.sp.lo,I Y h.sp.hi,Bb h.t,Bb h.f,U st h.s.length hc] 91);have L5:=GhAt.new2 w4 g ss gc h st hc;refine hK.out _ _ (KS _ G5 H5) (λhHeld5=> ?_);clear hK K;refine sm ?_;unfold t8 at L5;generalize w4.alloc (Cc #[Bb g.n,Bb g.sp.n,I Y g.sp.lo,I Y g.sp.hi,Bb g.t,Bb g.f,U ss g.s.length gc,Bb h.n,Bb h.sp.n,I Y h.sp.lo,I Y h.sp.hi,Bb h.t,Bb h.f,U st h.s.length hc] 91)=w5 at *;generalize w4.heap.size=sb at *;exact Cg
  ·go_simp
   have G4:=Ia;have H4:=FT;have R4:=Ir;have F4:=Kj;have B4:=B3.alloc B3.size (Cc #[Bb g.n,Bb g.sp.n,I Y g.sp.lo,I Y g.sp.hi,Bb g.t,Bb g.f,U ss g.s.length gc,Bb h.n,Bb h.sp.n,I Y h.sp.lo,I Y h.sp.hi,Bb h.t,Bb h.f,U st h.s.length hc] 91);have L4:=GhAt.new2 w3 g ss gc h st hc;refine hK.out _ _ (KS _ G4 H4) (λhHeld4=> ?_);clear hK K;refine sm ?_;unfold t8 at L4;generalize w3.alloc (Cc #[Bb g.n,Bb g.sp.n,I Y g.sp.lo,I Y g.sp.hi,Bb g.t,Bb g.f,U ss g.s.length gc,Bb h.n,Bb h.sp.n,I Y h.sp.lo,I Y h.sp.hi,Bb h.t,Bb h.f,U st h.s.length hc] 91)=w4 at *;generalize w3.heap.size=sb at *;exact Cp
 ·go_simp
  have G3:=G2.alloc (Cc #[Bb g.n,Bb g.sp.n,I Y g.sp.lo,I Y g.sp.hi,Bb g.t,Bb g.f,U ss g.s.length gc,Bb h.n,Bb h.sp.n,I Y h.sp.lo,I Y h.sp.hi,Bb h.t,Bb h.f,U st h.s.length hc] 91);have H3:=H2.alloc (Cc #[Bb g.n,Bb g.sp.n,I Y g.sp.lo,I Y g.sp.hi,Bb g.t,Bb g.f,U ss g.s.length gc,Bb h.n,Bb h.sp.n,I Y h.sp.lo,I Y h.sp.hi,Bb h.t,Bb h.f,U st h.s.length hc] 91);have R3:=R2.alloc (Cc #[Bb g.n,Bb g.sp.n,I Y g.sp.lo,I Y g.sp.hi,Bb g.t,Bb g.f,U ss g.s.length gc,Bb h.n,Bb h.sp.n,I Y h.sp.lo,I Y h.sp.hi,Bb h.t,Bb h.f,U st h.s.length hc] 91);have F3:=F2.alloc (Cc #[Bb g.n,Bb g.sp.n,I Y g.sp.lo,I Y g.sp.hi,Bb g.t,Bb g.f,U ss g.s.length gc,Bb h.n,Bb h.sp.n,I Y h.sp.lo,I Y h.sp.hi,Bb h.t,Bb h.f,U st h.s.length hc] 91);have B3:=B2.alloc B2.size (Cc #[Bb g.n,Bb g.sp.n,I Y g.sp.lo,I Y g.sp.hi,Bb g.t,Bb g.f,U ss g.s.length gc,Bb h.n,Bb h.sp.n,I Y h.sp.lo,I Y h.sp.hi,Bb h.t,Bb h.f,U st h.s.length hc] 91);have L3:=GhAt.new2 w2 g ss gc h st hc;refine hK.out _ _ (KS _ G3 H3) (λhHeld3=> ?_);clear hK K;refine sm ?_;unfold t8 at L3;generalize w2.alloc (Cc #[Bb g.n,Bb g.sp.n,I Y g.sp.lo,I Y g.sp.hi,Bb g.t,Bb g.f,U ss g.s.length gc,Bb h.n,Bb h.sp.n,I Y h.sp.lo,I Y h.sp.hi,Bb h.t,Bb h.f,U st h.s.length hc] 91)=w3 at *;generalize w2.heap.size=sb at *;refine wpAnyH_ready (rs:=[4]) ae ag ?_;refine AllReadyH.cons rfl (λK hK=> ?_) AllReadyH.nil;go_simp;refine(HL.out _).mono ?_;rintro e w4 ⟨rfl,hb4⟩;have G4:=G3.call hb4;have H4:=H3.call hb4;have R4:=R3.call hb4;have F4:=F3.call hb4;have L4:=L3.call hb4;have B4:=lF;refine hK.out _ _ (KS _ G4 H4) (λhHeld4=> ?_);clear hK K hb4;refine sm ?_;refine vH 5 ?_ ?_;refine vH 6 ?_ ?_;exact Cp
def DG (w:World)(g:Gs)(ss:oA)(gc:Nat)(h:Gs)(st:oA)(hc:Nat)(ob:Nat)(o:Gs)(wx:World):Prop:=
 GuAt wx w.heap.size 0 g ss gc/\GuAt wx (w.heap.size+1) 0 h st hc/\GuAt wx (w.heap.size+1+1) 0 bF nO 0/\Fr7 wx (w.heap.size+1+1)/\GuAt wx ob 0 o nO 0/\Fr7 wx ob/\bl w wx/\w.heap.size+1+1 < ob
theorem DG.call {w:World}{g:Gs}{ss:oA}{gc:Nat}{h:Gs}{st:oA}{hc:Nat}{ob:Nat}{o:Gs}{wx wy:World}(d:DG w g ss gc h st hc ob o wx)(hb:bl wx wy):DG w g ss gc h st hc ob o wy:=
 ⟨d.1.call hb,d.2.1.call hb,d.2.2.1.call hb,d.2.2.2.1.call hb,d.2.2.2.2.1.call hb,d.2.2.2.2.2.1.call hb,d.2.2.2.2.2.2.1.trans (hb.mono d.2.2.2.2.2.2.1.size),d.2.2.2.2.2.2.2⟩
theorem DG.drew {w:World}{g:Gs}{ss:oA}{gc:Nat}{h:Gs}{st:oA}{hc:Nat}{ob:Nat}{o:Gs}{wx:World}(d:DG w g ss gc h st hc ob o wx):DG w g ss gc h st hc ob o wx.drew:=d.call (bR _ _).drew

theorem We (w:World)(g:Gs)(ss:oA)(gc:Nat)(h:Gs)(st:oA)(hc:Nat):GuAt (((w.alloc (Cc #[Bb g.n,Bb g.sp.n,I Y g.sp.lo,I Y g.sp.hi,Bb g.t,Bb g.f,U ss g.s.length gc] 91)).alloc (Cc #[Bb h.n,Bb h.sp.n,I Y h.sp.lo,I Y h.sp.hi,Bb h.t,Bb h.f,U st h.s.length hc] 91)).alloc (Cc #[Bb false,Bb false,I Y 0,I Y 0,Bb false,Bb false,U nO 0 0] 91)) w.heap.size 0 g ss gc/\GuAt (((w.alloc (Cc #[Bb g.n,Bb g.sp.n,I Y g.sp.lo,I Y g.sp.hi,Bb g.t,Bb g.f,U ss g.s.length gc] 91)).alloc (Cc #[Bb h.n,Bb h.sp.n,I Y h.sp.lo,I Y h.sp.hi,Bb h.t,Bb h.f,U st h.s.length hc] 91)).alloc (Cc #[Bb false,Bb false,I Y 0,I Y 0,Bb false,Bb false,U nO 0 0] 91)) (w.heap.size+1) 0 h st hc/\GuAt (((w.alloc (Cc #[Bb g.n,Bb g.sp.n,I Y g.sp.lo,I Y g.sp.hi,Bb g.t,Bb g.f,U ss g.s.length gc] 91)).alloc (Cc #[Bb h.n,Bb h.sp.n,I Y h.sp.lo,I Y h.sp.hi,Bb h.t,Bb h.f,U st h.s.length hc] 91)).alloc (Cc #[Bb false,Bb false,I Y 0,I Y 0,Bb false,Bb false,U nO 0 0] 91)) (w.heap.size+1+1) 0 bF nO 0/\Fr7 (((w.alloc (Cc #[Bb g.n,Bb g.sp.n,I Y g.sp.lo,I Y g.sp.hi,Bb g.t,Bb g.f,U ss g.s.length gc] 91)).alloc (Cc #[Bb h.n,Bb h.sp.n,I Y h.sp.lo,I Y h.sp.hi,Bb h.t,Bb h.f,U st h.s.length hc] 91)).alloc (Cc #[Bb false,Bb false,I Y 0,I Y 0,Bb false,Bb false,U nO 0 0] 91)) (w.heap.size+1+1)/\bl w (((w.alloc (Cc #[Bb g.n,Bb g.sp.n,I Y g.sp.lo,I Y g.sp.hi,Bb g.t,Bb g.f,U ss g.s.length gc] 91)).alloc (Cc #[Bb h.n,Bb h.sp.n,I Y h.sp.lo,I Y h.sp.hi,Bb h.t,Bb h.f,U st h.s.length hc] 91)).alloc (Cc #[Bb false,Bb false,I Y 0,I Y 0,Bb false,Bb false,U nO 0 0] 91)):=by
 obtain⟨G0,H0,B0⟩:=Iw w g ss gc h st hc;have R0:=GuAt.new ((w.alloc (Cc #[Bb g.n,Bb g.sp.n,I Y g.sp.lo,I Y g.sp.hi,Bb g.t,Bb g.f,U ss g.s.length gc] 91)).alloc (Cc #[Bb h.n,Bb h.sp.n,I Y h.sp.lo,I Y h.sp.hi,Bb h.t,Bb h.f,U st h.s.length hc] 91)) bF nO 0;rw[zA,zA] at R0;exact⟨G0.alloc _,H0.alloc _,R0,⟨λj=>aW,ag⟩,am⟩
theorem mI {w:World}{g:Gs}{ss:oA}{gc:Nat}{h:Gs}{st:oA}{hc:Nat}{w1:World}(hb:Below (((w.alloc (Cc #[Bb g.n,Bb g.sp.n,I Y g.sp.lo,I Y g.sp.hi,Bb g.t,Bb g.f,U ss g.s.length gc] 91)).alloc (Cc #[Bb h.n,Bb h.sp.n,I Y h.sp.lo,I Y h.sp.hi,Bb h.t,Bb h.f,U st h.s.length hc] 91)).alloc (Cc #[Bb false,Bb false,I Y 0,I Y 0,Bb false,Bb false,U nO 0 0] 91)).heap.size (((w.alloc (Cc #[Bb g.n,Bb g.sp.n,I Y g.sp.lo,I Y g.sp.hi,Bb g.t,Bb g.f,U ss g.s.length gc] 91)).alloc (Cc #[Bb h.n,Bb h.sp.n,I Y h.sp.lo,I Y h.sp.hi,Bb h.t,Bb h.f,U st h.s.length hc] 91)).alloc (Cc #[Bb false,Bb false,I Y 0,I Y 0,Bb false,Bb false,U nO 0 0] 91)) w1):DG w g ss gc h st hc w1.heap.size noneG (w1.alloc (Cc #[Bb noneG.n,Bb noneG.sp.n,I Y noneG.sp.lo,I Y noneG.sp.hi,Bb noneG.t,Bb noneG.f,U nO noneG.s.length 0] 91)):=by
 obtain⟨G0,H0,R0,F0,B0⟩:=We w g ss gc h st hc;have G1:=(G0.call hb).alloc (Cc #[Bb noneG.n,Bb noneG.sp.n,I Y noneG.sp.lo,I Y noneG.sp.hi,Bb noneG.t,Bb noneG.f,U nO noneG.s.length 0] 91);have H1:=(H0.call hb).alloc (Cc #[Bb noneG.n,Bb noneG.sp.n,I Y noneG.sp.lo,I Y noneG.sp.hi,Bb noneG.t,Bb noneG.f,U nO noneG.s.length 0] 91);have z:=(R0.call hb).2;have R1:=(R0.call hb).alloc (Cc #[Bb noneG.n,Bb noneG.sp.n,I Y noneG.sp.lo,I Y noneG.sp.hi,Bb noneG.t,Bb noneG.f,U nO noneG.s.length 0] 91);have F1:=(F0.call hb).alloc (Cc #[Bb noneG.n,Bb noneG.sp.n,I Y noneG.sp.lo,I Y noneG.sp.hi,Bb noneG.t,Bb noneG.f,U nO noneG.s.length 0] 91);have B1:=B0.trans (hb.mono B0.size);exact⟨G1,H1,R1,F1,GuAt.new w1 noneG nO 0,⟨λj=>aW,ag⟩,B1.alloc B1.size _,z⟩
theorem DG.out {w:World}{g:Gs}{ss:oA}{gc:Nat}{h:Gs}{st:oA}{hc:Nat}{ob:Nat}{o o':Gs}{wx wy:World}(d:DG w g ss gc h st hc ob o wx)(hb:∀k,k≠ob->wy.heap[k]? =wx.heap[k]?)(hz:wy.heap.size=wx.heap.size)(hf:Fr7 wy ob)(ho:GuAt wy ob 0 o' nO 0)(hB:bl w wy):DG w g ss gc h st hc ob o' wy:=by
 have hg:∀{k:Nat} {x:Gs} {xs:oA} {xc:Nat},k≠ob->GuAt wx k 0 x xs xc->GuAt wy k 0 x xs xc:=by
  intro k x xs xc hk hg;obtain⟨⟨h0,h1,h2,h3,h4,h5,h6⟩,hz'⟩:=hg;have hc:∀j,wy.cell? ⟨k,j,nO⟩=wx.cell? ⟨k,j,nO⟩:=λj=>j5 (a:=⟨k,j,nO⟩) (hb k hk);exact⟨⟨(hc _).trans h0,(hc _).trans h1,(hc _).trans h2,(hc _).trans h3,(hc _).trans h4,(hc _).trans h5,(hc _).trans h6⟩,by rw[hz];exact hz'⟩
 have z:=d.2.2.2.2.2.2.2;refine⟨hg aa d.1,hg aa d.2.1,hg aa d.2.2.1,⟨λj=> ?_,by rw[hz];exact d.2.2.2.1.2⟩,ho,hf,hB,z⟩;rw[j6 (a:=⟨w.heap.size+1+1,j,nO⟩) (hb _ (by show w.heap.size+1+1≠ob;omega))];exact d.2.2.2.1.1 j
theorem Az {p:Prop}(h:p:=by
 obtain⟨⟨h0,h1,h2,h3,h4,h5,h6⟩,hz⟩:=d.2.2.2.2.1;simp only[Nat.zero_add] at h0 h1 h2 h3 h4 h5 h6;exact⟨⟨by simp[go_sem,h0],by simp[go_sem,h1],by simp[go_sem,h2],by simp[go_sem,h3],by simp[go_sem,h4],by simp[go_sem,h5],by simp[go_sem,h6]⟩,fm⟩):p:=h
theorem BM {p:Prop}(h:p:=by
 have z:=d.2.2.2.2.2.2.2;refine d.out (λk hk=>Below.heap_setCell _ _ _ _ hk) ag d.2.2.2.2.2.1.set ?_ (d.2.2.2.2.2.2.1.setCell ap _);exact Az):p:=h
theorem DG.t {w:World}{g:Gs}{ss:oA}{gc:Nat}{h:Gs}{st:oA}{hc:Nat}{ob:Nat}{o:Gs}{wx:World}{y:Bool}(d:DG w g ss gc h st hc ob o wx):DG w g ss gc h st hc ob ⟨o.n,o.sp,y,o.f,o.s⟩ (wx.setCell ⟨ob,4,nO⟩ (Bb y)):=by
 exact BM
theorem DG.f {w:World}{g:Gs}{ss:oA}{gc:Nat}{h:Gs}{st:oA}{hc:Nat}{ob:Nat}{o:Gs}{wx:World}{y:Bool}(d:DG w g ss gc h st hc ob o wx):DG w g ss gc h st hc ob ⟨o.n,o.sp,o.t,y,o.s⟩ (wx.setCell ⟨ob,5,nO⟩ (Bb y)):=by
 exact BM
theorem DG.sp {w:World}{g:Gs}{ss:oA}{gc:Nat}{h:Gs}{st:oA}{hc:Nat}{ob:Nat}{o:Gs}{wx:World}{s:Sp}(d:DG w g ss gc h st hc ob o wx):DG w g ss gc h st hc ob ⟨o.n,s,o.t,o.f,o.s⟩ (((wx.setCell ⟨ob,1,nO⟩ (Bb s.n)).setCell ⟨ob,2,nO⟩ (I Y s.lo)).setCell ⟨ob,3,nO⟩ (I Y s.hi)):=by
 have z:=d.2.2.2.2.2.2.2;refine d.out (λk hk=>by rw[hSe _ _ _ _ hk,hSe _ _ _ _ hk,hSe _ _ _ _ hk]) ag d.2.2.2.2.2.1.set.set.set ?_ (((d.2.2.2.2.2.2.1.setCell ap _).setCell ap _).setCell ap _);exact Az
theorem WM (w:World)(g:Gs)(ss:oA)(gc:Nat)(h:Gs)(st:oA)(hc:Nat):
  Calls pG 115 #[I Y 4,gv g ss gc,gv h st hc] w λe w'=>e=Rt (if an g=true then Tu #[gv noneG nO 0,Bb false] else Tu #[gv g ss gc,Bb false])/\bl w w':=by
 generalize hnn:an g=nn;have Hnn:=ah hnn;clear hnn;have HNg:=gZ;have HNh:=g7;generalize an g=ng at *;generalize an h=nh at *;go_enter Tryz.func115,Tryz.ntmps115;go_upto_region 1 with fail
 go_cut [8] (λt wy=>∃ob,t=Pp (sO ⟨ob,0,nO⟩)/\DG w g ss gc h st hc ob noneG wy)
 case first=>
  go_wp2_with fail;refine(fE _).mono ?_;rintro e w1 ⟨rfl,hb1⟩;have D1:=mI hb1;go_wp2_with fail;go_meet;refine⟨w1.heap.size,rfl,?_⟩;exact D1
 obtain⟨ob,rfl,D1⟩:=hcut;obtain⟨⟨g0,g1,g2,g3,g4,g5,g6⟩,gz⟩:=id D1.1;simp only[j0] at g0 g1 g2 g3 g4 g5 g6;obtain⟨⟨k0,k1,k2,k3,k4,k5,k6⟩,kz⟩:=id D1.2.1;simp only[j0] at k0 k1 k2 k3 k4 k5 k6;have fz:=D1.2.2.2.1.1;have fo:=D1.2.2.2.2.2.1.1;have zo:=D1.2.2.2.2.2.2.2;go_upto_region 2 with fail
 go_cut [27] (λt wy=>t=Bb nn/\DG w g ss gc h st hc ob noneG wy)
 case first=>
  go_wp2_with fail;refine(HNg.out _).mono ?_;rintro e w2 ⟨rfl,hb2⟩;have D2:=D1.call hb2;clear g0 g1 g2 g3 g4 g5 g6 gz k0 k1 k2 k3 k4 k5 k6 kz fz fo;cases ng with
  |true=>
   go_wp2_with fail;go_meet;exact iT
  |false=>
   go_wp2_with fail;go_meet;exact iT
 obtain⟨rfl,D2⟩:=hcut;clear g0 g1 g2 g3 g4 g5 g6 gz k0 k1 k2 k3 k4 k5 k6 kz fz fo zo D1 HNg HNh Hnn;cases nn with
 |true=>
  obtain⟨⟨g0,g1,g2,g3,g4,g5,g6⟩,gz⟩:=id D2.1;simp only[j0] at g0 g1 g2 g3 g4 g5 g6;obtain⟨⟨r0,r1,r2,r3,r4,r5,r6⟩,rz⟩:=id D2.2.2.1;simp only[j0] at r0 r1 r2 r3 r4 r5 r6;obtain⟨⟨o0,o1,o2,o3,o4,o5,o6⟩,oz⟩:=id D2.2.2.2.2.1;simp only[j0] at o0 o1 o2 o3 o4 o5 o6;simp only[bF] at r0 r1 r2 r3 r4 r5 r6;have fz:=D2.2.2.2.1.1;have fo:=D2.2.2.2.2.2.1.1;have zo:=D2.2.2.2.2.2.2.2;simp only[noneG] at o0 o1 o2 o3 o4 o5 o6;go_wp2;refine bodyPost_ret (v:=Tu #[gv noneG nO 0,Bb false]) oH rfl ⟨?_,?_⟩
  ·rfl
  ·exact nc
 |false=>
  obtain⟨⟨g0,g1,g2,g3,g4,g5,g6⟩,gz⟩:=id D2.1;simp only[j0] at g0 g1 g2 g3 g4 g5 g6;obtain⟨⟨r0,r1,r2,r3,r4,r5,r6⟩,rz⟩:=id D2.2.2.1;simp only[j0] at r0 r1 r2 r3 r4 r5 r6;simp only[bF] at r0 r1 r2 r3 r4 r5 r6;have fz:=D2.2.2.2.1.1;have fo:=D2.2.2.2.2.2.1.1;have zo:=D2.2.2.2.2.2.2.2;go_wp2;refine bodyPost_ret (v:=Tu #[gv g ss gc,Bb false]) kj rfl ⟨?_,?_⟩
  ·rfl
  ·exact nc
def DI (b ob:Nat)(g:Gs)(ss:oA)(gc:Nat)(h:Gs)(st:oA)(hc:Nat)(o:Gs)(w':World):Prop:=
 (w'.cell? ⟨b,0,nO⟩=sO (Bb g.n)/\w'.cell? ⟨b,1,nO⟩=sO (Bb g.sp.n)/\w'.cell? ⟨b,2,nO⟩=sO (I Y g.sp.lo)/\w'.cell? ⟨b,3,nO⟩=sO (I Y g.sp.hi)/\w'.cell? ⟨b,4,nO⟩=sO (Bb g.t)/\w'.cell? ⟨b,5,nO⟩=sO (Bb g.f)/\w'.cell? ⟨b,6,nO⟩=sO (U ss g.s.length gc))/\(w'.cell? ⟨b+1,0,nO⟩=sO (Bb h.n)/\w'.cell? ⟨b+1,1,nO⟩=sO (Bb h.sp.n)/\w'.cell? ⟨b+1,2,nO⟩=sO (I Y h.sp.lo)/\w'.cell? ⟨b+1,3,nO⟩=sO (I Y h.sp.hi)/\w'.cell? ⟨b+1,4,nO⟩=sO (Bb h.t)/\w'.cell? ⟨b+1,5,nO⟩=sO (Bb h.f)/\w'.cell? ⟨b+1,6,nO⟩=sO (U st h.s.length hc))/\(w'.cell? ⟨ob,0,nO⟩=sO (Bb o.n)/\w'.cell? ⟨ob,1,nO⟩=sO (Bb o.sp.n)/\w'.cell? ⟨ob,2,nO⟩=sO (I Y o.sp.lo)/\w'.cell? ⟨ob,3,nO⟩=sO (I Y o.sp.hi)/\w'.cell? ⟨ob,4,nO⟩=sO (Bb o.t)/\w'.cell? ⟨ob,5,nO⟩=sO (Bb o.f)/\w'.cell? ⟨ob,6,nO⟩=sO (U nO o.s.length 0))

theorem Nn {a b:Sp}(h1:(a.n==b.n)=true)(h2:(a.lo==b.lo)=true)(h3:(a.hi==b.hi)=true):a=b:=by
 obtain⟨a1,a2,a3⟩:=a;obtain⟨b1,b2,b3⟩:=b;simp only[beq_iff_eq] at h1 h2 h3;rw[h1,h2,h3]
def pK (b:Nat)(g:Gs)(ss:oA)(gc:Nat)(h:Gs)(st:oA)(hc:Nat)(w':World):Prop:=
 (w'.cell? ⟨b,0,nO⟩=sO (Bb g.n)/\w'.cell? ⟨b,1,nO⟩=sO (Bb g.sp.n)/\w'.cell? ⟨b,2,nO⟩=sO (I Y g.sp.lo)/\w'.cell? ⟨b,3,nO⟩=sO (I Y g.sp.hi)/\w'.cell? ⟨b,4,nO⟩=sO (Bb g.t)/\w'.cell? ⟨b,5,nO⟩=sO (Bb g.f)/\w'.cell? ⟨b,6,nO⟩=sO (U ss g.s.length gc))/\(w'.cell? ⟨b+1,0,nO⟩=sO (Bb h.n)/\w'.cell? ⟨b+1,1,nO⟩=sO (Bb h.sp.n)/\w'.cell? ⟨b+1,2,nO⟩=sO (I Y h.sp.lo)/\w'.cell? ⟨b+1,3,nO⟩=sO (I Y h.sp.hi)/\w'.cell? ⟨b+1,4,nO⟩=sO (Bb h.t)/\w'.cell? ⟨b+1,5,nO⟩=sO (Bb h.f)/\w'.cell? ⟨b+1,6,nO⟩=sO (U st h.s.length hc))
theorem pW {p:Prop}(h:p:=by
 go_wp2_with fail;refine(HM.out _).mono ?_;rintro e w5 ⟨rfl,hb5⟩;have D5:=DR.call hb5;clear g0 g1 g2 g3 g4 g5 g6 gz k0 k1 k2 k3 k4 k5 k6 kz fz fo zo o0 o1 o2 o3 o4 o5 o6 oz;have fz:=D5.2.2.2.1.1;have fo:=D5.2.2.2.2.2.1.1;have zo:=D5.2.2.2.2.2.2.2;have o0:=D5.2.2.2.2.1.1;simp only[noneG,Nat.zero_add] at o0;obtain⟨o0,o1,o2,o3,o4,o5,o6⟩:=o0;go_wp2_with fail;go_meet;rw[Ey.out];exact D5.t):p:=h
theorem CM {p:Prop}(h:p:=by
 have en1:=Hn1.out;have en2:=Hn2.out;cases cb with
 |true=>
  have Ey:Hid (y=true):=Dt;go_wp2_with fail;go_meet;rw[Ey.out];exact DR.t
 |false=>
  have h3:(g.t=true/\h.t=true)\/g.t=false\/(g.t=true/\h.t=false):=by cases g.t<;>cases h.t<;>simp
  rcases h3 with⟨et1,et2⟩|et1|⟨et1,et2⟩
  ·have Ey:Hid (y=true):=by show _=_;rw[<-Hy.out,et1,et2];simp
   go_wp2_with fail;go_meet;rw[Ey.out];exact DR.t
  ·have h3:=Hk
   rcases h3 with⟨ef1,ef2⟩|ef1|⟨ef1,ef2⟩
   ·have Ey:Hid (y=true):=by show _=_;rw[<-Hy.out,ef1,ef2];simp
    go_wp2_with fail;go_meet;rw[Ey.out];exact DR.t
   ·have Ey:Hid (y= !ms.n):=by show _=_;first|(rw[<-Hy.out,<-HA.out,en1,en2,et1,ef1];simp;done)|(rw[<-Hy.out,<-HA.out,en1,et1,ef1];simp)
    exact pW
   ·have Ey:Hid (y= !ms.n):=by show _=_;first|(rw[<-Hy.out,<-HA.out,en1,en2,et1,ef1,ef2];simp;done)|(rw[<-Hy.out,<-HA.out,en1,et1,ef1,ef2];simp)
    exact pW
  ·have h3:=Hk
   rcases h3 with⟨ef1,ef2⟩|ef1|⟨ef1,ef2⟩
   ·have Ey:Hid (y=true):=by show _=_;rw[<-Hy.out,ef1,ef2];simp
    go_wp2_with fail;go_meet;rw[Ey.out];exact DR.t
   ·have Ey:Hid (y= !ms.n):=by show _=_;first|(rw[<-Hy.out,<-HA.out,en1,en2,et1,et2,ef1];simp;done)|(rw[<-Hy.out,<-HA.out,en1,et1,et2,ef1];simp)
    exact pW
   ·have Ey:Hid (y= !ms.n):=by show _=_;first|(rw[<-Hy.out,<-HA.out,en1,en2,et1,et2,ef1,ef2];simp;done)|(rw[<-Hy.out,<-HA.out,en1,et1,et2,ef1,ef2];simp)
    go_wp2_with fail;refine(HM.out _).mono ?_;rintro e w5 ⟨rfl,hb5⟩;have D5:=DR.call hb5;clear g0 g1 g2 g3 g4 g5 g6 gz k0 k1 k2 k3 k4 k5 k6 kz fz fo zo o0 o1 o2 o3 o4 o5 o6 oz;have fz:=D5.2.2.2.1.1;have fo:=D5.2.2.2.2.2.1.1;have zo:=D5.2.2.2.2.2.2.2;have o0:=D5.2.2.2.2.1.1;simp only[noneG,Nat.zero_add] at o0;obtain⟨o0,o1,o2,o3,o4,o5,o6⟩:=o0;go_wp2_with fail;go_meet;rw[Ey.out];exact D5.t):p:=h
theorem my {p:Prop}(h:p:=by
 have JR:=ht.below DR.2.2.2.2.2.2.1 (Nat.le_refl _);obtain⟨b,off,rfl,hb,hcell⟩:=IR.get k hlt;have c0:=hcell k hlt;have n0:=bx;have n1:(k:Int) < (g.s.length:Int):=aa;clear hcell;cases cb with
 |true=>
  have HN:Hid (true=(g.s.take (k+1)).any λx=>h.s.contains x):=by
   show _=_;rw[List.take_add_one,List.any_append,<-HC.out];rfl
  go_wp2;refine wp_region_held_drew (S:=λ_=>True) ae trivial (λhHeld=> ?_);refine vH 0 ?_ ?_;refine vH 1 ?_ ?_;refine uH 2 ?_;refine sm ?_;refine uH 3 ?_;refine sm ?_;refine uH 4 ?_;refine sm ?_;refine uH 5 ?_;refine sm ?_;refine uH 6 ?_;refine sm ?_;refine uH 7 ?_;refine sm ?_;refine uH 8 ?_;refine sm ?_;refine uH 9 ?_;refine sm ?_;refine vH 10 ?_ ?_;refine vH 11 ?_ ?_;refine wpAnyH_done ae ?_ _;go_wp2;go_roundw
  case rel=>exact⟨k+1,true,aa,aF,rfl,HN,DR.drew⟩
  case measure=>simp[intOf];omega
 |false=>
  have HN:Hid (decide (g.s[k]∈h.s)=(g.s.take (k+1)).any λx=>h.s.contains x):=by
   show _=_;rw[List.take_add_one,List.any_append,<-HC.out,List.getElem?_eq_getElem hlt];simp
  go_wp2;go_region_held3 (λwx=>wx.cell? ⟨w.heap.size,6,none⟩=some (.slice (some ⟨b,off,none⟩) g.s.length gc)/\wx.cell? ⟨w.heap.size+1,6,none⟩=some (.slice st h.s.length hc)/\wx.cell? ⟨b,off+k,none⟩=some (.int .i64 g.s[k]))
   (exact⟨g6,k6,c0⟩)
   ((go_at_call 168;refine(Aj g.s[k] st hc h.s _ hhl JR.drew).mono ?_;rintro e w2 ⟨rfl,hw2⟩;have hw3:=hw2.symm;subst hw3))
  go_wp2;go_roundw
  case rel=>exact⟨k+1,decide (g.s[k]∈h.s),aa,aF,rfl,HN,DR.drew⟩
  case measure=>simp[intOf];omega):p:=h
theorem me {p:Prop}(h:p:=by
 go_wp2_with fail;refine(HNg.out _).mono ?_;rintro e w2 ⟨rfl,hb2⟩;have D2:=D1.call hb2;clear g0 g1 g2 g3 g4 g5 g6 gz k0 k1 k2 k3 k4 k5 k6 kz fz fo;cases ng with
 |true=>
  go_wp2_with fail;go_meet;exact iT
 |false=>
  obtain⟨⟨k0,k1,k2,k3,k4,k5,k6⟩,kz⟩:=id D2.2.1;simp only[Nat.zero_add] at k0 k1 k2 k3 k4 k5 k6;have fz:=D2.2.2.2.1.1;have fo:=D2.2.2.2.2.2.1.1;have zo2:=D2.2.2.2.2.2.2.2;go_wp2_with fail;refine(HNh.out _).mono ?_;rintro e w3 ⟨rfl,hb3⟩;have D3:=D2.call hb3;go_wp2_with fail;go_meet;exact⟨by rw[<-Hnn.out];first|done|rfl|simp,D3⟩):p:=h
theorem mw {p:Prop}(h:p:=by
 obtain⟨⟨g0,g1,g2,g3,g4,g5,g6⟩,gz⟩:=id D2.1;simp only[Nat.zero_add] at g0 g1 g2 g3 g4 g5 g6;obtain⟨⟨r0,r1,r2,r3,r4,r5,r6⟩,rz⟩:=id D2.2.2.1;simp only[Nat.zero_add] at r0 r1 r2 r3 r4 r5 r6;obtain⟨⟨o0,o1,o2,o3,o4,o5,o6⟩,oz⟩:=id D2.2.2.2.2.1;simp only[Nat.zero_add] at o0 o1 o2 o3 o4 o5 o6;simp only[bF] at r0 r1 r2 r3 r4 r5 r6;have fz:=D2.2.2.2.1.1;have fo:=D2.2.2.2.2.2.1.1;have zo:=D2.2.2.2.2.2.2.2;simp only[noneG] at o0 o1 o2 o3 o4 o5 o6;go_wp2;refine bodyPost_ret (v:=.tuple #[gv noneG none 0,.bool false]) oH rfl ⟨?_,?_⟩
 ·rfl
 ·exact bB D2.2.2.2.2.2.2.1 aa):p:=h
theorem p8 {p:Prop}(h:p:=by
 go_wp2_with fail;refine(fE _).mono ?_;rintro e w1 ⟨rfl,hb1⟩;have D1:=mI hb1;go_wp2_with fail;go_meet;refine⟨w1.heap.size,rfl,?_⟩;exact D1):p:=h
theorem Kw {p:Prop}(h:p:=by
 have HM:=pt;have HSg:=sk;have HSh:=pR;generalize hy:((g.n&&h.n)||(!(aL g.sp h.sp).n||((g.t&&h.t)||((g.f&&h.f)||g.s.any λx=>h.s.contains x))))=y;have Hy:=ah hy;generalize hal:(!cV g h)=al;have Hal:=pB;clear hy hal;generalize bS g=x1 at *;generalize bS h=x2 at *;generalize aL g.sp h.sp=ms at *;have hfld:=rW;generalize hnn:(an g||an h)=nn;have Hnn:=ah hnn;clear hnn;have HNg:=gZ;have HNh:=g7;generalize an g=ng at *;generalize an h=nh at *;go_enter Tryz.func115,Tryz.ntmps115;go_upto_region 1 with fail
 go_cut [8] (λt wy=>∃ob,t=.pointer (some ⟨ob,0,none⟩)/\DG w g ss gc h st hc ob noneG wy)
 case first=>
  exact p8
 obtain⟨ob,rfl,D1⟩:=hcut;obtain⟨⟨g0,g1,g2,g3,g4,g5,g6⟩,gz⟩:=id D1.1;simp only[Nat.zero_add] at g0 g1 g2 g3 g4 g5 g6;obtain⟨⟨k0,k1,k2,k3,k4,k5,k6⟩,kz⟩:=id D1.2.1;simp only[Nat.zero_add] at k0 k1 k2 k3 k4 k5 k6;have fz:=D1.2.2.2.1.1;have fo:=D1.2.2.2.2.2.1.1;have zo:=D1.2.2.2.2.2.2.2;go_upto_region 2 with fail
 go_cut [27] (λt wy=>t=.bool nn/\DG w g ss gc h st hc ob noneG wy)
 case first=>
  exact me
 obtain⟨rfl,D2⟩:=hcut;clear g0 g1 g2 g3 g4 g5 g6 gz k0 k1 k2 k3 k4 k5 k6 kz fz fo zo D1 HNg HNh Hnn;cases nn with
 |true=>
  exact mw
 |false=>
  go_wp2_with fail;go_loopw [11,12] (λcm i wr=>∃(k:Nat) (cb:Bool),k<=g.s.length/\i=.int .i64 k/\cm=.bool cb/\Hid (cb=(g.s.take k).any λx=>h.s.contains x)/\DG w g ss gc h st hc ob noneG wr) (λ_ i _=>g.s.length - (intOf i).toNat)
  case atStart=>exact⟨0,false,Nat.zero_le _,rfl,rfl,gQ,D2⟩
  case round=>
   obtain⟨k,cb,hk,rfl,rfl,HC,DR⟩:=hrel;clear D2;obtain⟨⟨g0,g1,g2,g3,g4,g5,g6⟩,gz⟩:=id DR.1;simp only[Nat.zero_add] at g0 g1 g2 g3 g4 g5 g6;obtain⟨⟨k0,k1,k2,k3,k4,k5,k6⟩,kz⟩:=id DR.2.1;simp only[Nat.zero_add] at k0 k1 k2 k3 k4 k5 k6;have fz:=DR.2.2.2.1.1;have fo:=DR.2.2.2.2.2.1.1;have zo:=DR.2.2.2.2.2.2.2;by_cases hlt:k < g.s.length
   ·have IR:=pq
    exact my
   ·have ek:k=g.s.length:=by omega
    have HA:=sD;subst ek;clear hlt;clear HC;obtain⟨⟨o0,o1,o2,o3,o4,o5,o6⟩,oz⟩:=id DR.2.2.2.2.1;simp only[Nat.zero_add] at o0 o1 o2 o3 o4 o5 o6;simp only[noneG] at o0 o1 o2 o3 o4 o5 o6;go_upto_region 17 with fail
    go_cut [11,98] (λt t' wy=>DG w g ss gc h st hc ob ⟨false,⟨true,0,0⟩,y,false,[]⟩ wy)
    case first=>
     exact CM
    have D6:=hcut;clear DR g0 g1 g2 g3 g4 g5 g6 gz k0 k1 k2 k3 k4 k5 k6 kz fz fo zo o0 o1 o2 o3 o4 o5 o6 oz hcut Hy HA HM;go_wp2_with fail;have KS:=pL;generalize wc=w6 at *;have D7:=D6.drew;refine wp_region_held_drew (S:=pK w.heap.size g ss gc h st hc) ae (KS _ D7) (λhHeld=> ?_);unfold pK at hHeld KS |-;clear D6;generalize w6.drew=w7 at *;refine vH 0 ?_ ?_;refine wpAnyH_ready (rs:=[1]) ae ag ?_;refine AllReadyH.cons rfl (λK hK=> ?_) AllReadyH.nil;go_simp;refine(HSg.out _).mono ?_;rintro e w8 ⟨rfl,hb8⟩;have D8:=D7.call hb8;refine hK.out _ _ (KS _ D8) (λhHeld8=> ?_);clear hK K hb8 D7;refine sm ?_;refine vH 2 ?_ ?_;have Hlt:∃lt:Bool,Hid (decide (x1 < 0)=lt):=⟨_,rfl⟩;obtain⟨lt,Hlt⟩:=Hlt;rw[Hlt.out];cases lt with
    |true=>
     have Eal:Hid (al=true):=by show _=_;rw[Hal.out,Hlt.out];rfl
     refine vH 3 ?_ ?_;refine uH 4 ?_;refine sm ?_;refine uH 5 ?_;refine sm ?_;refine uH 6 ?_;refine sm ?_;refine uH 7 ?_;refine sm ?_;refine uH 8 ?_;refine sm ?_;refine vH 9 ?_ ?_;refine vH 10 ?_ ?_;refine uH 11 ?_;refine sm ?_;refine uH 12 ?_;refine sm ?_;refine uH 13 ?_;refine sm ?_;refine uH 14 ?_;refine sm ?_;refine uH 15 ?_;refine sm ?_;refine vH 16 ?_ ?_;refine vH 17 ?_ ?_;obtain⟨⟨o0,o1,o2,o3,o4,o5,o6⟩,oz⟩:=id D8.2.2.2.2.1;simp only[Nat.zero_add] at o0 o1 o2 o3 o4 o5 o6;have fo:=D8.2.2.2.2.2.1.1;have D9:=D8.f (y:=true);refine wpAnyH_ready (rs:=[18]) ae ag ?_;refine AllReadyH.cons rfl (λK hK=> ?_) AllReadyH.nil;go_simp;refine hK.out _ (w8.setCell ⟨ob,5,none⟩ (.bool true)) (KS _ D9) (λhHeldz=> ?_);clear hK K o0 o1 o2 o3 o4 o5 o6 oz fo D8;refine sm ?_;generalize w8.setCell ⟨ob,5,none⟩ (.bool true)=w9 at *;refine wpAnyH_done ae ?_ _;obtain⟨⟨r0,r1,r2,r3,r4,r5,r6⟩,rz⟩:=id D9.2.2.1;simp only[Nat.zero_add] at r0 r1 r2 r3 r4 r5 r6;obtain⟨⟨o0,o1,o2,o3,o4,o5,o6⟩,oz⟩:=id D9.2.2.2.2.1;simp only[Nat.zero_add] at o0 o1 o2 o3 o4 o5 o6;simp only[bF] at r0 r1 r2 r3 r4 r5 r6;have fz:=D9.2.2.2.1.1;have fo:=D9.2.2.2.2.2.1.1;have zo:=D9.2.2.2.2.2.2.2;go_wp2;refine bodyPost_ret (v:=.tuple #[gv ⟨false,⟨true,0,0⟩,y,true,[]⟩ none 0,.bool false]) kj rfl ⟨?_,?_⟩
     ·rw[show al=true from Eal.out]
     ·exact bB D9.2.2.2.2.2.2.1 aa
    |false=>
     have hne:x1≠x2:=by
      rcases hS.out with h|h
      ·exact absurd h (of_decide_eq_false Hlt.out)
      ·exact h
     refine vH 3 ?_ ?_;refine vH 4 ?_ ?_;refine vH 6 ?_ ?_;refine wpAnyH_ready (rs:=[5]) ae ag ?_;refine AllReadyH.cons rfl (λK hK=> ?_) AllReadyH.nil;go_simp;refine(HSg.out _).mono ?_;rintro e w9 ⟨rfl,hb9⟩;have D9:=D8.call hb9;refine hK.out _ _ (KS _ D9) (λhHeld9=> ?_);clear hK K hb9 D8;refine sm ?_;refine wpAnyH_ready (rs:=[7]) ae ag ?_;refine AllReadyH.cons rfl (λK hK=> ?_) AllReadyH.nil;go_simp;refine(HSh.out _).mono ?_;rintro e w10 ⟨rfl,hb10⟩;have D10:=D9.call hb10;refine hK.out _ _ (KS _ D10) (λhHeld10=> ?_);clear hK K hb10 D9;refine sm ?_;have hneb:(x1 !=x2)=true:=by simpa using hne
     have Eal:Hid (al=true):=MT;refine vH 8 ?_ ?_;refine vH 9 ?_ ?_;refine vH 10 ?_ ?_;refine uH 11 ?_;refine sm ?_;refine uH 12 ?_;refine sm ?_;refine uH 13 ?_;refine sm ?_;refine uH 14 ?_;refine sm ?_;refine uH 15 ?_;refine sm ?_;refine vH 16 ?_ ?_;refine vH 17 ?_ ?_;obtain⟨⟨o0,o1,o2,o3,o4,o5,o6⟩,oz⟩:=id D10.2.2.2.2.1;simp only[Nat.zero_add] at o0 o1 o2 o3 o4 o5 o6;have fo:=D10.2.2.2.2.2.1.1;have D9:=D10.f (y:=true);refine wpAnyH_ready (rs:=[18]) ae ag ?_;refine AllReadyH.cons rfl (λK hK=> ?_) AllReadyH.nil;go_simp;refine hK.out _ (w10.setCell ⟨ob,5,none⟩ (.bool true)) (KS _ D9) (λhHeldz=> ?_);clear hK K o0 o1 o2 o3 o4 o5 o6 oz fo D10;refine sm ?_;generalize w10.setCell ⟨ob,5,none⟩ (.bool true)=w9 at *;refine wpAnyH_done ae ?_ _;obtain⟨⟨r0,r1,r2,r3,r4,r5,r6⟩,rz⟩:=id D9.2.2.1;simp only[Nat.zero_add] at r0 r1 r2 r3 r4 r5 r6;obtain⟨⟨o0,o1,o2,o3,o4,o5,o6⟩,oz⟩:=id D9.2.2.2.2.1;simp only[Nat.zero_add] at o0 o1 o2 o3 o4 o5 o6;simp only[bF] at r0 r1 r2 r3 r4 r5 r6;have fz:=D9.2.2.2.1.1;have fo:=D9.2.2.2.2.2.1.1;have zo:=D9.2.2.2.2.2.2.2;go_wp2;refine bodyPost_ret (v:=.tuple #[gv ⟨false,⟨true,0,0⟩,y,true,[]⟩ none 0,.bool false]) kj rfl ⟨?_,?_⟩
     ·rw[show al=true from Eal.out]
     ·exact bB D9.2.2.2.2.2.2.1 aa):p:=h
theorem iH {p:Prop}(h:p:=by
 refine vH 15 ?_ ?_;refine vH 16 ?_ ?_;refine vH 17 ?_ ?_;obtain⟨⟨o0,o1,o2,o3,o4,o5,o6⟩,oz⟩:=id D10.2.2.2.2.1;simp only[Nat.zero_add] at o0 o1 o2 o3 o4 o5 o6;have fo:=D10.2.2.2.2.2.1.1;have D9:=D10.f (y:=true);refine wpAnyH_ready (rs:=[18]) ae ag ?_;refine AllReadyH.cons rfl (λK hK=> ?_) AllReadyH.nil;go_simp;refine hK.out _ (w10.setCell ⟨ob,5,none⟩ (.bool true)) (KS _ D9) (λhHeldz=> ?_);clear hK K o0 o1 o2 o3 o4 o5 o6 oz fo D10;refine sm ?_;generalize w10.setCell ⟨ob,5,none⟩ (.bool true)=w9 at *;refine wpAnyH_done ae ?_ _;obtain⟨⟨r0,r1,r2,r3,r4,r5,r6⟩,rz⟩:=id D9.2.2.1;simp only[Nat.zero_add] at r0 r1 r2 r3 r4 r5 r6;obtain⟨⟨o0,o1,o2,o3,o4,o5,o6⟩,oz⟩:=id D9.2.2.2.2.1;simp only[Nat.zero_add] at o0 o1 o2 o3 o4 o5 o6;simp only[bF] at r0 r1 r2 r3 r4 r5 r6;have fz:=D9.2.2.2.1.1;have fo:=D9.2.2.2.2.2.1.1;have zo:=D9.2.2.2.2.2.2.2;go_wp2;refine bodyPost_ret (v:=.tuple #[gv ⟨false,⟨true,0,0⟩,y,true,[]⟩ none 0,.bool false]) kj rfl ⟨?_,?_⟩
 ·rw[show al=true from Eal.out]
 ·exact bB D9.2.2.2.2.2.2.1 aa):p:=h
theorem Gu {p:Prop}(h:p:=by
 have HM:=pt;have HSg:=sk;have HSh:=pR;generalize hy:((g.n&&h.n)||(!(aL g.sp h.sp).n||((g.t&&h.t)||((g.f&&h.f)||g.s.any λx=>h.s.contains x))))=y;have Hy:=ah hy;generalize hal:(!cV g h)=al;have Hal:=pB;clear hy hal;generalize bS g=x1 at *;generalize bS h=x2 at *;generalize aL g.sp h.sp=ms at *;have hfld:=rW;generalize hnn:(an g||an h)=nn;have Hnn:=ah hnn;clear hnn;have HNg:=gZ;have HNh:=g7;generalize an g=ng at *;generalize an h=nh at *;go_enter Tryz.func115,Tryz.ntmps115;go_upto_region 1 with fail
 go_cut [8] (λt wy=>∃ob,t=.pointer (some ⟨ob,0,none⟩)/\DG w g ss gc h st hc ob noneG wy)
 case first=>
  exact p8
 obtain⟨ob,rfl,D1⟩:=hcut;obtain⟨⟨g0,g1,g2,g3,g4,g5,g6⟩,gz⟩:=id D1.1;simp only[Nat.zero_add] at g0 g1 g2 g3 g4 g5 g6;obtain⟨⟨k0,k1,k2,k3,k4,k5,k6⟩,kz⟩:=id D1.2.1;simp only[Nat.zero_add] at k0 k1 k2 k3 k4 k5 k6;have fz:=D1.2.2.2.1.1;have fo:=D1.2.2.2.2.2.1.1;have zo:=D1.2.2.2.2.2.2.2;go_upto_region 2 with fail
 go_cut [27] (λt wy=>t=.bool nn/\DG w g ss gc h st hc ob noneG wy)
 case first=>
  exact me
 obtain⟨rfl,D2⟩:=hcut;clear g0 g1 g2 g3 g4 g5 g6 gz k0 k1 k2 k3 k4 k5 k6 kz fz fo zo D1 HNg HNh Hnn;cases nn with
 |true=>
  exact mw
 |false=>
  go_wp2_with fail;go_loopw [11,12] (λcm i wr=>∃(k:Nat) (cb:Bool),k<=g.s.length/\i=.int .i64 k/\cm=.bool cb/\Hid (cb=(g.s.take k).any λx=>h.s.contains x)/\DG w g ss gc h st hc ob noneG wr) (λ_ i _=>g.s.length - (intOf i).toNat)
  case atStart=>exact⟨0,false,Nat.zero_le _,rfl,rfl,gQ,D2⟩
  case round=>
   obtain⟨k,cb,hk,rfl,rfl,HC,DR⟩:=hrel;clear D2;obtain⟨⟨g0,g1,g2,g3,g4,g5,g6⟩,gz⟩:=id DR.1;simp only[Nat.zero_add] at g0 g1 g2 g3 g4 g5 g6;obtain⟨⟨k0,k1,k2,k3,k4,k5,k6⟩,kz⟩:=id DR.2.1;simp only[Nat.zero_add] at k0 k1 k2 k3 k4 k5 k6;have fz:=DR.2.2.2.1.1;have fo:=DR.2.2.2.2.2.1.1;have zo:=DR.2.2.2.2.2.2.2;by_cases hlt:k < g.s.length
   ·have IR:=pq
    exact my
   ·have ek:k=g.s.length:=by omega
    have HA:=sD;subst ek;clear hlt;clear HC;obtain⟨⟨o0,o1,o2,o3,o4,o5,o6⟩,oz⟩:=id DR.2.2.2.2.1;simp only[Nat.zero_add] at o0 o1 o2 o3 o4 o5 o6;simp only[noneG] at o0 o1 o2 o3 o4 o5 o6;go_upto_region 17 with fail
    go_cut [11,98] (λt t' wy=>DG w g ss gc h st hc ob ⟨false,⟨true,0,0⟩,y,false,[]⟩ wy)
    case first=>
     exact CM
    have D6:=hcut;clear DR g0 g1 g2 g3 g4 g5 g6 gz k0 k1 k2 k3 k4 k5 k6 kz fz fo zo o0 o1 o2 o3 o4 o5 o6 oz hcut Hy HA HM;go_wp2_with fail;have KS:=pL;generalize wc=w6 at *;have D7:=D6.drew;refine wp_region_held_drew (S:=pK w.heap.size g ss gc h st hc) ae (KS _ D7) (λhHeld=> ?_);unfold pK at hHeld KS |-;clear D6;generalize w6.drew=w7 at *;refine vH 0 ?_ ?_;refine wpAnyH_ready (rs:=[1]) ae ag ?_;refine AllReadyH.cons rfl (λK hK=> ?_) AllReadyH.nil;go_simp;refine(HSg.out _).mono ?_;rintro e w8 ⟨rfl,hb8⟩;have D8:=D7.call hb8;refine hK.out _ _ (KS _ D8) (λhHeld8=> ?_);clear hK K hb8 D7;refine sm ?_;refine vH 2 ?_ ?_;have Hlt:Hid (decide (x1 < 0)=false):=decide_eq_false (by have:=hS0.out;omega)
    rw[Hlt.out];have hne:=hS1.out;clear hS0 hS1
    ·
     refine vH 3 ?_ ?_;refine vH 4 ?_ ?_;refine vH 6 ?_ ?_;refine wpAnyH_ready (rs:=[5]) ae ag ?_;refine AllReadyH.cons rfl (λK hK=> ?_) AllReadyH.nil;go_simp;refine(HSg.out _).mono ?_;rintro e w9 ⟨rfl,hb9⟩;have D9:=D8.call hb9;refine hK.out _ _ (KS _ D9) (λhHeld9=> ?_);clear hK K hb9 D8;refine sm ?_;refine wpAnyH_ready (rs:=[7]) ae ag ?_;refine AllReadyH.cons rfl (λK hK=> ?_) AllReadyH.nil;go_simp;refine(HSh.out _).mono ?_;rintro e w10 ⟨rfl,hb10⟩;have D10:=D9.call hb10;refine hK.out _ _ (KS _ D10) (λhHeld10=> ?_);clear hK K hb10 D9;refine sm ?_;subst hne;refine vH 8 ?_ ?_;refine vH 9 ?_ ?_;refine vH 10 ?_ ?_;refine vH 11 ?_ ?_;refine vH 12 ?_ ?_;refine vH 13 ?_ ?_;refine vH 14 ?_ ?_;have h4:(g.sp.n==h.sp.n)=false\/((g.sp.n==h.sp.n)=true/\(g.sp.lo==h.sp.lo)=false)\/((g.sp.n==h.sp.n)=true/\(g.sp.lo==h.sp.lo)=true/\(g.sp.hi==h.sp.hi)=false)\/((g.sp.n==h.sp.n)=true/\(g.sp.lo==h.sp.lo)=true/\(g.sp.hi==h.sp.hi)=true):=by
      cases (g.sp.n==h.sp.n)<;>cases (g.sp.lo==h.sp.lo)<;>cases (g.sp.hi==h.sp.hi)<;>simp
     rcases h4 with q1|⟨q1,q2⟩|⟨q1,q2,q3⟩|⟨q1,q2,q3⟩
     ·have Eal:Hid (al=true):=by show _=_;rw[Hal.out,Hlt.out,decide_eq_true (p:=g.sp≠h.sp) (λe=>by rw[e] at q1;simp at q1)];simp
      exact iH
     ·have Eal:Hid (al=true):=by show _=_;rw[Hal.out,Hlt.out,decide_eq_true (p:=g.sp≠h.sp) (λe=>by rw[e] at q2;simp at q2)];simp
      exact iH
     ·have Eal:Hid (al=true):=by show _=_;rw[Hal.out,Hlt.out,decide_eq_true (p:=g.sp≠h.sp) (λe=>by rw[e] at q3;simp at q3)];simp
      exact iH
     ·have Eal:Hid (al=false):=by show _=_;rw[Hal.out,Hlt.out,Nn q1 q2 q3];simp
      refine vH 15 ?_ ?_;refine vH 16 ?_ ?_;refine vH 17 ?_ ?_;obtain⟨⟨o0,o1,o2,o3,o4,o5,o6⟩,oz⟩:=id D10.2.2.2.2.1;simp only[Nat.zero_add] at o0 o1 o2 o3 o4 o5 o6;have fo:=D10.2.2.2.2.2.1.1;have D9:=D10.f (y:=false);refine wpAnyH_ready (rs:=[18]) ae ag ?_;refine AllReadyH.cons rfl (λK hK=> ?_) AllReadyH.nil;go_simp;refine hK.out _ (w10.setCell ⟨ob,5,none⟩ (.bool false)) (KS _ D9) (λhHeldz=> ?_);clear hK K o0 o1 o2 o3 o4 o5 o6 oz fo D10;refine sm ?_;generalize w10.setCell ⟨ob,5,none⟩ (.bool false)=w9 at *;refine wpAnyH_done ae ?_ _;obtain⟨⟨r0,r1,r2,r3,r4,r5,r6⟩,rz⟩:=id D9.2.2.1;simp only[Nat.zero_add] at r0 r1 r2 r3 r4 r5 r6;obtain⟨⟨o0,o1,o2,o3,o4,o5,o6⟩,oz⟩:=id D9.2.2.2.2.1;simp only[Nat.zero_add] at o0 o1 o2 o3 o4 o5 o6;simp only[bF] at r0 r1 r2 r3 r4 r5 r6;have fz:=D9.2.2.2.1.1;have fo:=D9.2.2.2.2.2.1.1;have zo:=D9.2.2.2.2.2.2.2;go_wp2;refine bodyPost_ret (v:=.tuple #[gv ⟨false,⟨true,0,0⟩,y,false,[]⟩ none 0,.bool false]) kj rfl ⟨?_,?_⟩
      ·rw[show al=false from Eal.out]
      ·exact bB D9.2.2.2.2.2.2.1 aa):p:=h
theorem rO {p:Prop}(h:p:=by
 generalize hnn:(an g||an h)=nn;have Hnn:=ah hnn;clear hnn;have HNg:=gZ;have HNh:=g7;generalize an g=ng at *;generalize an h=nh at *;go_enter Tryz.func115,Tryz.ntmps115;go_upto_region 1 with fail
 go_cut [8] (λt wy=>∃ob,t=.pointer (some ⟨ob,0,none⟩)/\DG w g ss gc h st hc ob noneG wy)
 case first=>
  exact p8
 obtain⟨ob,rfl,D1⟩:=hcut;obtain⟨⟨g0,g1,g2,g3,g4,g5,g6⟩,gz⟩:=id D1.1;simp only[Nat.zero_add] at g0 g1 g2 g3 g4 g5 g6;obtain⟨⟨k0,k1,k2,k3,k4,k5,k6⟩,kz⟩:=id D1.2.1;simp only[Nat.zero_add] at k0 k1 k2 k3 k4 k5 k6;have fz:=D1.2.2.2.1.1;have fo:=D1.2.2.2.2.2.1.1;have zo:=D1.2.2.2.2.2.2.2;go_upto_region 2 with fail
 go_cut [27] (λt wy=>t=.bool nn/\DG w g ss gc h st hc ob noneG wy)
 case first=>
  go_wp2_with fail;refine(HNg.out _).mono ?_;rintro e w2 ⟨rfl,hb2⟩;have D2:=D1.call hb2;clear g0 g1 g2 g3 g4 g5 g6 gz k0 k1 k2 k3 k4 k5 k6 kz fz fo;cases ng with
  |true=>
   go_wp2_with fail;go_meet;exact iT
  |false=>
   obtain⟨⟨k0,k1,k2,k3,k4,k5,k6⟩,kz⟩:=id D2.2.1;simp only[Nat.zero_add] at k0 k1 k2 k3 k4 k5 k6;have fz:=D2.2.2.2.1.1;have fo:=D2.2.2.2.2.2.1.1;have zo2:=D2.2.2.2.2.2.2.2;go_wp2_with fail;refine(HNh.out _).mono ?_;rintro e w3 ⟨rfl,hb3⟩;have D3:=D2.call hb3;go_wp2_with fail;go_meet;exact⟨by rw[<-Hnn.out];first|done|rfl|simp,D3⟩
 obtain⟨rfl,D2⟩:=hcut;clear g0 g1 g2 g3 g4 g5 g6 gz k0 k1 k2 k3 k4 k5 k6 kz fz fo zo D1 HNg HNh Hnn;cases nn with
 |true=>
  obtain⟨⟨g0,g1,g2,g3,g4,g5,g6⟩,gz⟩:=id D2.1;simp only[Nat.zero_add] at g0 g1 g2 g3 g4 g5 g6;obtain⟨⟨r0,r1,r2,r3,r4,r5,r6⟩,rz⟩:=id D2.2.2.1;simp only[Nat.zero_add] at r0 r1 r2 r3 r4 r5 r6;obtain⟨⟨o0,o1,o2,o3,o4,o5,o6⟩,oz⟩:=id D2.2.2.2.2.1;simp only[Nat.zero_add] at o0 o1 o2 o3 o4 o5 o6;simp only[bF] at r0 r1 r2 r3 r4 r5 r6;have fz:=D2.2.2.2.1.1;have fo:=D2.2.2.2.2.2.1.1;have zo:=D2.2.2.2.2.2.2.2;simp only[noneG] at o0 o1 o2 o3 o4 o5 o6;go_wp2;refine bodyPost_ret (v:=.tuple #[gv noneG none 0,.bool false]) oH rfl ⟨?_,?_⟩
  ·rfl
  ·exact nc
 |false=>
  obtain⟨⟨g0,g1,g2,g3,g4,g5,g6⟩,gz⟩:=id D2.1;simp only[Nat.zero_add] at g0 g1 g2 g3 g4 g5 g6;obtain⟨⟨k0,k1,k2,k3,k4,k5,k6⟩,kz⟩:=id D2.2.1;simp only[Nat.zero_add] at k0 k1 k2 k3 k4 k5 k6;have fz:=D2.2.2.2.1.1;have fo:=D2.2.2.2.2.2.1.1;have zo:=D2.2.2.2.2.2.2.2;go_upto_region 25 with fail
  go_cut [159] (λt wy=>DG w g ss gc h st hc ob ⟨false,sp,false,false,[]⟩ wy)
  case first=>
   go_wp2_with fail;refine(HD.out _).mono ?_;rintro e w3 ⟨rfl,hb3⟩;have D3:=D2.call hb3;clear hb3 D2 g0 g1 g2 g3 g4 g5 g6 gz k0 k1 k2 k3 k4 k5 k6 kz fz fo zo;obtain⟨⟨o0,o1,o2,o3,o4,o5,o6⟩,oz⟩:=id D3.2.2.2.2.1;simp only[Nat.zero_add] at o0 o1 o2 o3 o4 o5 o6;have fz:=D3.2.2.2.1.1;have fo:=D3.2.2.2.2.2.1.1;have zo:=D3.2.2.2.2.2.2.2;simp only[noneG] at o0 o1 o2 o3 o4 o5 o6;go_wp2_with fail;go_meet;exact D3.sp
  have D3:=hcut;clear D2 g0 g1 g2 g3 g4 g5 g6 gz k0 k1 k2 k3 k4 k5 k6 kz fz fo zo hcut;generalize ho:(⟨false,sp,false,false,[]⟩:Gs)=o at D3;have HO:Hid (Ending.returned (.tuple #[gv o none 0,.bool wr])=Ending.returned (.tuple #[gv ⟨false,sp,false,false,[]⟩ none 0,.bool wr])):=by show _=_;rw[<-ho]
  clear ho;go_wp2_with fail;generalize wc=w3 at *;have KS:=Gm;have KSp:=GJ;have D4:=D3.drew;refine wp_region_held_drew (S:=DI w.heap.size ob g ss gc h st hc o) ae (KS _ D4) (λhHeld=> ?_);unfold DI at hHeld KS KSp |-;clear D3;generalize w3.drew=w4 at *;refine vH 0 ?_ ?_;refine vH 1 ?_ ?_;refine wpAnyH_ready (rs:=[2]) ae ag ?_;refine AllReadyH.cons rfl (λK hK=> ?_) AllReadyH.nil;go_simp;refine(HOg.out _).mono ?_;rintro e w5 ⟨rfl,hb5⟩;have D5:=D4.call hb5;refine hK.out _ _ (KS _ D5) (λhHeld5=> ?_);clear hK K hb5 D4;refine sm ?_;cases og with
  |true=>
   have ewr:wr=true:=uC;subst ewr;refine vH 3 ?_ ?_;refine uH 4 ?_;refine sm ?_;refine uH 5 ?_;refine sm ?_;refine vH 6 ?_ ?_;obtain⟨⟨r0,r1,r2,r3,r4,r5,r6⟩,rz⟩:=id D5.2.2.1;simp only[Nat.zero_add] at r0 r1 r2 r3 r4 r5 r6;simp only[bF] at r0 r1 r2 r3 r4 r5 r6;have fz:=D5.2.2.2.1.1;have zo:=D5.2.2.2.2.2.2.2;refine wpAnyH_ready (rs:=[7]) ae ag ?_;refine AllReadyH.cons rfl (λK hK=> ?_) AllReadyH.nil;go_simp;refine hK.out _ (Go.Proofs.YtmapdpcfanecdabGreatDoor.i7 w5 (w.heap.size+1+1) (.bool o.n) (.bool o.sp.n) (.int .i64 o.sp.lo) (.int .i64 o.sp.hi) (.bool o.t) (.bool o.f) (.slice none o.s.length 0)) (KSp _ D5) (λhHeldz=> ?_);clear hK K;refine sm ?_;refine vH 8 ?_ ?_;refine wpAnyH_done ae ?_ _;go_wp2;refine bodyPost_ret (v:=.tuple #[gv o none 0,.bool true]) uL rfl ⟨HO.out,?_⟩;exact bB D5.2.2.2.2.2.2.1 aa
  |false=>
   have ewr:wr=oh:=uC;subst ewr;refine vH 3 ?_ ?_;refine vH 4 ?_ ?_;refine wpAnyH_ready (rs:=[5]) ae ag ?_;refine AllReadyH.cons rfl (λK hK=> ?_) AllReadyH.nil;go_simp;refine(HOh.out _).mono ?_;rintro e w6 ⟨rfl,hb6⟩;have D6:=D5.call hb6;refine hK.out _ _ (KS _ D6) (λhHeld6=> ?_);clear hK K hb6 D5;refine sm ?_;refine vH 6 ?_ ?_;obtain⟨⟨r0,r1,r2,r3,r4,r5,r6⟩,rz⟩:=id D6.2.2.1;simp only[Nat.zero_add] at r0 r1 r2 r3 r4 r5 r6;simp only[bF] at r0 r1 r2 r3 r4 r5 r6;have fz:=D6.2.2.2.1.1;have zo:=D6.2.2.2.2.2.2.2;refine wpAnyH_ready (rs:=[7]) ae ag ?_;refine AllReadyH.cons rfl (λK hK=> ?_) AllReadyH.nil;go_simp;refine hK.out _ (Go.Proofs.YtmapdpcfanecdabGreatDoor.i7 w6 (w.heap.size+1+1) (.bool o.n) (.bool o.sp.n) (.int .i64 o.sp.lo) (.int .i64 o.sp.hi) (.bool o.t) (.bool o.f) (.slice none o.s.length 0)) (KSp _ D6) (λhHeldz=> ?_);clear hK K;refine sm ?_;refine vH 8 ?_ ?_;refine wpAnyH_done ae ?_ _;go_wp2;refine bodyPost_ret (v:=.tuple #[gv o none 0,.bool wr]) uL rfl ⟨HO.out,?_⟩;exact bB D6.2.2.2.2.2.2.1 aa):p:=h
theorem Wt (w:World)(g:Gs)(ss:oA)(gc:Nat)(h:Gs)(st:oA)(hc:Nat):
  Calls pG 115 #[I Y 10,gv g ss gc,gv h st hc] w λe w'=>e=Rt (if an g=true then Tu #[gv noneG nO 0,Bb false] else Tu #[gv ⟨false,⟨true,0,0⟩,cR g,cd g,[]⟩ nO 0,Bb false])/\bl w w':=by
 have HT:=ah (λw=>vX g ss gc w);generalize cd g=yy at *;generalize cR g=no at *;generalize hnn:an g=nn;have Hnn:=ah hnn;clear hnn;have HNg:=gZ;have HNh:=g7;generalize an g=ng at *;generalize an h=nh at *;go_enter Tryz.func115,Tryz.ntmps115;go_upto_region 1 with fail
 go_cut [8] (λt wy=>∃ob,t=Pp (sO ⟨ob,0,nO⟩)/\DG w g ss gc h st hc ob noneG wy)
 case first=>
  go_wp2_with fail;refine(fE _).mono ?_;rintro e w1 ⟨rfl,hb1⟩;have D1:=mI hb1;go_wp2_with fail;go_meet;refine⟨w1.heap.size,rfl,?_⟩;exact D1
 obtain⟨ob,rfl,D1⟩:=hcut;obtain⟨⟨g0,g1,g2,g3,g4,g5,g6⟩,gz⟩:=id D1.1;simp only[j0] at g0 g1 g2 g3 g4 g5 g6;obtain⟨⟨k0,k1,k2,k3,k4,k5,k6⟩,kz⟩:=id D1.2.1;simp only[j0] at k0 k1 k2 k3 k4 k5 k6;have fz:=D1.2.2.2.1.1;have fo:=D1.2.2.2.2.2.1.1;have zo:=D1.2.2.2.2.2.2.2;go_upto_region 2 with fail
 go_cut [27] (λt wy=>t=Bb nn/\DG w g ss gc h st hc ob noneG wy)
 case first=>
  go_wp2_with fail;refine(HNg.out _).mono ?_;rintro e w2 ⟨rfl,hb2⟩;have D2:=D1.call hb2;clear g0 g1 g2 g3 g4 g5 g6 gz k0 k1 k2 k3 k4 k5 k6 kz fz fo;cases ng with
  |true=>
   go_wp2_with fail;go_meet;exact iT
  |false=>
   go_wp2_with fail;go_meet;exact iT
 obtain⟨rfl,D2⟩:=hcut;clear g0 g1 g2 g3 g4 g5 g6 gz k0 k1 k2 k3 k4 k5 k6 kz fz fo zo D1 HNg HNh Hnn;cases nn with
 |true=>
  obtain⟨⟨g0,g1,g2,g3,g4,g5,g6⟩,gz⟩:=id D2.1;simp only[j0] at g0 g1 g2 g3 g4 g5 g6;obtain⟨⟨r0,r1,r2,r3,r4,r5,r6⟩,rz⟩:=id D2.2.2.1;simp only[j0] at r0 r1 r2 r3 r4 r5 r6;obtain⟨⟨o0,o1,o2,o3,o4,o5,o6⟩,oz⟩:=id D2.2.2.2.2.1;simp only[j0] at o0 o1 o2 o3 o4 o5 o6;simp only[bF] at r0 r1 r2 r3 r4 r5 r6;have fz:=D2.2.2.2.1.1;have fo:=D2.2.2.2.2.2.1.1;have zo:=D2.2.2.2.2.2.2.2;simp only[noneG] at o0 o1 o2 o3 o4 o5 o6;go_wp2;refine bodyPost_ret (v:=Tu #[gv noneG nO 0,Bb false]) oH rfl ⟨?_,?_⟩
  ·rfl
  ·exact nc
 |false=>
  obtain⟨⟨g0,g1,g2,g3,g4,g5,g6⟩,gz⟩:=id D2.1;simp only[j0] at g0 g1 g2 g3 g4 g5 g6;have fz:=D2.2.2.2.1.1;have fo:=D2.2.2.2.2.2.1.1;have zo:=D2.2.2.2.2.2.2.2;go_wp2_with fail;refine(HT.out _).mono ?_;rintro e w3 ⟨rfl,hb3⟩;have D3:=D2.call hb3;clear hb3 D2 g0 g1 g2 g3 g4 g5 g6 gz fz fo zo;obtain⟨⟨r0,r1,r2,r3,r4,r5,r6⟩,rz⟩:=id D3.2.2.1;simp only[j0] at r0 r1 r2 r3 r4 r5 r6;obtain⟨⟨o0,o1,o2,o3,o4,o5,o6⟩,oz⟩:=id D3.2.2.2.2.1;simp only[j0] at o0 o1 o2 o3 o4 o5 o6;simp only[bF] at r0 r1 r2 r3 r4 r5 r6;have fz:=D3.2.2.2.1.1;have fo:=D3.2.2.2.2.2.1.1;have zo:=D3.2.2.2.2.2.2.2;simp only[noneG] at o0 o1 o2 o3 o4 o5 o6;have hne:ob≠w.heap.size+1+1:=aa;go_wp2;refine bodyPost_ret (v:=Tu #[gv ⟨false,⟨true,0,0⟩,no,yy,[]⟩ nO 0,Bb false]) kj rfl ⟨?_,?_⟩
  ·rfl
  ·exact bB ((D3.2.2.2.2.2.2.1.setCell ap _).setCell ap _) aa
end
end Go.Proofs.YtmapdpcfanecdabGreatDoor
