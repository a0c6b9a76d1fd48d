import Derived.Test.YtmapdpcfanecdabGreatDoorU09
open Go.Ending renaming returned→Rt
open Go.IntKind renaming i64→Y
open Go.Obj renaming cells→Cc
open Go.Proofs.Tryz renaming prog→pG
open Go.RowKit.Below renaming refl→bR
open Go.Value renaming bool→Bb,int→I,pointer→Pp,slice→U,tuple→Tu
open Go.World renaming size_alloc→zA
open Nat renaming le_refl→lR
open Option renaming none→nO,some→sO
set_option linter.unusedSimpArgs false
set_option linter.unusedVariables false
set_option maxHeartbeats 4000000
set_option maxRecDepth 100000
namespace Go.Proofs.YtmapdpcfanecdabGreatDoor
section
open Go.RowKit
theorem lF (l:List Gs)(p:Gs->Bool)(k:Nat)(h:k < l.length):(l.drop k).any p=(p l[k]||(l.drop (k+1)).any p):=by
 rw[List.drop_eq_getElem_cons h];rfl

theorem yl (g:Gs)(ss:oA)(gc:Nat)(w:World):
  Calls pG 246 #[gv g ss gc] w λe w'=>e=Rt (Bb (aL g))/\bl w w':=by
 have HO:Hid (aL g=(g.n||(g.t||(g.f||decide (0 < g.s.length))))):=rfl;generalize aL g=o at *;obtain⟨n,⟨sn,lo,hi⟩,t,f,s⟩:=g;cases n;all_goals cases t
 all_goals cases f
 all_goals
  go_enter Tryz.func246,Tryz.ntmps246;go_wp2;go_ret;exact⟨bj (by rw[HO.out];simp),ai⟩

theorem ub {p:Prop}(h:p:=by
 refine(HF.out L[k] ss gc _).mono ?_;rintro e w1 ⟨rfl,hb1⟩;cases hp:p L[k] with
 |true=>
  have HT:Hid (L.any p=true):=fI;clear HN HA;go_wp2;go_ret;exact⟨_,rfl,iH,hbr.trans (hb1.mono s0)⟩
 |false=>
  have HT:Hid (L.any p=(L.drop (k+1)).any p):=fI;have hR':=hR.call hb1;clear HN HA;go_wp2;go_roundw
  case rel=>exact⟨k+1,aa,aJ,hR',hbr.trans (hb1.mono s0),HT⟩
  case measure=>simp[intOf];omega):p:=h
theorem rM (p:Gs->Bool)(ls:oA)(L:List Gs)(lc:Nat)(w:World)(hl:L.length<=9223372036854775807)(hL:GhAt w ls L)
  (hF:∀g ss gc wx,Calls pG 246 #[gv g ss gc] wx λe w'=>e=Rt (Bb (p g))/\bl wx w'):
  Calls pG 193 #[U ls L.length lc,.func (.func 246) #[] #[]] w λe w'=>∃n:Int,e=Rt (I Y n)/\decide (0<=n)=L.any p/\bl w w':=by
 have HF:=ae hF;clear hF;go_enter Tryz.func193,Tryz.ntmps193;go_wp2;go_loopw [8] (λi wr=>∃k:Nat,k<=L.length/\i=I Y k/\GhAt wr ls L/\bl w wr/\Hid (L.any p=(L.drop k).any p)) (λi _=>L.length - (intOf i).toNat)
 case atStart=>exact⟨0,Nat.zero_le _,rfl,hL,bR _ _,rfl⟩
 case round=>
  obtain⟨k,hk,rfl,hR,hbr,HA⟩:=hrel;by_cases hlt:k < L.length
  ·obtain⟨b,off,rfl,ss,gc,hG⟩:=hR k hlt
   obtain⟨⟨g0,g1,g2,g3,g4,g5,g6⟩,gz⟩:=id hG;have n0:(0:Int)<=(k:Int):=aa;have n1:(k:Int) < (L.length:Int):=aa;have s0:=hbr.size;have HN:Hid ((L.drop k).any p=(p L[k]||(L.drop (k+1)).any p)):=lF L p k hlt;go_wp2_with fail;exact ub
  ·go_wp2
   go_ret;exact⟨_,rfl,ia,hbr⟩

theorem nS (p:Gs->Bool)(ls:oA)(L:List Gs)(lc:Nat)(w:World)(hl:L.length<=9223372036854775807)(hL:GhAt w ls L)
  (hF:∀g ss gc wx,Calls pG 246 #[gv g ss gc] wx λe w'=>e=Rt (Bb (p g))/\bl wx w'):
  Calls pG 141 #[U ls L.length lc,.func (.func 246) #[] #[]] w λe w'=>e=Rt (Bb (L.any p))/\bl w w':=by
 have HF:=ae hF;clear hF;go_enter Tryz.func141,Tryz.ntmps141;go_wp2_with fail;refine(rM p ls L lc _ hl hL HF.out).mono ?_;rintro e w1 ⟨n,rfl,hn,hb1⟩;go_wp2;go_ret;exact⟨rfl,hb1⟩

theorem oD (ls:oA)(L:List Gs)(lc:Nat)(w:World)(hl:L.length<=9223372036854775807)(hL:GhAt w ls L):
  Calls pG 232 #[U ls L.length lc] w λe w'=>e=Rt (Bb (L.any aL))/\bl w w':=by
 go_enter Tryz.func232,Tryz.ntmps232;go_wp2_with fail;refine(nS aL ls L lc _ hl hL λg ss gc wx=>yl g ss gc wx).mono ?_;rintro e w1 ⟨rfl,hb1⟩;go_wp2;go_ret;exact⟨rfl,hb1⟩

theorem uE (g:Gs)(ss:oA)(gc:Nat)(w:World):
  Calls pG 247 #[gv g ss gc] w λe w'=>e=Rt (Bb (ap g))/\bl w w':=by
 have HO:Hid (ap g=(g.sp.n&& !aL g)):=rfl;have hA:=oD (sO ⟨w.heap.size+1,0,nO⟩) [g] 1;have G0:=GhAt.new1 (w.alloc (Cc #[Bb g.n,Bb g.sp.n,I Y g.sp.lo,I Y g.sp.hi,Bb g.t,Bb g.f,U ss g.s.length gc] 91)) g ss gc;rw[zA] at G0;rw[show [g].any aL=aL g by simp] at hA;have HA:=ae hA;clear hA;generalize aL g=oo at *;generalize ap g=o at *;obtain⟨n,⟨sn,lo,hi⟩,t,f,s⟩:=g;cases sn with
 |true=>
  go_enter Tryz.func247,Tryz.ntmps247;go_wp2_with fail;refine(HA.out _ ah G0).mono ?_;rintro e w1 ⟨rfl,hb1⟩;go_wp2;go_ret;exact⟨bj (by rw[HO.out];simp),Below.trans ai (hb1.mono an)⟩
 |false=>
  go_enter Tryz.func247,Tryz.ntmps247;go_wp2;go_ret;exact⟨bj (by rw[HO.out];rfl),ai⟩

theorem ou (p:Gs->Bool)(ls:oA)(L:List Gs)(lc:Nat)(w:World)(hl:L.length<=9223372036854775807)(hL:GhAt w ls L)
  (hF:∀g ss gc wx,Calls pG 247 #[gv g ss gc] wx λe w'=>e=Rt (Bb (p g))/\bl wx w'):
  Calls pG 193 #[U ls L.length lc,.func (.func 247) #[] #[]] w λe w'=>∃n:Int,e=Rt (I Y n)/\decide (0<=n)=L.any p/\bl w w':=by
 have HF:=ae hF;clear hF;go_enter Tryz.func193,Tryz.ntmps193;go_wp2;go_loopw [8] (λi wr=>∃k:Nat,k<=L.length/\i=I Y k/\GhAt wr ls L/\bl w wr/\Hid (L.any p=(L.drop k).any p)) (λi _=>L.length - (intOf i).toNat)
 case atStart=>exact⟨0,Nat.zero_le _,rfl,hL,bR _ _,rfl⟩
 case round=>
  obtain⟨k,hk,rfl,hR,hbr,HA⟩:=hrel;by_cases hlt:k < L.length
  ·obtain⟨b,off,rfl,ss,gc,hG⟩:=hR k hlt
   obtain⟨⟨g0,g1,g2,g3,g4,g5,g6⟩,gz⟩:=id hG;have n0:(0:Int)<=(k:Int):=aa;have n1:(k:Int) < (L.length:Int):=aa;have s0:=hbr.size;have HN:Hid ((L.drop k).any p=(p L[k]||(L.drop (k+1)).any p)):=lF L p k hlt;go_wp2_with fail;exact ub
  ·go_wp2
   go_ret;exact⟨_,rfl,ia,hbr⟩

theorem mo (p:Gs->Bool)(ls:oA)(L:List Gs)(lc:Nat)(w:World)(hl:L.length<=9223372036854775807)(hL:GhAt w ls L)
  (hF:∀g ss gc wx,Calls pG 247 #[gv g ss gc] wx λe w'=>e=Rt (Bb (p g))/\bl wx w'):
  Calls pG 141 #[U ls L.length lc,.func (.func 247) #[] #[]] w λe w'=>e=Rt (Bb (L.any p))/\bl w w':=by
 have HF:=ae hF;clear hF;go_enter Tryz.func141,Tryz.ntmps141;go_wp2_with fail;refine(ou p ls L lc _ hl hL HF.out).mono ?_;rintro e w1 ⟨n,rfl,hn,hb1⟩;go_wp2;go_ret;exact⟨rfl,hb1⟩

theorem iB (ls:oA)(L:List Gs)(lc:Nat)(w:World)(hl:L.length<=9223372036854775807)(hL:GhAt w ls L):
  Calls pG 233 #[U ls L.length lc] w λe w'=>e=Rt (Bb (L.any ap))/\bl w w':=by
 go_enter Tryz.func233,Tryz.ntmps233;go_wp2_with fail;refine(mo ap ls L lc _ hl hL λg ss gc wx=>uE g ss gc wx).mono ?_;rintro e w1 ⟨rfl,hb1⟩;go_wp2;go_ret;exact⟨rfl,hb1⟩

theorem rC (ls:oA)(L:List Gs)(lc:Nat)(w:World)(hl:L.length<=9223372036854775807)(hL:GhAt w ls L):
  Calls pG 203 #[U ls L.length lc] w λe w'=>e=Rt (Bb (L.any aL&& !L.any ap))/\bl w w':=by
 have H1:=ae (oD ls L lc w hl hL);cases ho:L.any aL with
 |true=>
  rw[ho] at H1;go_enter Tryz.func203,Tryz.ntmps203;go_wp2_with fail;refine H1.out.mono ?_;rintro e w1 ⟨rfl,hb1⟩;go_wp2_with fail;refine(iB ls L lc _ hl (hL.call hb1)).mono ?_;rintro e w2 ⟨rfl,hb2⟩;go_wp2;go_ret;exact⟨rfl,hb1.trans (hb2.mono hb1.size)⟩
 |false=>
  rw[ho] at H1;go_enter Tryz.func203,Tryz.ntmps203;go_wp2_with fail;refine H1.out.mono ?_;rintro e w1 ⟨rfl,hb1⟩;go_wp2;go_ret;exact⟨rfl,hb1⟩

theorem Ki (s t:Sp)(w:World):
  Calls pG 205 #[sv s,sv t] w λe w'=>e=Rt (Tu #[Bb (!(s.n||t.n)&&decide (s.lo < t.hi)),Bb (!(s.n||t.n)&&decide (t.lo<=s.hi))])/\bl w w':=by
 obtain⟨sn,lo,hi⟩:=s;obtain⟨tn,lo',hi'⟩:=t;cases sn with
 |true=>
  go_enter Tryz.func205,Tryz.ntmps205;go_wp2
  go_ret2
  exact⟨rfl,ai⟩
 |false=>
  cases tn with
  |true=>
   go_enter Tryz.func205,Tryz.ntmps205;go_wp2
   go_ret2
   exact⟨rfl,ai⟩
  |false=>
   go_enter Tryz.func205,Tryz.ntmps205;go_wp2
   go_quiet (fail)
   go_wp2
   go_ret2
   exact⟨kY ah ah,below_drewN ai _⟩

theorem ku (y n:Bool)(w:World):
  Calls pG 204 #[Bb y,Bb n] w λe w'=>e=Rt (gv ⟨false,⟨true,0,0⟩,y,n,[]⟩ nO 0)/\bl w w':=by
 go_enter Tryz.func204,Tryz.ntmps204;go_wp2
 go_returns
 exact⟨rfl,ai⟩
end
section
open Go.RowKit
attribute [local go_sem ↓] Go.wp_at_zero Go.wp_at_succ
theorem iG (sb:Nat)(at_:Int)(cs:List Value)(w:World)(h:Cells w sb cs)(h9:cs[9]? =sO (I Y at_))(h0:0<=at_)(h1:at_<=1000):
  Calls pG 92 #[Pp (sO ⟨sb,0,nO⟩)] w λe w'=>e=Rt (I Y (at_+1))/\w'=w:=by
 have c9:=h.1 9 _ h9;clear h h9;go_enter Tryz.func92,Tryz.ntmps92;go_wp2;go_ret;exact⟨bP aJ,rfl⟩
theorem Bd {s:Sp}(hs:s.Ok):bV s=(if (if s.lo=0 then aF s ⟨false,1,2147483647⟩ else s).hi=0 then aF (if s.lo=0 then aF s ⟨false,1,2147483647⟩ else s) ⟨false,-2147483648,-1⟩ else(if s.lo=0 then aF s ⟨false,1,2147483647⟩ else s)):=by
 obtain⟨⟨a1,a2⟩,⟨a3,a4⟩,a5,a6⟩:=hs;obtain⟨n,lo,hi⟩:=s;simp only at a1 a2 a3 a4 a5 a6;cases n with
 |true=>
  obtain⟨rfl,rfl⟩:=a5 rfl;rfl
 |false=>
  by_cases h1:lo=0
  ·subst h1
   by_cases h2:hi=0
   ·subst h2;rfl
   ·have e1:min hi 2147483647=hi:=by omega
    have e2:max (0:Int) 1=1:=aa;have e3:¬hi < 1:=aa;simp[bV,aF,h2,e1,e2,e3]
  ·by_cases h2:hi=0
   ·subst h2
    have e1:min (0:Int) (-1)= -1:=aa;have e2:max lo (-2147483648)=lo:=aa;have e3:¬ -1 < lo:=aa;simp[bV,aF,h1,e1,e2,e3]
   ·have e3:¬hi < lo:=by omega
    simp[bV,h1,h2,e3]
theorem LB {s t:Sp}(hs:s.Ok)(ht:t.Ok):(aF s t).Ok:=by
 obtain⟨⟨a1,a2⟩,⟨a3,a4⟩,a5,a6⟩:=hs;obtain⟨⟨b1,b2⟩,⟨b3,b4⟩,b5,b6⟩:=ht;unfold aF;split
 ·exact fG
 ·rename_i h
  simp only[Bool.or_eq_true,decide_eq_true_eq,not_or] at h;exact iz aa aa aa
theorem Ef {s t:Sp}(hs:s.Ok)(ht:t.Ok):bu s t=0:=ckSps_ok.2 ⟨hs,ht⟩
theorem tX (s:Sp)(w:World)(hs:s.Ok):
  Calls pG 157 #[sv s] w λe w'=>e=Rt (sv (bV s))/\bl w w':=by
 rw[Bd hs];have HM:Hid (∀(a b:Sp) wx,a.Ok->b.Ok->Calls pG 159 #[sv a,sv b] wx λe w'=>e=Rt (Tu #[sv (aF a b),I Y 0])/\bl wx w'):=λa b wx ha hb=>by
  have:=iT a b wx;rw[Ef ha hb] at this;exact this
 have B0:Below w.heap.size w ((w.alloc (Cc #[Bb s.n,I Y s.lo,I Y s.hi] 89)).alloc (Cc #[Bb false,I Y 0,I Y 0] 89)):=ai;have A0:Cells ((w.alloc (Cc #[Bb s.n,I Y s.lo,I Y s.hi] 89)).alloc (Cc #[Bb false,I Y 0,I Y 0] 89)) w.heap.size [Bb s.n,I Y s.lo,I Y s.hi]:=(Cells.new w 89 [Bb s.n,I Y s.lo,I Y s.hi]).call ai;have R0:Cells ((w.alloc (Cc #[Bb s.n,I Y s.lo,I Y s.hi] 89)).alloc (Cc #[Bb false,I Y 0,I Y 0] 89)) (w.heap.size+1) [Bb false,I Y 0,I Y 0]:=by
  have:=Cells.new (w.alloc (Cc #[Bb s.n,I Y s.lo,I Y s.hi] 89)) 89 [Bb false,I Y 0,I Y 0];rw[zA] at this;exact this
 have HK1:Hid ((⟨false,1,2147483647⟩:Sp).Ok):=iz aa aa aa;have HK2:Hid ((⟨false,-2147483648,-1⟩:Sp).Ok):=iz aa aa aa;obtain⟨m1,hm1⟩:∃q,q=(if s.lo=0 then aF s ⟨false,1,2147483647⟩ else s):=⟨_,rfl⟩;rw[<-hm1];have HO1:Hid (m1.Ok):=by
  show m1.Ok;rw[hm1];split
  ·exact LB hs HK1.out
  ·exact hs
 have HM1:=ae hm1;clear hm1;obtain⟨m2,hm2⟩:∃q,q=(if m1.hi=0 then aF m1 ⟨false,-2147483648,-1⟩ else m1):=⟨_,rfl⟩;rw[<-hm2];have HM2:=ae hm2;have HS:=ae hs;clear hm2 hs;go_enter Tryz.func157,Tryz.ntmps157;go_upto_if 5 with fail
 generalize ((w.alloc (Cc #[Bb s.n,I Y s.lo,I Y s.hi] 89)).alloc (Cc #[Bb false,I Y 0,I Y 0] 89))=w0 at *;go_cut [] (λwy=>Cells wy w.heap.size [Bb m1.n,I Y m1.lo,I Y m1.hi]/\Cells wy (w.heap.size+1) [Bb false,I Y 0,I Y 0]/\bl w wy)
 case first=>
  have a0:=A0.1 0 _ rfl;have a1:=A0.1 1 _ rfl;have a2:=A0.1 2 _ rfl;by_cases e:s.lo=0
  ·have e1:=HM1.out
   rw[if_pos e] at e1;have E1:=ae e1;have eb:(s.lo==0)=true:=iy;clear e1 e;have HC:=ae (HM.out s ⟨false,1,2147483647⟩ w0 HS.out HK1.out);rw[<-E1.out] at HC;go_wp2_with fail;refine HC.out.mono ?_;rintro e w1 ⟨rfl,hb1⟩;have A1:=A0.call hb1;have R1:=R0.call hb1;have B1:=B0.trans (hb1.mono B0.size);clear a0 a1 a2 hb1 A0 R0 B0 HC;have b0:=A1.1 0 _ rfl;have b1:=A1.1 1 _ rfl;have b2:=A1.1 2 _ rfl;have f0:=A1.2.2 0;have f1:=A1.2.2 1;have f2:=A1.2.2 2;go_wp2_with fail;go_meet;exact⟨((A1.put 0 ah _).put 1 ah _).put 2 ah _,((R1.far au _).far au _).far au _,((B1.setCell (lR _) _).setCell (lR _) _).setCell (lR _) _⟩
  ·have e1:=HM1.out
   rw[if_neg e] at e1;have eb:(s.lo==0)=false:=iy;clear e;subst e1;go_wp2_with fail;go_meet;exact⟨A0,R0,B0⟩
 obtain⟨A1,R1,B1⟩:=hcut;clear A0 R0 B0;generalize wc=w1 at *;clear wc;have a0:=A1.1 0 _ rfl;have a1:=A1.1 1 _ rfl;have a2:=A1.1 2 _ rfl;go_upto_if 14 with fail
 go_cut [] (λwy=>Cells wy w.heap.size [Bb m2.n,I Y m2.lo,I Y m2.hi]/\Cells wy (w.heap.size+1) [Bb false,I Y 0,I Y 0]/\bl w wy)
 case first=>
  by_cases e:m1.hi=0
  ·have e1:=HM2.out
   rw[if_pos e] at e1;have E1:=ae e1;have eb:(m1.hi==0)=true:=iy;clear e1 e;have HC:=ae (HM.out m1 ⟨false,-2147483648,-1⟩ w1 HO1.out HK2.out);rw[<-E1.out] at HC;go_wp2_with fail;refine HC.out.mono ?_;rintro e w2 ⟨rfl,hb2⟩;have A2:=A1.call hb2;have R2:=R1.call hb2;have B2:=B1.trans (hb2.mono B1.size);clear a0 a1 a2 hb2 A1 R1 B1 HC;have b0:=A2.1 0 _ rfl;have b1:=A2.1 1 _ rfl;have b2:=A2.1 2 _ rfl;have f0:=A2.2.2 0;have f1:=A2.2.2 1;have f2:=A2.2.2 2;go_wp2_with fail;go_meet;exact⟨((A2.put 0 ah _).put 1 ah _).put 2 ah _,((R2.far au _).far au _).far au _,((B2.setCell (lR _) _).setCell (lR _) _).setCell (lR _) _⟩
  ·have e1:=HM2.out
   rw[if_neg e] at e1;have eb:(m1.hi==0)=false:=iy;clear e;subst e1;go_wp2_with fail;go_meet;exact⟨A1,R1,B1⟩
 obtain⟨A2,R2,B2⟩:=hcut;clear A1 R1 B1 a0 a1 a2;generalize wc=w2 at *;clear wc;have b0:=A2.1 0 _ rfl;have b1:=A2.1 1 _ rfl;have b2:=A2.1 2 _ rfl;have d0:=R2.1 0 _ rfl;have d1:=R2.1 1 _ rfl;have d2:=R2.1 2 _ rfl;have f0:=R2.2.2 0;have f1:=R2.2.2 1;have f2:=R2.2.2 2;go_wp2;refine bodyPost_ret (v:=sv m2) (by simp[results,Tryz.results157,go_sem,d0,d1,d2]) rfl ⟨rfl,?_⟩;exact((B2.setCell au _).setCell au _).setCell au _
end
end Go.Proofs.YtmapdpcfanecdabGreatDoor
