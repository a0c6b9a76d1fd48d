import Derived.Test.YtmapdpcfanecdabGreatS04
import Derived.Test.YtmapdpcfanecdabGreatS05
import Derived.Test.YtmapdpcfanecdabGreatS06
import Derived.Test.YtmapdpcfanecdabGreatS07
import Derived.Test.YtmapdpcfanecdabGreatS09
open Go.Ending renaming returned→Rt
open Go.IntKind renaming i64→Y
open Go.Obj renaming cells→Cc
open Go.Proofs.Tryz renaming prog→pG
open Go.RowKit.Below renaming refl→bR
open Go.Value renaming agg→Ag,bool→Bb,int→I,slice→U,tuple→Tu
open Go.World renaming cell?_drew→j3,size_alloc→zA
open List renaming drop_eq_getElem_cons→j2,drop_eq_nil_of_le→j1
open Nat renaming le_refl→lR,zero_le→j0
open Option renaming none→nO,some→sO
set_option linter.unusedSimpArgs false
set_option linter.unusedVariables false
set_option maxHeartbeats 2000000
set_option maxRecDepth 100000
namespace Go.Proofs.YtmapdpcfanecdabGreat
section
open Go.RowKit
theorem sr (V F:Int)(s:oA)(len cap:Nat)(i:Ins)(w:World)(hV:1<=V)(hV':V<=8)(hF:0<=F)(hF':F<=3)(hL:len<=60):
  Calls pG 39 #[Ag #[I Y V,I Y F,U s len cap],Ag #[I Y i.k,I Y i.tgt,I Y i.a,I Y i.b,I Y i.n,I Y i.g]] w λe w'=>e=Rt (I Y (aU V F len i))/\Below w.heap.size w w':=by
 obtain⟨k,tto,a,b,n,g⟩:=i;by_cases h:btw k 1 19=true
 ·rcases kZ h with rfl|rfl|rfl|rfl|rfl|rfl|rfl|rfl|rfl|rfl|rfl|rfl|rfl|rfl|rfl|rfl|rfl|rfl|rfl
  ·exact wV V F s len cap tto a b n g w hV hV' hF hF' hL
  ·exact wL V F s len cap tto a b n g w hV hV' hF hF' hL
  ·exact wH V F s len cap tto a b n g w hV hV' hF hF' hL
  ·exact vC V F s len cap tto a b n g w hV hV' hF hF' hL
  ·exact vO V F s len cap tto a b n g w hV hV' hF hF' hL
  ·exact wG V F s len cap tto a b n g w hV hV' hF hF' hL
  ·exact vt V F s len cap tto a b n g w hV hV' hF hF' hL
  ·exact vG V F s len cap tto a b n g w hV hV' hF hF' hL
  ·exact vI V F s len cap tto a b n g w hV hV' hF hF' hL
  ·exact uj V F s len cap tto a b n g w hV hV' hF hF' hL
  ·exact uD V F s len cap tto a b n g w hV hV' hF hF' hL
  ·exact tY V F s len cap tto a b n g w hV hV' hF hF' hL
  ·exact ui V F s len cap tto a b n g w hV hV' hF hF' hL
  ·exact uf V F s len cap tto a b n g w hV hV' hF hF' hL
  ·exact uo V F s len cap tto a b n g w hV hV' hF hF' hL
  ·exact tQ V F s len cap tto a b n g w hV hV' hF hF' hL
  ·exact ur V F s len cap tto a b n g w hV hV' hF hF' hL
  ·exact uq V F s len cap tto a b n g w hV hV' hF hF' hL
  ·exact tT V F s len cap tto a b n g w hV hV' hF hF' hL
 ·exact ux V F s len cap k tto a b n g w hV hV' hF hF' hL (by simpa using h)

theorem o7 {V F L:Int}{c:List Ins}{k:Nat}(h:k < c.length):dE V F L (c.drop k)=if aU V F L c[k]=0 then dE V F L (c.drop (k+1)) else aU V F L c[k]:=by
 rw[j2 h];rfl

theorem mk (V F:Int)(b off cap:Nat)(c:List Ins)(w:World)(hV:1<=V)(hV':V<=8)(hF:0<=F)(hF':F<=3)(hL:c.length<=60)(hb:b < w.heap.size)(hc:∀k (h:k < c.length),InsAt w b (off+k * 6) c[k]):
  Calls pG 12 #[Ag #[I Y V,I Y F,U (sO ⟨b,off,nO⟩) c.length cap]] w λe w'=>e=Rt (I Y (dE V F c.length c))/\Below w.heap.size w w':=by
 have t1:btw V 1 8=true:=dM hV hV';have t2:btw F 0 3=true:=dM hF hF';go_enter Tryz.func12,Tryz.ntmps12;go_wp2_with (go_at_call 38;refine(cE _ _ _ _).mono ?_;rintro e w' ⟨rfl,rfl⟩);go_loopw [3] (λi wr=>∃k:Nat,k<=c.length/\i=I Y k/\Below (w.heap.size+1) (w.alloc (Cc #[I Y V,I Y F,U (sO ⟨b,off,nO⟩) c.length cap] 24)) wr/\Hid (dE V F c.length (c.drop k)=dE V F c.length c)) (λi _=>c.length - (intOf i).toNat)
 case atStart=>exact⟨0,j0 _,rfl,bR _ _,rfl⟩
 case round=>
  obtain⟨k,hk,rfl,hbr,HR⟩:=hrel;have q0:wr.cell? ⟨w.heap.size,0,nO⟩=sO (I Y V):=by rw[hbr.cell (by simp)];simp[go_sem]
  have q1:wr.cell? ⟨w.heap.size,1,nO⟩=sO (I Y F):=by rw[hbr.cell (by simp)];simp[go_sem]
  have q2:wr.cell? ⟨w.heap.size,2,nO⟩=sO (U (sO ⟨b,off,nO⟩) c.length cap):=by rw[hbr.cell (by simp)];simp[go_sem]
  have s1:w.heap.size < wr.heap.size:=by have:=hbr.size;simp at this;omega
  have s2:b < wr.heap.size:=by omega
  by_cases hlt:k < c.length
  ·have hi:InsAt wr b (off+k * 6) c[k]:=((hc k hlt).below (Below.alloc (bR w.heap.size w) (lR _) _) hb).below hbr (by omega)
   obtain⟨i0,i1,i2,i3,i4,i5⟩:=hi;have n0:(0:Int)<=(k:Int):=by omega
   have n1:(k:Int) < (c.length:Int):=by omega
   go_wp2
   go_region_held3 (λw'=>w'.cell? ⟨w.heap.size,0,nO⟩=sO (I Y V)/\w'.cell? ⟨w.heap.size,1,nO⟩=sO (I Y F)/\w'.cell? ⟨w.heap.size,2,nO⟩=sO (U (sO ⟨b,off,nO⟩) c.length cap)
    /\w'.cell? ⟨b,off+k * 6,nO⟩=sO (I Y c[k].k)/\w'.cell? ⟨b,off+k * 6+1,nO⟩=sO (I Y c[k].tgt)/\w'.cell? ⟨b,off+k * 6+2,nO⟩=sO (I Y c[k].a)/\w'.cell? ⟨b,off+k * 6+3,nO⟩=sO (I Y c[k].b)/\w'.cell? ⟨b,off+k * 6+4,nO⟩=sO (I Y c[k].n)/\w'.cell? ⟨b,off+k * 6+5,nO⟩=sO (I Y c[k].g))
    (first|(simp only[j3,q0,q1,q2,i0,i1,i2,i3,i4,i5,and_self];done)|(simp only[hc1 _ _ (show _ < wr.drew.heap.size from s1),hc1 _ _ (show b < wr.drew.heap.size from s2),j3,q0,q1,q2,i0,i1,i2,i3,i4,i5,and_self];done))
    ((go_at_call 39;refine(sr V F _ _ _ c[k] _ hV hV' hF hF' hL).mono ?_;rintro e w1 ⟨rfl,hb1⟩;obtain⟨hc1,hf1⟩:=sq hb1))
   clear hc1 hf1;have HB:Below (w.heap.size+1) (w.alloc (Cc #[I Y V,I Y F,U (sO ⟨b,off,nO⟩) c.length cap] 24)) w1:=hbr.drew.trans (Below.mono hb1 (show w.heap.size+1<=wr.heap.size by omega));have HS:=o7 (V:=V) (F:=F) (L:=c.length) hlt;by_cases hz:aU V F c.length c[k]=0
   ·rw[hz]
    go_wp2;go_roundw
    case rel=>exact⟨k+1,by omega,by go_num,HB,by have:=HR.out;rw[HS,if_pos hz] at this;exact this⟩
    case measure=>simp[intOf];omega
   ·rw[if_neg hz] at HS
    have hz':(aU V F c.length c[k]!=0)=true:=by simpa using hz
    go_wp2;go_ret;exact⟨bd (by have:=HR.out;rw[HS] at this;exact this),(Below.alloc (bR _ _) (lR _) _).trans (HB.mono (by omega))⟩
  ·go_wp2
   go_ret;exact⟨bd (by have:=HR.out;rw[j1 (by omega)] at this;exact this),(Below.alloc (bR _ _) (lR _) _).trans (hbr.mono (by omega))⟩

theorem mX (V F:Int)(s:oA)(cap:Nat)(w:World)(hV:1<=V)(hV':V<=8)(hF:0<=F)(hF':F<=3):
  Calls pG 12 #[Ag #[I Y V,I Y F,U s 0 cap]] w λe w'=>e=Rt (I Y 0)/\Below w.heap.size w w':=by
 have t1:btw V 1 8=true:=dM hV hV';have t2:btw F 0 3=true:=dM hF hF';go_enter Tryz.func12,Tryz.ntmps12;go_wp2_with (go_at_call 38;refine(cE _ _ _ _).mono ?_;rintro e w' ⟨rfl,rfl⟩)
 go_rounds 1
 go_ret;exact⟨rfl,by go_grown⟩

theorem kA {p:Prop}(h:p:=by
 go_enter Tryz.func12,Tryz.ntmps12;go_wp2_with (go_at_call 38;refine(cE _ _ _ _).mono ?_;rintro e w' ⟨rfl,rfl⟩);go_ret;exact⟨rfl,by go_grown⟩):p:=h
theorem mi (V F:Int)(s:oA)(len cap:Nat)(w:World)(hV:1<=V)(hV':V<=8)(hF:0<=F)(hF':F<=3)(hl:60 < len):
  Calls pG 12 #[Ag #[I Y V,I Y F,U s len cap]] w λe w'=>e=Rt (I Y 2)/\Below w.heap.size w w':=by
 have t1:btw V 1 8=true:=dM hV hV';have t2:btw F 0 3=true:=dM hF hF';have t3:(60:Int) < (len:Int):=by omega
 exact kA

theorem mb (V F:Int)(s:oA)(len cap:Nat)(w:World)(t1:btw V 1 8=false):
  Calls pG 12 #[Ag #[I Y V,I Y F,U s len cap]] w λe w'=>e=Rt (I Y 3)/\Below w.heap.size w w':=by
 exact kA

theorem kS (V F:Int)(s:oA)(len cap:Nat)(w:World)(t1:btw V 1 8=true)(t2:btw F 0 3=false):
  Calls pG 12 #[Ag #[I Y V,I Y F,U s len cap]] w λe w'=>e=Rt (I Y 3)/\Below w.heap.size w w':=by
 exact kA

theorem gV (V F:Int)(s:oA)(cap:Nat)(c:List Ins)(w:World)(h:CodeAt w s c):
  Calls pG 12 #[Ag #[I Y V,I Y F,U s c.length cap]] w λe w'=>e=Rt (I Y (ag V F c))/\Below w.heap.size w w':=by
 unfold ag;cases t1:btw V 1 8 with
 |false=>simpa using mb V F s c.length cap w t1
 |true=>
  cases t2:btw F 0 3 with
  |false=>simpa using kS V F s c.length cap w t1 t2
  |true=>
   have ⟨hV,hV'⟩:1<=V/\V<=8:=by simpa[btw] using t1
   have ⟨hF,hF'⟩:0<=F/\F<=3:=by simpa[btw] using t2
   by_cases hl:60 < c.length
   ·simpa[hl] using mi V F s c.length cap w hV hV' hF hF' hl
   ·rcases h with rfl|⟨b,off,rfl,hb,hc⟩
    ·simpa[dE] using mX V F s cap w hV hV' hF hF'
    ·simpa[hl] using mk V F b off cap c w hV hV' hF hF' (by omega) hb hc
theorem iQ (l:List Gs)(p:Gs->Bool)(k:Nat)(h:k < l.length):(l.drop k).any p=(p l[k]||(l.drop (k+1)).any p):=by
 rw[j2 h];rfl

theorem rV (g:Gs)(ss:oA)(gc:Nat)(w:World):
  Calls pG 165 #[gv g ss gc] w λe w'=>e=Rt (Bb (aD g))/\Below w.heap.size w w':=by
 have HO:Hid (aD g=(g.n||(g.t||(g.f||decide (0 < g.s.length))))):=rfl;generalize aD g=o at *;obtain⟨n,⟨sn,lo,hi⟩,t,f,s⟩:=g;cases n
 all_goals cases t
 all_goals cases f
 all_goals
  go_enter Tryz.func165,Tryz.ntmps165;go_wp2;go_ret;exact⟨av (by rw[HO.out];simp),by go_grown⟩

theorem nD {p:Prop}(h:p:=by
 refine(HF.out L[k] ss gc _).mono ?_;rintro e w1 ⟨rfl,hb1⟩;cases hp:p L[k] with
 |true=>
  have HT:Hid (L.any p=true):=by show _=_;rw[HA.out,HN.out,hp];rfl
  clear HN HA;go_wp2;go_ret;exact⟨_,rfl,by rw[HT.out];simp,hbr.trans (hb1.mono s0)⟩
 |false=>
  have HT:Hid (L.any p=(L.drop (k+1)).any p):=by show _=_;rw[HA.out,HN.out,hp];rfl
  have hR':=hR.call hb1;clear HN HA;go_wp2;go_roundw
  case rel=>exact⟨k+1,by omega,by go_num,hR',hbr.trans (hb1.mono s0),HT⟩
  case measure=>simp[intOf];omega):p:=h
theorem m9 (p:Gs->Bool)(ls:oA)(L:List Gs)(lc:Nat)(w:World)(hl:L.length<=9223372036854775807)(hL:GhAt w ls L)
  (hF:∀g ss gc wx,Calls pG 165 #[gv g ss gc] wx λe w'=>e=Rt (Bb (p g))/\Below wx.heap.size wx w'):
  Calls pG 135 #[U ls L.length lc,.func (.func 165) #[] #[]] w λe w'=>∃n:Int,e=Rt (I Y n)/\decide (0<=n)=L.any p/\Below w.heap.size w w':=by
 have HF:=aa hF;clear hF;go_enter Tryz.func135,Tryz.ntmps135;go_wp2;go_loopw [8] (λi wr=>∃k:Nat,k<=L.length/\i=I Y k/\GhAt wr ls L/\Below w.heap.size w wr/\Hid (L.any p=(L.drop k).any p)) (λi _=>L.length - (intOf i).toNat)
 case atStart=>exact⟨0,j0 _,rfl,hL,bR _ _,rfl⟩
 case round=>
  obtain⟨k,hk,rfl,hR,hbr,HA⟩:=hrel;by_cases hlt:k < L.length
  ·obtain⟨b,off,rfl,ss,gc,hG⟩:=hR k hlt
   obtain⟨⟨g0,g1,g2,g3,g4,g5,g6⟩,gz⟩:=id hG;have n0:(0:Int)<=(k:Int):=by omega
   have n1:(k:Int) < (L.length:Int):=by omega
   have s0:=hbr.size;have HN:Hid ((L.drop k).any p=(p L[k]||(L.drop (k+1)).any p)):=iQ L p k hlt;go_wp2_with (go_at_call 165;fail);exact nD
  ·go_wp2
   go_ret;exact⟨_,rfl,by rw[HA.out,j1 (by omega)];rfl,hbr⟩

theorem kT (p:Gs->Bool)(ls:oA)(L:List Gs)(lc:Nat)(w:World)(hl:L.length<=9223372036854775807)(hL:GhAt w ls L)
  (hF:∀g ss gc wx,Calls pG 165 #[gv g ss gc] wx λe w'=>e=Rt (Bb (p g))/\Below wx.heap.size wx w'):
  Calls pG 108 #[U ls L.length lc,.func (.func 165) #[] #[]] w λe w'=>e=Rt (Bb (L.any p))/\Below w.heap.size w w':=by
 have HF:=aa hF;clear hF;go_enter Tryz.func108,Tryz.ntmps108;go_wp2_with (go_at_call 135;fail);refine(m9 p ls L lc _ hl hL HF.out).mono ?_;rintro e w1 ⟨n,rfl,hn,hb1⟩;go_wp2;go_ret;exact⟨rfl,hb1⟩

theorem lJ (ls:oA)(L:List Gs)(lc:Nat)(w:World)(hl:L.length<=9223372036854775807)(hL:GhAt w ls L):
  Calls pG 149 #[U ls L.length lc] w λe w'=>e=Rt (Bb (L.any aD))/\Below w.heap.size w w':=by
 go_enter Tryz.func149,Tryz.ntmps149;go_wp2_with (go_at_call 108;fail);refine(kT aD ls L lc _ hl hL λg ss gc wx=>rV g ss gc wx).mono ?_;rintro e w1 ⟨rfl,hb1⟩;go_wp2;go_ret;exact⟨rfl,hb1⟩

theorem oW (g:Gs)(ss:oA)(gc:Nat)(w:World):
  Calls pG 166 #[gv g ss gc] w λe w'=>e=Rt (Bb (ae g))/\Below w.heap.size w w':=by
 have HO:Hid (ae g=(g.sp.n&& !aD g)):=rfl;have hA:=lJ (sO ⟨w.heap.size+1,0,nO⟩) [g] 1;have G0:=GhAt.new1 (w.alloc (Cc #[Bb g.n,Bb g.sp.n,I Y g.sp.lo,I Y g.sp.hi,Bb g.t,Bb g.f,U ss g.s.length gc] 61)) g ss gc;rw[zA] at G0;rw[show [g].any aD=aD g by simp] at hA;have HA:=aa hA;clear hA;generalize aD g=oo at *;generalize ae g=o at *;obtain⟨n,⟨sn,lo,hi⟩,t,f,s⟩:=g;cases sn with
 |true=>
  go_enter Tryz.func166,Tryz.ntmps166;go_wp2_with (go_at_call 149;fail);refine(HA.out _ (by simp) G0).mono ?_;rintro e w1 ⟨rfl,hb1⟩;go_wp2;go_ret;exact⟨av (by rw[HO.out];simp),Below.trans (by go_grown) (hb1.mono (by simp;omega))⟩
 |false=>
  go_enter Tryz.func166,Tryz.ntmps166;go_wp2;go_ret;exact⟨av (by rw[HO.out];rfl),by go_grown⟩

theorem k8 (p:Gs->Bool)(ls:oA)(L:List Gs)(lc:Nat)(w:World)(hl:L.length<=9223372036854775807)(hL:GhAt w ls L)
  (hF:∀g ss gc wx,Calls pG 166 #[gv g ss gc] wx λe w'=>e=Rt (Bb (p g))/\Below wx.heap.size wx w'):
  Calls pG 135 #[U ls L.length lc,.func (.func 166) #[] #[]] w λe w'=>∃n:Int,e=Rt (I Y n)/\decide (0<=n)=L.any p/\Below w.heap.size w w':=by
 have HF:=aa hF;clear hF;go_enter Tryz.func135,Tryz.ntmps135;go_wp2;go_loopw [8] (λi wr=>∃k:Nat,k<=L.length/\i=I Y k/\GhAt wr ls L/\Below w.heap.size w wr/\Hid (L.any p=(L.drop k).any p)) (λi _=>L.length - (intOf i).toNat)
 case atStart=>exact⟨0,j0 _,rfl,hL,bR _ _,rfl⟩
 case round=>
  obtain⟨k,hk,rfl,hR,hbr,HA⟩:=hrel;by_cases hlt:k < L.length
  ·obtain⟨b,off,rfl,ss,gc,hG⟩:=hR k hlt
   obtain⟨⟨g0,g1,g2,g3,g4,g5,g6⟩,gz⟩:=id hG;have n0:(0:Int)<=(k:Int):=by omega
   have n1:(k:Int) < (L.length:Int):=by omega
   have s0:=hbr.size;have HN:Hid ((L.drop k).any p=(p L[k]||(L.drop (k+1)).any p)):=iQ L p k hlt;go_wp2_with (go_at_call 166;fail);exact nD
  ·go_wp2
   go_ret;exact⟨_,rfl,by rw[HA.out,j1 (by omega)];rfl,hbr⟩

theorem iL (p:Gs->Bool)(ls:oA)(L:List Gs)(lc:Nat)(w:World)(hl:L.length<=9223372036854775807)(hL:GhAt w ls L)
  (hF:∀g ss gc wx,Calls pG 166 #[gv g ss gc] wx λe w'=>e=Rt (Bb (p g))/\Below wx.heap.size wx w'):
  Calls pG 108 #[U ls L.length lc,.func (.func 166) #[] #[]] w λe w'=>e=Rt (Bb (L.any p))/\Below w.heap.size w w':=by
 have HF:=aa hF;clear hF;go_enter Tryz.func108,Tryz.ntmps108;go_wp2_with (go_at_call 135;fail);refine(k8 p ls L lc _ hl hL HF.out).mono ?_;rintro e w1 ⟨n,rfl,hn,hb1⟩;go_wp2;go_ret;exact⟨rfl,hb1⟩

theorem fM (ls:oA)(L:List Gs)(lc:Nat)(w:World)(hl:L.length<=9223372036854775807)(hL:GhAt w ls L):
  Calls pG 150 #[U ls L.length lc] w λe w'=>e=Rt (Bb (L.any ae))/\Below w.heap.size w w':=by
 go_enter Tryz.func150,Tryz.ntmps150;go_wp2_with (go_at_call 108;fail);refine(iL ae ls L lc _ hl hL λg ss gc wx=>oW g ss gc wx).mono ?_;rintro e w1 ⟨rfl,hb1⟩;go_wp2;go_ret;exact⟨rfl,hb1⟩

theorem mw (ls:oA)(L:List Gs)(lc:Nat)(w:World)(hl:L.length<=9223372036854775807)(hL:GhAt w ls L):
  Calls pG 121 #[U ls L.length lc] w λe w'=>e=Rt (Bb (L.any aD&& !L.any ae))/\Below w.heap.size w w':=by
 have H1:=aa (lJ ls L lc w hl hL);cases ho:L.any aD with
 |true=>
  rw[ho] at H1;go_enter Tryz.func121,Tryz.ntmps121;go_wp2_with (go_at_call 149;fail);refine H1.out.mono ?_;rintro e w1 ⟨rfl,hb1⟩;go_wp2_with (go_at_call 150;fail);refine(fM ls L lc _ hl (hL.call hb1)).mono ?_;rintro e w2 ⟨rfl,hb2⟩;go_wp2;go_ret;exact⟨rfl,hb1.trans (hb2.mono hb1.size)⟩
 |false=>
  rw[ho] at H1;go_enter Tryz.func121,Tryz.ntmps121;go_wp2_with (go_at_call 149;fail);refine H1.out.mono ?_;rintro e w1 ⟨rfl,hb1⟩;go_wp2;go_ret;exact⟨rfl,hb1⟩

theorem Cg (s t:Sp)(w:World):
  Calls pG 123 #[sv s,sv t] w λe w'=>e=Rt (Tu #[Bb (!(s.n||t.n)&&decide (s.lo < t.hi)),Bb (!(s.n||t.n)&&decide (t.lo<=s.hi))])/\Below w.heap.size w w':=by
 obtain⟨sn,lo,hi⟩:=s;obtain⟨tn,lo',hi'⟩:=t;cases sn with
 |true=>
  go_enter Tryz.func123,Tryz.ntmps123;go_wp2
  go_ret2
  exact⟨rfl,by go_grown⟩
 |false=>
  cases tn with
  |true=>
   go_enter Tryz.func123,Tryz.ntmps123;go_wp2
   go_ret2
   exact⟨rfl,by go_grown⟩
  |false=>
   go_enter Tryz.func123,Tryz.ntmps123;go_wp2
   go_quiet (fail)
   go_wp2
   go_ret2
   exact⟨fr (by simp) (by simp),below_drewN (by go_grown) _⟩

theorem gE (y n:Bool)(w:World):
  Calls pG 122 #[Bb y,Bb n] w λe w'=>e=Rt (gv ⟨false,⟨true,0,0⟩,y,n,[]⟩ nO 0)/\Below w.heap.size w w':=by
 go_enter Tryz.func122,Tryz.ntmps122;go_wp2
 go_returns
 exact⟨rfl,by go_grown⟩
end
end Go.Proofs.YtmapdpcfanecdabGreat
