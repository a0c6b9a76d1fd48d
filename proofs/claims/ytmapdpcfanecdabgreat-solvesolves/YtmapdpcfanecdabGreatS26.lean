import Derived.Test.YtmapdpcfanecdabGreatS23
import Derived.Test.YtmapdpcfanecdabGreatS24
import Derived.Test.YtmapdpcfanecdabGreatS25
import Derived.Sort.OwnSortedInts
import Derived.Lib.RowBridge
open Array renaming getElem?_eq_some_iff→j4
open Go.Ending renaming returned→Rt
open Go.IntKind renaming i64→Y
open Go.Obj renaming cells→Cc
open Go.Proofs.Tryz renaming prog→pG
open Go.RowKit.Below renaming heap_setCell→hSe,refl→bR
open Go.Value renaming agg→Ag,bool→Bb,int→I,slice→U,tuple→Tu
open Go.World renaming cell?_of_block→j5,size_alloc→zA
open List renaming all_eq_true→j7,drop_eq_nil_of_le→j3,eq_nil_of_length_eq_zero→j9,flatMap_append→q4,getElem?_eq_getElem→j6,getElem?_eq_some_iff→q5,getElem_mem→gM,getElem_of_mem→j8,length_append→j2,length_eq_zero_iff→q3,mem_map→q6
open Nat renaming le_refl→lR,lt_of_lt_of_le→lL,zero_add→j0,zero_le→j1
open Option renaming none→nO,some→sO
set_option linter.unusedSimpArgs false
set_option linter.unusedVariables false
set_option maxHeartbeats 8000000
set_option maxRecDepth 100000
namespace Go.Proofs.YtmapdpcfanecdabGreat
section
open Go.RowKit
theorem iP (V F:Int)(s:oA)(len cap N:Nat)(i:Ins)(w:World)(hV:1<=V)(hV':V<=8)(hF:0<=F)(hF':F<=3)(hL:len<=60)(hs:ShpAt N shps w):
  Calls pG 97 #[Ag #[I Y V,I Y F,U s len cap],.map (sO N),Ag #[I Y i.k,I Y i.tgt,I Y i.a,I Y i.b,I Y i.n,I Y i.g]] w λe w'=>e=Rt (I Y (aU V F len i))/\Below w.heap.size w w':=by
 obtain⟨k,tto,a,b,n,g⟩:=i;by_cases h:btw k 1 19=true
 ·rcases kZ h with rfl|rfl|rfl|rfl|rfl|rfl|rfl|rfl|rfl|rfl|rfl|rfl|rfl|rfl|rfl|rfl|rfl|rfl|rfl
  ·exact tx V F s len cap N tto a b n g w hV hV' hF hF' hL hs
  ·exact tc V F s len cap N tto a b n g w hV hV' hF hF' hL hs
  ·exact s9 V F s len cap N tto a b n g w hV hV' hF hF' hL hs
  ·exact sJ V F s len cap N tto a b n g w hV hV' hF hF' hL hs
  ·exact tG V F s len cap N tto a b n g w hV hV' hF hF' hL hs
  ·exact sI V F s len cap N tto a b n g w hV hV' hF hF' hL hs
  ·exact tC V F s len cap N tto a b n g w hV hV' hF hF' hL hs
  ·exact te V F s len cap N tto a b n g w hV hV' hF hF' hL hs
  ·exact sU V F s len cap N tto a b n g w hV hV' hF hF' hL hs
  ·exact rU V F s len cap N tto a b n g w hV hV' hF hF' hL hs
  ·exact rM V F s len cap N tto a b n g w hV hV' hF hF' hL hs
  ·exact rJ V F s len cap N tto a b n g w hV hV' hF hF' hL hs
  ·exact rK V F s len cap N tto a b n g w hV hV' hF hF' hL hs
  ·exact rZ V F s len cap N tto a b n g w hV hV' hF hF' hL hs
  ·exact rR V F s len cap N tto a b n g w hV hV' hF hF' hL hs
  ·exact rL V F s len cap N tto a b n g w hV hV' hF hF' hL hs
  ·exact rG V F s len cap N tto a b n g w hV hV' hF hF' hL hs
  ·exact sj V F s len cap N tto a b n g w hV hV' hF hF' hL hs
  ·exact rE V F s len cap N tto a b n g w hV hV' hF hF' hL hs
 ·exact rI V F s len cap N k tto a b n g w hV hV' hF hF' hL hs (by simpa using h)

theorem vu (V F:Int)(b off cap:Nat)(c:List Ins)(w:World)(hV:1<=V)(hV':V<=8)(hF:0<=F)(hF':F<=3)(hL:c.length<=60)(hb:b < w.heap.size)(hc:∀k (h:k < c.length),InsAt w b (off+k * 6) c[k]):
  Calls pG 64 #[Ag #[I Y V,I Y F,U (sO ⟨b,off,nO⟩) c.length cap]] w λe w'=>e=Rt (I Y (dE V F c.length c))/\Below w.heap.size w w':=by
 have hl60:(c.length:Int)<=60:=by omega
 have hbox:Below w.heap.size w (w.alloc (Cc #[I Y V,I Y F,U (sO ⟨b,off,nO⟩) c.length cap] 24)):=by go_grown
 go_enter Tryz.func64,Tryz.ntmps64;go_wp2_with (go_at_call 96;refine(nW _).mono ?_;rintro e w1 ⟨rfl,hs1,hb1⟩;obtain⟨hc1,hf1⟩:=sq hb1;have q2:w1.cell? ⟨w.heap.size,2,nO⟩=sO (U (sO ⟨b,off,nO⟩) c.length cap):=(by rw[hb1.cell (by simp)];simp[go_sem]));simp only[zA] at hs1;have q0:w1.cell? ⟨w.heap.size,0,nO⟩=sO (I Y V):=by rw[hb1.cell (by simp)];simp[go_sem]
 have q1:w1.cell? ⟨w.heap.size,1,nO⟩=sO (I Y F):=by rw[hb1.cell (by simp)];simp[go_sem]
 clear hc1 hf1;have z1:w.heap.size+1<=w1.heap.size:=by have:=hb1.size;simp at this;omega
 have hbw:Below w.heap.size w w1:=hbox.trans (hb1.mono (by simp));go_loopw [35] (λi wr=>∃k:Nat,k<=c.length/\i=I Y k/\Below w1.heap.size w1 wr/\Hid (dE V F c.length (c.drop k)=dE V F c.length c)) (λi _=>c.length - (intOf i).toNat)
 case atStart=>exact⟨0,j1 _,rfl,bR _ _,rfl⟩
 case round=>
  obtain⟨k,hk,rfl,hbr,HR⟩:=hrel;have r0:wr.cell? ⟨w.heap.size,0,nO⟩=sO (I Y V):=by rw[hbr.cell (by simp;omega)];exact q0
  have r1:wr.cell? ⟨w.heap.size,1,nO⟩=sO (I Y F):=by rw[hbr.cell (by simp;omega)];exact q1
  have r2:wr.cell? ⟨w.heap.size,2,nO⟩=sO (U (sO ⟨b,off,nO⟩) c.length cap):=by rw[hbr.cell (by simp;omega)];exact q2
  have s0:w1.heap.size<=wr.heap.size:=hbr.size;have s1:w.heap.size < wr.heap.size:=by omega
  have s2:b < wr.heap.size:=by omega
  by_cases hlt:k < c.length
  ·have hi:InsAt wr b (off+k * 6) c[k]:=((hc k hlt).below hbw hb).below hbr (by omega)
   obtain⟨i0,i1,i2,i3,i4,i5⟩:=hi;have n0:(0:Int)<=(k:Int):=by omega
   have n1:(k:Int) < (c.length:Int):=by omega
   clear q0 q1 q2;have HS:=o7 (V:=V) (F:=F) (L:=c.length) hlt;by_cases hz:aU V F c.length c[k]=0
   ·have HC:Hid (dE V F c.length (c.drop (k+1))=dE V F c.length c):=by have:=HR.out;rw[HS,if_pos hz] at this;exact this
    clear HS HR;go_wp2_with (go_at_call 97;refine(iP V F _ _ _ _ c[k] _ hV hV' hF hF' hL ?hs).mono ?_;(case hs=>exact hs1.below (hbr.alloc s0 _) (lR _));rintro e w2 ⟨rfl,hb2⟩);go_roundw
    case rel=>exact⟨k+1,by omega,by go_num,(hbr.alloc s0 _).trans (hb2.mono (by simp;omega)),HC⟩
    case measure=>simp[intOf];omega
   ·rw[if_neg hz] at HS
    have HC:Hid (aU V F c.length c[k]=dE V F c.length c):=by have:=HR.out;rw[HS] at this;exact this
    have hz':(aU V F c.length c[k]!=0)=true:=by simpa using hz
    clear HS HR;go_wp2_with (go_at_call 97;refine(iP V F _ _ _ _ c[k] _ hV hV' hF hF' hL ?hs).mono ?_;(case hs=>exact hs1.below (hbr.alloc s0 _) (lR _));rintro e w2 ⟨rfl,hb2⟩);go_ret;exact⟨bd HC.out,hbw.trans (((hbr.alloc s0 _).trans (hb2.mono (by simp;omega))).mono (by omega))⟩
  ·go_wp2
   go_ret;exact⟨bd (by have:=HR.out;rw[j3 (by omega)] at this;exact this),hbw.trans (hbr.mono (by omega))⟩

theorem yX (V F:Int)(s:oA)(cap:Nat)(w:World)(hV:1<=V)(hV':V<=8)(hF:0<=F)(hF':F<=3):
  Calls pG 64 #[Ag #[I Y V,I Y F,U s 0 cap]] w λe w'=>e=Rt (I Y 0)/\Below w.heap.size w w':=by
 have hbox:Below w.heap.size w (w.alloc (Cc #[I Y V,I Y F,U s 0 cap] 24)):=by go_grown
 go_enter Tryz.func64,Tryz.ntmps64;go_wp2_with (go_at_call 96;refine(nW _).mono ?_;rintro e w1 ⟨rfl,hs1,hb1⟩;have q2:w1.cell? ⟨w.heap.size,2,nO⟩=sO (U s 0 cap):=(by rw[hb1.cell (by simp)];simp[go_sem]))
 go_rounds 1
 go_ret;exact⟨rfl,hbox.trans (hb1.mono (by simp))⟩

theorem wD (V F:Int)(s:oA)(len cap:Nat)(w:World)(hV:1<=V)(hV':V<=8)(hF:0<=F)(hF':F<=3)(hl:60 < len):
  Calls pG 64 #[Ag #[I Y V,I Y F,U s len cap]] w λe w'=>e=Rt (I Y 2)/\Below w.heap.size w w':=by
 have t3:(60:Int) < (len:Int):=by omega
 go_enter Tryz.func64,Tryz.ntmps64;go_wp2;go_ret;exact⟨rfl,by go_grown⟩

theorem mI (V F:Int)(s:oA)(len cap:Nat)(w:World)(h:¬(1<=V/\V<=8/\0<=F/\F<=3)):
  Calls pG 64 #[Ag #[I Y V,I Y F,U s len cap]] w λe w'=>e=Rt (I Y 3)/\Below w.heap.size w w':=by
 by_cases h1:V < 1
 ·clear h
  go_enter Tryz.func64,Tryz.ntmps64;go_wp2;go_ret;exact⟨rfl,by go_grown⟩
 by_cases h2:8 < V
 ·clear h
  go_enter Tryz.func64,Tryz.ntmps64;go_wp2;go_ret;exact⟨rfl,by go_grown⟩
 by_cases h3:F < 0
 ·clear h
  go_enter Tryz.func64,Tryz.ntmps64;go_wp2;go_ret;exact⟨rfl,by go_grown⟩
 ·have h4:3 < F:=by omega
  clear h;go_enter Tryz.func64,Tryz.ntmps64;go_wp2;go_ret;exact⟨rfl,by go_grown⟩

theorem fv (V F:Int)(s:oA)(cap:Nat)(c:List Ins)(w:World)(h:CodeAt w s c):
  Calls pG 64 #[Ag #[I Y V,I Y F,U s c.length cap]] w λe w'=>e=Rt (I Y (ag V F c))/\Below w.heap.size w w':=by
 unfold ag;by_cases hr:1<=V/\V<=8/\0<=F/\F<=3
 ·obtain⟨hV,hV',hF,hF'⟩:=hr
  have t1:btw V 1 8=true:=dM hV hV';have t2:btw F 0 3=true:=dM hF hF';by_cases hl:60 < c.length
  ·simpa[t1,t2,hl] using wD V F s c.length cap w hV hV' hF hF' hl
  ·rcases h with rfl|⟨b,off,rfl,hb,hc⟩
   ·simpa[t1,t2,dE] using yX V F s cap w hV hV' hF hF'
   ·simpa[t1,t2,hl] using vu V F b off cap c w hV hV' hF hF' (by omega) hb hc
 ·have:btw V 1 8=false\/btw F 0 3=false:=by
   by_cases h1:1<=V/\V<=8
   ·right;simp[btw];omega
   ·left;simp[btw];omega
  rcases this with t|t
  ·simpa[t] using mI V F s c.length cap w hr
  ·simpa[t] using mI V F s c.length cap w hr
theorem yL {V F:Int}{c:List Ins}(h:ag V F c=0):c.length<=60:=by
 unfold ag at h;split at h
 ·cases h
 ·split at h
  ·cases h
  ·omega

theorem iZ (c:List Ins)(L:List Gs)(k:Nat)(h:k < L.length):bm c (L.drop k)=if ap c L[k]=0 then bm c (L.drop (k+1)) else ap c L[k]:=by
 rw[List.drop_eq_getElem_cons h];rfl

theorem bL (V F:Int)(s:oA)(c:List Ins)(cap:Nat)(ls:oA)(L:List Gs)(lc:Nat)(w:World)(hc:CodeAt w s c)(hL:GsAt w ls L)(hl:L.length<=9223372036854775807):
  Calls pG 114 #[pv V F s c cap,U ls L.length lc] w λe w'=>e=Rt (I Y (aP V F c L))/\Below w.heap.size w w':=by
 have P0:=PrAt.new w V F s c cap;have C0:=hc.alloc (Cc #[I Y V,I Y F,U s c.length cap] 24);have L0:=hL.alloc (Cc #[I Y V,I Y F,U s c.length cap] 24);have B0:Below w.heap.size w (w.alloc (Cc #[I Y V,I Y F,U s c.length cap] 24)):=by go_grown
 have HR:Hid (aP V F c L=if ag V F c=0 then bm c L else ag V F c):=rfl;clear hc hL;go_enter Tryz.func114,Tryz.ntmps114;go_wp2_with (go_at_call 64;fail);refine(fv V F s cap c _ C0).mono ?_;rintro e w1 ⟨rfl,hb1⟩;have P1:=P0.call hb1;have C1:=C0.call hb1;have L1:=L0.call hb1;have B1:Below w.heap.size w w1:=B0.trans (hb1.mono (by simp));clear hb1 P0 C0 L0 B0;by_cases h0:ag V F c=0
 ·have h60:=yL h0
  have HF:Hid (aP V F c L=bm c L):=by show _=_;rw[HR.out,if_pos h0]
  rw[h0];clear HR h0;go_wp2;go_loopw [16] (λi wr=>∃k:Nat,k<=L.length/\i=I Y k/\PrAt wr w.heap.size V F s c cap/\CodeAt wr s c/\GsAt wr ls L/\Below w.heap.size w wr/\Hid (bm c (L.drop k)=bm c L)) (λi _=>L.length - (intOf i).toNat)
  case atStart=>exact⟨0,j1 _,rfl,P1,C1,L1,B1,rfl⟩
  case round=>
   obtain⟨k,hk,rfl,PR,CR,LR,BR,HK⟩:=hrel;clear P1 C1 L1 B1;by_cases hlt:k < L.length
   ·obtain⟨b,off,rfl,ss,gc,GR,IR,hg1,hg2⟩:=LR k hlt
    obtain⟨⟨p0,p1,p2⟩,p3⟩:=id PR;obtain⟨⟨g0,g1,g2,g3,g4,g5,g6⟩,gz⟩:=id GR;have n0:(0:Int)<=(k:Int):=by omega
    have n1:(k:Int) < (L.length:Int):=by omega
    have HS:=aa (iZ c L k hlt);unfold maxLen at hg2;have PA:=PR.alloc (Cc #[Bb L[k].n,Bb L[k].sp.n,I Y L[k].sp.lo,I Y L[k].sp.hi,Bb L[k].t,Bb L[k].f,U ss L[k].s.length gc] 61);have CA:=CR.alloc (Cc #[Bb L[k].n,Bb L[k].sp.n,I Y L[k].sp.lo,I Y L[k].sp.hi,Bb L[k].t,Bb L[k].f,U ss L[k].s.length gc] 61);have LA:=LR.alloc (Cc #[Bb L[k].n,Bb L[k].sp.n,I Y L[k].sp.lo,I Y L[k].sp.hi,Bb L[k].t,Bb L[k].f,U ss L[k].s.length gc] 61);have IA:=IR.alloc (Cc #[Bb L[k].n,Bb L[k].sp.n,I Y L[k].sp.lo,I Y L[k].sp.hi,Bb L[k].t,Bb L[k].f,U ss L[k].s.length gc] 61);have BA:=BR.alloc BR.size (Cc #[Bb L[k].n,Bb L[k].sp.n,I Y L[k].sp.lo,I Y L[k].sp.hi,Bb L[k].t,Bb L[k].f,U ss L[k].s.length gc] 61);clear PR CR LR IR BR GR;go_wp2_with (go_at_call 141;fail);refine(pT V F s c cap L[k] ss gc _ CA h60 IA (by omega)).mono ?_;rintro e w2 ⟨rfl,hb2⟩;have P2:=PA.call hb2;have C2:=CA.call hb2;have L2:=LA.call hb2;have B2:=BA.trans (hb2.mono BA.size);clear hb2 PA CA LA IA BA;by_cases hz:ap c L[k]=0
    ·have HT:Hid (bm c (L.drop (k+1))=bm c L):=by show _=_;rw[<-HK.out,HS.out,if_pos hz]
     rw[hz];clear HK HS hz;go_wp2;go_roundw
     case rel=>exact⟨k+1,by omega,by go_num,P2,C2,L2,B2,HT⟩
     case measure=>simp[intOf];omega
    ·have HT:Hid (ap c L[k]=bm c L):=by show _=_;rw[<-HK.out,HS.out,if_neg hz]
     have hne:(ap c L[k]!=0)=true:=by simpa using hz
     clear HK HS;go_wp2;go_ret;exact⟨bd (by rw[HF.out,HT.out]),B2⟩
   ·go_wp2
    go_ret;exact⟨bd (by rw[HF.out,<-HK.out,j3 (by omega)];rfl),BR⟩
 ·have HF:Hid (aP V F c L=ag V F c):=by show _=_;rw[HR.out,if_neg h0]
  have hne:(ag V F c !=0)=true:=by simpa using h0
  clear HR;go_wp2;go_ret;exact⟨bd HF.out.symm,B1⟩
theorem ow (V F:Int)(s:oA)(c:List Ins)(cap:Nat)(x:Int)(w:World)(hc:CodeAt w s c)(hl:c.length<=60):
  Calls pG 56 #[pv V F s c cap,I Y x] w λe w'=>e=Rt (Bb (bk c x))/\Below w.heap.size w w':=by
 have hl':(c.length:Int)<=60:=by omega
 by_cases hx:0<=x/\x<=(c.length:Int) - 1
 ·have hb:=dM hx.1 hx.2
  obtain⟨k,rfl⟩:=Int.eq_ofNat_of_zero_le hx.1;have hk:k < c.length:=by omega
  have CA:=hc.alloc (Cc #[I Y V,I Y F,U s c.length cap] 24);obtain⟨b,off,rfl,hbl,hi⟩:=CA.get k hk;obtain⟨i0,-,-,-,-,-⟩:=hi k hk;have HR:Hid (bk c k=decide (c[k].k=11)):=by
   show _=_;unfold bk;rw[decide_eq_true (show (0:Int)<=(k:Int) by omega),decide_eq_true (show (k:Int) < (c.length:Int) by omega),Int.toNat_natCast,show c.getD k ⟨0,0,0,0,0,0⟩=c[k] by simp[List.getD,j6 hk]];simp
  have n0:(0:Int)<=(k:Int):=by omega
  have n1:(k:Int) < (c.length:Int):=by omega
  clear hi hc CA hx;go_enter Tryz.func56,Tryz.ntmps56;go_wp2_with (go_at_call 38;fail);refine(cE _ _ _ _).mono ?_;rintro e w1 ⟨rfl,rfl⟩;rw[hb];go_wp2;go_ret;exact⟨av (by rw[HR.out];first|rfl|(simp;done)|exact(Bool.beq_eq_decide_eq _ _)),by go_grown⟩
 ·have hb:btw x 0 ((c.length:Int) - 1)=false:=by simp[btw];omega
  have HR:Hid (bk c x=false):=by
   show _=_;unfold bk;by_cases h0:0<=x
   ·rw[decide_eq_false (show¬x < (c.length:Int) by omega)];simp
   ·rw[decide_eq_false h0];rfl
  clear hc hx;go_enter Tryz.func56,Tryz.ntmps56;go_wp2_with (go_at_call 38;fail);refine(cE _ _ _ _).mono ?_;rintro e w1 ⟨rfl,rfl⟩;rw[hb];go_wp2;go_ret;exact⟨av (by rw[HR.out]),by go_grown⟩

theorem kJ (x:Int)(ss:oA)(cap:Nat)(l:List Int)(w:World)(hl:l.length<=9223372036854775807)(hs:IntsAt w ss l):
  Calls pG 59 #[U ss l.length cap,I Y x] w λe w'=>e=Rt (Bb (l.contains x))/\w'=w:=by
 have HX:Hid (l.contains x=decide (x∈l)):=by show _=_;simp
 generalize l.contains x=r at *;go_enter Tryz.func59,Tryz.ntmps59;go_wp2
 go_loop [5] (λi=>∃k:Nat,k<=l.length/\i=I Y k/\Hid (x∈l↔x∈l.drop k)) (λi=>l.length - (intOf i).toNat)
 case atStart=>exact⟨0,j1 _,rfl,Iff.rfl⟩
 case round=>
  obtain⟨k,hk,rfl,HA⟩:=hrel;by_cases hlt:k < l.length
  ·obtain⟨b,off,rfl,hb,hc⟩:=hs.get k hlt
   have n0:(0:Int)<=(k:Int):=by omega
   have n1:(k:Int) < (l.length:Int):=by omega
   have c0:=hc k hlt;have HN:Hid (x∈l.drop k↔(x=l[k]\/x∈l.drop (k+1))):=rk l x k hlt;clear hc hs;by_cases hp:l[k]=x
   ·have HT:Hid (x∈l):=HA.out.2 (HN.out.2 (.inl hp.symm))
    clear HN HA;have hp':(l[k]==x)=true:=by simp[hp]
    go_wp2;go_ret;exact⟨av (by rw[HX.out];exact(decide_eq_true HT.out).symm),rfl⟩
   ·have HT:Hid (x∈l↔x∈l.drop (k+1)):=HA.out.trans (HN.out.trans ⟨λh=>h.resolve_left λe=>hp e.symm,.inr⟩)
    have hp':(l[k]==x)=false:=by simpa using hp
    clear HN HA;go_wp2
    go_round
    case rel=>exact⟨k+1,by omega,by go_num,HT⟩
    case measure=>simp[intOf];omega
  ·go_wp2
   go_ret;exact⟨av (by rw[HX.out];exact(decide_eq_false λh=>by have:=HA.out.1 h;rw[j3 (by omega)] at this;cases this).symm),rfl⟩
theorem pR (V F:Int)(s:oA)(c:List Ins)(cap:Nat)(g:Gs)(ss:oA)(gc:Nat)(w:World)(hc:CodeAt w s c)(hl:c.length<=60)(hs:IntsAt w ss g.s)(hgl:g.s.length<=9223372036854775807):
  Calls pG 55 #[pv V F s c cap,gv g ss gc] w λe w'=>e=Rt (I Y (ap c g))/\Below w.heap.size w w':=by
 have P0:PrAt (pgW w V F s c cap g ss gc) w.heap.size V F s c cap:=(PrAt.new w V F s c cap).alloc _;have G0:GuAt (pgW w V F s c cap g ss gc) (w.heap.size+1) 0 g ss gc:=by
  have:=GuAt.new (w.alloc (Cc #[I Y V,I Y F,U s c.length cap] 24)) g ss gc;simpa using this
 have C0:CodeAt (pgW w V F s c cap g ss gc) s c:=(hc.alloc _).alloc _;have I0:IntsAt (pgW w V F s c cap g ss gc) ss g.s:=(hs.alloc _).alloc _;have B0:Below w.heap.size w (pgW w V F s c cap g ss gc):=by go_grown
 have HR:Hid (ap c g=if bK g.sp≠0 then bK g.sp else if g.s.all (bk c)=false then 5 else if bS g.s=false then 4 else 0):=rfl;go_enter Tryz.func55,Tryz.ntmps55;go_wp2_with (go_at_call 93;fail);refine(ge g.sp _).mono ?_;rintro e w1 ⟨rfl,hb1⟩;have P1:=P0.call hb1;have G1:=G0.call hb1;have C1:=C0.call hb1;have I1:=I0.call hb1;have B1:Below w.heap.size w w1:=B0.trans (hb1.mono (by simp;omega));clear hb1 P0 G0 C0 I0 B0 hc hs;by_cases hsp:bK g.sp=0
 ·have HF0:Hid (ap c g=if g.s.all (bk c)=false then 5 else if bS g.s=false then 4 else 0):=by show _=_;rw[HR.out,if_neg (by simpa using hsp)]
  rw[hsp];clear HR;go_wp2;go_loopw [6] (λi wr=>∃k:Nat,k<=g.s.length/\i=I Y k/\PrAt wr w.heap.size V F s c cap/\GuAt wr (w.heap.size+1) 0 g ss gc/\CodeAt wr s c/\IntsAt wr ss g.s/\Below w.heap.size w wr/\Hid (∀j (h:j < g.s.length),j < k->bk c g.s[j]=true)) (λi _=>g.s.length - (intOf i).toNat)
  case atStart=>exact⟨0,j1 _,rfl,P1,G1,C1,I1,B1,λj h h'=>by omega⟩
  case round=>
   obtain⟨k,hk,rfl,PR,GR,CR,IR,BR,HK⟩:=hrel;clear P1 G1 C1 I1 B1;obtain⟨⟨p0,p1,p2⟩,p3⟩:=id PR;obtain⟨⟨g0,g1,g2,g3,g4,g5,g6⟩,gz⟩:=id GR;simp only[j0] at g0 g1 g2 g3 g4 g5 g6;by_cases hlt:k < g.s.length
   ·obtain⟨b,off,rfl,hb,hcell⟩:=IR.get k hlt
    have c0:=hcell k hlt;have n0:(0:Int)<=(k:Int):=by omega
    have n1:(k:Int) < (g.s.length:Int):=by omega
    have KS:∀wx,Below wr.heap.size wr wx->(wx.cell? ⟨w.heap.size,0,nO⟩=sO (I Y V)/\wx.cell? ⟨w.heap.size,1,nO⟩=sO (I Y F)/\wx.cell? ⟨w.heap.size,2,nO⟩=sO (U s c.length cap))/\wx.cell? ⟨w.heap.size+1,6,nO⟩=sO (U (sO ⟨b,off,nO⟩) g.s.length gc)/\wx.cell? ⟨b,off+k,nO⟩=sO (I Y g.s[k]):=by
     intro wx hbx;rw[hbx.cell (by simpa using p3),hbx.cell (by simpa using p3),hbx.cell (by simpa using p3),hbx.cell (by simpa using gz),hbx.cell (by simpa using hb)];exact⟨⟨p0,p1,p2⟩,g6,c0⟩
    clear hcell;go_wp2
    go_region_held3 (λwx=>(wx.cell? ⟨w.heap.size,0,nO⟩=sO (I Y V)/\wx.cell? ⟨w.heap.size,1,nO⟩=sO (I Y F)/\wx.cell? ⟨w.heap.size,2,nO⟩=sO (U s c.length cap))/\wx.cell? ⟨w.heap.size+1,6,nO⟩=sO (U (sO ⟨b,off,nO⟩) g.s.length gc)/\wx.cell? ⟨b,off+k,nO⟩=sO (I Y g.s[k]))
     (first|with_reducible exact KS _ (bR _ _).drew|with_reducible exact KS _ HB)
     ((go_at_call 56;refine(ow V F s c cap g.s[k] _ (CR.call (bR _ _).drew) hl).mono ?_;rintro e w2 ⟨rfl,hb2⟩;have HB:Below wr.heap.size wr w2:=(bR _ _).drew.trans (hb2.mono (lR _))))
    have P2:=PR.call HB;have G2:=GR.call HB;have C2:=CR.call HB;have I2:=IR.call HB;have B2:=BR.trans (HB.mono BR.size);clear hb2 PR GR CR IR BR HB KS p0 p1 p2 g0 g1 g2 g3 g4 g5 g6;cases hS:bk c g.s[k] with
    |true=>
     go_wp2;go_roundw
     case rel=>
      refine⟨k+1,by omega,by go_num,P2,G2,C2,I2,B2,λj h h'=> ?_⟩;by_cases e:j=k
      ·subst e;exact hS
      ·exact HK.out j h (by omega)
     case measure=>simp[intOf];omega
    |false=>
     have HF:Hid (ap c g=5):=by
      show _=_;rw[HF0.out,if_pos];rw[Bool.eq_false_iff];intro hx;have:=j7.1 hx g.s[k] (gM _);rw[hS] at this;cases this
     go_wp2;go_ret;exact⟨bd HF.out.symm,B2⟩
   ·have hall:g.s.all (bk c)=true:=by
     rw[j7];intro x hx;obtain⟨j,hj,rfl⟩:=j8 hx;exact HK.out j hj (by omega)
    have HF:Hid (ap c g=if bS g.s=false then 4 else 0):=by show _=_;rw[HF0.out,if_neg (by simp[hall])]
    have HQ:=aa (i7 g.s);clear HF0 hall HK;go_wp2;go_loopw [7] (λi wx=>∃k:Nat,1<=k/\i=I Y k/\k<=g.s.length+1/\wx.cell? ⟨w.heap.size+1,6,nO⟩=sO (U ss g.s.length gc)/\w.heap.size+1 < wx.heap.size/\IntsAt wx ss g.s/\Below w.heap.size w wx/\Hid (∀j (h:j+1 < g.s.length),j+1 < k->g.s[j] < g.s[j+1])) (λi _=>g.s.length+1 - (intOf i).toNat)
    case atStart=>exact⟨1,lR _,rfl,by omega,g6,gz,IR,BR,λj h h'=>by omega⟩
    case round=>
     obtain⟨q,hk1,rfl,hk2,r6,rz,IX,BX,HX⟩:=hrel;clear PR GR CR IR BR p0 p1 p2 g0 g1 g2 g3 g4 g5 g6;by_cases hlq:q < g.s.length
     ·obtain⟨b,off,rfl,hb,hcell⟩:=IX.get q hlq
      have c0:=hcell (q - 1) (by omega);have c1:=hcell q hlq;have t1:((q:Int) - 1).toNat=q - 1:=by omega
      have n0:(0:Int)<=(q:Int) - 1:=by omega
      have n1:(q:Int) - 1 < (g.s.length:Int):=by omega
      have n2:(0:Int)<=(q:Int):=by omega
      have n3:(q:Int) < (g.s.length:Int):=by omega
      clear hcell;by_cases hr:g.s[q - 1] < g.s[q]
      ·go_wp2
       go_quiet (fail)
       go_wp2;go_roundw
       case rel=>
        refine⟨q+1,by omega,by go_num,by omega,?_,?_,IX.drewN _,below_drewN BX _,λj h h'=> ?_⟩
        ·rw[<-r6];exact(below_drewN (bR (w.heap.size+2) _) _).cell (by simp)
        ·exact lL rz (below_drewN (bR (w.heap.size+2) _) _).size
        ·by_cases e:j+1=q
         ·subst e;exact hr
         ·exact HX.out j h (by omega)
       case measure=>simp[intOf];omega
      ·have HG:Hid (bS g.s=false):=by
        show _=_;rw[Bool.eq_false_iff];intro hx;have:=HQ.out.1 hx (q - 1) (by omega);have e:q - 1+1=q:=by omega
        simp only[e] at this;exact hr this
       clear HQ;go_wp2
       go_quiet (fail)
       go_wp2;go_ret;exact⟨bd (by rw[HF.out,if_pos HG.out]),below_drewN BX _⟩
     ·go_wp2
      go_ret;refine⟨bd ?_,BX⟩;rw[HF.out,if_neg];have:bS g.s=true:=HQ.out.2 λj h=>HX.out j h (by omega);simp[this]
 ·have HF:Hid (ap c g=bK g.sp):=by show _=_;rw[HR.out,if_pos hsp]
  have hne:(bK g.sp !=0)=true:=by simpa using hsp
  clear HR;go_wp2;go_ret;exact⟨bd HF.out.symm,B1⟩
end
section
open Go.RowKit
attribute [local go_sem ↓] Go.wp_at_zero Go.wp_at_succ
theorem mr (V F:Int)(s:oA)(c:List Ins)(cap:Nat)(vars:List Gs)(flds:List (List Gs))(vs:oA)(vc:Nat)(fs:oA)(fc:Nat)(w:World):
  Calls pG 19 #[pv V F s c cap,xv ⟨true,vars,flds⟩ vs vc fs fc] w λe w'=>e=Rt (I Y (an V F c ⟨true,vars,flds⟩))/\Below w.heap.size w w':=by
 have e1:an V F c ⟨true,vars,flds⟩=if vars.length=0/\flds.length=0 then 0 else 1:=by
  unfold an bh;simp only[if_true];by_cases h1:vars.length=0
  ·by_cases h2:flds.length=0
   ·have e1:vars=[]:=j9 h1
    have e2:flds=[]:=j9 h2;subst e1 e2;rfl
   ·simp[h1,h2]
  ·simp[h1]
 rw[e1];clear e1;cases vars with
 |nil=>
  cases flds with
  |nil=>
   rw[if_pos ⟨rfl,rfl⟩];go_enter Tryz.func19,Tryz.ntmps19;go_wp2;go_ret;exact⟨rfl,by go_grown⟩
  |cons r flds=>
   rw[if_neg (λh=>by cases h.2)];go_enter Tryz.func19,Tryz.ntmps19;go_wp2;go_ret;exact⟨rfl,by go_grown⟩
 |cons g vars=>
  rw[if_neg (λh=>by cases h.1)];go_enter Tryz.func19,Tryz.ntmps19;go_wp2;go_ret;exact⟨rfl,by go_grown⟩

theorem mq (V F:Int)(s:oA)(c:List Ins)(cap:Nat)(vars:List Gs)(flds:List (List Gs))(vs:oA)(vc:Nat)(fs:oA)(fc:Nat)(w:World)(h:¬(vars.length:Int)=V):
  Calls pG 19 #[pv V F s c cap,xv ⟨false,vars,flds⟩ vs vc fs fc] w λe w'=>e=Rt (I Y 1)/\Below w.heap.size w w':=by
 have hb0:Below w.heap.size w ((w.alloc (Cc #[I Y V,I Y F,U s c.length cap] 24)).alloc (Cc #[Bb false,U vs vars.length vc,U fs flds.length fc] 28)):=by go_grown
 have P0:=(PrAt.new w V F s c cap).call (w':=((w.alloc (Cc #[I Y V,I Y F,U s c.length cap] 24)).alloc (Cc #[Bb false,U vs vars.length vc,U fs flds.length fc] 28))) (by go_grown);have X0:=XAt.new (w.alloc (Cc #[I Y V,I Y F,U s c.length cap] 24)) ⟨false,vars,flds⟩ vs vc fs fc;rw[zA] at X0;simp only at X0;have n1:((vars.length:Int)==V)=false:=by simpa using h
 clear h;go_enter Tryz.func19,Tryz.ntmps19;go_wp2;go_ret;exact⟨rfl,by go_grown⟩

theorem mc (V F:Int)(s:oA)(c:List Ins)(cap:Nat)(vars:List Gs)(flds:List (List Gs))(vs:oA)(vc:Nat)(fs:oA)(fc:Nat)(w:World)(h0:(vars.length:Int)=V)(h:¬flds.length=c.length):
  Calls pG 19 #[pv V F s c cap,xv ⟨false,vars,flds⟩ vs vc fs fc] w λe w'=>e=Rt (I Y 1)/\Below w.heap.size w w':=by
 subst h0;have hb0:Below w.heap.size w ((w.alloc (Cc #[I Y (vars.length:Int),I Y F,U s c.length cap] 24)).alloc (Cc #[Bb false,U vs vars.length vc,U fs flds.length fc] 28)):=by go_grown
 have P0:=(PrAt.new w (vars.length:Int) F s c cap).call (w':=((w.alloc (Cc #[I Y (vars.length:Int),I Y F,U s c.length cap] 24)).alloc (Cc #[Bb false,U vs vars.length vc,U fs flds.length fc] 28))) (by go_grown);have X0:=XAt.new (w.alloc (Cc #[I Y (vars.length:Int),I Y F,U s c.length cap] 24)) ⟨false,vars,flds⟩ vs vc fs fc;rw[zA] at X0;simp only at X0;have n1:((flds.length:Int)==(c.length:Int))=false:=by simp;omega
 clear h;go_enter Tryz.func19,Tryz.ntmps19;go_wp2;go_ret;exact⟨rfl,by go_grown⟩

theorem na (F:Int)(s:oA)(c:List Ins)(cap:Nat)(vars:List Gs)(flds:List (List Gs))(vs:oA)(vc:Nat)(fs:oA)(fc:Nat)(w:World)(hP:PicAt w ⟨false,vars,flds⟩ vs fs)(h60:c.length<=60)(hfc:flds.length=c.length)(hb:∃r∈flds,¬(r.length:Int)=F):
  Calls pG 19 #[pv (vars.length:Int) F s c cap,xv ⟨false,vars,flds⟩ vs vc fs fc] w λe w'=>e=Rt (I Y 1)/\Below w.heap.size w w':=by
 have hb0:Below w.heap.size w ((w.alloc (Cc #[I Y (vars.length:Int),I Y F,U s c.length cap] 24)).alloc (Cc #[Bb false,U vs vars.length vc,U fs flds.length fc] 28)):=by go_grown
 have P0:=(PrAt.new w (vars.length:Int) F s c cap).call (w':=((w.alloc (Cc #[I Y (vars.length:Int),I Y F,U s c.length cap] 24)).alloc (Cc #[Bb false,U vs vars.length vc,U fs flds.length fc] 28))) (by go_grown);have X0:=XAt.new (w.alloc (Cc #[I Y (vars.length:Int),I Y F,U s c.length cap] 24)) ⟨false,vars,flds⟩ vs vc fs fc;rw[zA] at X0;simp only at X0;have hfl:((flds.length:Int)!=(c.length:Int))=false:=by simp;omega
 have hl60:flds.length<=60:=by omega
 have RW0:=hP.2.below hb0 (lR _);have HB:=aa hb;clear hP hfc hb;simp only at RW0;go_enter Tryz.func19,Tryz.ntmps19
 go_upto_region 7 with fail
 generalize ((w.alloc (Cc #[I Y (vars.length:Int),I Y F,U s c.length cap] 24)).alloc (Cc #[Bb false,U vs vars.length vc,U fs flds.length fc] 28))=w1 at *;have P1:=P0;have X1:=X0;have RW:=RW0;clear P0 X0 RW0 hfl;go_wp2;go_loopw [5] (λi wr=>∃k:Nat,k<=flds.length/\i=I Y k/\Below w1.heap.size w1 wr/\Hid (∀j (h:j < flds.length),j < k->(flds[j].length:Int)=F)) (λi _=>flds.length - (intOf i).toNat)
 case atStart=>exact⟨0,j1 _,rfl,bR _ _,λj _ h=>absurd h (by omega)⟩
 case round=>
  obtain⟨k,hk,rfl,hbr,HJ⟩:=hrel;obtain⟨⟨p0,p1',p2⟩,pz⟩:=id (P1.call hbr);obtain⟨⟨x0,x1,x2⟩,xz,-⟩:=id (X1.call hbr);by_cases hlt:k < flds.length
  ·have n0:(0:Int)<=(k:Int):=by omega
   have n1:(k:Int) < (flds.length:Int):=by omega
   obtain⟨p1,q1,rfl,zp1,r1,rc1,C1,k1,m1,-⟩:=RW.below hbr (lR _) k hlt;have HKZ:Hid (∀wx,Below wr.heap.size wr wx->wx.cell? ⟨w.heap.size,1,nO⟩=sO (I Y F)/\wx.cell? ⟨w.heap.size+1,2,nO⟩=sO (U (sO ⟨p1,q1,nO⟩) flds.length fc)/\wx.cell? ⟨p1,q1+k,nO⟩=sO (U r1 flds[k].length rc1)):=λwx hx=>⟨by rw[hx.cell (by simp only;exact pz)];exact p1',by rw[hx.cell (by simp only;exact xz)];exact x2,by rw[hx.cell (by simp only;exact zp1)];exact C1⟩;have HD:Below wr.heap.size wr wr.drew:=(bR _ _).drew;go_wp2;refine am (S:=(λwx=>wx.cell? ⟨w.heap.size,1,nO⟩=sO (I Y F)/\wx.cell? ⟨w.heap.size+1,2,nO⟩=sO (U (sO ⟨p1,q1,nO⟩) flds.length fc)/\wx.cell? ⟨p1,q1+k,nO⟩=sO (U r1 flds[k].length rc1))) [] (by kernel_rfl) (HKZ.out _ HD) (λhHeld=> ?_);refine vZ 0 ?_ ?_;refine vZ 1 ?_ ?_;refine vZ 2 ?_ ?_;refine vZ 3 ?_ ?_;refine vZ 4 ?_ ?_;refine vZ 5 ?_ ?_;refine vZ 6 ?_ ?_;refine vZ 7 ?_ ?_;refine vZ 8 ?_ ?_;refine aj (by kernel_rfl) ?_ _;by_cases hF:(flds[k].length:Int)=F
   ·have e1:((flds[k].length:Int)!=F)=false:=by simpa using hF
    go_wp2;go_roundw
    case rel=>exact⟨k+1,by omega,by go_num,hbr.trans (HD.mono hbr.size),λj hj hjk=>by
     by_cases e:j=k
     ·subst e;exact hF
     ·exact HJ.out j hj (by omega)⟩
    case measure=>simp[intOf];omega
   ·have e1:((flds[k].length:Int)!=F)=true:=by simpa using hF
    go_wp2;go_ret;exact⟨rfl,hb0.trans ((hbr.trans (HD.mono hbr.size)).mono hb0.size)⟩
  ·have n1:¬(k:Int) < (flds.length:Int):=by omega
   exfalso;obtain⟨r,hr,hne⟩:=HB.out;obtain⟨j,hj,rfl⟩:=j8 hr;exact hne (HJ.out j hj (by omega))
end
section
open Go.RowKit
theorem eK {p:Prop}(h:p:=by
 go_wp2_with (go_at_call 25;fail);refine(HI.out _).mono ?_;rintro e w1 ⟨rfl,hb1⟩;go_wp2
 go_ret2
 exact⟨fr (by rw[HY.out];simp_all) (by rw[HN.out];simp),Below.trans (by go_grown) (hb1.mono (by simp))⟩):p:=h
theorem fI {p:Prop}(h:p:=by
 go_enter Tryz.func24,Tryz.ntmps24;go_wp2
 go_ret2
 exact⟨fr (by rw[HY.out];simp_all) (by rw[HN.out];simp),by go_grown⟩):p:=h
theorem pa {p:Prop}(h:p:=by
 cases sn
 ·by_cases h1:lo=0
  ·subst h1
   by_cases h2:hi=0
   ·subst h2
    exact fI
   ·have h2':(hi !=0)=true:=by simpa using h2
    exact fI
  ·have h1':(lo !=0)=true:=by simpa using h1
   exact fI
 ·go_enter Tryz.func24,Tryz.ntmps24
  go_wp2
  go_ret2
  exact⟨fr (by rw[HY.out];simp_all) (by rw[HN.out];simp),by go_grown⟩):p:=h
theorem iD (g:Gs)(ss:oA)(gc:Nat)(w:World):
  Calls pG 24 #[gv g ss gc] w λe w'=>e=Rt (Tu #[Bb (bI g),Bb (b9 g)])/\Below w.heap.size w w':=by
 have HI:=aa (λw=>gN g.sp 0 w);have HY:Hid (bI g=((!g.sp.n&& !decide (g.sp.lo=0/\g.sp.hi=0))||(g.t||decide (0 < g.s.length)))):=rfl;have HN:Hid (b9 g=(g.sp.has 0||(g.n||g.f))):=rfl;generalize bI g=yy at *;generalize b9 g=nn at *;generalize g.sp.has 0=z at *;obtain⟨n,⟨sn,lo,hi⟩,t,f,s⟩:=g;cases n
 ·cases f
  ·cases t
   ·by_cases hl:0 < s.length
    ·have hl':(0:Int) < (s.length:Int):=by omega
     go_enter Tryz.func24,Tryz.ntmps24;exact eK
    ·have hl':¬(0:Int) < (s.length:Int):=by omega
     cases sn
     ·by_cases h1:lo=0
      ·subst h1
       by_cases h2:hi=0
       ·subst h2
        go_enter Tryz.func24,Tryz.ntmps24;exact eK
       ·have h2':(hi !=0)=true:=by simpa using h2
        go_enter Tryz.func24,Tryz.ntmps24;exact eK
      ·have h1':(lo !=0)=true:=by simpa using h1
       go_enter Tryz.func24,Tryz.ntmps24;exact eK
     ·go_enter Tryz.func24,Tryz.ntmps24
      exact eK
   ·go_enter Tryz.func24,Tryz.ntmps24
    exact eK
  ·cases t
   ·by_cases hl:0 < s.length
    ·have hl':(0:Int) < (s.length:Int):=by omega
     exact fI
    ·have hl':¬(0:Int) < (s.length:Int):=by omega
     exact pa
   ·go_enter Tryz.func24,Tryz.ntmps24
    go_wp2
    go_ret2
    exact⟨fr (by rw[HY.out];simp_all) (by rw[HN.out];simp),by go_grown⟩
 ·cases t
  ·by_cases hl:0 < s.length
   ·have hl':(0:Int) < (s.length:Int):=by omega
    exact fI
   ·have hl':¬(0:Int) < (s.length:Int):=by omega
    exact pa
  ·go_enter Tryz.func24,Tryz.ntmps24
   go_wp2
   go_ret2
   exact⟨fr (by rw[HY.out];simp_all) (by rw[HN.out];simp),by go_grown⟩

theorem n9 (w:World)(g:Gs)(ss:oA)(gc:Nat)(h:Gs)(st:oA)(hc:Nat):
  GuAt ((w.alloc (Cc #[Bb g.n,Bb g.sp.n,I Y g.sp.lo,I Y g.sp.hi,Bb g.t,Bb g.f,U ss g.s.length gc] 61)).alloc (Cc #[Bb h.n,Bb h.sp.n,I Y h.sp.lo,I Y h.sp.hi,Bb h.t,Bb h.f,U st h.s.length hc] 61)) w.heap.size 0 g ss gc/\GuAt ((w.alloc (Cc #[Bb g.n,Bb g.sp.n,I Y g.sp.lo,I Y g.sp.hi,Bb g.t,Bb g.f,U ss g.s.length gc] 61)).alloc (Cc #[Bb h.n,Bb h.sp.n,I Y h.sp.lo,I Y h.sp.hi,Bb h.t,Bb h.f,U st h.s.length hc] 61)) (w.heap.size+1) 0 h st hc/\Below w.heap.size w ((w.alloc (Cc #[Bb g.n,Bb g.sp.n,I Y g.sp.lo,I Y g.sp.hi,Bb g.t,Bb g.f,U ss g.s.length gc] 61)).alloc (Cc #[Bb h.n,Bb h.sp.n,I Y h.sp.lo,I Y h.sp.hi,Bb h.t,Bb h.f,U st h.s.length hc] 61)):=by
 refine⟨(GuAt.new w g ss gc).alloc _,?_,by go_grown⟩;have:=GuAt.new (w.alloc (Cc #[Bb g.n,Bb g.sp.n,I Y g.sp.lo,I Y g.sp.hi,Bb g.t,Bb g.f,U ss g.s.length gc] 61)) h st hc;rw[zA] at this;exact this
end
section
open Go.RowKit Go.Sort
theorem nM {P:Program}(w:World)(base:Nat)(t ty e:TypeId)(i:TypeInfo)(size:Nat)(ht:P.underlying t=sO (.slice e))(hi:P.info? e=sO i)
  (v:Value)(n c:Nat)(xs:List Value)(hown:w.ownsRow base e size v n xs):
  (Builtin.append_ #[t,t] ty #[v,U nO 0 c]).run P w=.ok v w:=by
 rcases hown.2 with⟨rfl,rfl⟩|⟨g,cap,cur,rfl,_,_,hnc,_⟩
 ·simp[Builtin.append_,run_underlying ht,sizeOf,typeInfo,hi,Builtin.lenOf,Builtin.firstCells]
 ·simp[Builtin.append_,run_underlying ht,sizeOf,typeInfo,hi,Builtin.lenOf,Builtin.firstCells,hnc,storeCells]

theorem k9 {P:Program}(w:World){ops:Array Oper}{rest:List Oper}{o:Oper}{a:Act}{Q:Exit->Act->World->Prop}(hgd:o.guard=nO)(s x:Operand)(t:TypeId)
  (ho:o.op=.call {callee:=.builtin .append,args:=#[s,x],argTypes:=#[t,t]})
  (base:Nat)(e:TypeId)(i:TypeInfo)(size:Nat)(ht:P.underlying t=sO (.slice e))(hi:P.info? e=sO i)
  (v:Value)(n c:Nat)(xs:List Value)(hs:a.eval s=v)(hown:w.ownsRow base e size v n xs)(hx:a.eval x=U nO 0 c)
  (h:wpList P ops Q rest (a.put o.dst v) w):wpList P ops Q (o::rest) a w:=by
 refine wpList_plain hgd λK hK=> ?_;have hr:=nM (P:=P) w base t o.type e i size ht hi v n c xs hown;unfold Oper.wp execOp;simp only[ho,resolve,invoke,builtin,Sem.run_bind,Sem.run_pure,Result.andThen_ok,List.map_toArray,List.map_cons,List.map_nil,hs,hx,hr];exact hK _ _ h

theorem Ai (w:World):grow w #[]=w:=by simp[grow]

theorem rC {w:World}{B g cap n m:Nat}{e:TypeId}{xs:List Value}(h:w.ownsRow B e 1 (U (sO ⟨g,0,nO⟩) n cap) n xs)(hm:m<=n):w.ownsRow B e 1 (U (sO ⟨g,0,nO⟩) m cap) m (xs.take m):=by
 obtain⟨hl,h2⟩:=h;rcases h2 with⟨h',_⟩|⟨g',cap',cur,h',hb,hg,h1,h2,h3,h4⟩
 ·cases h'
 ·cases h'
  refine⟨by rw[List.length_take];omega,.inr ⟨g,cap,cur,rfl,hb,hg,by omega,h2,h3,?_⟩⟩;rw[<-h4,List.take_take];congr 1;omega

theorem IntsAt.own {w:World}{B n:Nat}{e:TypeId}{v:Value}{l:List Int}(h:w.ownsRow B e 1 v n (l.map (.int .i64))):
  ∃ss cap,v=U ss l.length cap/\IntsAt w ss l/\l.length<=cap/\cap<=maxLen/\∀a,ss=sO a->B<=a.block:=by
 have hn:l.length=n:=by have:=h.1;simpa using this
 subst hn;rcases h.2 with⟨rfl,h0⟩|⟨g,cap,cur,rfl,hb,hg,h1,h2,h3,h4⟩
 ·have:l=[]:=q3.1 h0
  subst this;exact⟨nO,0,rfl,.inl rfl,lR _,by unfold maxLen;omega,λa ha=>by cases ha⟩
 ·refine⟨sO ⟨g,0,nO⟩,cap,rfl,.inr ⟨g,0,rfl,(j4.1 hg).1,λk hk=> ?_⟩,h1,h2,λa ha=>by cases ha;exact hb⟩
  have:=h.cellAt k (by omega);rw[j0,this];simp[hk]

def bW (L:List Gs):List Int:=Lib.compact ((L.flatMap Gs.s).mergeSort λx y=>decide (x<=y))

theorem AD (L:List Gs)(k:Nat)(h:k < L.length):(L.take (k+1)).flatMap Gs.s=(L.take k).flatMap Gs.s++L[k].s:=by
 rw[List.take_succ_eq_append_getElem h,q4];simp
theorem DZ (L:List Gs)(k:Nat):((L.take k).flatMap Gs.s).length<=(L.flatMap Gs.s).length:=by
 conv=>rhs;rw[<-List.take_append_drop k L]
 rw[q4,j2];omega

theorem Tryz.info_intG:(Tryz.prog.info? 3).map (λi=>(i.zero,i.size,i.bytes))=sO (sO (I Y 0),1,8):=by kernel_rfl
theorem gX {w:World}{B:Nat}{e:TypeId}{z:Nat}{v:Value}{n:Nat}{xs:List Value}(h:w.ownsRow B e z v n xs){k:Nat}(hk:v.ownBlock=sO k):B<=k:=by
 rcases h.2 with⟨rfl,_⟩|⟨g,cap,cur,rfl,hb,hg,_⟩
 ·cases hk
 ·cases hk
  exact hb

theorem sE (ls:oA)(L:List Gs)(lc:Nat)(w:World)(hL:GsAt w ls L)(hl:L.length<=1000000)(hT:(L.flatMap Gs.s).length<=1000000):
  Calls pG 136 #[U ls L.length lc] w λe w'=>∃v,e=Rt v/\w'.ownsRow w.heap.size 3 1 v (bW L).length ((bW L).map (.int .i64))/\Below w.heap.size w w':=by
 obtain⟨ti,hi,hz0,hz1,hz2⟩:=info_parts Tryz.info_intG;go_enter Tryz.func136,Tryz.ntmps136;go_wp2;go_loopw [3,8] (λo i wr=>∃k:Nat,k<=L.length/\i=I Y k/\wr.ownsRow w.heap.size 3 1 o ((L.take k).flatMap Gs.s).length (((L.take k).flatMap Gs.s).map (.int .i64))/\Below w.heap.size w wr) (λ_ i _=>L.length - (intOf i).toNat)
 case atStart=>exact⟨0,j1 _,rfl,⟨by simp,.inl ⟨rfl,by simp⟩⟩,bR _ _⟩
 case round=>
  obtain⟨k,hk,rfl,hown,hbr⟩:=hrel;have s1:=hbr.size;by_cases hlt:k < L.length
  ·obtain⟨b,off,rfl,ss,gc,GR,IR,hg1,hg2⟩:=hL.below hbr (lR _) k hlt
   obtain⟨⟨g0,g1,g2,g3,g4,g5,g6⟩,gz⟩:=id GR;have n0:(0:Int)<=(k:Int):=by omega
   have n1:(k:Int) < (L.length:Int):=by omega
   have HC:=aa (AD L k hlt);have c1:=DZ L (k+1);rw[HC.out,j2] at c1;have IA:=IR.alloc (Cc #[Bb L[k].n,Bb L[k].sp.n,I Y L[k].sp.lo,I Y L[k].sp.hi,Bb L[k].t,Bb L[k].f,U ss L[k].s.length gc] 61);have OA:=hown.alloc (Cc #[Bb L[k].n,Bb L[k].sp.n,I Y L[k].sp.lo,I Y L[k].sp.hi,Bb L[k].t,Bb L[k].f,U ss L[k].s.length gc] 61);have BA:=hbr.alloc s1 (Cc #[Bb L[k].n,Bb L[k].sp.n,I Y L[k].sp.lo,I Y L[k].sp.hi,Bb L[k].t,Bb L[k].f,U ss L[k].s.length gc] 61);cases ss with
   |none=>
    have h0:L[k].s=[]:=by
     rcases IR with h|⟨_,_,h,_⟩
     ·exact h
     ·cases h
    have HC':Hid ((L.take (k+1)).flatMap Gs.s=(L.take k).flatMap Gs.s):=by show _=_;rw[HC.out,h0,List.append_nil]
    rw[h0] at OA BA g6;clear IA HC c1;go_wp2_with (at_builtin;refine k9 _ rfl _ _ 59 rfl w.heap.size 3 ti 1 Tryz.underlying59 hi _ _ gc _ rfl OA rfl ?_);go_roundw
    case rel=>exact⟨k+1,by omega,by go_num,by rw[HC'.out];exact OA,BA⟩
    case measure=>simp[intOf];omega
   |some ad=>
    have hnews:∀j u,(L[k].s.map (Value.int .i64))[j]? =sO u->(wr.alloc (Cc #[Bb L[k].n,Bb L[k].sp.n,I Y L[k].sp.lo,I Y L[k].sp.hi,Bb L[k].t,Bb L[k].f,U (sO ad) L[k].s.length gc] 61)).cell? (ad.add j)=sO u:=by
     intro j u hju;have hj:j < L[k].s.length:=by
      have:=(q5.1 hju).1;simpa using this
     obtain⟨b',off',e',hb',hc'⟩:=IA.get j hj;cases e';have:=hc' j hj;rw[List.getElem?_map,j6 hj] at hju;cases hju;rw[<-this,Addr.add_lit]
    clear IA;go_wp2_with (at_builtin;refine wpList_append_own _ rfl _ _ 59 rfl w.heap.size 3 ti (I Y 0) 1 8 Tryz.underlying59 hi hz0 hz1 hz2 rfl (by decide) _ _ _ rfl OA ad L[k].s.length gc (L[k].s.map (.int .i64)) rfl (by simp) hnews (λx hx=>by obtain⟨y,_,rfl⟩:=q6.1 hx;rfl) (by unfold maxLen;omega) (by omega) (by simp;omega) ?_;intro v' w3 hown' hgrow3 hnil3);go_roundw
    case rel=>exact⟨k+1,by omega,by go_num,by rw[HC.out,List.map_append,j2];exact hown',BA.grown hgrow3 (by simp;omega) (λj hj=>gX hown hj)⟩
    case measure=>simp[intOf];omega
  ·have hk':k=L.length:=by omega
   subst hk';rw[List.take_length] at hown;have HS:Hid (bW L=Lib.compact ((L.flatMap Gs.s).mergeSort λx y=>decide (x<=y))):=rfl;generalize hzs:L.flatMap Gs.s=zs at *;have HZ:=aa hzs;clear hzs hL;rcases hown.2 with⟨rfl,h0⟩|⟨g,cap,cur,rfl,hbg,hg,h1,h2,h3,h4⟩
   ·have hnil:zs=[]:=q3.1 h0
    have HE:Hid (bW L=[]):=by show _=_;rw[HS.out,hnil];simp[Lib.compact,Lib.compactUpTo]
    clear HS HZ hnil h0;go_wp2_with (go_at_call 159;fail);refine(Tryz.slices_Sort_int_none _ _ _).mono ?_;rintro e w1 ⟨rfl,rfl⟩;go_wp2_with (go_at_call 160;fail);refine(Tryz.slices_Compact_int_empty _ _ _).mono ?_;rintro e w1 ⟨rfl,rfl⟩;go_wp2;go_ret;exact⟨_,rfl,by rw[HE.out];exact⟨rfl,.inl ⟨rfl,rfl⟩⟩,hbr⟩
   ·have hgl:g < wr.heap.size:=(j4.1 hg).1
    rw[Nat.mul_one] at h4;go_wp2_with (go_at_call 159;fail);refine(Tryz.slices_Sort_int g 0 cap zs _ (holds_of_blockI hg h4) hgl (by omega)).mono ?_;rintro e w1 ⟨rfl,n,os,hw1⟩;have hml:(zs.mergeSort λx y=>decide (x<=y)).length=zs.length:=List.length_mergeSort _;have O1:w1.ownsRow w.heap.size 3 1 (U (sO ⟨g,0,nO⟩) zs.length cap) zs.length ((zs.mergeSort λx y=>decide (x<=y)).map (.int .i64)):=by
     rw[hw1];exact ownsRow_sortedI hml hbg hg h1 h2 h3
    have B1:Below w.heap.size w w1:=by
     rw[hw1];exact hbr.grown (grownBy_sortedI _) s1 (λj hj=>by cases hj;exact hbg)
    clear hw1;generalize hys:(zs.mergeSort λx y=>decide (x<=y))=ys at *;have HE:Hid (bW L=Lib.compact ys):=HS.out;have hyl:ys.length=zs.length:=hml;clear hys hml HS hown h4 h3 hg hbr;rcases O1.2 with⟨h',_⟩|⟨g',cap',cur',h',-,hg',h1',h2',h3',h4'⟩
    ·cases h'
    ·cases h'
     rw[Nat.mul_one,<-hyl] at h4';have hcl:=Lib.compact_length_le ys;go_wp2_with (go_at_call 160;fail);rw[<-hyl];refine(Tryz.slices_Compact_int g 0 cap ys _ (holds_of_blockI hg' h4') (by omega) (by omega)).mono ?_;rintro e w2 ⟨rfl,q,hw2⟩;rw[<-Ai (putRow _ _ _ _ _)] at hw2;have htl:(Lib.compact ys++List.replicate (ys.length - (Lib.compact ys).length) (0:Int)).length=ys.length:=by rw[j2,List.length_replicate];omega
     have O2:=ownsRow_sortedI (w:=w1) (n:=q) (os:=#[]) (ss:=ys) htl hbg hg' (by omega) h2' h3';rw[<-hw2] at O2;have B2:Below w.heap.size w w2:=by
      rw[hw2];exact B1.grown (grownBy_sortedI _) B1.size (λj hj=>by cases hj;exact hbg)
     have O3:=rC O2 hcl;rw[<-List.map_take,List.take_left] at O3;clear hw2 O2 O1 B1 htl hg' h4';go_wp2;go_ret;exact⟨_,rfl,by rw[HE.out];exact O3,B2⟩
end
section
open Go.RowKit
abbrev bw (w:World)(V F:Int)(s:oA)(c:List Ins)(cap:Nat)(g:Gs)(ss:oA)(gc:Nat)(h:Gs)(st:oA)(hc:Nat):World:=
 (((w.alloc (Cc #[I Y V,I Y F,U s c.length cap] 24)).alloc (Cc #[Bb g.n,Bb g.sp.n,I Y g.sp.lo,I Y g.sp.hi,Bb g.t,Bb g.f,U ss g.s.length gc] 61)).alloc (Cc #[Bb h.n,Bb h.sp.n,I Y h.sp.lo,I Y h.sp.hi,Bb h.t,Bb h.f,U st h.s.length hc] 61)).alloc (Cc #[Bb false,Bb false,I Y 0,I Y 0,Bb false,Bb false,U nO 0 0] 61)

def Fr7 (w:World)(b:Nat):Prop:=(∀j,w.frozen? ⟨b,j,nO⟩=false)/\b < w.heap.size
theorem Fr7.call {w w':World}{b:Nat}(h:Fr7 w b)(hb:Below w.heap.size w w'):Fr7 w' b:=
 ⟨λj=>by rw[hb.frozen (by simpa using h.2)];exact h.1 j,lL h.2 hb.size⟩

theorem Fr7.drew {w:World}{b:Nat}(h:Fr7 w b):Fr7 w.drew b:=h.call (bR _ _).drew
theorem Fr7.alloc {w:World}{b:Nat}(h:Fr7 w b)(o:Obj):Fr7 (w.alloc o) b:=h.call (Below.alloc (bR _ _) (lR _) o)

theorem dw {V F:Int}{c:List Ins}{g h:Gs}(hk:aP V F c [g,h]=0):bj g.sp h.sp=0:=by
 unfold aP at hk;split at hk
 ·have e:bm c [g,h]=if ap c g=0 then(if ap c h=0 then 0 else ap c h) else ap c g:=rfl
  have sp0:∀x,ap c x=0->bK x.sp=0:=λx hx=>by
   unfold ap at hx;split at hx
   ·assumption
   ·rename_i hn;exact Decidable.not_not.1 hn
  rw[e] at hk;by_cases hg:ap c g=0
  ·rw[if_pos hg] at hk
   by_cases hh:ap c h=0
   ·exact ckSps_ok.2 ⟨ckSp_ok.1 (sp0 g hg),ckSp_ok.1 (sp0 h hh)⟩
   ·rw[if_neg hh] at hk;exact absurd hk hh
  ·rw[if_neg hg] at hk;exact absurd hk hg
 ·rename_i hn;exact absurd hk hn

theorem dn (w:World)(V F:Int)(s:oA)(c:List Ins)(cap:Nat)(g:Gs)(ss:oA)(gc:Nat)(h:Gs)(st:oA)(hc:Nat):
  PrAt (bw w V F s c cap g ss gc h st hc) w.heap.size V F s c cap/\GuAt (bw w V F s c cap g ss gc h st hc) (w.heap.size+1) 0 g ss gc/\GuAt (bw w V F s c cap g ss gc h st hc) (w.heap.size+1+1) 0 h st hc/\GuAt (bw w V F s c cap g ss gc h st hc) (w.heap.size+1+1+1) 0 bl nO 0/\Fr7 (bw w V F s c cap g ss gc h st hc) (w.heap.size+1+1+1):=by
 refine⟨?_,?_,?_,?_,?_⟩
 ·exact(((PrAt.new w V F s c cap).alloc _).alloc _).alloc _
 ·have:=GuAt.new (w.alloc (Cc #[I Y V,I Y F,U s c.length cap] 24)) g ss gc
  rw[zA] at this;exact(this.alloc _).alloc _
 ·have:=GuAt.new ((w.alloc (Cc #[I Y V,I Y F,U s c.length cap] 24)).alloc (Cc #[Bb g.n,Bb g.sp.n,I Y g.sp.lo,I Y g.sp.hi,Bb g.t,Bb g.f,U ss g.s.length gc] 61)) h st hc
  simp only[zA] at this;exact this.alloc _
 ·have:=GuAt.new (((w.alloc (Cc #[I Y V,I Y F,U s c.length cap] 24)).alloc (Cc #[Bb g.n,Bb g.sp.n,I Y g.sp.lo,I Y g.sp.hi,Bb g.t,Bb g.f,U ss g.s.length gc] 61)).alloc (Cc #[Bb h.n,Bb h.sp.n,I Y h.sp.lo,I Y h.sp.hi,Bb h.t,Bb h.f,U st h.s.length hc] 61)) bl nO 0
  simp only[zA] at this;exact this
 ·refine⟨λj=> ?_,by simp⟩
  simp[go_sem]

theorem cA (w:World)(V F:Int)(s:oA)(c:List Ins)(cap:Nat)(g:Gs)(ss:oA)(gc:Nat)(h:Gs)(st:oA)(hc:Nat):Below w.heap.size w (bw w V F s c cap g ss gc h st hc):=by go_grown

def nl (w:World)(jb:Nat)(g:Gs)(ss:oA)(gc:Nat)(h:Gs)(st:oA)(hc:Nat)(J:Sp)(w':World):Prop:=
 (w'.cell? ⟨w.heap.size+1,0,nO⟩=sO (Bb g.n)/\w'.cell? ⟨w.heap.size+1,1,nO⟩=sO (Bb g.sp.n)/\w'.cell? ⟨w.heap.size+1,2,nO⟩=sO (I Y g.sp.lo)/\w'.cell? ⟨w.heap.size+1,3,nO⟩=sO (I Y g.sp.hi)/\w'.cell? ⟨w.heap.size+1,4,nO⟩=sO (Bb g.t)/\w'.cell? ⟨w.heap.size+1,5,nO⟩=sO (Bb g.f)/\w'.cell? ⟨w.heap.size+1,6,nO⟩=sO (U ss g.s.length gc))/\
 (w'.cell? ⟨w.heap.size+1+1,0,nO⟩=sO (Bb h.n)/\w'.cell? ⟨w.heap.size+1+1,1,nO⟩=sO (Bb h.sp.n)/\w'.cell? ⟨w.heap.size+1+1,2,nO⟩=sO (I Y h.sp.lo)/\w'.cell? ⟨w.heap.size+1+1,3,nO⟩=sO (I Y h.sp.hi)/\w'.cell? ⟨w.heap.size+1+1,4,nO⟩=sO (Bb h.t)/\w'.cell? ⟨w.heap.size+1+1,5,nO⟩=sO (Bb h.f)/\w'.cell? ⟨w.heap.size+1+1,6,nO⟩=sO (U st h.s.length hc))/\
 (w'.cell? ⟨jb,0,nO⟩=sO (Bb J.n)/\w'.cell? ⟨jb,1,nO⟩=sO (I Y J.lo)/\w'.cell? ⟨jb,2,nO⟩=sO (I Y J.hi))


abbrev fA (w:World)(b:Nat)(v0 v1 v2 v3 v4 v5 v6:Value):World:=((((((w.setCell ⟨b,0,nO⟩ v0).setCell ⟨b,1,nO⟩ v1).setCell ⟨b,2,nO⟩ v2).setCell ⟨b,3,nO⟩ v3).setCell ⟨b,4,nO⟩ v4).setCell ⟨b,5,nO⟩ v5).setCell ⟨b,6,nO⟩ v6
theorem rh (w:World)(b k:Nat)(v0 v1 v2 v3 v4 v5 v6:Value)(h:k≠b):(fA w b v0 v1 v2 v3 v4 v5 v6).heap[k]? =w.heap[k]? :=by
 unfold fA;rw[hSe _ _ _ _ h,hSe _ _ _ _ h,hSe _ _ _ _ h,hSe _ _ _ _ h,hSe _ _ _ _ h,hSe _ _ _ _ h,hSe _ _ _ _ h]
theorem lu (w:World)(b:Nat)(v0 v1 v2 v3 v4 v5 v6:Value):(fA w b v0 v1 v2 v3 v4 v5 v6).heap.size=w.heap.size:=by simp[fA]
theorem p8 (w:World)(b k j:Nat)(v0 v1 v2 v3 v4 v5 v6:Value)(h:k≠b):(fA w b v0 v1 v2 v3 v4 v5 v6).cell? ⟨k,j,nO⟩=w.cell? ⟨k,j,nO⟩:=j5 (a:=⟨k,j,nO⟩) (rh w b k v0 v1 v2 v3 v4 v5 v6 h)
theorem GuAt.put7 {w:World}{b k o:Nat}{g:Gs}{ss:oA}{cap:Nat}{v0 v1 v2 v3 v4 v5 v6:Value}(hg:GuAt w k o g ss cap)(h:k≠b):GuAt (fA w b v0 v1 v2 v3 v4 v5 v6) k o g ss cap:=by
 obtain⟨⟨h0,h1,h2,h3,h4,h5,h6⟩,hz⟩:=hg;refine⟨⟨?_,?_,?_,?_,?_,?_,?_⟩,by rw[lu];exact hz⟩<;>rw[p8 _ _ _ _ _ _ _ _ _ _ _ h]<;>assumption
theorem SpAt.put7 {w:World}{b k:Nat}{s:Sp}{v0 v1 v2 v3 v4 v5 v6:Value}(hg:SpAt w k s)(h:k≠b):SpAt (fA w b v0 v1 v2 v3 v4 v5 v6) k s:=by
 obtain⟨⟨h0,h1,h2⟩,hz⟩:=hg;refine⟨⟨?_,?_,?_⟩,by rw[lu];exact hz⟩<;>rw[p8 _ _ _ _ _ _ _ _ _ _ _ h]<;>assumption
theorem aX {B b:Nat}{a w:World}{v0 v1 v2 v3 v4 v5 v6:Value}(h:Below B a w)(hg:B<=b):Below B a (fA w b v0 v1 v2 v3 v4 v5 v6):=((((((h.setCell (by simpa using hg) _).setCell (by simpa using hg) _).setCell (by simpa using hg) _).setCell (by simpa using hg) _).setCell (by simpa using hg) _).setCell (by simpa using hg) _).setCell (by simpa using hg) _
theorem dQ {w:World}{B B' n z:Nat}{e:TypeId}{v:Value}{xs:List Value}(h:w.ownsRow B e z v n xs)(hB:B'<=B):w.ownsRow B' e z v n xs:=
 ⟨h.1,h.2.imp id λ⟨g,cap,cur,r1,r2,r3⟩=>⟨g,cap,cur,r1,by omega,r3⟩⟩
theorem dR {w:World}{B n b z:Nat}{e:TypeId}{v:Value}{xs:List Value}{v0 v1 v2 v3 v4 v5 v6:Value}(h:w.ownsRow B e z v n xs)(hb:b < B):(fA w b v0 v1 v2 v3 v4 v5 v6).ownsRow B e z v n xs:=
 ⟨h.1,h.2.imp id λ⟨g,cap,cur,r1,r2,r3,r4⟩=>⟨g,cap,cur,r1,r2,by rw[rh _ _ _ _ _ _ _ _ _ _ (by omega)];exact r3,r4⟩⟩
theorem GsAt.drew {w:World}{ls:oA}{L:List Gs}(h:GsAt w ls L):GsAt w.drew ls L:=h.call ((bR _ _).drew)

theorem oY {p:Prop}(h:p:=by
 refine(hJ.out _).mono ?_;rintro e w2 ⟨rfl,hb2⟩;have G2:=G1.call hb2;have H2:=H1.call hb2;have R2:=R1.call hb2;have I2:=I1.call hb2;have J2:=J1.call hb2;have F2:=F1.call hb2;have B2:=B1.trans (hb2.mono B1.size);clear hb2 G1 H1 R1 I1 J1 F1 B1 g0 g1 g2 g3 g4 g5 g6 gz k0 k1 k2 k3 k4 k5 k6 kz hJ;go_wp2;have G3:=G2.alloc (.cells #[.bool J.n,.int .i64 J.lo,.int .i64 J.hi] 58);have H3:=H2.alloc (.cells #[.bool J.n,.int .i64 J.lo,.int .i64 J.hi] 58);have R3:=R2.alloc (.cells #[.bool J.n,.int .i64 J.lo,.int .i64 J.hi] 58);have I3:=I2.alloc (.cells #[.bool J.n,.int .i64 J.lo,.int .i64 J.hi] 58);have J3:=J2.alloc (.cells #[.bool J.n,.int .i64 J.lo,.int .i64 J.hi] 58);have F3:=F2.alloc (.cells #[.bool J.n,.int .i64 J.lo,.int .i64 J.hi] 58);have B3:=B2.alloc B2.size (.cells #[.bool J.n,.int .i64 J.lo,.int .i64 J.hi] 58);have S3:=SpAt.new w2 J;have zj:w.heap.size+1+1+1 < w2.heap.size:=F2.2;clear G2 H2 R2 I2 J2 F2 B2;generalize w2.alloc (.cells #[.bool J.n,.int .i64 J.lo,.int .i64 J.hi] 58)=w3 at *;generalize w2.heap.size=jb at *;have KS:∀wx,GuAt wx (w.heap.size+1) 0 g ss gc->GuAt wx (w.heap.size+1+1) 0 h st hc->SpAt wx jb J->nl w jb g ss gc h st hc J wx:=λwx a b c=>⟨by simpa using a.1,by simpa using b.1,c.1⟩;unfold nl at KS;obtain⟨n,sp,t,f,sl⟩:=g;refine wp_region_held_drew (S:=nl w jb ⟨n,sp,t,f,sl⟩ ss gc h st hc J) (by kernel_rfl) (KS _ G3.drew H3.drew S3.drew) (λhHeld=> ?_);unfold nl at hHeld |-;refine vH 0 ?_ ?_;refine vH 1 ?_ ?_;refine vH 2 ?_ ?_;refine wpAnyH_take (i:=3) (v:=if n=true then undef else .pointer (some ⟨w.heap.size+1+1,0,none⟩)) rfl (by kernel_rfl) (by kernel_rfl) (by kernel_rfl) (λ_ _ _ h=>h) ?_ (by assumption) ?_
 ·cases n
  ·refine Or.inl ⟨?_,?_⟩
   ·rfl
   ·(intro w hSw;(try dsimp only at hSw);first|(go_simp;done)|(go_simp;with_reducible rfl))
  ·exact Or.inr ⟨rfl,rfl⟩
 refine sm ?_;refine wpAnyH_take (i:=4) (v:=if n=true then undef else .bool h.n) rfl (by kernel_rfl) (by kernel_rfl) (by kernel_rfl) (λ_ _ _ h=>h) ?_ (by assumption) ?_
 ·cases n
  ·refine Or.inl ⟨?_,?_⟩
   ·rfl
   ·(intro w hSw;(try dsimp only at hSw);first|(go_simp;done)|(go_simp;with_reducible rfl))
  ·exact Or.inr ⟨rfl,rfl⟩
 refine sm ?_;refine wpAnyH_take (i:=5) (v:=.bool (n||h.n)) rfl (by kernel_rfl) (by kernel_rfl) (by kernel_rfl) (λ_ _ _ h=>h) ?_ (by assumption) ?_
 ·cases n
  ·refine Or.inl ⟨?_,?_⟩
   ·rfl
   ·(intro w hSw;(try dsimp only at hSw);first|(go_simp;done)|(go_simp;with_reducible rfl))
  ·refine Or.inl ⟨?_,?_⟩
   ·rfl
   ·(intro w hSw;(try dsimp only at hSw);first|(go_simp;done)|(go_simp;with_reducible rfl))
 refine sm ?_;refine vH 6 ?_ ?_;refine vH 7 ?_ ?_;refine vH 8 ?_ ?_;refine vH 9 ?_ ?_;refine wpAnyH_take (i:=10) (v:=if t=true then undef else .pointer (some ⟨w.heap.size+1+1,4,none⟩)) rfl (by kernel_rfl) (by kernel_rfl) (by kernel_rfl) (λ_ _ _ h=>h) ?_ (by assumption) ?_
 ·cases t
  ·refine Or.inl ⟨?_,?_⟩
   ·rfl
   ·(intro w hSw;(try dsimp only at hSw);first|(go_simp;done)|(go_simp;with_reducible rfl))
  ·exact Or.inr ⟨rfl,rfl⟩
 refine sm ?_;refine wpAnyH_take (i:=11) (v:=if t=true then undef else .bool h.t) rfl (by kernel_rfl) (by kernel_rfl) (by kernel_rfl) (λ_ _ _ h=>h) ?_ (by assumption) ?_
 ·cases t
  ·refine Or.inl ⟨?_,?_⟩
   ·rfl
   ·(intro w hSw;(try dsimp only at hSw);first|(go_simp;done)|(go_simp;with_reducible rfl))
  ·exact Or.inr ⟨rfl,rfl⟩
 refine sm ?_;refine wpAnyH_take (i:=12) (v:=.bool (t||h.t)) rfl (by kernel_rfl) (by kernel_rfl) (by kernel_rfl) (λ_ _ _ h=>h) ?_ (by assumption) ?_
 ·cases t
  ·refine Or.inl ⟨?_,?_⟩
   ·rfl
   ·(intro w hSw;(try dsimp only at hSw);first|(go_simp;done)|(go_simp;with_reducible rfl))
  ·refine Or.inl ⟨?_,?_⟩
   ·rfl
   ·(intro w hSw;(try dsimp only at hSw);first|(go_simp;done)|(go_simp;with_reducible rfl))
 refine sm ?_;refine vH 13 ?_ ?_;refine vH 14 ?_ ?_;refine vH 15 ?_ ?_;refine wpAnyH_take (i:=16) (v:=if f=true then undef else .pointer (some ⟨w.heap.size+1+1,5,none⟩)) rfl (by kernel_rfl) (by kernel_rfl) (by kernel_rfl) (λ_ _ _ h=>h) ?_ (by assumption) ?_
 ·cases f
  ·refine Or.inl ⟨?_,?_⟩
   ·rfl
   ·(intro w hSw;(try dsimp only at hSw);first|(go_simp;done)|(go_simp;with_reducible rfl))
  ·exact Or.inr ⟨rfl,rfl⟩
 refine sm ?_;refine wpAnyH_take (i:=17) (v:=if f=true then undef else .bool h.f) rfl (by kernel_rfl) (by kernel_rfl) (by kernel_rfl) (λ_ _ _ h=>h) ?_ (by assumption) ?_
 ·cases f
  ·refine Or.inl ⟨?_,?_⟩
   ·rfl
   ·(intro w hSw;(try dsimp only at hSw);first|(go_simp;done)|(go_simp;with_reducible rfl))
  ·exact Or.inr ⟨rfl,rfl⟩
 refine sm ?_;refine wpAnyH_take (i:=18) (v:=.bool (f||h.f)) rfl (by kernel_rfl) (by kernel_rfl) (by kernel_rfl) (λ_ _ _ h=>h) ?_ (by assumption) ?_
 ·cases f
  ·refine Or.inl ⟨?_,?_⟩
   ·rfl
   ·(intro w hSw;(try dsimp only at hSw);first|(go_simp;done)|(go_simp;with_reducible rfl))
  ·refine Or.inl ⟨?_,?_⟩
   ·rfl
   ·(intro w hSw;(try dsimp only at hSw);first|(go_simp;done)|(go_simp;with_reducible rfl))
 refine sm ?_;refine vH 19 ?_ ?_;refine vH 20 ?_ ?_;have L3:=(GsAt.new2 w3 ⟨n,sp,t,f,sl⟩ ss gc h st hc I3 h1 h2 J3 h3 h4).drew;have G4:=G3.alloc (.cells #[.bool n,.bool sp.n,.int .i64 sp.lo,.int .i64 sp.hi,.bool t,.bool f,.slice ss sl.length gc,.bool h.n,.bool h.sp.n,.int .i64 h.sp.lo,.int .i64 h.sp.hi,.bool h.t,.bool h.f,.slice st h.s.length hc] 61);have H4:=H3.alloc (.cells #[.bool n,.bool sp.n,.int .i64 sp.lo,.int .i64 sp.hi,.bool t,.bool f,.slice ss sl.length gc,.bool h.n,.bool h.sp.n,.int .i64 h.sp.lo,.int .i64 h.sp.hi,.bool h.t,.bool h.f,.slice st h.s.length hc] 61);have R4:=R3.alloc (.cells #[.bool n,.bool sp.n,.int .i64 sp.lo,.int .i64 sp.hi,.bool t,.bool f,.slice ss sl.length gc,.bool h.n,.bool h.sp.n,.int .i64 h.sp.lo,.int .i64 h.sp.hi,.bool h.t,.bool h.f,.slice st h.s.length hc] 61);have F4:=F3.alloc (.cells #[.bool n,.bool sp.n,.int .i64 sp.lo,.int .i64 sp.hi,.bool t,.bool f,.slice ss sl.length gc,.bool h.n,.bool h.sp.n,.int .i64 h.sp.lo,.int .i64 h.sp.hi,.bool h.t,.bool h.f,.slice st h.s.length hc] 61);have S4:=S3.alloc (.cells #[.bool n,.bool sp.n,.int .i64 sp.lo,.int .i64 sp.hi,.bool t,.bool f,.slice ss sl.length gc,.bool h.n,.bool h.sp.n,.int .i64 h.sp.lo,.int .i64 h.sp.hi,.bool h.t,.bool h.f,.slice st h.s.length hc] 61);have B4:=(B3.alloc B3.size (.cells #[.bool n,.bool sp.n,.int .i64 sp.lo,.int .i64 sp.hi,.bool t,.bool f,.slice ss sl.length gc,.bool h.n,.bool h.sp.n,.int .i64 h.sp.lo,.int .i64 h.sp.hi,.bool h.t,.bool h.f,.slice st h.s.length hc] 61)).drew;refine wpAnyH_ready (rs:=[21]) (by kernel_rfl) (by simp) ?_;refine AllReadyH.cons rfl (λK hK=> ?_) AllReadyH.nil;go_simp;refine hK.out _ _ (KS _ G4.drew H4.drew S4.drew) (λhHeld=> ?_);clear hK K;refine sm ?_;refine wpAnyH_ready (rs:=[22]) (by kernel_rfl) (by simp) ?_;refine AllReadyH.cons rfl (λK hK=> ?_) AllReadyH.nil;go_simp;refine(sE _ [⟨n,sp,t,f,sl⟩,h] 2 _ L3 (by simp) hlen).mono ?_;rintro e w5 ⟨v,rfl,hown,hb5⟩;have G5:=G4.drew.call hb5;have H5:=H4.drew.call hb5;have R5:=R4.drew.call hb5;have F5:=F4.drew.call hb5;have S5:=S4.drew.call hb5;have B5:Below w.heap.size w w5:=B4.trans (hb5.mono B4.size);have z5:w.heap.size+1+1+1 < w3.heap.size:=F3.2;simp only[World.size_drew,World.size_alloc] at hown;have O5:=hown;clear hb5 G4 H4 R4 F4 S4 B4 L3 G3 H3 R3 F3 S3 B3 I3 J3;obtain⟨vs,vc,rfl,-,-,-,hvb⟩:=IntsAt.own hown;refine hK.out _ _ (KS _ G5 H5 S5) (λhHeld=> ?_);clear hK K hown;refine sm ?_;refine vH 23 ?_ ?_;obtain⟨⟨r0,r1,r2,r3,r4,r5,r6⟩,rz⟩:=id R5;simp only[Nat.zero_add,bl] at r0 r1 r2 r3 r4 r5 r6;have fz:=F5.1;refine wpAnyH_ready (rs:=[24]) (by kernel_rfl) (by simp) ?_;refine AllReadyH.cons rfl (λK hK=> ?_) AllReadyH.nil;go_simp;refine hK.out _ _ (KS _ (G5.put7 (by omega)) (H5.put7 (by omega)) (S5.put7 (by omega))) (λhHeld=> ?_);clear hK K;refine sm ?_;refine vH 25 ?_ ?_;refine wpAnyH_done (by kernel_rfl) ?_ _;generalize (if n=true then undef else(.pointer (some ⟨w.heap.size+1+1,0,none⟩):Value))=y0;generalize (if n=true then undef else(.bool h.n:Value))=y1;generalize (if t=true then undef else(.pointer (some ⟨w.heap.size+1+1,4,none⟩):Value))=y2;generalize (if t=true then undef else(.bool h.t:Value))=y3;generalize (if f=true then undef else(.pointer (some ⟨w.heap.size+1+1,5,none⟩):Value))=y4;generalize (if f=true then undef else(.bool h.f:Value))=y5;go_wp2;refine bodyPost_ret (v:=.tuple #[.agg #[.bool (n||h.n),.bool J.n,.int .i64 J.lo,.int .i64 J.hi,.bool (t||h.t),.bool (f||h.f),.slice vs (bW [⟨n,sp,t,f,sl⟩,h]).length vc],.int .i64 0]) (by simp[results,Tryz.results109,go_sem,r0,r1,r2,r3,r4,r5,r6]) rfl ⟨_,rfl,?_,?_⟩
 ·exact dQ (dR O5 (by omega)) (by omega)
 ·exact aX B5 (by omega)):p:=h
theorem kg {p:Prop}(h:p:=by
 have HW:=aa (λls lc w hL=>mw ls [g,h] lc w (by simp) hL);generalize ([g,h].any aD&& ![g,h].any ae)=wr at HW |-;go_enter Tryz.func92,Tryz.ntmps92;go_wp2_with (go_at_call 114;fail);refine(bL V F s c cap _ [g,h] 2 _ (C0.alloc _) L0 (by simp)).mono ?_;rintro e w1 ⟨rfl,hb1⟩;rw[HK.out];have G1:=(G0.alloc _).call hb1;have H1:=(H0.alloc _).call hb1;have R1:=(R0.alloc _).call hb1;have F1:Fr7 w1 (w.heap.size+1+1+1):=(F0.alloc _).call hb1;have B1:Below w.heap.size w w1:=(B0.alloc B0.size _).trans (hb1.mono (by simp;omega));clear hb1 G0 H0 R0 I0 J0 F0 B0 C0 P0 L0 hcd hs ht HK;obtain⟨⟨g0,g1,g2,g3,g4,g5,g6⟩,gz⟩:=id G1;obtain⟨⟨k0,k1,k2,k3,k4,k5,k6⟩,kz⟩:=id H1;simp only[Nat.zero_add] at g0 g1 g2 g3 g4 g5 g6 k0 k1 k2 k3 k4 k5 k6;go_wp2_with (go_at_call 120;fail);refine(hJ.out _).mono ?_;rintro e w2 ⟨rfl,hb2⟩;have G2:=G1.call hb2;have H2:=H1.call hb2;have R2:=R1.call hb2;have F2:=F1.call hb2;have B2:=B1.trans (hb2.mono B1.size);clear hb2 G1 H1 R1 F1 B1 g0 g1 g2 g3 g4 g5 g6 gz k0 k1 k2 k3 k4 k5 k6 kz hJ;go_wp2;have G3:=G2.alloc (.cells #[.bool J.n,.int .i64 J.lo,.int .i64 J.hi] 58);have H3:=H2.alloc (.cells #[.bool J.n,.int .i64 J.lo,.int .i64 J.hi] 58);have R3:=R2.alloc (.cells #[.bool J.n,.int .i64 J.lo,.int .i64 J.hi] 58);have F3:=F2.alloc (.cells #[.bool J.n,.int .i64 J.lo,.int .i64 J.hi] 58);have B3:=B2.alloc B2.size (.cells #[.bool J.n,.int .i64 J.lo,.int .i64 J.hi] 58);have S3:=SpAt.new w2 J;have zj:w.heap.size+1+1+1 < w2.heap.size:=F2.2;clear G2 H2 R2 F2 B2;generalize w2.alloc (.cells #[.bool J.n,.int .i64 J.lo,.int .i64 J.hi] 58)=w3 at *;generalize w2.heap.size=jb at *;have KS:∀wx,GuAt wx (w.heap.size+1) 0 g ss gc->GuAt wx (w.heap.size+1+1) 0 h st hc->SpAt wx jb J->nl w jb g ss gc h st hc J wx:=λwx a b c=>⟨by simpa using a.1,by simpa using b.1,c.1⟩;refine wp_region_held_drew (S:=nl w jb g ss gc h st hc J) (by kernel_rfl) (KS _ G3.drew H3.drew S3.drew) (λhHeld=> ?_);unfold nl at hHeld KS |-;refine vH 0 ?_ ?_;refine vH 1 ?_ ?_;refine vH 2 ?_ ?_;refine vH 3 ?_ ?_;have L3:GhAt (lh w3 g ss gc h st hc).drew (some ⟨w3.heap.size,0,none⟩) [g,h]:=(GhAt.new2 w3 g ss gc h st hc).call (Below.refl _ _).drew;have G4:=G3.alloc (.cells #[.bool g.n,.bool g.sp.n,.int .i64 g.sp.lo,.int .i64 g.sp.hi,.bool g.t,.bool g.f,.slice ss g.s.length gc,.bool h.n,.bool h.sp.n,.int .i64 h.sp.lo,.int .i64 h.sp.hi,.bool h.t,.bool h.f,.slice st h.s.length hc] 61);have H4:=H3.alloc (.cells #[.bool g.n,.bool g.sp.n,.int .i64 g.sp.lo,.int .i64 g.sp.hi,.bool g.t,.bool g.f,.slice ss g.s.length gc,.bool h.n,.bool h.sp.n,.int .i64 h.sp.lo,.int .i64 h.sp.hi,.bool h.t,.bool h.f,.slice st h.s.length hc] 61);have R4:=R3.alloc (.cells #[.bool g.n,.bool g.sp.n,.int .i64 g.sp.lo,.int .i64 g.sp.hi,.bool g.t,.bool g.f,.slice ss g.s.length gc,.bool h.n,.bool h.sp.n,.int .i64 h.sp.lo,.int .i64 h.sp.hi,.bool h.t,.bool h.f,.slice st h.s.length hc] 61);have F4:=F3.alloc (.cells #[.bool g.n,.bool g.sp.n,.int .i64 g.sp.lo,.int .i64 g.sp.hi,.bool g.t,.bool g.f,.slice ss g.s.length gc,.bool h.n,.bool h.sp.n,.int .i64 h.sp.lo,.int .i64 h.sp.hi,.bool h.t,.bool h.f,.slice st h.s.length hc] 61);have S4:=S3.alloc (.cells #[.bool g.n,.bool g.sp.n,.int .i64 g.sp.lo,.int .i64 g.sp.hi,.bool g.t,.bool g.f,.slice ss g.s.length gc,.bool h.n,.bool h.sp.n,.int .i64 h.sp.lo,.int .i64 h.sp.hi,.bool h.t,.bool h.f,.slice st h.s.length hc] 61);have B4:=(B3.alloc B3.size (.cells #[.bool g.n,.bool g.sp.n,.int .i64 g.sp.lo,.int .i64 g.sp.hi,.bool g.t,.bool g.f,.slice ss g.s.length gc,.bool h.n,.bool h.sp.n,.int .i64 h.sp.lo,.int .i64 h.sp.hi,.bool h.t,.bool h.f,.slice st h.s.length hc] 61)).drew;refine wpAnyH_ready (rs:=[4]) (by kernel_rfl) (by simp) ?_;refine AllReadyH.cons rfl (λK hK=> ?_) AllReadyH.nil;go_simp;refine hK.out _ _ (KS _ G4.drew H4.drew S4.drew) (λhHeld=> ?_);clear hK K;refine sm ?_;refine wpAnyH_ready (rs:=[5]) (by kernel_rfl) (by simp) ?_;refine AllReadyH.cons rfl (λK hK=> ?_) AllReadyH.nil;go_simp;refine(HW.out _ 2 _ L3).mono ?_;rintro e w5 ⟨rfl,hb5⟩;have G5:=G4.drew.call hb5;have H5:=H4.drew.call hb5;have R5:=R4.drew.call hb5;have F5:=F4.drew.call hb5;have S5:=S4.drew.call hb5;have B5:Below w.heap.size w w5:=B4.trans (hb5.mono B4.size);clear hb5 G4 H4 R4 F4 S4 B4 L3 G3 H3 R3 F3 S3 B3;refine hK.out _ _ (KS _ G5 H5 S5) (λhHeld=> ?_);clear hK K;refine sm ?_;obtain⟨⟨r0,r1,r2,r3,r4,r5,r6⟩,rz⟩:=id R5;simp only[Nat.zero_add,bl] at r0 r1 r2 r3 r4 r5 r6;have fz:=F5.1;refine wpAnyH_ready (rs:=[6]) (by kernel_rfl) (by simp) ?_;refine AllReadyH.cons rfl (λK hK=> ?_) AllReadyH.nil;go_simp;refine hK.out _ _ (KS _ (G5.put7 (by omega)) (H5.put7 (by omega)) (S5.put7 (by omega))) (λhHeld=> ?_);clear hK K;refine sm ?_;refine vH 7 ?_ ?_;refine vH 8 ?_ ?_;refine wpAnyH_done (by kernel_rfl) ?_ _;go_wp2;refine bodyPost_ret (v:=.tuple #[gv ⟨false,J,false,false,[]⟩ none 0,.bool wr,.int .i64 0]) (by simp[results,Tryz.results92,go_sem,r0,r1,r2,r3,r4,r5,r6]) rfl ⟨rfl,?_⟩;exact aX B5 (by omega)):p:=h
theorem pP (V F:Int)(s:oA)(c:List Ins)(cap:Nat)(g:Gs)(ss:oA)(gc:Nat)(h:Gs)(st:oA)(hc:Nat)(w:World)
  (hcd:CodeAt w s c)(hs:IntsAt w ss g.s)(h1:g.s.length<=gc)(h2:gc<=maxLen)(ht:IntsAt w st h.s)(h3:h.s.length<=hc)(h4:hc<=maxLen)(hck:aP V F c [g,h]=0)(hlen:([g,h].flatMap Gs.s).length<=1000000):
  Calls pG 109 #[pv V F s c cap,gv g ss gc,gv h st hc,.func (.func 110) #[] #[]] w λe w'=>∃v,e=Rt (Tu #[Ag #[Bb (g.n||h.n),Bb (aT g.sp h.sp).n,I Y (aT g.sp h.sp).lo,I Y (aT g.sp h.sp).hi,Bb (g.t||h.t),Bb (g.f||h.f),v],I Y 0])/\w'.ownsRow w.heap.size 3 1 v (bW [g,h]).length ((bW [g,h]).map (.int .i64))/\Below w.heap.size w w':=by
 obtain⟨P0,G0,H0,R0,F0⟩:=dn w V F s c cap g ss gc h st hc;have B0:=cA w V F s c cap g ss gc h st hc;have C0:CodeAt (bw w V F s c cap g ss gc h st hc) s c:=hcd.below B0 (lR _);have I0:IntsAt (bw w V F s c cap g ss gc h st hc) ss g.s:=hs.below B0 (lR _);have J0:IntsAt (bw w V F s c cap g ss gc h st hc) st h.s:=ht.below B0 (lR _);have L0:=GsAt.new2 (bw w V F s c cap g ss gc h st hc) g ss gc h st hc I0 h1 h2 J0 h3 h4;simp only[zA] at L0;have hJ0:=λw=>Ac g.sp h.sp w;rw[dw hck,show∀r,dy 0 r=r from λr=>rfl] at hJ0;have hJ:=aa hJ0;have HK:=aa hck;clear hck hJ0;generalize aT g.sp h.sp=J at hJ |-;go_enter Tryz.func109,Tryz.ntmps109;go_wp2_with (go_at_call 114;fail);refine(bL V F s c cap _ [g,h] 2 _ (C0.alloc _) L0 (by simp)).mono ?_;rintro e w1 ⟨rfl,hb1⟩;rw[HK.out];have G1:=(G0.alloc _).call hb1;have H1:=(H0.alloc _).call hb1;have R1:=(R0.alloc _).call hb1;have I1:=(I0.alloc _).call hb1;have J1:=(J0.alloc _).call hb1;have F1:Fr7 w1 (w.heap.size+1+1+1):=(F0.alloc _).call hb1;have B1:Below w.heap.size w w1:=(B0.alloc B0.size _).trans (hb1.mono (by simp;omega));clear hb1 G0 H0 R0 I0 J0 F0 B0 C0 P0 L0 hcd hs ht HK;obtain⟨⟨g0,g1,g2,g3,g4,g5,g6⟩,gz⟩:=id G1;obtain⟨⟨k0,k1,k2,k3,k4,k5,k6⟩,kz⟩:=id H1;simp only[j0] at g0 g1 g2 g3 g4 g5 g6 k0 k1 k2 k3 k4 k5 k6;go_wp2_with (go_at_call 110;fail);exact oY
theorem pV (V F:Int)(s:oA)(c:List Ins)(cap:Nat)(g:Gs)(ss:oA)(gc:Nat)(h:Gs)(st:oA)(hc:Nat)(w:World)
  (hcd:CodeAt w s c)(hs:IntsAt w ss g.s)(h1:g.s.length<=gc)(h2:gc<=maxLen)(ht:IntsAt w st h.s)(h3:h.s.length<=hc)(h4:hc<=maxLen)(hck:aP V F c [g,h]=0)(hlen:([g,h].flatMap Gs.s).length<=1000000):
  Calls pG 109 #[pv V F s c cap,gv g ss gc,gv h st hc,.func (.func 155) #[] #[]] w λe w'=>∃v,e=Rt (Tu #[Ag #[Bb (g.n||h.n),Bb (aV g.sp h.sp).n,I Y (aV g.sp h.sp).lo,I Y (aV g.sp h.sp).hi,Bb (g.t||h.t),Bb (g.f||h.f),v],I Y 0])/\w'.ownsRow w.heap.size 3 1 v (bW [g,h]).length ((bW [g,h]).map (.int .i64))/\Below w.heap.size w w':=by
 obtain⟨P0,G0,H0,R0,F0⟩:=dn w V F s c cap g ss gc h st hc;have B0:=cA w V F s c cap g ss gc h st hc;have C0:CodeAt (bw w V F s c cap g ss gc h st hc) s c:=hcd.below B0 (lR _);have I0:IntsAt (bw w V F s c cap g ss gc h st hc) ss g.s:=hs.below B0 (lR _);have J0:IntsAt (bw w V F s c cap g ss gc h st hc) st h.s:=ht.below B0 (lR _);have L0:=GsAt.new2 (bw w V F s c cap g ss gc h st hc) g ss gc h st hc I0 h1 h2 J0 h3 h4;simp only[zA] at L0;have hJ0:=λw=>wl g.sp h.sp w;rw[dw hck,show∀r,dy 0 r=r from λr=>rfl] at hJ0;have hJ:=aa hJ0;have HK:=aa hck;clear hck hJ0;generalize aV g.sp h.sp=J at hJ |-;go_enter Tryz.func109,Tryz.ntmps109;go_wp2_with (go_at_call 114;fail);refine(bL V F s c cap _ [g,h] 2 _ (C0.alloc _) L0 (by simp)).mono ?_;rintro e w1 ⟨rfl,hb1⟩;rw[HK.out];have G1:=(G0.alloc _).call hb1;have H1:=(H0.alloc _).call hb1;have R1:=(R0.alloc _).call hb1;have I1:=(I0.alloc _).call hb1;have J1:=(J0.alloc _).call hb1;have F1:Fr7 w1 (w.heap.size+1+1+1):=(F0.alloc _).call hb1;have B1:Below w.heap.size w w1:=(B0.alloc B0.size _).trans (hb1.mono (by simp;omega));clear hb1 G0 H0 R0 I0 J0 F0 B0 C0 P0 L0 hcd hs ht HK;obtain⟨⟨g0,g1,g2,g3,g4,g5,g6⟩,gz⟩:=id G1;obtain⟨⟨k0,k1,k2,k3,k4,k5,k6⟩,kz⟩:=id H1;simp only[j0] at g0 g1 g2 g3 g4 g5 g6 k0 k1 k2 k3 k4 k5 k6;go_wp2_with (go_at_call 155;fail);exact oY
theorem Er (V F:Int)(s:oA)(c:List Ins)(cap:Nat)(g:Gs)(ss:oA)(gc:Nat)(h:Gs)(st:oA)(hc:Nat)(w:World)
  (hcd:CodeAt w s c)(hs:IntsAt w ss g.s)(h1:g.s.length<=gc)(h2:gc<=maxLen)(ht:IntsAt w st h.s)(h3:h.s.length<=hc)(h4:hc<=maxLen)(hck:aP V F c [g,h]=0):
  Calls pG 92 #[pv V F s c cap,I Y 5,gv g ss gc,gv h st hc] w λe w'=>e=Rt (Tu #[gv ⟨false,bO 5 g.sp h.sp,false,false,[]⟩ nO 0,Bb ([g,h].any aD&& ![g,h].any ae),I Y 0])/\Below w.heap.size w w':=by
 obtain⟨P0,G0,H0,R0,F0⟩:=dn w V F s c cap g ss gc h st hc;have B0:=cA w V F s c cap g ss gc h st hc;have C0:CodeAt (bw w V F s c cap g ss gc h st hc) s c:=hcd.below B0 (lR _);have I0:IntsAt (bw w V F s c cap g ss gc h st hc) ss g.s:=hs.below B0 (lR _);have J0:IntsAt (bw w V F s c cap g ss gc h st hc) st h.s:=ht.below B0 (lR _);have L0:=GsAt.new2 (bw w V F s c cap g ss gc h st hc) g ss gc h st hc I0 h1 h2 J0 h3 h4;simp only[zA] at L0;have hJ0:=λw=>sV 5 g.sp h.sp w;rw[show ed 5 g.sp h.sp=0 by unfold ed;rw[if_pos (dw hck),if_pos (by decide)],show∀r,dy 0 r=r from λr=>rfl] at hJ0;have hJ:=aa hJ0;have HK:=aa hck;clear hck hJ0;generalize bO 5 g.sp h.sp=J at hJ |-;exact kg
theorem Ek (V F:Int)(s:oA)(c:List Ins)(cap:Nat)(g:Gs)(ss:oA)(gc:Nat)(h:Gs)(st:oA)(hc:Nat)(w:World)
  (hcd:CodeAt w s c)(hs:IntsAt w ss g.s)(h1:g.s.length<=gc)(h2:gc<=maxLen)(ht:IntsAt w st h.s)(h3:h.s.length<=hc)(h4:hc<=maxLen)(hck:aP V F c [g,h]=0):
  Calls pG 92 #[pv V F s c cap,I Y 6,gv g ss gc,gv h st hc] w λe w'=>e=Rt (Tu #[gv ⟨false,bO 6 g.sp h.sp,false,false,[]⟩ nO 0,Bb ([g,h].any aD&& ![g,h].any ae),I Y 0])/\Below w.heap.size w w':=by
 obtain⟨P0,G0,H0,R0,F0⟩:=dn w V F s c cap g ss gc h st hc;have B0:=cA w V F s c cap g ss gc h st hc;have C0:CodeAt (bw w V F s c cap g ss gc h st hc) s c:=hcd.below B0 (lR _);have I0:IntsAt (bw w V F s c cap g ss gc h st hc) ss g.s:=hs.below B0 (lR _);have J0:IntsAt (bw w V F s c cap g ss gc h st hc) st h.s:=ht.below B0 (lR _);have L0:=GsAt.new2 (bw w V F s c cap g ss gc h st hc) g ss gc h st hc I0 h1 h2 J0 h3 h4;simp only[zA] at L0;have hJ0:=λw=>sV 6 g.sp h.sp w;rw[show ed 6 g.sp h.sp=0 by unfold ed;rw[if_pos (dw hck),if_pos (by decide)],show∀r,dy 0 r=r from λr=>rfl] at hJ0;have hJ:=aa hJ0;have HK:=aa hck;clear hck hJ0;generalize bO 6 g.sp h.sp=J at hJ |-;exact kg
theorem Eg (V F:Int)(s:oA)(c:List Ins)(cap:Nat)(g:Gs)(ss:oA)(gc:Nat)(h:Gs)(st:oA)(hc:Nat)(w:World)
  (hcd:CodeAt w s c)(hs:IntsAt w ss g.s)(h1:g.s.length<=gc)(h2:gc<=maxLen)(ht:IntsAt w st h.s)(h3:h.s.length<=hc)(h4:hc<=maxLen)(hck:aP V F c [g,h]=0):
  Calls pG 92 #[pv V F s c cap,I Y 7,gv g ss gc,gv h st hc] w λe w'=>e=Rt (Tu #[gv ⟨false,bO 7 g.sp h.sp,false,false,[]⟩ nO 0,Bb ([g,h].any aD&& ![g,h].any ae),I Y 0])/\Below w.heap.size w w':=by
 obtain⟨P0,G0,H0,R0,F0⟩:=dn w V F s c cap g ss gc h st hc;have B0:=cA w V F s c cap g ss gc h st hc;have C0:CodeAt (bw w V F s c cap g ss gc h st hc) s c:=hcd.below B0 (lR _);have I0:IntsAt (bw w V F s c cap g ss gc h st hc) ss g.s:=hs.below B0 (lR _);have J0:IntsAt (bw w V F s c cap g ss gc h st hc) st h.s:=ht.below B0 (lR _);have L0:=GsAt.new2 (bw w V F s c cap g ss gc h st hc) g ss gc h st hc I0 h1 h2 J0 h3 h4;simp only[zA] at L0;have hJ0:=λw=>sV 7 g.sp h.sp w;rw[show ed 7 g.sp h.sp=0 by unfold ed;rw[if_pos (dw hck),if_pos (by decide)],show∀r,dy 0 r=r from λr=>rfl] at hJ0;have hJ:=aa hJ0;have HK:=aa hck;clear hck hJ0;generalize bO 7 g.sp h.sp=J at hJ |-;exact kg
end
section
open Go.RowKit
attribute [local go_sem ↓] Go.wp_at_zero Go.wp_at_succ
theorem IntsAt.news {w:World}{ss:oA}{l:List Int}(h:IntsAt w ss l):∀ad,ss=sO ad->∀j u,(l.map (Value.int .i64))[j]? =sO u->w.cell? (ad.add j)=sO u:=by
 intro ad e j u hj;obtain⟨hjl,rfl⟩:=q5.1 hj;rw[List.length_map] at hjl;rcases h with h|⟨b,off,e',hb,hc⟩
 ·rw[h] at hjl;simp at hjl
 ·rw[e'] at e
  cases e;rw[Addr.add_lit,hc j hjl];simp
theorem uw (g:Gs)(ss:oA)(gc:Nat)(w:World)(hI:IntsAt w ss g.s)(hl:g.s.length<=1000000):
  Calls pG 57 #[gv g ss gc] w λe w'=>(∃js jc,e=Rt (gv g js jc)/\IntsAt w' js g.s/\g.s.length<=jc/\jc<=maxLen/\∀a,js=sO a->w.heap.size<=a.block)/\Below w.heap.size w w':=by
 obtain⟨ti,hi,hz0,hz1,hz2⟩:=info_parts Tryz.info_int;have hb0:Below w.heap.size w ((w.alloc (Cc #[Bb g.n,Bb g.sp.n,I Y g.sp.lo,I Y g.sp.hi,Bb g.t,Bb g.f,U ss g.s.length gc] 61)).alloc (Cc #[Bb false,Bb false,I Y 0,I Y 0,Bb false,Bb false,U nO 0 0] 61)):=by go_grown
 have G0:Cells ((w.alloc (Cc #[Bb g.n,Bb g.sp.n,I Y g.sp.lo,I Y g.sp.hi,Bb g.t,Bb g.f,U ss g.s.length gc] 61)).alloc (Cc #[Bb false,Bb false,I Y 0,I Y 0,Bb false,Bb false,U nO 0 0] 61)) w.heap.size [Bb g.n,Bb g.sp.n,I Y g.sp.lo,I Y g.sp.hi,Bb g.t,Bb g.f,U ss g.s.length gc]:=(Cells.new w 61 [Bb g.n,Bb g.sp.n,I Y g.sp.lo,I Y g.sp.hi,Bb g.t,Bb g.f,U ss g.s.length gc]).call (by go_grown);have Z0:Cells ((w.alloc (Cc #[Bb g.n,Bb g.sp.n,I Y g.sp.lo,I Y g.sp.hi,Bb g.t,Bb g.f,U ss g.s.length gc] 61)).alloc (Cc #[Bb false,Bb false,I Y 0,I Y 0,Bb false,Bb false,U nO 0 0] 61)) (w.heap.size+1) [Bb false,Bb false,I Y 0,I Y 0,Bb false,Bb false,U nO 0 0]:=by
  have h:=Cells.new (w.alloc (Cc #[Bb g.n,Bb g.sp.n,I Y g.sp.lo,I Y g.sp.hi,Bb g.t,Bb g.f,U ss g.s.length gc] 61)) 61 [Bb false,Bb false,I Y 0,I Y 0,Bb false,Bb false,U nO 0 0];rw[zA] at h;exact h
 have I0:=hI.call hb0;have hsz:((w.alloc (Cc #[Bb g.n,Bb g.sp.n,I Y g.sp.lo,I Y g.sp.hi,Bb g.t,Bb g.f,U ss g.s.length gc] 61)).alloc (Cc #[Bb false,Bb false,I Y 0,I Y 0,Bb false,Bb false,U nO 0 0] 61)).heap.size=w.heap.size+1+1:=by simp
 have HSZ:=aa hsz;clear hI hsz;go_enter Tryz.func57,Tryz.ntmps57
 go_upto_region 1 with fail
 generalize ((w.alloc (Cc #[Bb g.n,Bb g.sp.n,I Y g.sp.lo,I Y g.sp.hi,Bb g.t,Bb g.f,U ss g.s.length gc] 61)).alloc (Cc #[Bb false,Bb false,I Y 0,I Y 0,Bb false,Bb false,U nO 0 0] 61))=w1 at *;have OWE:=World.ownsRow_made w1 (e:=3) (size:=1) #[] 0 (lR _) (j1 _) rfl;have I1:=I0.call (w':=w1.alloc (Cc #[] 3)) (by go_grown);have G1:=G0.call (w':=w1.alloc (Cc #[] 3)) (by go_grown);have Z1:=Z0.call (w':=w1.alloc (Cc #[] 3)) (by go_grown);have c4:=G1.1 6 _ rfl;have hlt:w.heap.size < w1.heap.size:=G0.2.1;go_wp2_with (at_builtin;refine aY _ rfl _ _ 59 rfl w1.heap.size 3 ti (I Y 0) 1 8 Tryz.underlying59 hi hz0 hz1 hz2 rfl (by decide) _ _ _ rfl OWE ss g.s.length gc (g.s.map (.int .i64)) rfl ?qc1 ?qc0 ?qc2 ?qc3 ?qc4 ?qc5 ?qc6 ?_)
 case qc1=>simp
 case qc0=>
  intro e;rcases I0 with h|⟨b,off,e',_⟩
  ·rw[h];rfl
  ·rw[e'] at e;cases e
 case qc2=>exact I1.news
 case qc3=>intro u hu;obtain⟨x,-,rfl⟩:=q6.1 hu;rfl
 case qc4=>unfold maxLen;omega
 case qc5=>omega
 case qc6=>first|omega|(rw[zA];omega)|(simp;omega)|simp
 intro v' w2 hown hgrow hat;have hbg:Below w1.heap.size w1 w2:=((bR _ w1).alloc (lR _) _).grown hgrow (by simp) (λk hk=>by cases hk;exact lR _)
 (try rw[List.nil_append] at hown)
 obtain⟨js,jc,rfl,JI,J1,J2,JF⟩:=IntsAt.own hown;have G2:=G0.call hbg;have Z2:=Z0.call hbg;have B2:=hb0.trans (hbg.mono hb0.size);have HJ:Hid (IntsIn (λb=>w.heap.size+1+1<=b) w2 js g.s):=by
  show IntsIn _ _ _ _;rcases JI with h|⟨b,off,e,hb,hc⟩
  ·exact .inl h
  ·have:=JF _ e
   have h2:=HSZ.out;simp only at this;exact .inr ⟨b,off,e,by omega,hb,hc⟩
 have HF:Hid (∀a,js=sO a->w.heap.size<=a.block):=λa ha=>by have:=JF a ha;have:=hb0.size;omega
 clear hown hgrow hat G0 Z0 G1 Z1 I0 I1 OWE c4 hlt hbg hb0 JI JF HSZ;have g0:=G2.1 0 _ rfl;have g1:=G2.1 1 _ rfl;have g2:=G2.1 2 _ rfl;have g3:=G2.1 3 _ rfl;have g4:=G2.1 4 _ rfl;have g5:=G2.1 5 _ rfl;have g6:=G2.1 6 _ rfl;have fg0:=G2.2.2 0;have fg1:=G2.2.2 1;have fg2:=G2.2.2 2;have fg3:=G2.2.2 3;have fg4:=G2.2.2 4;have fg5:=G2.2.2 5;have fg6:=G2.2.2 6;have z0:=Z2.1 0 _ rfl;have z1:=Z2.1 1 _ rfl;have z2:=Z2.1 2 _ rfl;have z3:=Z2.1 3 _ rfl;have z4:=Z2.1 4 _ rfl;have z5:=Z2.1 5 _ rfl;have z6:=Z2.1 6 _ rfl;have fz0:=Z2.2.2 0;have fz1:=Z2.2.2 1;have fz2:=Z2.2.2 2;have fz3:=Z2.2.2 3;have fz4:=Z2.2.2 4;have fz5:=Z2.2.2 5;have fz6:=Z2.2.2 6;go_wp2;refine bodyPost_ret (v:=Ag #[Bb g.n,Bb g.sp.n,I Y g.sp.lo,I Y g.sp.hi,Bb g.t,Bb g.f,U js g.s.length jc]) (by simp[results,Tryz.results57,go_sem,z0,z1,z2,z3,z4,z5,z6]) rfl ⟨⟨js,jc,rfl,(HJ.out.same (λb hb _=> ?_) ?_).at,J1,J2,HF.out⟩,?_⟩
 ·have n1:b≠w.heap.size:=by omega
  have n2:b≠w.heap.size+1:=by omega
  rw[hSe _ _ _ _ n2,hSe _ _ _ _ n2,hSe _ _ _ _ n2,hSe _ _ _ _ n2,hSe _ _ _ _ n2,hSe _ _ _ _ n2,hSe _ _ _ _ n2,hSe _ _ _ _ n1]
 ·simp[World.setCell]
 ·exact(((((((B2.setCell (by simp only;omega) _).setCell (by simp only;omega) _).setCell (by simp only;omega) _).setCell (by simp only;omega) _).setCell (by simp only;omega) _).setCell (by simp only;omega) _).setCell (by simp only;omega) _).setCell (by simp only;omega) _
end
section
open Go.RowKit
def DU (S:Nat->Prop)(w:World)(fs:oA)(L:List (List Gs)):Prop:=
 ∀i (h:i < L.length),∃b off,fs=sO ⟨b,off,nO⟩/\S b/\b < w.heap.size/\∃rs rc,w.cell? ⟨b,off+i,nO⟩=sO (U rs L[i].length rc)/\L[i].length<=rc/\rc<=maxLen/\GsIn S w rs L[i]
theorem vv (S:Nat->Prop)(w:World):∃w3:World,w3.heap.size=w.heap.size/\(∀b,S b->w3.heap[b]? =w.heap[b]?)/\∀b o,¬S b->w3.cell? ⟨b,o,nO⟩=none:=by
 classical
 refine⟨{w with heap:=w.heap.mapIdx λk x=>if S k then x else Cc #[] 0},by simp,λb hb=> ?_,λb o hb=> ?_⟩
 ·simp only[Array.getElem?_mapIdx]
  cases w.heap[b]? with
  |none=>rfl
  |some x=>simp[hb]
 ·simp only[World.cell?,Array.getElem?_mapIdx]
  cases w.heap[b]? with
  |none=>rfl
  |some x=>simp[hb]
section
variable {S:Nat->Prop} {w:World} {x:Pic} {vs fs:oA}
theorem PicOn.in (h:PicOn S w x vs fs):GsIn S w vs x.vars/\DU S w fs x.flds:=by
 obtain⟨w3,hz,hs,hn⟩:=vv S w;have h3:=h w3 (λb hb _=>hs b hb) (by omega);have hS:∀{b o:Nat} {v:Value},w3.cell? ⟨b,o,nO⟩=sO v->S b/\b < w.heap.size/\w.cell? ⟨b,o,nO⟩=sO v:=by
  intro b o v hc;have hb:S b:=Classical.byContradiction λhb=>by rw[hn b o hb] at hc;cases hc
  have hb2:=World.block_lt_of_cell? w3 _ hc;refine⟨hb,by simpa[hz] using hb2,?_⟩;rw[<-j5 (a:=⟨b,o,nO⟩) (hs b hb)];exact hc
 have hI:∀{ss:oA} {l:List Int},IntsAt w3 ss l->IntsIn S w ss l:=by
  intro ss l h;rcases h with h|⟨b,off,e,hb,hc⟩
  ·exact .inl h
  ·cases l with
   |nil=>exact .inl rfl
   |cons a r=>
    have h0:=hS (hc 0 (by simp));exact .inr ⟨b,off,e,h0.1,h0.2.1,λk hk=>(hS (hc k hk)).2.2⟩
 have hG:∀{ls:oA} {L:List Gs},GsAt w3 ls L->GsIn S w ls L:=by
  intro ls L h i hi;obtain⟨b,off,e,ss,cap,⟨⟨c0,c1,c2,c3,c4,c5,c6⟩,_⟩,h2,h4,h5⟩:=h i hi;have a0:=hS c0;exact⟨b,off,e,a0.1,ss,cap,⟨⟨a0.2.2,(hS c1).2.2,(hS c2).2.2,(hS c3).2.2,(hS c4).2.2,(hS c5).2.2,(hS c6).2.2⟩,a0.2.1⟩,hI h2,h4,h5⟩
 refine⟨hG h3.1,λi hi=> ?_⟩;obtain⟨b,off,e,_,rs,rc,h1,h2,h4,h5⟩:=h3.2 i hi;have a0:=hS h1;exact⟨b,off,e,a0.1,a0.2.1,rs,rc,a0.2.2,h2,h4,hG h5⟩
end
def EdsOn (S:Nat->Prop)(w:World)(es:oA)(L:List Edg):Prop:=
 ∀i (h:i < L.length),∃b off,es=sO ⟨b,off,nO⟩/\S b/\b < w.heap.size/\∃vs vc fs fc,(w.cell? ⟨b,off+i * 4,nO⟩=sO (I Y L[i].tgt)/\w.cell? ⟨b,off+i * 4+1,nO⟩=sO (Bb L[i].pic.none)/\w.cell? ⟨b,off+i * 4+2,nO⟩=sO (U vs L[i].pic.vars.length vc)/\w.cell? ⟨b,off+i * 4+3,nO⟩=sO (U fs L[i].pic.flds.length fc))/\PicOn S w L[i].pic vs fs/\(L[i].pic.vars.length<=vc/\vc<=maxLen)/\(L[i].pic.flds.length<=fc/\fc<=maxLen)
section
variable {S S':Nat->Prop} {w w':World} {es:oA} {L:List Edg}
theorem EdsOn.nil:EdsOn S w es []:=λi h=>absurd h (by simp)
theorem EdsOn.same (h:EdsOn S w es L)(hs:∀b,S b->b < w.heap.size->w'.heap[b]? =w.heap[b]?)(hz:w.heap.size<=w'.heap.size):EdsOn S w' es L:=by
 intro i hi;obtain⟨b,off,e,hS,hb,vs,vc,fs,fc,⟨c0,c1,c2,c3⟩,hp,hv,hf⟩:=h i hi;have hc:∀j,w'.cell? ⟨b,j,nO⟩=w.cell? ⟨b,j,nO⟩:=λj=>j5 (a:=⟨b,j,nO⟩) (hs b hS hb);exact⟨b,off,e,hS,lL hb hz,vs,vc,fs,fc,⟨(hc _).trans c0,(hc _).trans c1,(hc _).trans c2,(hc _).trans c3⟩,(hp.same hs hz).mono λb hb _=>hb.1,hv,hf⟩
theorem EdsOn.mono (h:EdsOn S w es L)(hs:∀b,S b->b < w.heap.size->S' b):EdsOn S' w es L:=by
 intro i hi;obtain⟨b,off,e,hS,hb,vs,vc,fs,fc,hc,hp,hv,hf⟩:=h i hi;exact⟨b,off,e,hs b hS hb,hb,vs,vc,fs,fc,hc,hp.mono hs,hv,hf⟩
theorem EdsOn.call (h:EdsOn S w es L)(hb:Below w.heap.size w w'):EdsOn S w' es L:=h.same (λb _ hlt=>hb.block b hlt) hb.size
end
theorem ERow.eds {n sb:Nat}{w:World}{es:oA}{ec:Nat}{L:List Ed}(h:ERow n sb w (U es L.length ec) L):EdsOn (λb=>n<=b) w es (L.map edG):=by
 intro i hi;have hil:i < L.length:=by simpa using hi
 have ei:(L.map edG)[i]=edG L[i]:=by simp
 rw[ei];rcases h.own.2 with⟨e,h0⟩|⟨g,cap,cur,e,hb,hg,k1,k2,k3,k4⟩
 ·omega
 ·simp only[Value.slice.injEq] at e
  obtain⟨e1,-,-⟩:=e;subst e1;obtain⟨p1,p2,p3⟩:=h.pics _ (gM hil);have hc:∀j,j < 4->w.cell? ⟨g,i * 4+j,nO⟩=(cB L[i])[j]? :=λj hj=>by
   rw[<-mE L i hil j hj];exact World.ownsRow.cellAt h.own _ (by omega)
  refine⟨g,0,rfl,hb,(j4.1 hg).1,L[i].vs,L[i].vc,L[i].fs,L[i].fc,?_,p1.mono λb hb _=>hb.1,p2,p3⟩;simp only[j0];exact⟨hc 0 (by omega),hc 1 (by omega),hc 2 (by omega),hc 3 (by omega)⟩
def bE (S:Nat->Prop)(w':World)(e:Ending)(r:List Edg×Bool×Bool):Prop:=∃es ec,e=Rt (Tu #[U es r.1.length ec,Bb r.2.1,Bb r.2.2])/\EdsOn S w' es r.1
end
end Go.Proofs.YtmapdpcfanecdabGreat
