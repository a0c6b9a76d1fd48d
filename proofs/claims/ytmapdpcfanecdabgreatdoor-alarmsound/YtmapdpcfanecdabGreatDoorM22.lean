import Derived.Test.YtmapdpcfanecdabGreatDoorM08
import Derived.Test.YtmapdpcfanecdabGreatDoorM09
import Derived.Test.YtmapdpcfanecdabGreatDoorM10
import Derived.Test.YtmapdpcfanecdabGreatDoorM11
import Derived.Sort.OwnSortedInts
import Derived.Lib.RowBridge
import Derived.Test.YtmapdpcfanecdabGreatDoorM21
open Go.Ending renaming returned→Rt
open Go.IntKind renaming i64→Y
open Go.Obj renaming cells→Cc
open Go.Proofs.Tryz renaming prog→pG
open Go.RowKit.Below renaming refl→bR
open Go.Value renaming agg→Ag,bool→Bb,int→I,slice→U,tuple→Tu
open Go.World renaming size_alloc→zA
open List renaming drop_eq_nil_of_le→j2,flatMap_append→j4,length_append→j0,length_eq_zero_iff→j3
open Nat renaming le_refl→lR,zero_le→j1
open Option renaming none→nO,some→sO
set_option linter.unusedSimpArgs false
set_option linter.unusedVariables false
set_option maxHeartbeats 8000000
set_option maxRecDepth 20000
namespace Go.Proofs.YtmapdpcfanecdabGreatDoor
section
open Go.RowKit
theorem lX (V F:Int)(s:Option Addr)(len cap N:Nat)(i:Ins)(w:World)(hV:1≤V)(hV':V≤8)(hF:0≤F)(hF':F≤3)(hL:len≤60)(hs:ShpAt N shps w):
  Calls pG 128 #[Ag #[I Y V,I Y F,U s len cap],.map (sO N),Ag #[I Y i.k,I Y i.tgt,I Y i.a,I Y i.b,I Y i.n,I Y i.g]] w λe w'=>e=Rt (I Y (bD V F len i))∧Below w.heap.size w w':=by
 obtain⟨k,tto,a,b,n,g⟩:=i
 by_cases h:btw k 1 19=true
 ·rcases ur h with rfl|rfl|rfl|rfl|rfl|rfl|rfl|rfl|rfl|rfl|rfl|rfl|rfl|rfl|rfl|rfl|rfl|rfl|rfl
  ·exact wE V F s len cap N tto a b n g w hV hV' hF hF' hL hs
  ·exact yj V F s len cap N tto a b n g w hV hV' hF hF' hL hs
  ·exact wh V F s len cap N tto a b n g w hV hV' hF hF' hL hs
  ·exact yo V F s len cap N tto a b n g w hV hV' hF hF' hL hs
  ·exact wI V F s len cap N tto a b n g w hV hV' hF hF' hL hs
  ·exact yi V F s len cap N tto a b n g w hV hV' hF hF' hL hs
  ·exact yc V F s len cap N tto a b n g w hV hV' hF hF' hL hs
  ·exact vW V F s len cap N tto a b n g w hV hV' hF hF' hL hs
  ·exact vY V F s len cap N tto a b n g w hV hV' hF hF' hL hs
  ·exact vt V F s len cap N tto a b n g w hV hV' hF hF' hL hs
  ·exact uQ V F s len cap N tto a b n g w hV hV' hF hF' hL hs
  ·exact uN V F s len cap N tto a b n g w hV hV' hF hF' hL hs
  ·exact vr V F s len cap N tto a b n g w hV hV' hF hF' hL hs
  ·exact uY V F s len cap N tto a b n g w hV hV' hF hF' hL hs
  ·exact uW V F s len cap N tto a b n g w hV hV' hF hF' hL hs
  ·exact uS V F s len cap N tto a b n g w hV hV' hF hF' hL hs
  ·exact uX V F s len cap N tto a b n g w hV hV' hF hF' hL hs
  ·exact vq V F s len cap N tto a b n g w hV hV' hF hF' hL hs
  ·exact uP V F s len cap N tto a b n g w hV hV' hF hF' hL hs
 ·exact vj V F s len cap N k tto a b n g w hV hV' hF hF' hL hs (by simpa using h)

theorem AH (V F:Int)(b off cap:Nat)(c:List Ins)(w:World)(hV:1≤V)(hV':V≤8)(hF:0≤F)(hF':F≤3)(hL:c.length≤60)(hb:b < w.heap.size)(hc:∀k (h:k < c.length),InsAt w b (off+k * 6) c[k]):
  Calls pG 76 #[Ag #[I Y V,I Y F,U (sO ⟨b,off,nO⟩) c.length cap]] w λe w'=>e=Rt (I Y (fE V F c.length c))∧Below w.heap.size w w':=by
 have hl60:(c.length:Int)≤60:=by omega
 have hbox:Below w.heap.size w (w.alloc (Cc #[I Y V,I Y F,U (sO ⟨b,off,nO⟩) c.length cap] 24)):=by go_grown
 go_enter Tryz.func76,Tryz.ntmps76
 go_wp2_with (go_at_call 127;refine(ks _).mono ?_;rintro e w1 ⟨rfl,hs1,hb1⟩;obtain⟨hc1,hf1⟩:=Gd hb1;have q2:w1.cell? ⟨w.heap.size,2,nO⟩=sO (U (sO ⟨b,off,nO⟩) c.length cap):=(by rw[hb1.cell (by simp)];simp[go_sem]))
 simp only[zA] at hs1
 have q0:w1.cell? ⟨w.heap.size,0,nO⟩=sO (I Y V):=by rw[hb1.cell (by simp)];simp[go_sem]
 have q1:w1.cell? ⟨w.heap.size,1,nO⟩=sO (I Y F):=by rw[hb1.cell (by simp)];simp[go_sem]
 clear hc1 hf1
 have z1:w.heap.size+1≤w1.heap.size:=by have:=hb1.size;simp at this;omega
 have hbw:Below w.heap.size w w1:=hbox.trans (hb1.mono (by simp))
 go_loopw [35] (λi wr=>∃k:Nat,k≤c.length∧i=I Y k∧Below w1.heap.size w1 wr∧Hid (fE V F c.length (c.drop k)=fE V F c.length c)) (λi _=>c.length - (intOf i).toNat)
 case atStart=>exact⟨0,j1 _,rfl,bR _ _,rfl⟩
 case round=>
  obtain⟨k,hk,rfl,hbr,HR⟩:=hrel
  have r0:wr.cell? ⟨w.heap.size,0,nO⟩=sO (I Y V):=by rw[hbr.cell (by simp;omega)];exact q0
  have r1:wr.cell? ⟨w.heap.size,1,nO⟩=sO (I Y F):=by rw[hbr.cell (by simp;omega)];exact q1
  have r2:wr.cell? ⟨w.heap.size,2,nO⟩=sO (U (sO ⟨b,off,nO⟩) c.length cap):=by rw[hbr.cell (by simp;omega)];exact q2
  have s0:w1.heap.size≤wr.heap.size:=hbr.size
  have s1:w.heap.size < wr.heap.size:=by omega
  have s2:b < wr.heap.size:=by omega
  by_cases hlt:k < c.length
  ·have hi:InsAt wr b (off+k * 6) c[k]:=((hc k hlt).below hbw hb).below hbr (by omega)
   obtain⟨i0,i1,i2,i3,i4,i5⟩:=hi
   have n0:(0:Int)≤(k:Int):=by omega
   have n1:(k:Int) < (c.length:Int):=by omega
   clear q0 q1 q2
   have HS:=BY (V:=V) (F:=F) (L:=c.length) hlt
   by_cases hz:bD V F c.length c[k]=0
   ·have HC:Hid (fE V F c.length (c.drop (k+1))=fE V F c.length c):=by have:=HR.out;rw[HS,if_pos hz] at this;exact this
    clear HS HR
    go_wp2_with (go_at_call 128;refine(lX V F _ _ _ _ c[k] _ hV hV' hF hF' hL ?hs).mono ?_;(case hs=>exact hs1.below (hbr.alloc s0 _) (lR _));rintro e w2 ⟨rfl,hb2⟩)
    go_roundw
    case rel=>exact⟨k+1,by omega,by go_num,(hbr.alloc s0 _).trans (hb2.mono (by simp;omega)),HC⟩
    case measure=>simp[intOf];omega
   ·rw[if_neg hz] at HS
    have HC:Hid (bD V F c.length c[k]=fE V F c.length c):=by have:=HR.out;rw[HS] at this;exact this
    have hz':(bD V F c.length c[k]!=0)=true:=by simpa using hz
    clear HS HR
    go_wp2_with (go_at_call 128;refine(lX V F _ _ _ _ c[k] _ hV hV' hF hF' hL ?hs).mono ?_;(case hs=>exact hs1.below (hbr.alloc s0 _) (lR _));rintro e w2 ⟨rfl,hb2⟩)
    go_ret
    exact⟨bu HC.out,hbw.trans (((hbr.alloc s0 _).trans (hb2.mono (by simp;omega))).mono (by omega))⟩
  ·go_wp2
   go_ret
   exact⟨bu (by have:=HR.out;rw[j2 (by omega)] at this;exact this),hbw.trans (hbr.mono (by omega))⟩

theorem Cv (V F:Int)(s:Option Addr)(cap:Nat)(w:World)(hV:1≤V)(hV':V≤8)(hF:0≤F)(hF':F≤3):
  Calls pG 76 #[Ag #[I Y V,I Y F,U s 0 cap]] w λe w'=>e=Rt (I Y 0)∧Below w.heap.size w w':=by
 have hbox:Below w.heap.size w (w.alloc (Cc #[I Y V,I Y F,U s 0 cap] 24)):=by go_grown
 go_enter Tryz.func76,Tryz.ntmps76
 go_wp2_with (go_at_call 127;refine(ks _).mono ?_;rintro e w1 ⟨rfl,hs1,hb1⟩;have q2:w1.cell? ⟨w.heap.size,2,nO⟩=sO (U s 0 cap):=(by rw[hb1.cell (by simp)];simp[go_sem]))
 go_rounds 1
 go_ret
 exact⟨rfl,hbox.trans (hb1.mono (by simp))⟩

theorem BN (V F:Int)(s:Option Addr)(len cap:Nat)(w:World)(hV:1≤V)(hV':V≤8)(hF:0≤F)(hF':F≤3)(hl:60 < len):
  Calls pG 76 #[Ag #[I Y V,I Y F,U s len cap]] w λe w'=>e=Rt (I Y 2)∧Below w.heap.size w w':=by
 have t3:(60:Int) < (len:Int):=by omega
 go_enter Tryz.func76,Tryz.ntmps76
 go_wp2
 go_ret
 exact⟨rfl,by go_grown⟩

theorem o7 (V F:Int)(s:Option Addr)(len cap:Nat)(w:World)(h:¬(1≤V∧V≤8∧0≤F∧F≤3)):
  Calls pG 76 #[Ag #[I Y V,I Y F,U s len cap]] w λe w'=>e=Rt (I Y 3)∧Below w.heap.size w w':=by
 by_cases h1:V < 1
 ·clear h
  go_enter Tryz.func76,Tryz.ntmps76
  go_wp2
  go_ret
  exact⟨rfl,by go_grown⟩
 by_cases h2:8 < V
 ·clear h
  go_enter Tryz.func76,Tryz.ntmps76
  go_wp2
  go_ret
  exact⟨rfl,by go_grown⟩
 by_cases h3:F < 0
 ·clear h
  go_enter Tryz.func76,Tryz.ntmps76
  go_wp2
  go_ret
  exact⟨rfl,by go_grown⟩
 ·have h4:3 < F:=by omega
  clear h
  go_enter Tryz.func76,Tryz.ntmps76
  go_wp2
  go_ret
  exact⟨rfl,by go_grown⟩

theorem di (V F:Int)(s:Option Addr)(cap:Nat)(c:List Ins)(w:World)(h:CodeAt w s c):
  Calls pG 76 #[Ag #[I Y V,I Y F,U s c.length cap]] w λe w'=>e=Rt (I Y (ai V F c))∧Below w.heap.size w w':=by
 unfold ai
 by_cases hr:1≤V∧V≤8∧0≤F∧F≤3
 ·obtain⟨hV,hV',hF,hF'⟩:=hr
  have t1:btw V 1 8=true:=iB hV hV'
  have t2:btw F 0 3=true:=iB hF hF'
  by_cases hl:60 < c.length
  ·simpa[t1,t2,hl] using BN V F s c.length cap w hV hV' hF hF' hl
  ·rcases h with rfl|⟨b,off,rfl,hb,hc⟩
   ·simpa[t1,t2,fE] using Cv V F s cap w hV hV' hF hF'
   ·simpa[t1,t2,hl] using AH V F b off cap c w hV hV' hF hF' (by omega) hb hc
 ·have:btw V 1 8=false∨btw F 0 3=false:=by
   by_cases h1:1≤V∧V≤8
   ·right;simp[btw];omega
   ·left;simp[btw];omega
  rcases this with t|t
  ·simpa[t] using o7 V F s c.length cap w hr
  ·simpa[t] using o7 V F s c.length cap w hr
theorem gJ {B b:Nat}{p:Value}{bs:List Value}{w w':World}(h:Lib.BuilderAt 122 5 B b p bs w)(hb:Below w.heap.size w w'):Lib.BuilderAt 122 5 B b p bs w':=by
 have hlt:=h.lt
 obtain⟨h1,v,h2,h3,h4⟩:=h
 exact⟨h1,v,by rw[hb.block b hlt];exact h2,aw h3 (λk hk=>hb.block k (aM h3 hk).1),h4⟩

theorem rS (a b:ByteArray):Lib.strCells (a++b)=Lib.strCells a++Lib.strCells b:=by
 simp[Lib.strCells]
def Cap (w:World):Prop:=∃m,w.cell? ⟨0,0,nO⟩=sO (I Y m)
theorem Cap.below {w w':World}(h:Cap w)(hb:Below w.heap.size w w'):Cap w':=by
 obtain⟨m,hm⟩:=h
 exact⟨m,by rw[hb.cell (World.block_lt_of_cell? w _ hm)];exact hm⟩

theorem tS (s:ByteArray)(v:Int)(w:World)(h:Lib.atoiAll s.data.toList=.ok v)(hf:kZ v)(hi:fI v=s)(hs:s.size≤11)(ht:Tab w):
  Calls pG 212 #[.string s] w λe w'=>e=Rt (Tu #[I Y v,Bb true])∧Below w.heap.size w w':=by
 have n1:¬(11:Int) < (s.size:Int):=by omega
 have hA:∀w,Calls pG 238 #[.string s] w λe w'=>e=Rt (Tu #[I Y v,.nilIface])∧Below w.heap.size w w':=by
  intro w
  refine(Tryz.strconv_Atoi_ok s (by omega) v h w).mono ?_
  rintro e w' ⟨rfl,rfl|⟨t,rfl⟩⟩
  ·exact⟨rfl,bR _ _⟩
  ·exact⟨rfl,Lib.bytesWorld_below _ _ _⟩
 go_enter Tryz.func212,Tryz.ntmps212
 go_wp2_with (first
  |(go_at_call 238;refine(hA _).mono ?_;rintro e w1 ⟨rfl,hb1⟩)
  |(go_at_call 118;refine(kU v _ hf (ht.below hb1)).mono ?_;rintro e w2 ⟨rfl,hb2⟩))
 go_ret2
 exact⟨rfl,hb1.trans (hb2.mono hb1.size)⟩

theorem y7 (s:ByteArray)(xs:List ByteArray)(w:World)(hm:Cap w)(hs:s.size < 4294967281)(hc:Lib.countB s ⟨#[32]⟩+1=xs.length)(hx:Lib.splitB ⟨#[32]⟩ 0 (Lib.countB s ⟨#[32]⟩) s=xs):
  Calls pG 211 #[.string s,.string ⟨#[32]⟩] w λe w'=>e=Rt (U (sO ⟨w.heap.size,0,nO⟩) xs.length xs.length)∧w'=w.alloc (Cc (xs.map Value.string).toArray 9):=by
 obtain⟨m,hm⟩:=hm
 refine(Tryz.strings_Split s ⟨#[32]⟩ m w hs hm (by decide)).mono ?_
 rintro e w' ⟨rfl,rfl⟩
 rw[hc,hx]
 exact⟨rfl,rfl⟩
def npt (k:Nat):Nat:=match k with
 |1=>2|2=>2|3=>1|4=>2|5=>3|6=>3|7=>3|8=>3|9=>3|10=>2|11=>1|12=>3|13=>3|14=>2|15=>2|16=>1|17=>1|18=>1|_=>0

theorem lg {k:Nat}(h1:1≤k)(h:k≤19):k=1∨k=2∨k=3∨k=4∨k=5∨k=6∨k=7∨k=8∨k=9∨k=10∨k=11∨k=12∨k=13∨k=14∨k=15∨k=16∨k=17∨k=18∨k=19:=by omega

theorem Fu {N:Nat}{w:World}(h:ShpAt N shps w)(k:Nat)(h1:1≤k)(h19:k≤19):∃sa,(Instr.lookup 179 (.map (sO N)) (I Y (k:Int)) false).run pG w=.ok (Ag #[.string (bi k),U sa (npt k) (npt k)]) w:=by
 rcases lg h1 h19 with rfl|rfl|rfl|rfl|rfl|rfl|rfl|rfl|rfl|rfl|rfl|rfl|rfl|rfl|rfl|rfl|rfl|rfl|rfl
 ·exact⟨_,bk h 1 0 _ rfl⟩
 ·exact⟨_,bk h 2 1 _ rfl⟩
 ·exact⟨_,bk h 3 2 _ rfl⟩
 ·exact⟨_,bk h 4 3 _ rfl⟩
 ·exact⟨_,bk h 5 4 _ rfl⟩
 ·exact⟨_,bk h 6 5 _ rfl⟩
 ·exact⟨_,bk h 7 6 _ rfl⟩
 ·exact⟨_,bk h 8 7 _ rfl⟩
 ·exact⟨_,bk h 9 8 _ rfl⟩
 ·exact⟨_,bk h 10 9 _ rfl⟩
 ·exact⟨_,bk h 11 10 _ rfl⟩
 ·exact⟨_,bk h 12 11 _ rfl⟩
 ·exact⟨_,bk h 13 12 _ rfl⟩
 ·exact⟨_,bk h 14 13 _ rfl⟩
 ·exact⟨_,bk h 15 14 _ rfl⟩
 ·exact⟨_,bk h 16 15 _ rfl⟩
 ·exact⟨_,bk h 17 16 _ rfl⟩
 ·exact⟨_,bk h 18 17 _ rfl⟩
 ·exact⟨_,bk h 19 18 _ rfl⟩
theorem CZ {V F:Int}{c:List Ins}(h:ai V F c=0):c.length≤60:=by
 unfold ai at h
 split at h
 ·cases h
 ·split at h
  ·cases h
  ·omega

theorem rM (c:List Ins)(L:List Gs)(k:Nat)(h:k < L.length):bW c (L.drop k)=if aC c L[k]=0 then bW c (L.drop (k+1)) else aC c L[k]:=by
 rw[List.drop_eq_getElem_cons h];rfl

theorem bZ (V F:Int)(s:Option Addr)(c:List Ins)(cap:Nat)(ls:Option Addr)(L:List Gs)(lc:Nat)(w:World)(hc:CodeAt w s c)(hL:GsAt w ls L)(hl:L.length≤9223372036854775807):
  Calls pG 142 #[pv V F s c cap,U ls L.length lc] w λe w'=>e=Rt (I Y (aX V F c L))∧Below w.heap.size w w':=by
 have P0:=PrAt.new w V F s c cap
 have C0:=hc.alloc (Cc #[I Y V,I Y F,U s c.length cap] 24)
 have L0:=hL.alloc (Cc #[I Y V,I Y F,U s c.length cap] 24)
 have B0:Below w.heap.size w (w.alloc (Cc #[I Y V,I Y F,U s c.length cap] 24)):=by go_grown
 have HR:Hid (aX V F c L=if ai V F c=0 then bW c L else ai V F c):=rfl
 clear hc hL
 go_enter Tryz.func142,Tryz.ntmps142
 go_wp2_with (go_at_call 76;fail)
 refine(di V F s cap c _ C0).mono ?_
 rintro e w1 ⟨rfl,hb1⟩
 have P1:=P0.call hb1
 have C1:=C0.call hb1
 have L1:=L0.call hb1
 have B1:Below w.heap.size w w1:=B0.trans (hb1.mono (by simp))
 clear hb1 P0 C0 L0 B0
 by_cases h0:ai V F c=0
 ·have h60:=CZ h0
  have HF:Hid (aX V F c L=bW c L):=by show _=_;rw[HR.out,if_pos h0]
  rw[h0]
  clear HR h0
  go_wp2
  go_loopw [16] (λi wr=>∃k:Nat,k≤L.length∧i=I Y k∧PrAt wr w.heap.size V F s c cap∧CodeAt wr s c∧GsAt wr ls L∧Below w.heap.size w wr∧Hid (bW c (L.drop k)=bW c L)) (λi _=>L.length - (intOf i).toNat)
  case atStart=>exact⟨0,j1 _,rfl,P1,C1,L1,B1,rfl⟩
  case round=>
   obtain⟨k,hk,rfl,PR,CR,LR,BR,HK⟩:=hrel
   clear P1 C1 L1 B1
   by_cases hlt:k < L.length
   ·obtain⟨b,off,rfl,ss,gc,GR,IR,hg1,hg2⟩:=LR k hlt
    obtain⟨⟨p0,p1,p2⟩,p3⟩:=id PR
    obtain⟨⟨g0,g1,g2,g3,g4,g5,g6⟩,gz⟩:=id GR
    have n0:(0:Int)≤(k:Int):=by omega
    have n1:(k:Int) < (L.length:Int):=by omega
    have HS:=aa (rM c L k hlt)
    unfold maxLen at hg2
    have PA:=PR.alloc (Cc #[Bb L[k].n,Bb L[k].sp.n,I Y L[k].sp.lo,I Y L[k].sp.hi,Bb L[k].t,Bb L[k].f,U ss L[k].s.length gc] 91)
    have CA:=CR.alloc (Cc #[Bb L[k].n,Bb L[k].sp.n,I Y L[k].sp.lo,I Y L[k].sp.hi,Bb L[k].t,Bb L[k].f,U ss L[k].s.length gc] 91)
    have LA:=LR.alloc (Cc #[Bb L[k].n,Bb L[k].sp.n,I Y L[k].sp.lo,I Y L[k].sp.hi,Bb L[k].t,Bb L[k].f,U ss L[k].s.length gc] 91)
    have IA:=IR.alloc (Cc #[Bb L[k].n,Bb L[k].sp.n,I Y L[k].sp.lo,I Y L[k].sp.hi,Bb L[k].t,Bb L[k].f,U ss L[k].s.length gc] 91)
    have BA:=BR.alloc BR.size (Cc #[Bb L[k].n,Bb L[k].sp.n,I Y L[k].sp.lo,I Y L[k].sp.hi,Bb L[k].t,Bb L[k].f,U ss L[k].s.length gc] 91)
    clear PR CR LR IR BR GR
    go_wp2_with (go_at_call 194;fail)
    refine(tr V F s c cap L[k] ss gc _ CA h60 IA (by omega)).mono ?_
    rintro e w2 ⟨rfl,hb2⟩
    have P2:=PA.call hb2
    have C2:=CA.call hb2
    have L2:=LA.call hb2
    have B2:=BA.trans (hb2.mono BA.size)
    clear hb2 PA CA LA IA BA
    by_cases hz:aC c L[k]=0
    ·have HT:Hid (bW c (L.drop (k+1))=bW c L):=by show _=_;rw[←HK.out,HS.out,if_pos hz]
     rw[hz]
     clear HK HS hz
     go_wp2
     go_roundw
     case rel=>exact⟨k+1,by omega,by go_num,P2,C2,L2,B2,HT⟩
     case measure=>simp[intOf];omega
    ·have HT:Hid (aC c L[k]=bW c L):=by show _=_;rw[←HK.out,HS.out,if_neg hz]
     have hne:(aC c L[k]!=0)=true:=by simpa using hz
     clear HK HS
     go_wp2
     go_ret
     exact⟨bu (by rw[HF.out,HT.out]),B2⟩
   ·go_wp2
    go_ret
    exact⟨bu (by rw[HF.out,←HK.out,j2 (by omega)];rfl),BR⟩
 ·have HF:Hid (aX V F c L=ai V F c):=by show _=_;rw[HR.out,if_neg h0]
  have hne:(ai V F c !=0)=true:=by simpa using h0
  clear HR
  go_wp2
  go_ret
  exact⟨bu HF.out.symm,B1⟩
end
section
open Go.RowKit Go.Sort
theorem sH {P:Program}(w:World)(base:Nat)(t ty e:TypeId)(i:TypeInfo)(size:Nat)(ht:P.underlying t=sO (.slice e))(hi:P.info? e=sO i)
  (v:Value)(n c:Nat)(xs:List Value)(hown:w.ownsRow base e size v n xs):
  (Builtin.append_ #[t,t] ty #[v,U nO 0 c]).run P w=.ok v w:=by
 rcases hown.2 with⟨rfl,rfl⟩|⟨g,cap,cur,rfl,_,_,hnc,_⟩
 ·simp[Builtin.append_,run_underlying ht,sizeOf,typeInfo,hi,Builtin.lenOf,Builtin.firstCells]
 ·simp[Builtin.append_,run_underlying ht,sizeOf,typeInfo,hi,Builtin.lenOf,Builtin.firstCells,hnc,storeCells]

theorem nH {P:Program}(w:World){ops:Array Oper}{rest:List Oper}{o:Oper}{a:Act}{Q:Exit→Act→World→Prop}(hgd:o.guard=nO)(s x:Operand)(t:TypeId)
  (ho:o.op=.call {callee:=.builtin .append,args:=#[s,x],argTypes:=#[t,t]})
  (base:Nat)(e:TypeId)(i:TypeInfo)(size:Nat)(ht:P.underlying t=sO (.slice e))(hi:P.info? e=sO i)
  (v:Value)(n c:Nat)(xs:List Value)(hs:a.eval s=v)(hown:w.ownsRow base e size v n xs)(hx:a.eval x=U nO 0 c)
  (h:wpList P ops Q rest (a.put o.dst v) w):wpList P ops Q (o::rest) a w:=by
 refine wpList_plain hgd λK hK=> ?_
 have hr:=sH (P:=P) w base t o.type e i size ht hi v n c xs hown
 unfold Oper.wp execOp
 simp only[ho,resolve,invoke,builtin,Sem.run_bind,Sem.run_pure,Result.andThen_ok,List.map_toArray,List.map_cons,List.map_nil,hs,hx,hr]
 exact hK _ _ h

theorem Dq (w:World):grow w #[]=w:=by simp[grow]

theorem vw {w:World}{B g cap n m:Nat}{e:TypeId}{xs:List Value}(h:w.ownsRow B e 1 (U (sO ⟨g,0,nO⟩) n cap) n xs)(hm:m≤n):w.ownsRow B e 1 (U (sO ⟨g,0,nO⟩) m cap) m (xs.take m):=by
 obtain⟨hl,h2⟩:=h
 rcases h2 with⟨h',_⟩|⟨g',cap',cur,h',hb,hg,h1,h2,h3,h4⟩
 ·cases h'
 ·cases h'
  refine⟨by rw[List.length_take];omega,.inr ⟨g,cap,cur,rfl,hb,hg,by omega,h2,h3,?_⟩⟩
  rw[←h4,List.take_take]
  congr 1
  omega

theorem IntsAt.own {w:World}{B n:Nat}{e:TypeId}{v:Value}{l:List Int}(h:w.ownsRow B e 1 v n (l.map (.int .i64))):
  ∃ss cap,v=U ss l.length cap∧IntsAt w ss l∧l.length≤cap∧cap≤maxLen∧∀a,ss=sO a→B≤a.block:=by
 have hn:l.length=n:=by have:=h.1;simpa using this
 subst hn
 rcases h.2 with⟨rfl,h0⟩|⟨g,cap,cur,rfl,hb,hg,h1,h2,h3,h4⟩
 ·have:l=[]:=j3.1 h0
  subst this
  exact⟨nO,0,rfl,.inl rfl,lR _,by unfold maxLen;omega,λa ha=>by cases ha⟩
 ·refine⟨sO ⟨g,0,nO⟩,cap,rfl,.inr ⟨g,0,rfl,(Array.getElem?_eq_some_iff.1 hg).1,λk hk=> ?_⟩,h1,h2,λa ha=>by cases ha;exact hb⟩
  have:=h.cellAt k (by omega)
  rw[Nat.zero_add,this]
  simp[hk]

def cA (L:List Gs):List Int:=Lib.compact ((L.flatMap Gs.s).mergeSort λx y=>decide (x≤y))

theorem Fi (L:List Gs)(k:Nat)(h:k < L.length):(L.take (k+1)).flatMap Gs.s=(L.take k).flatMap Gs.s++L[k].s:=by
 rw[List.take_succ_eq_append_getElem h,j4]
 simp
theorem Ig (L:List Gs)(k:Nat):((L.take k).flatMap Gs.s).length≤(L.flatMap Gs.s).length:=by
 conv=>rhs;rw[←List.take_append_drop k L]
 rw[j4,j0]
 omega

theorem Tryz.info_intG:(Tryz.prog.info? 3).map (λi=>(i.zero,i.size,i.bytes))=sO (sO (I Y 0),1,8):=by kernel_rfl
theorem vJ {w:World}{B:Nat}{e:TypeId}{z:Nat}{v:Value}{n:Nat}{xs:List Value}(h:w.ownsRow B e z v n xs){k:Nat}(hk:v.ownBlock=sO k):B≤k:=by
 rcases h.2 with⟨rfl,_⟩|⟨g,cap,cur,rfl,hb,hg,_⟩
 ·cases hk
 ·cases hk
  exact hb

theorem vG (ls:Option Addr)(L:List Gs)(lc:Nat)(w:World)(hL:GsAt w ls L)(hl:L.length≤1000000)(hT:(L.flatMap Gs.s).length≤1000000):
  Calls pG 180 #[U ls L.length lc] w λe w'=>∃v,e=Rt v∧w'.ownsRow w.heap.size 3 1 v (cA L).length ((cA L).map (.int .i64))∧Below w.heap.size w w':=by
 obtain⟨ti,hi,hz0,hz1,hz2⟩:=info_parts Tryz.info_intG
 go_enter Tryz.func180,Tryz.ntmps180
 go_wp2
 go_loopw [3,8] (λo i wr=>∃k:Nat,k≤L.length∧i=I Y k∧wr.ownsRow w.heap.size 3 1 o ((L.take k).flatMap Gs.s).length (((L.take k).flatMap Gs.s).map (.int .i64))∧Below w.heap.size w wr) (λ_ i _=>L.length - (intOf i).toNat)
 case atStart=>exact⟨0,j1 _,rfl,⟨by simp,.inl ⟨rfl,by simp⟩⟩,bR _ _⟩
 case round=>
  obtain⟨k,hk,rfl,hown,hbr⟩:=hrel
  have s1:=hbr.size
  by_cases hlt:k < L.length
  ·obtain⟨b,off,rfl,ss,gc,GR,IR,hg1,hg2⟩:=hL.below hbr (lR _) k hlt
   obtain⟨⟨g0,g1,g2,g3,g4,g5,g6⟩,gz⟩:=id GR
   have n0:(0:Int)≤(k:Int):=by omega
   have n1:(k:Int) < (L.length:Int):=by omega
   have HC:=aa (Fi L k hlt)
   have c1:=Ig L (k+1)
   rw[HC.out,j0] at c1
   have IA:=IR.alloc (Cc #[Bb L[k].n,Bb L[k].sp.n,I Y L[k].sp.lo,I Y L[k].sp.hi,Bb L[k].t,Bb L[k].f,U ss L[k].s.length gc] 91)
   have OA:=hown.alloc (Cc #[Bb L[k].n,Bb L[k].sp.n,I Y L[k].sp.lo,I Y L[k].sp.hi,Bb L[k].t,Bb L[k].f,U ss L[k].s.length gc] 91)
   have BA:=hbr.alloc s1 (Cc #[Bb L[k].n,Bb L[k].sp.n,I Y L[k].sp.lo,I Y L[k].sp.hi,Bb L[k].t,Bb L[k].f,U ss L[k].s.length gc] 91)
   cases ss with
   |none=>
    have h0:L[k].s=[]:=by
     rcases IR with h|⟨_,_,h,_⟩
     ·exact h
     ·cases h
    have HC':Hid ((L.take (k+1)).flatMap Gs.s=(L.take k).flatMap Gs.s):=by show _=_;rw[HC.out,h0,List.append_nil]
    rw[h0] at OA BA g6
    clear IA HC c1
    go_wp2_with (at_builtin;refine nH _ rfl _ _ 34 rfl w.heap.size 3 ti 1 Tryz.underlying34 hi _ _ gc _ rfl OA rfl ?_)
    go_roundw
    case rel=>exact⟨k+1,by omega,by go_num,by rw[HC'.out];exact OA,BA⟩
    case measure=>simp[intOf];omega
   |some ad=>
    have hnews:∀j u,(L[k].s.map (Value.int .i64))[j]? =sO u→(wr.alloc (Cc #[Bb L[k].n,Bb L[k].sp.n,I Y L[k].sp.lo,I Y L[k].sp.hi,Bb L[k].t,Bb L[k].f,U (sO ad) L[k].s.length gc] 91)).cell? (ad.add j)=sO u:=by
     intro j u hju
     have hj:j < L[k].s.length:=by
      have:=(List.getElem?_eq_some_iff.1 hju).1
      simpa using this
     obtain⟨b',off',e',hb',hc'⟩:=IA.get j hj
     cases e'
     have:=hc' j hj
     rw[List.getElem?_map,List.getElem?_eq_getElem hj] at hju
     cases hju
     rw[←this,Addr.add_lit]
    clear IA
    go_wp2_with (at_builtin;refine wpList_append_own _ rfl _ _ 34 rfl w.heap.size 3 ti (I Y 0) 1 8 Tryz.underlying34 hi hz0 hz1 hz2 rfl (by decide) _ _ _ rfl OA ad L[k].s.length gc (L[k].s.map (.int .i64)) rfl (by simp) hnews (λx hx=>by obtain⟨y,_,rfl⟩:=List.mem_map.1 hx;rfl) (by unfold maxLen;omega) (by omega) (by simp;omega) ?_;intro v' w3 hown' hgrow3 hnil3)
    go_roundw
    case rel=>exact⟨k+1,by omega,by go_num,by rw[HC.out,List.map_append,j0];exact hown',BA.grown hgrow3 (by simp;omega) (λj hj=>vJ hown hj)⟩
    case measure=>simp[intOf];omega
  ·have hk':k=L.length:=by omega
   subst hk'
   rw[List.take_length] at hown
   have HS:Hid (cA L=Lib.compact ((L.flatMap Gs.s).mergeSort λx y=>decide (x≤y))):=rfl
   generalize hzs:L.flatMap Gs.s=zs at *
   have HZ:=aa hzs
   clear hzs hL
   rcases hown.2 with⟨rfl,h0⟩|⟨g,cap,cur,rfl,hbg,hg,h1,h2,h3,h4⟩
   ·have hnil:zs=[]:=j3.1 h0
    have HE:Hid (cA L=[]):=by show _=_;rw[HS.out,hnil];simp[Lib.compact,Lib.compactUpTo]
    clear HS HZ hnil h0
    go_wp2_with (go_at_call 217;fail)
    refine(Tryz.slices_Sort_int_none _ _ _).mono ?_
    rintro e w1 ⟨rfl,rfl⟩
    go_wp2_with (go_at_call 218;fail)
    refine(Tryz.slices_Compact_int_empty _ _ _).mono ?_
    rintro e w1 ⟨rfl,rfl⟩
    go_wp2
    go_ret
    exact⟨_,rfl,by rw[HE.out];exact⟨rfl,.inl ⟨rfl,rfl⟩⟩,hbr⟩
   ·have hgl:g < wr.heap.size:=(Array.getElem?_eq_some_iff.1 hg).1
    rw[Nat.mul_one] at h4
    go_wp2_with (go_at_call 217;fail)
    refine(Tryz.slices_Sort_int g 0 cap zs _ (holds_of_blockI hg h4) hgl (by omega)).mono ?_
    rintro e w1 ⟨rfl,n,os,hw1⟩
    have hml:(zs.mergeSort λx y=>decide (x≤y)).length=zs.length:=List.length_mergeSort _
    have O1:w1.ownsRow w.heap.size 3 1 (U (sO ⟨g,0,nO⟩) zs.length cap) zs.length ((zs.mergeSort λx y=>decide (x≤y)).map (.int .i64)):=by
     rw[hw1];exact ownsRow_sortedI hml hbg hg h1 h2 h3
    have B1:Below w.heap.size w w1:=by
     rw[hw1];exact hbr.grown (grownBy_sortedI _) s1 (λj hj=>by cases hj;exact hbg)
    clear hw1
    generalize hys:(zs.mergeSort λx y=>decide (x≤y))=ys at *
    have HE:Hid (cA L=Lib.compact ys):=HS.out
    have hyl:ys.length=zs.length:=hml
    clear hys hml HS hown h4 h3 hg hbr
    rcases O1.2 with⟨h',_⟩|⟨g',cap',cur',h',-,hg',h1',h2',h3',h4'⟩
    ·cases h'
    ·cases h'
     rw[Nat.mul_one,←hyl] at h4'
     have hcl:=Lib.compact_length_le ys
     go_wp2_with (go_at_call 218;fail)
     rw[←hyl]
     refine(Tryz.slices_Compact_int g 0 cap ys _ (holds_of_blockI hg' h4') (by omega) (by omega)).mono ?_
     rintro e w2 ⟨rfl,q,hw2⟩
     rw[←Dq (putRow _ _ _ _ _)] at hw2
     have htl:(Lib.compact ys++List.replicate (ys.length - (Lib.compact ys).length) (0:Int)).length=ys.length:=by rw[j0,List.length_replicate];omega
     have O2:=ownsRow_sortedI (w:=w1) (n:=q) (os:=#[]) (ss:=ys) htl hbg hg' (by omega) h2' h3'
     rw[←hw2] at O2
     have B2:Below w.heap.size w w2:=by
      rw[hw2];exact B1.grown (grownBy_sortedI _) B1.size (λj hj=>by cases hj;exact hbg)
     have O3:=vw O2 hcl
     rw[←List.map_take,List.take_left] at O3
     clear hw2 O2 O1 B1 htl hg' h4'
     go_wp2
     go_ret
     exact⟨_,rfl,by rw[HE.out];exact O3,B2⟩
end
section
open Go.RowKit
attribute [local go_sem ↓] Go.wp_at_zero Go.wp_at_succ
def dk (V F:Int)(c:List Ins)(r:St):Int:=if ai V F c=0 then kG V F c r else ai V F c
theorem gF {V F:Int}{c:List Ins}{r:St}(h:r.at_ < 0∨(c.length:Int) < r.at_∨r.taken < 0∨r.fin < 0∨5 < r.fin):kG V F c r=3:=by
 unfold kG
 rw[if_pos (by simp[btw];omega)]
theorem AL {V F:Int}{c:List Ins}{r:St}(h:¬(r.at_ < 0∨(c.length:Int) < r.at_∨r.taken < 0∨r.fin < 0∨5 < r.fin)):kG V F c r=if (r.vars.length:Int)≠V then 1 else if 100 < r.things.length then 2 else iC F c r:=by
 unfold kG
 rw[if_neg (by simp[btw];omega)]
 rfl
theorem nD (V F:Int)(s:Option Addr)(c:List Ins)(cap:Nat)(r:St)(vs:Option Addr)(vc:Nat)(ts:Option Addr)(tc:Nat)(ls:Option Addr)(lc:Nat)(w:World)(hc:CodeAt w s c)(hl:kD r)(hr:RunAt w r vs ts ls):
  Calls pG 42 #[Ag #[I Y V,I Y F,U s c.length cap],mL r vs vc ts tc ls lc] w λe w'=>e=Rt (I Y (dk V F c r))∧Below w.heap.size w w':=by
 have hb0:Below w.heap.size w ((w.alloc (Cc #[I Y V,I Y F,U s c.length cap] 24)).alloc (Cc #[I Y r.at_,U vs r.vars.length vc,U ts r.things.length tc,I Y r.taken,U ls r.lines.length lc,I Y r.fin] 33)):=by go_grown
 have P0:=(P3.new w V F s c.length cap).call (w':=((w.alloc (Cc #[I Y V,I Y F,U s c.length cap] 24)).alloc (Cc #[I Y r.at_,U vs r.vars.length vc,U ts r.things.length tc,I Y r.taken,U ls r.lines.length lc,I Y r.fin] 33))) (by go_grown)
 have Q0:=R6.new (w.alloc (Cc #[I Y V,I Y F,U s c.length cap] 24)) 33 (I Y r.at_) (U vs r.vars.length vc) (U ts r.things.length tc) (I Y r.taken) (U ls r.lines.length lc) (I Y r.fin)
 rw[zA] at Q0
 have C0:=hc.below hb0 (lR _)
 have A0:=hr.below hb0 (lR _)
 have HC:=aF (di V F s cap c ((w.alloc (Cc #[I Y V,I Y F,U s c.length cap] 24)).alloc (Cc #[I Y r.at_,U vs r.vars.length vc,U ts r.things.length tc,I Y r.taken,U ls r.lines.length lc,I Y r.fin] 33)) C0)
 have HT:=aF (λ(wx:World) (hx:Below ((w.alloc (Cc #[I Y V,I Y F,U s c.length cap] 24)).alloc (Cc #[I Y r.at_,U vs r.vars.length vc,U ts r.things.length tc,I Y r.taken,U ls r.lines.length lc,I Y r.fin] 33)).heap.size ((w.alloc (Cc #[I Y V,I Y F,U s c.length cap] 24)).alloc (Cc #[I Y r.at_,U vs r.vars.length vc,U ts r.things.length tc,I Y r.taken,U ls r.lines.length lc,I Y r.fin] 33)) wx) (h60:c.length≤60)=>sK V F s c cap r vs vc ts tc ls lc wx (C0.below hx (lR _)) h60 hl (A0.below hx (lR _)))
 have HP:=aF (λ(wx:World) (hx:Below ((w.alloc (Cc #[I Y V,I Y F,U s c.length cap] 24)).alloc (Cc #[I Y r.at_,U vs r.vars.length vc,U ts r.things.length tc,I Y r.taken,U ls r.lines.length lc,I Y r.fin] 33)).heap.size ((w.alloc (Cc #[I Y V,I Y F,U s c.length cap] 24)).alloc (Cc #[I Y r.at_,U vs r.vars.length vc,U ts r.things.length tc,I Y r.taken,U ls r.lines.length lc,I Y r.fin] 33)) wx)=>And.intro (P0.call hx) (Q0.call hx))
 have HK:=aF (@bK V F c)
 have HB:Hid (dk V F c r=if ai V F c=0 then kG V F c r else ai V F c):=rfl
 have hl2:r.things.length≤9223372036854775807:=by have:=hl.2.1;unfold maxLen at this;omega
 unfold mL at HT ⊢
 generalize ai V F c=ck at *
 clear P0 Q0 C0 A0 hc hr hl
 go_enter Tryz.func42,Tryz.ntmps42
 go_wp2_with (go_at_call 76;fail)
 generalize ((w.alloc (Cc #[I Y V,I Y F,U s c.length cap] 24)).alloc (Cc #[I Y r.at_,U vs r.vars.length vc,U ts r.things.length tc,I Y r.taken,U ls r.lines.length lc,I Y r.fin] 33))=w2 at *
 refine HC.out.mono ?_
 rintro e w3 ⟨rfl,hb3⟩
 clear HC
 have b3:=hb0.trans (hb3.mono hb0.size)
 obtain⟨⟨⟨p0,p1,p2⟩,pz⟩,⟨r0,r1,r2,r3,r4,r5⟩,rz,rf⟩:=HP.out w3 hb3
 clear HP rf
 by_cases hk:ck=0
 ·subst hk
  have h60:=(HK.out rfl).len
  clear HK
  by_cases a1:r.at_ < 0
  ·have HR:Hid (dk V F c r=3):=by show _=_;rw[HB.out,if_pos rfl,gF (.inl a1)]
   clear HT HB
   go_wp2
   go_ret
   exact⟨bu (by rw[HR.out]),b3⟩
  by_cases a2:(c.length:Int) < r.at_
  ·have HR:Hid (dk V F c r=3):=by show _=_;rw[HB.out,if_pos rfl,gF (.inr (.inl a2))]
   clear HT HB
   go_wp2
   go_ret
   exact⟨bu (by rw[HR.out]),b3⟩
  by_cases a3:r.taken < 0
  ·have HR:Hid (dk V F c r=3):=by show _=_;rw[HB.out,if_pos rfl,gF (.inr (.inr (.inl a3)))]
   clear HT HB
   go_wp2
   go_ret
   exact⟨bu (by rw[HR.out]),b3⟩
  by_cases a4:r.fin < 0
  ·have HR:Hid (dk V F c r=3):=by show _=_;rw[HB.out,if_pos rfl,gF (.inr (.inr (.inr (.inl a4))))]
   clear HT HB
   go_wp2
   go_ret
   exact⟨bu (by rw[HR.out]),b3⟩
  by_cases a5:5 < r.fin
  ·have HR:Hid (dk V F c r=3):=by show _=_;rw[HB.out,if_pos rfl,gF (.inr (.inr (.inr (.inr a5))))]
   clear HT HB
   go_wp2
   go_ret
   exact⟨bu (by rw[HR.out]),b3⟩
  have HX:Hid (dk V F c r=if (r.vars.length:Int)≠V then 1 else if 100 < r.things.length then 2 else iC F c r):=by show _=_;rw[HB.out,if_pos rfl,AL (by omega)]
  clear HB
  by_cases a6:(r.vars.length:Int)=V
  ·by_cases a7:100 < r.things.length
   ·have HR:Hid (dk V F c r=2):=by show _=_;rw[HX.out,if_neg (by simpa using a6),if_pos a7]
    have n7:(100:Int) < (r.things.length:Int):=by omega
    subst a6
    clear HT HX
    go_wp2
    go_ret
    exact⟨bu (by rw[HR.out]),b3⟩
   ·have HR:Hid (dk V F c r=iC F c r):=by show _=_;rw[HX.out,if_neg (by simpa using a6),if_neg a7]
    have n7:¬(100:Int) < (r.things.length:Int):=by omega
    subst a6
    clear HX
    go_wp2_with (go_at_call 79;fail)
    refine(HT.out w3 hb3 h60).mono ?_
    rintro e w4 ⟨rfl,hb4⟩
    clear HT
    go_wp2
    go_ret
    exact⟨bu (by rw[HR.out]),b3.trans (hb4.mono b3.size)⟩
  ·have HR:Hid (dk V F c r=1):=by show _=_;rw[HX.out,if_pos a6]
   have n6:((r.vars.length:Int)!=V)=true:=by simpa using a6
   clear HT HX
   go_wp2
   go_ret
   exact⟨bu (by rw[HR.out]),b3⟩
 ·have hkb:(ck !=0)=true:=by simpa using hk
  have HR:Hid (dk V F c r=ck):=by show _=_;rw[HB.out,if_neg hk]
  clear HT HK HB
  go_wp2
  go_ret
  exact⟨bu (by rw[HR.out]),b3⟩
end
end Go.Proofs.YtmapdpcfanecdabGreatDoor
