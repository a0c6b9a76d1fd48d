import Derived.Test.YtmapdpcfanecdabGreatDoorR11
import Derived.FnData
import Derived.LaidLaws
import Derived.Test.YtmapdpcfanecdabGreatDoorR07
import Derived.Test.YtmapdpcfanecdabGreatDoorR08
import Derived.Test.YtmapdpcfanecdabGreatDoorR09
import Derived.Sort.OwnSortedInts
import Derived.Lib.RowBridge
open Array renaming getElem?_eq_some_iff→j7,toList_inj→q5
open Bool renaming eq_false_or_eq_true→J6
open Go.Ending renaming returned→Rt
open Go.Obj renaming cells→Cc
open Go.Proofs.Tryz renaming prog→pG
open Go.RowKit.Below renaming heap_setCell→hSe,refl→bR
open Go.Value renaming agg→Ag,bool→Bb,pointer→Pp,slice→U,slice→j9,tuple→Tu
open Go.World renaming cell?_of_block→j4,frozen?_of_block→x6,ownsRow_nil→q8,size_alloc→j0
open List renaming append_nil→X5,drop_eq_getElem_cons→q4,drop_eq_nil_of_le→q6,drop_zero→J4,eq_nil_of_length_eq_zero→Z9,find?_eq_none→Z8,flatMap_append→J7,getD→q9,getElem?_eq_getElem→j8,getElem?_eq_some_iff→X6,getElem?_map→z8,getElem_map→X9,getElem_mem→gM,isEmpty_eq_false_iff→x9,length_append→q7,length_cons→j5,length_eq_zero_iff→X4,length_map→J9,length_nil→Q7,map_append→J8,map_cons→X2,mem_cons_of_mem→Qb,mem_map→X7,mem_map_of_mem→Q9,nil_append→X8,range→j6,range'→J5,take_of_length_le→X0,take_succ_eq_append_getElem→z7
open Nat renaming le_of_lt→Q6,le_refl→lR,le_trans→lT,lt_of_lt_of_le→lL,lt_succ_self→z9,ne_of_lt→Q8,reduceAdd→Qa,succ_pos→x8,zero_add→j3,zero_le→j2
open Option renaming isSome→x7,isSome_none→Z4,isSome_some→Z7,none→nO,some→sO
open Go.Proofs.Tryz
set_option linter.unusedSimpArgs false
set_option linter.unusedVariables false
set_option maxHeartbeats 16000000
set_option maxRecDepth 100000
namespace Go.Proofs.YtmapdpcfanecdabGreatDoor
section
open Go.RowKit
theorem oZ (V F:Int)(s:oA)(len cap N:Nat)(i:Ins)(w:World)(hV:1<=V)(hV':V<=8)(hF:0<=F)(hF':F<=3)(hL:len<=60)(hs:ShpAt N shps w):
  Calls pG 128 #[Ag #[.int .i64 V,.int .i64 F,U s len cap],.map (sO N),Ag #[.int .i64 i.k,.int .i64 i.tgt,.int .i64 i.a,.int .i64 i.b,.int .i64 i.n,.int .i64 i.g]] w λe w'=>e=Rt (.int .i64 (bn V F len i))/\bl w w':=by
 obtain⟨k,tto,a,b,n,g⟩:=i;by_cases h:btw k 1 19=true
 ·rcases tO h with rfl|rfl|rfl|rfl|rfl|rfl|rfl|rfl|rfl|rfl|rfl|rfl|rfl|rfl|rfl|rfl|rfl|rfl|rfl
  ·exact FZ V F s len cap N tto a b n g w hV hV' hF hF' hL hs
  ·exact GL V F s len cap N tto a b n g w hV hV' hF hF' hL hs
  ·exact Hg V F s len cap N tto a b n g w hV hV' hF hF' hL hs
  ·exact KV V F s len cap N tto a b n g w hV hV' hF hF' hL hs
  ·exact KI V F s len cap N tto a b n g w hV hV' hF hF' hL hs
  ·exact F8 V F s len cap N tto a b n g w hV hV' hF hF' hL hs
  ·exact Hu V F s len cap N tto a b n g w hV hV' hF hF' hL hs
  ·exact FU V F s len cap N tto a b n g w hV hV' hF hF' hL hs
  ·exact Kx V F s len cap N tto a b n g w hV hV' hF hF' hL hs
  ·exact Fc V F s len cap N tto a b n g w hV hV' hF hF' hL hs
  ·exact FB V F s len cap N tto a b n g w hV hV' hF hF' hL hs
  ·exact Fi V F s len cap N tto a b n g w hV hV' hF hF' hL hs
  ·exact Fx V F s len cap N tto a b n g w hV hV' hF hF' hL hs
  ·exact Fm V F s len cap N tto a b n g w hV hV' hF hF' hL hs
  ·exact Fq V F s len cap N tto a b n g w hV hV' hF hF' hL hs
  ·exact Fb V F s len cap N tto a b n g w hV hV' hF hF' hL hs
  ·exact Fs V F s len cap N tto a b n g w hV hV' hF hF' hL hs
  ·exact FF V F s len cap N tto a b n g w hV hV' hF hF' hL hs
  ·exact E6 V F s len cap N tto a b n g w hV hV' hF hF' hL hs
 ·exact Fh V F s len cap N k tto a b n g w hV hV' hF hF' hL hs cq

theorem ON (V F:Int)(b off cap:Nat)(c:lI)(w:World)(hV:1<=V)(hV':V<=8)(hF:0<=F)(hF':F<=3)(hL:c.length<=60)(hb:b < w.heap.size)(hc:∀k (h:k < c.length),InsAt w b (off+k * 6) c[k]):
  Calls pG 76 #[Ag #[.int .i64 V,.int .i64 F,U (sO ⟨b,off,nO⟩) c.length cap]] w λe w'=>e=Rt (.int .i64 (fQ V F c.length c))/\bl w w':=by
 have hl60:(c.length:Int)<=60:=aa;have hbox:Below w.heap.size w (w.alloc (Cc #[.int .i64 V,.int .i64 F,U (sO ⟨b,off,nO⟩) c.length cap] 24)):=am;go_enter func76,ntmps76;go_wp2_with (go_at_call 127;refine(mv _).mono ?_;rintro e w1 ⟨rfl,hs1,hb1⟩;obtain⟨hc1,hf1⟩:=FI hb1;have q2:w1.cell? ⟨w.heap.size,2,nO⟩=sO (U (sO ⟨b,off,nO⟩) c.length cap):=uP);simp only[j0] at hs1;have q0:w1.cell? ⟨w.heap.size,0,nO⟩=sO (.int .i64 V):=uP;have q1:w1.cell? ⟨w.heap.size,1,nO⟩=sO (.int .i64 F):=uP;clear hc1 hf1;have z1:w.heap.size+1<=w1.heap.size:=mH;have hbw:bl w w1:=hbox.trans (hb1.mono ah);go_loopw [35] (λi wr=>∃k:Nat,k<=c.length/\i=.int .i64 k/\bl w1 wr/\Hid (fQ V F c.length (c.drop k)=fQ V F c.length c)) (λi _=>c.length - (intOf i).toNat)
 case atStart=>exact⟨0,j2 _,rfl,bR _ _,rfl⟩
 case round=>
  obtain⟨k,hk,rfl,hbr,HR⟩:=hrel;have r0:wr.cell? ⟨w.heap.size,0,nO⟩=sO (.int .i64 V):=by rw[hbr.cell (by simp;omega)];exact q0
  have r1:wr.cell? ⟨w.heap.size,1,nO⟩=sO (.int .i64 F):=by rw[hbr.cell (by simp;omega)];exact q1
  have r2:wr.cell? ⟨w.heap.size,2,nO⟩=sO (U (sO ⟨b,off,nO⟩) c.length cap):=by rw[hbr.cell (by simp;omega)];exact q2
  have s0:w1.heap.size<=wr.heap.size:=hbr.size;have s1:w.heap.size < wr.heap.size:=aa;have s2:b < wr.heap.size:=aa;by_cases hlt:k < c.length
  ·have hi:InsAt wr b (off+k * 6) c[k]:=((hc k hlt).below hbw hb).below hbr aa
   obtain⟨i0,i1,i2,i3,i4,i5⟩:=hi;have n0:=bA;have n1:=gF;clear q0 q1 q2;have HS:=Db (V:=V) (F:=F) (L:=c.length) hlt;by_cases hz:bn V F c.length c[k]=0
   ·have HC:Hid (fQ V F c.length (c.drop (k+1))=fQ V F c.length c):=by have:=HR.out;rw[HS,if_pos hz] at this;exact this
    clear HS HR;go_wp2_with (go_at_call 128;refine(oZ V F _ _ _ _ c[k] _ hV hV' hF hF' hL ?hs).mono ?_;(case hs=>exact hs1.below (hbr.alloc s0 _) (lR _));rintro e w2 ⟨rfl,hb2⟩);go_roundw
    case rel=>exact⟨k+1,aa,aF,(hbr.alloc s0 _).trans (hb2.mono ap),HC⟩
    case measure=>exact aK
   ·rw[if_neg hz] at HS
    have HC:Hid (bn V F c.length c[k]=fQ V F c.length c):=by have:=HR.out;rw[HS] at this;exact this
    have hz':(bn V F c.length c[k]!=0)=true:=fr;clear HS HR;go_wp2_with (go_at_call 128;refine(oZ V F _ _ _ _ c[k] _ hV hV' hF hF' hL ?hs).mono ?_;(case hs=>exact hs1.below (hbr.alloc s0 _) (lR _));rintro e w2 ⟨rfl,hb2⟩);go_ret;exact⟨bQ HC.out,hbw.trans (((hbr.alloc s0 _).trans (hb2.mono ap)).mono aa)⟩
  ·go_wp2
   go_ret;exact⟨bQ Mw,hbw.trans (hbr.mono aa)⟩

theorem PE (V F:Int)(s:oA)(cap:Nat)(w:World)(hV:1<=V)(hV':V<=8)(hF:0<=F)(hF':F<=3):
  Calls pG 76 #[Ag #[.int .i64 V,.int .i64 F,U s 0 cap]] w λe w'=>e=Rt (.int .i64 0)/\bl w w':=by
 have hbox:Below w.heap.size w (w.alloc (Cc #[.int .i64 V,.int .i64 F,U s 0 cap] 24)):=am;go_enter func76,ntmps76;go_wp2_with (go_at_call 127;refine(mv _).mono ?_;rintro e w1 ⟨rfl,hs1,hb1⟩;have q2:w1.cell? ⟨w.heap.size,2,nO⟩=sO (U s 0 cap):=uP)
 go_rounds 1
 go_ret;exact⟨rfl,hbox.trans (hb1.mono ah)⟩

theorem kC {p:Prop}(h:p:=by
 go_enter func76,ntmps76;go_wp2;go_ret;exact⟨rfl,am⟩):p:=h
theorem Pi (V F:Int)(s:oA)(len cap:Nat)(w:World)(hV:1<=V)(hV':V<=8)(hF:0<=F)(hF':F<=3)(hl:60 < len):
  Calls pG 76 #[Ag #[.int .i64 V,.int .i64 F,U s len cap]] w λe w'=>e=Rt (.int .i64 2)/\bl w w':=by
 have t3:(60:Int) < (len:Int):=aa;exact kC

theorem vU (V F:Int)(s:oA)(len cap:Nat)(w:World)(h:¬(1<=V/\V<=8/\0<=F/\F<=3)):
  Calls pG 76 #[Ag #[.int .i64 V,.int .i64 F,U s len cap]] w λe w'=>e=Rt (.int .i64 3)/\bl w w':=by
 by_cases h1:V < 1
 ·clear h
  exact kC
 by_cases h2:8 < V
 ·clear h
  exact kC
 by_cases h3:F < 0
 ·clear h
  exact kC
 ·have h4:3 < F:=by omega
  clear h;exact kC

theorem fL (V F:Int)(s:oA)(cap:Nat)(c:lI)(w:World)(h:CodeAt w s c):
  Calls pG 76 #[Ag #[.int .i64 V,.int .i64 F,U s c.length cap]] w λe w'=>e=Rt (.int .i64 (au V F c))/\bl w w':=by
 unfold au;by_cases hr:1<=V/\V<=8/\0<=F/\F<=3
 ·obtain⟨hV,hV',hF,hF'⟩:=hr
  have t1:=pW;have t2:=rB;by_cases hl:60 < c.length
  ·simpa[t1,t2,hl] using Pi V F s c.length cap w hV hV' hF hF' hl
  ·rcases h with rfl|⟨b,off,rfl,hb,hc⟩
   ·simpa[t1,t2,fQ] using PE V F s cap w hV hV' hF hF'
   ·simpa[t1,t2,hl] using ON V F b off cap c w hV hV' hF hF' aa hb hc
 ·have:btw V 1 8=false\/btw F 0 3=false:=by
   by_cases h1:1<=V/\V<=8
   ·right;simp[btw];omega
   ·left;simp[btw];omega
  rcases this with t|t
  ·simpa[t] using vU V F s c.length cap w hr
  ·simpa[t] using vU V F s c.length cap w hr
theorem iR {B b:Nat}{p:Value}{bs:List Value}{w w':World}(h:Lib.BuilderAt 122 5 B b p bs w)(hb:bl w w'):Lib.BuilderAt 122 5 B b p bs w':=by
 have hlt:=h.lt;obtain⟨h1,v,h2,h3,h4⟩:=h;exact⟨h1,v,by rw[hb.block b hlt];exact h2,bB h3 (λk hk=>hb.block k (cn h3 hk).1),h4⟩

theorem Ax (a b:ByteArray):Lib.strCells (a++b)=Lib.strCells a++Lib.strCells b:=by
 simp[Lib.strCells]
def Cap (w:World):Prop:=∃m,w.cell? ⟨0,0,nO⟩=sO (.int .i64 m)
theorem Cap.below {w w':World}(h:Cap w)(hb:bl w w'):Cap w':=by
 obtain⟨m,hm⟩:=h;exact⟨m,ML⟩

theorem Dk (s:ByteArray)(v:Int)(w:World)(h:Lib.atoiAll s.data.toList=.ok v)(hf:kF v)(hi:eJ v=s)(hs:s.size<=11)(ht:Tab w):
  Calls pG 212 #[.string s] w λe w'=>e=Rt (Tu #[.int .i64 v,Bb true])/\bl w w':=by
 have n1:¬(11:Int) < (s.size:Int):=aa;have hA:∀w,Calls pG 238 #[.string s] w λe w'=>e=Rt (Tu #[.int .i64 v,.nilIface])/\bl w w':=by
  intro w;refine(Tryz.strconv_Atoi_ok s aa v h w).mono ?_;rintro e w' ⟨rfl,rfl|⟨t,rfl⟩⟩
  ·exact nD
  ·exact⟨rfl,Lib.bytesWorld_below _ _ _⟩
 go_enter func212,ntmps212;go_wp2_with (first
  |(go_at_call 238;refine(hA _).mono ?_;rintro e w1 ⟨rfl,hb1⟩)
  |(go_at_call 118;refine(rD v _ hf (ht.below hb1)).mono ?_;rintro e w2 ⟨rfl,hb2⟩))
 go_ret2
 exact⟨rfl,hb1.trans (hb2.mono hb1.size)⟩

theorem Ll (s:ByteArray)(xs:List ByteArray)(w:World)(hm:Cap w)(hs:s.size < 4294967281)(hc:Lib.countB s ⟨#[32]⟩+1=xs.length)(hx:Lib.splitB ⟨#[32]⟩ 0 (Lib.countB s ⟨#[32]⟩) s=xs):
  Calls pG 211 #[.string s,.string ⟨#[32]⟩] w λe w'=>e=Rt (U (sO ⟨w.heap.size,0,nO⟩) xs.length xs.length)/\w'=w.alloc (Cc (xs.map Value.string).toArray 9):=by
 obtain⟨m,hm⟩:=hm;refine(Tryz.strings_Split s ⟨#[32]⟩ m w hs hm ai).mono ?_;rintro e w' ⟨rfl,rfl⟩;rw[hc,hx];exact ii
def npt (k:Nat):Nat:=match k with
 |1=>2|2=>2|3=>1|4=>2|5=>3|6=>3|7=>3|8=>3|9=>3|10=>2|11=>1|12=>3|13=>3|14=>2|15=>2|16=>1|17=>1|18=>1|_=>0

theorem fm {k:Nat}(h1:1<=k)(h:k<=19):k=1\/k=2\/k=3\/k=4\/k=5\/k=6\/k=7\/k=8\/k=9\/k=10\/k=11\/k=12\/k=13\/k=14\/k=15\/k=16\/k=17\/k=18\/k=19:=aa

theorem ST {N:Nat}{w:World}(h:ShpAt N shps w)(k:Nat)(h1:1<=k)(h19:k<=19):∃sa,(Instr.lookup 179 (.map (sO N)) (.int .i64 (k:Int)) false).run pG w=.ok (Ag #[.string (aL k),U sa (npt k) (npt k)]) w:=by
 rcases fm h1 h19 with rfl|rfl|rfl|rfl|rfl|rfl|rfl|rfl|rfl|rfl|rfl|rfl|rfl|rfl|rfl|rfl|rfl|rfl|rfl
 ·exact⟨_,bo h 1 0 _ rfl⟩
 ·exact⟨_,bo h 2 1 _ rfl⟩
 ·exact⟨_,bo h 3 2 _ rfl⟩
 ·exact⟨_,bo h 4 3 _ rfl⟩
 ·exact⟨_,bo h 5 4 _ rfl⟩
 ·exact⟨_,bo h 6 5 _ rfl⟩
 ·exact⟨_,bo h 7 6 _ rfl⟩
 ·exact⟨_,bo h 8 7 _ rfl⟩
 ·exact⟨_,bo h 9 8 _ rfl⟩
 ·exact⟨_,bo h 10 9 _ rfl⟩
 ·exact⟨_,bo h 11 10 _ rfl⟩
 ·exact⟨_,bo h 12 11 _ rfl⟩
 ·exact⟨_,bo h 13 12 _ rfl⟩
 ·exact⟨_,bo h 14 13 _ rfl⟩
 ·exact⟨_,bo h 15 14 _ rfl⟩
 ·exact⟨_,bo h 16 15 _ rfl⟩
 ·exact⟨_,bo h 17 16 _ rfl⟩
 ·exact⟨_,bo h 18 17 _ rfl⟩
 ·exact⟨_,bo h 19 18 _ rfl⟩
def ErrS (w:World):Prop:=∃ev,w.cell? ⟨2,0,nO⟩=sO ev/\(ev=.nilIface\/∃te pe,ev=.iface te pe)
theorem ErrS.below {w w':World}(h:ErrS w)(hb:bl w w'):ErrS w':=by
 obtain⟨m,hm,hi⟩:=h;exact⟨m,ML,hi⟩

theorem uO {p:Prop}(h:p):Hid p:=h
theorem gI (s:ByteArray):s.data.toList.length=s.size:=My
theorem C8 (v:Int):(eJ v).data.toList=Lib.itoa v:=by simp[eJ]

theorem kH (s:ByteArray)(w:World)(ht:Tab w)(hE:ErrS w):
  Calls pG 212 #[.string s] w λe w'=>∃v,e=Rt (Tu #[.int .i64 v,Bb (bW s.data.toList).isSome])/\(∀n,bW s.data.toList=sO n->v=n)/\bl w w':=by
 by_cases hl:s.size<=11
 ·have n1:¬(11:Int) < (s.size:Int):=by omega
  have hat:=Lib.atoiAll_short s.data.toList (by rw[gI];omega);cases ha:Lib.atoi s.data.toList with
  |none=>
   rw[ha] at hat;have hno:bW s.data.toList=none:=by unfold bW;rw[ha];simp
   rw[hno];obtain⟨ev,hev,hev2⟩:=hE;have hA:=Tryz.strconv_Atoi_syntax s aa hat ev w hev hev2;clear hat ha;go_enter func212,ntmps212;go_wp2_with fail;refine hA.mono ?_;rintro e w1 ⟨M,rfl,-,-,hb1⟩;clear hA;go_wp2
   go_ret2
   exact⟨0,rfl,λn h=>aT,hb1⟩
  |some v=>
   rw[ha] at hat;have hf:kF v:=Lib.atoiAll_bounds hat;by_cases hi:Lib.itoa v=s.data.toList
   ·have hi':eJ v=s:=by
     apply ByteArray.ext;apply q5.1;rw[C8];exact hi
    have hno:bW s.data.toList=sO v:=by unfold bW;rw[if_pos (by rw[gI];exact hl),ha];simp[hi]
    rw[hno];refine(Dk s v w hat hf hi' hl ht).mono ?_;rintro e w' ⟨rfl,hb⟩;exact⟨v,rfl,λn h=>(by cases h;rfl),hb⟩
   ·have hno:bW s.data.toList=none:=by unfold bW;rw[if_pos (by rw[gI];exact hl),ha];simp[hi]
    rw[hno];have hne:((eJ v).toList==s.toList)=false:=by
     rw[beq_eq_false_iff_ne,ByteArray.toList_eq,ByteArray.toList_eq,C8];exact hi
    have hA:∀w,Calls pG 238 #[.string s] w λe w'=>e=Rt (Tu #[.int .i64 v,.nilIface])/\bl w w':=by
     intro w;refine(Tryz.strconv_Atoi_ok s aa v hat w).mono ?_;rintro e w' ⟨rfl,rfl|⟨t,rfl⟩⟩
     ·exact nD
     ·exact⟨rfl,Lib.bytesWorld_below _ _ _⟩
    clear hat ha hi hno;go_enter func212,ntmps212;go_wp2_with (first
     |(go_at_call 238;refine(hA _).mono ?_;rintro e w1 ⟨rfl,hb1⟩)
     |(go_at_call 118;refine(rD v _ hf (ht.below hb1)).mono ?_;rintro e w2 ⟨rfl,hb2⟩))
    go_ret2
    exact⟨v,rfl,λn h=>aT,hb1.trans (hb2.mono hb1.size)⟩
 ·have n1:(11:Int) < (s.size:Int):=by omega
  have hno:bW s.data.toList=none:=by unfold bW;rw[if_neg (by rw[gI];exact hl)]
  rw[hno];go_enter func212,ntmps212;go_wp2
  go_ret2
  exact⟨0,rfl,λn h=>aT,bR _ _⟩

theorem pi {p:Prop}(h:p:=by
 go_enter func214,ntmps214;go_wp2
 go_quiet (fail)
 go_wp2;go_ret;exact⟨rfl,below_drewN am _⟩):p:=h
theorem Oh (x:ByteArray)(sa:oA)(np p g n c:Nat)(w:World)(h0:0 < n)(hn:n<=5000)(hp:p < w.heap.size)(hg:g < w.heap.size)(hc:w.cell? ⟨p,0,nO⟩=sO (U (sO ⟨g,0,nO⟩) n c))(hx:w.cell? ⟨g,0,nO⟩=sO (.string x))(he:np+1≠n):
  Calls pG 214 #[Ag #[.string x,U sa np np],Pp (sO ⟨p,0,nO⟩)] w λe w'=>e=Rt (Bb false)/\bl w w':=by
 have n0:(0:Int) < (n:Int):=aa;have e1:((np:Int)==(n:Int) - 1)=false:=ap;have z1:p < w.heap.size+1:=aa;have z2:g < w.heap.size+1:=aa;clear he;exact pi
theorem LO (x:ByteArray)(sa:oA)(np p g n c:Nat)(w:World)(h0:0 < n)(hn:n<=5000)(hp:p < w.heap.size)(hg:g < w.heap.size)(hc:w.cell? ⟨p,0,nO⟩=sO (U (sO ⟨g,0,nO⟩) n c))(hx:w.cell? ⟨g,0,nO⟩=sO (.string x))(he:np+1=n):
  Calls pG 214 #[Ag #[.string x,U sa np np],Pp (sO ⟨p,0,nO⟩)] w λe w'=>e=Rt (Bb true)/\bl w w':=by
 have n0:(0:Int) < (n:Int):=aa;have e1:((np:Int)==(n:Int) - 1)=true:=ap;have z1:p < w.heap.size+1:=aa;have z2:g < w.heap.size+1:=aa;clear he;exact pi
theorem LY (x y:ByteArray)(sa:oA)(np p g n c:Nat)(w:World)(h0:0 < n)(hn:n<=5000)(hp:p < w.heap.size)(hg:g < w.heap.size)(hc:w.cell? ⟨p,0,nO⟩=sO (U (sO ⟨g,0,nO⟩) n c))(hx:w.cell? ⟨g,0,nO⟩=sO (.string x))(hne:(y.toList==x.toList)=false):
  Calls pG 214 #[Ag #[.string y,U sa np np],Pp (sO ⟨p,0,nO⟩)] w λe w'=>e=Rt (Bb false)/\bl w w':=by
 have n0:(0:Int) < (n:Int):=aa;have z1:p < w.heap.size+1:=aa;have z2:g < w.heap.size+1:=aa;exact pi
theorem OI (x y:ByteArray)(sa:oA)(np p g n c:Nat)(w:World)(h0:0 < n)(hn:n<=5000)(hp:p < w.heap.size)(hg:g < w.heap.size)(hc:w.cell? ⟨p,0,nO⟩=sO (U (sO ⟨g,0,nO⟩) n c))(hx:w.cell? ⟨g,0,nO⟩=sO (.string x)):
  Calls pG 214 #[Ag #[.string y,U sa np np],Pp (sO ⟨p,0,nO⟩)] w λe w'=>e=Rt (Bb (y.data.toList==x.data.toList&&np==n - 1))/\bl w w':=by
 cases hb:(y.data.toList==x.data.toList)
 ·rw[Bool.false_and]
  exact LY x y sa np p g n c w h0 hn hp hg hc hx (by rw[ByteArray.toList_eq,ByteArray.toList_eq];exact hb)
 ·have hyx:y=x:=by
   apply ByteArray.ext;apply q5.1;exact beq_iff_eq.1 hb
  subst hyx;rw[Bool.true_and];by_cases he:np+1=n
  ·have:(np==n - 1)=true:=by rw[beq_iff_eq];omega
   rw[this];exact LO y sa np p g n c w h0 hn hp hg hc hx he
  ·have:(np==n - 1)=false:=by rw[beq_eq_false_iff_ne];omega
   rw[this];exact Oh y sa np p g n c w h0 hn hp hg hc hx he

theorem UL {k:Nat}(h1:1<=k)(h:k<=19):npt k=(prt k).length:=by
 rcases fm h1 h with rfl|rfl|rfl|rfl|rfl|rfl|rfl|rfl|rfl|rfl|rfl|rfl|rfl|rfl|rfl|rfl|rfl|rfl|rfl<;>rfl
theorem nZ {x:List UInt8}{n:Nat}(h:∀j,1<=j->j < 20->eZ x n j=false):eH x n=none:=by
 unfold eH;rw[Z8];intro j hj;simp at hj;rw[h j aa aa];simp
theorem wu {x:List UInt8}{n k:Nat}(h:∀j,1<=j->j < k->eZ x n j=false)(h1:1<=k)(h19:k<=19)(hk:eZ x n k=true):eH x n=sO k:=by
 unfold eH;have hs:[1,2,3,4,5,6,7,8,9,10,11,12,13,14,15,16,17,18,19]=J5 1 (k - 1)++J5 k (20 - k):=by
  rcases fm h1 h19 with rfl|rfl|rfl|rfl|rfl|rfl|rfl|rfl|rfl|rfl|rfl|rfl|rfl|rfl|rfl|rfl|rfl|rfl|rfl<;>rfl
 rw[hs,List.find?_append];have hn:(J5 1 (k - 1)).find? (eZ x n)=none:=by
  rw[Z8];intro j hj;rw[List.mem_range'_1] at hj;rw[h j aa aa];simp
 rw[hn,show 20 - k=(19 - k)+1 by omega,List.range'_succ,List.find?_cons,hk];rfl

def NT (o:Option Nat):Value:=match o with
 |some k=>Tu #[.int .i64 k,Bb true]
 |none=>Tu #[.int .i64 0,Bb false]

theorem Tt (x:ByteArray)(N p g n c:Nat)(w:World)(h0:0 < n)(hs:ShpAt N shps w)(hn:n<=5000)(hp:p < w.heap.size)(hg:g < w.heap.size)(hc:w.cell? ⟨p,0,nO⟩=sO (U (sO ⟨g,0,nO⟩) n c))(hx:w.cell? ⟨g,0,nO⟩=sO (.string x)):
  Calls pG 213 #[.map (sO N),.func (.func 214) #[] #[Pp (sO ⟨p,0,nO⟩)]] w λe w'=>e=Rt (NT (eH x.data.toList (n - 1)))/\bl w w':=by
 generalize hans:eH x.data.toList (n - 1)=ans;have Hans:=uO hans;clear hans;go_enter func213,ntmps213;go_wp2;go_loopw [6] (λi wr=>∃k:Nat,1<=k/\k<=20/\i=.int .i64 k/\Hid (∀j,1<=j->j < k->eZ x.data.toList (n - 1) j=false)/\bl w wr) (λi _=>20 - (intOf i).toNat)
 case atStart=>exact⟨1,lR _,aa,rfl,(by intro j h1 h2;omega),bR _ _⟩
 case round=>
  obtain⟨k,hk1,hk,rfl,hno,hbr⟩:=hrel;by_cases h20:k=20
  ·subst h20
   have e0:eH x.data.toList (n - 1)=none:=nZ hno.out;obtain rfl:nO=ans:=e0.symm.trans Hans.out;clear hno e0 hc hx hs Hans;go_wp2
   go_ret2
   exact⟨rfl,hbr⟩
  ·have hk19:k<=19:=by omega
   obtain⟨sa,hl⟩:=ST (hs.below hbr (lR _)) k hk1 hk19;have hc':wr.cell? ⟨p,0,nO⟩=sO (U (sO ⟨g,0,nO⟩) n c):=by rw[hbr.cell hp];exact hc
   have hx':wr.cell? ⟨g,0,nO⟩=sO (.string x):=by rw[hbr.cell hg];exact hx
   have s0:=hbr.size;have m1:(k:Int)<=19:=aa;have hW:=OI x (aL k) sa (npt k) p g n c wr h0 hn aa aa hc' hx';have hik:((aL k).data.toList==x.data.toList&&npt k==n - 1)=eZ x.data.toList (n - 1) k:=by unfold eZ;rw[UL hk1 hk19]
   rw[hik] at hW;cases hb:eZ x.data.toList (n - 1) k with
   |true=>
    have e0:=wu hno.out hk1 hk19 hb;obtain rfl:sO k=ans:=e0.symm.trans Hans.out;rw[hb] at hW;clear hc' hx' hc hx hs hno e0 hik hb Hans;go_wp2_with (go_at_call 214;refine hW.mono ?_;rintro e w1 ⟨rfl,hb1⟩)
    go_ret2
    exact⟨rfl,hbr.trans (hb1.mono s0)⟩
   |false=>
    rw[hb] at hW;have hno':Hid (∀j,1<=j->j < k+1->eZ x.data.toList (n - 1) j=false):=by
     intro j h1 h2;by_cases hj:j=k
     ·rw[hj];exact hb
     ·exact hno.out j h1 aa
    clear hc' hx' hc hx hs hno hik hb;go_wp2_with (go_at_call 214;refine hW.mono ?_;rintro e w1 ⟨rfl,hb1⟩);go_roundw
    case rel=>exact⟨k+1,aa,aa,aF,hno',hbr.trans (hb1.mono s0)⟩
    case measure=>exact aK

def kP (q:Nat):Nat:=match q with
 |0=>1|1=>2|2=>3|3=>5|_=>4
theorem kI {p:Prop}(h:p:=by
 go_enter func185,ntmps185;go_wp2;go_ret;exact⟨rfl,rfl⟩):p:=h
theorem Ul (b q:Nat)(w:World):
  Calls pG 185 #[Pp (sO ⟨b,0,nO⟩),.int .i64 q] w λe w'=>e=Rt (Pp (sO ⟨b,kP q,nO⟩))/\w'=w:=by
 by_cases h0:q=0
 ·subst h0
  exact kI
 by_cases h1:q=1
 ·subst h1
  exact kI
 by_cases h2:q=2
 ·subst h2
  exact kI
 by_cases h3:q=3
 ·subst h3
  exact kI
 have e0:((q:Int)==0)=false:=ap;have e1:((q:Int)==1)=false:=ap;have e2:((q:Int)==2)=false:=ap;have e3:((q:Int)==3)=false:=ap;have ep:kP q=4:=by
  unfold kP;split<;>first|rfl|omega
 rw[ep];exact kI

theorem At {N:Nat}{w:World}(h:ShpAt N shps w)(k:Nat)(h1:1<=k)(h19:k<=19):∃sa,(Instr.lookup 179 (.map (sO N)) (.int .i64 (k:Int)) false).run pG w=.ok (Ag #[.string (aL k),U sa (prt k).length (prt k).length]) w/\∀j (hj:j < (prt k).length),sa=sO ⟨N+k,0,nO⟩/\w.cell? ⟨N+k,j,nO⟩=sO (.int .i64 ((prt k)[j]:Nat))/\N+k < w.heap.size:=by
 rcases fm h1 h19 with rfl|rfl|rfl|rfl|rfl|rfl|rfl|rfl|rfl|rfl|rfl|rfl|rfl|rfl|rfl|rfl|rfl|rfl|rfl
 ·refine⟨_,bo h 1 0 _ rfl,λj hj=> ?_⟩
  match j,hj with
  |0,_=>exact⟨rfl,aq h 0 0 ai ai (.int .i64 0) rfl⟩
  |1,_=>exact⟨rfl,aq h 0 1 ai ai (.int .i64 4) rfl⟩
 ·refine⟨_,bo h 2 1 _ rfl,λj hj=> ?_⟩
  match j,hj with
  |0,_=>exact⟨rfl,aq h 1 0 ai ai (.int .i64 0) rfl⟩
  |1,_=>exact⟨rfl,aq h 1 1 ai ai (.int .i64 5) rfl⟩
 ·refine⟨_,bo h 3 2 _ rfl,λj hj=> ?_⟩
  match j,hj with
  |0,_=>exact⟨rfl,aq h 2 0 ai ai (.int .i64 0) rfl⟩
 ·refine⟨_,bo h 4 3 _ rfl,λj hj=> ?_⟩
  match j,hj with
  |0,_=>exact⟨rfl,aq h 3 0 ai ai (.int .i64 0) rfl⟩
  |1,_=>exact⟨rfl,aq h 3 1 ai ai (.int .i64 1) rfl⟩
 ·refine⟨_,bo h 5 4 _ rfl,λj hj=> ?_⟩
  match j,hj with
  |0,_=>exact⟨rfl,aq h 4 0 ai ai (.int .i64 0) rfl⟩
  |1,_=>exact⟨rfl,aq h 4 1 ai ai (.int .i64 1) rfl⟩
  |2,_=>exact⟨rfl,aq h 4 2 ai ai (.int .i64 2) rfl⟩
 ·refine⟨_,bo h 6 5 _ rfl,λj hj=> ?_⟩
  match j,hj with
  |0,_=>exact⟨rfl,aq h 5 0 ai ai (.int .i64 0) rfl⟩
  |1,_=>exact⟨rfl,aq h 5 1 ai ai (.int .i64 1) rfl⟩
  |2,_=>exact⟨rfl,aq h 5 2 ai ai (.int .i64 2) rfl⟩
 ·refine⟨_,bo h 7 6 _ rfl,λj hj=> ?_⟩
  match j,hj with
  |0,_=>exact⟨rfl,aq h 6 0 ai ai (.int .i64 0) rfl⟩
  |1,_=>exact⟨rfl,aq h 6 1 ai ai (.int .i64 1) rfl⟩
  |2,_=>exact⟨rfl,aq h 6 2 ai ai (.int .i64 2) rfl⟩
 ·refine⟨_,bo h 8 7 _ rfl,λj hj=> ?_⟩
  match j,hj with
  |0,_=>exact⟨rfl,aq h 7 0 ai ai (.int .i64 0) rfl⟩
  |1,_=>exact⟨rfl,aq h 7 1 ai ai (.int .i64 1) rfl⟩
  |2,_=>exact⟨rfl,aq h 7 2 ai ai (.int .i64 2) rfl⟩
 ·refine⟨_,bo h 9 8 _ rfl,λj hj=> ?_⟩
  match j,hj with
  |0,_=>exact⟨rfl,aq h 8 0 ai ai (.int .i64 0) rfl⟩
  |1,_=>exact⟨rfl,aq h 8 1 ai ai (.int .i64 1) rfl⟩
  |2,_=>exact⟨rfl,aq h 8 2 ai ai (.int .i64 2) rfl⟩
 ·refine⟨_,bo h 10 9 _ rfl,λj hj=> ?_⟩
  match j,hj with
  |0,_=>exact⟨rfl,aq h 9 0 ai ai (.int .i64 0) rfl⟩
  |1,_=>exact⟨rfl,aq h 9 1 ai ai (.int .i64 1) rfl⟩
 ·refine⟨_,bo h 11 10 _ rfl,λj hj=> ?_⟩
  match j,hj with
  |0,_=>exact⟨rfl,aq h 10 0 ai ai (.int .i64 0) rfl⟩
 ·refine⟨_,bo h 12 11 _ rfl,λj hj=> ?_⟩
  match j,hj with
  |0,_=>exact⟨rfl,aq h 11 0 ai ai (.int .i64 0) rfl⟩
  |1,_=>exact⟨rfl,aq h 11 1 ai ai (.int .i64 1) rfl⟩
  |2,_=>exact⟨rfl,aq h 11 2 ai ai (.int .i64 7) rfl⟩
 ·refine⟨_,bo h 13 12 _ rfl,λj hj=> ?_⟩
  match j,hj with
  |0,_=>exact⟨rfl,aq h 12 0 ai ai (.int .i64 1) rfl⟩
  |1,_=>exact⟨rfl,aq h 12 1 ai ai (.int .i64 7) rfl⟩
  |2,_=>exact⟨rfl,aq h 12 2 ai ai (.int .i64 2) rfl⟩
 ·refine⟨_,bo h 14 13 _ rfl,λj hj=> ?_⟩
  match j,hj with
  |0,_=>exact⟨rfl,aq h 13 0 ai ai (.int .i64 0) rfl⟩
  |1,_=>exact⟨rfl,aq h 13 1 ai ai (.int .i64 6) rfl⟩
 ·refine⟨_,bo h 15 14 _ rfl,λj hj=> ?_⟩
  match j,hj with
  |0,_=>exact⟨rfl,aq h 14 0 ai ai (.int .i64 1) rfl⟩
  |1,_=>exact⟨rfl,aq h 14 1 ai ai (.int .i64 3) rfl⟩
 ·refine⟨_,bo h 16 15 _ rfl,λj hj=> ?_⟩
  match j,hj with
  |0,_=>exact⟨rfl,aq h 15 0 ai ai (.int .i64 3) rfl⟩
 ·refine⟨_,bo h 17 16 _ rfl,λj hj=> ?_⟩
  match j,hj with
  |0,_=>exact⟨rfl,aq h 16 0 ai ai (.int .i64 1) rfl⟩
 ·refine⟨_,bo h 18 17 _ rfl,λj hj=> ?_⟩
  match j,hj with
  |0,_=>exact⟨rfl,aq h 17 0 ai ai (.int .i64 1) rfl⟩
 ·refine⟨_,bo h 19 18 _ rfl,λj hj=> ?_⟩
  exact absurd hj (by simp[prt])
end
section
open Go.ChangeShapes Go.WideShapes Go.ChangeAt Go.RowKit
theorem UB: "*" ++ "errors.errorString" = "*errors.errorString" :=ai
theorem WW (u:TypeId)(h:Tryz.prog.typeName? 3 u=sO "*errors.errorString"):u=327:=
 typeName_ptr_named (nm:= "errors.errorString") (by rw[UB];kernel_rfl) ae ai u (by rw[UB];exact h)
theorem VN {r:List (String×DataW Unit)}{W:World}(h:laidMet pG (("strconv.ErrSyntax",Rows.laid_strconv_ErrSyntax)::r) W):ErrS W:=by
 obtain⟨a,s,hv,-,-,-⟩:=laid_sentinel (g:=2) (ti:=124) (tp:=327) (te:=329) (ts:=9) h ae ae underlying124 WW underlying327 underlying329 rfl rfl underlying9 ae ae;exact⟨_,World.var?_cell ae hv 0,.inr ⟨_,_,rfl⟩⟩
theorem TL (os:Os)(args:Array Value):Go.LaidIn pG ((lQ pG os).forCall (λ_ _=>0) ⟨#[],args,[]⟩).memory Rows.alarmSoundRow.laid [4,5,1,7,3,2,(World.settled pG default).heap.size,(World.settled pG default).heap.size+1,6]:=
 Go.LaidIn.of_run _ 8 ae ae ae ae
theorem Rk (os:Os)(args:Array Value):laidMet pG Rows.alarmSoundRow.laid ((lQ pG os).forCall (λ_ _=>0) ⟨#[],args,[]⟩).memory:=(TL os args).met
end
section
open Go.RowKit
theorem Sk {V F:Int}{c:lI}(h:au V F c=0):c.length<=60:=by
 unfold au at h;split at h
 ·cases h
 ·split at h
  ·cases h
  ·omega

theorem CZ (c:lI)(L:List Gs)(k:Nat)(h:k < L.length):b9 c (L.drop k)=if aE c L[k]=0 then b9 c (L.drop (k+1)) else aE c L[k]:=by
 rw[q4 h];rfl

theorem eR (V F:Int)(s:oA)(c:lI)(cap:Nat)(ls:oA)(L:List Gs)(lc:Nat)(w:World)(hc:CodeAt w s c)(hL:GsAt w ls L)(hl:L.length<=9223372036854775807):
  Calls pG 142 #[pv V F s c cap,U ls L.length lc] w λe w'=>e=Rt (.int .i64 (ba V F c L))/\bl w w':=by
 have P0:=mS;have C0:=hc.alloc (Cc #[.int .i64 V,.int .i64 F,U s c.length cap] 24);have L0:=hL.alloc (Cc #[.int .i64 V,.int .i64 F,U s c.length cap] 24);have B0:=ic;have HR:Hid (ba V F c L=if au V F c=0 then b9 c L else au V F c):=rfl;clear hc hL;go_enter func142,ntmps142;go_wp2_with fail;refine(fL V F s cap c _ C0).mono ?_;rintro e w1 ⟨rfl,hb1⟩;have P1:=gk;have C1:=C0.call hb1;have L1:=L0.call hb1;have B1:bl w w1:=B0.trans (hb1.mono ah);clear hb1 P0 C0 L0 B0;by_cases h0:au V F c=0
 ·have h60:=Sk h0
  have HF:Hid (ba V F c L=b9 c L):=by show _=_;rw[HR.out,if_pos h0]
  rw[h0];clear HR h0;go_wp2;go_loopw [16] (λi wr=>∃k:Nat,k<=L.length/\i=.int .i64 k/\PrAt wr w.heap.size V F s c cap/\CodeAt wr s c/\GsAt wr ls L/\bl w wr/\Hid (b9 c (L.drop k)=b9 c L)) (λi _=>L.length - (intOf i).toNat)
  case atStart=>exact⟨0,j2 _,rfl,P1,C1,L1,B1,rfl⟩
  case round=>
   obtain⟨k,hk,rfl,PR,CR,LR,BR,HK⟩:=hrel;clear P1 C1 L1 B1;by_cases hlt:k < L.length
   ·obtain⟨b,off,rfl,ss,gc,GR,IR,hg1,hg2⟩:=LR k hlt
    obtain⟨⟨p0,p1,p2⟩,p3⟩:=id PR;obtain⟨⟨g0,g1,g2,g3,g4,g5,g6⟩,gz⟩:=id GR;have n0:=bA;have n1:=gC;have HS:=ag (CZ c L k hlt);unfold maxLen at hg2;have PA:=PR.alloc (Cc #[Bb L[k].n,Bb L[k].sp.n,.int .i64 L[k].sp.lo,.int .i64 L[k].sp.hi,Bb L[k].t,Bb L[k].f,U ss L[k].s.length gc] 91);have CA:=CR.alloc (Cc #[Bb L[k].n,Bb L[k].sp.n,.int .i64 L[k].sp.lo,.int .i64 L[k].sp.hi,Bb L[k].t,Bb L[k].f,U ss L[k].s.length gc] 91);have LA:=LR.alloc (Cc #[Bb L[k].n,Bb L[k].sp.n,.int .i64 L[k].sp.lo,.int .i64 L[k].sp.hi,Bb L[k].t,Bb L[k].f,U ss L[k].s.length gc] 91);have IA:=Hk;have BA:=BR.alloc BR.size (Cc #[Bb L[k].n,Bb L[k].sp.n,.int .i64 L[k].sp.lo,.int .i64 L[k].sp.hi,Bb L[k].t,Bb L[k].f,U ss L[k].s.length gc] 91);clear PR CR LR IR BR GR;go_wp2_with fail;refine(Dw V F s c cap L[k] ss gc _ CA h60 IA aa).mono ?_;rintro e w2 ⟨rfl,hb2⟩;have P2:=PA.call hb2;have C2:=CA.call hb2;have L2:=LA.call hb2;have B2:=BA.trans (hb2.mono BA.size);clear hb2 PA CA LA IA BA;by_cases hz:aE c L[k]=0
    ·have HT:Hid (b9 c (L.drop (k+1))=b9 c L):=by show _=_;rw[<-HK.out,HS.out,if_pos hz]
     rw[hz];clear HK HS hz;go_wp2;go_roundw
     case rel=>exact⟨k+1,aa,aF,P2,C2,L2,B2,HT⟩
     case measure=>exact aK
    ·have HT:Hid (aE c L[k]=b9 c L):=by show _=_;rw[<-HK.out,HS.out,if_neg hz]
     have hne:(aE c L[k]!=0)=true:=fr;clear HK HS;go_wp2;go_ret;exact⟨bQ (by rw[HF.out,HT.out]),B2⟩
   ·go_wp2
    go_ret;exact⟨bQ (by rw[HF.out,<-HK.out,q6 (by omega)];rfl),BR⟩
 ·have HF:Hid (ba V F c L=au V F c):=by show _=_;rw[HR.out,if_neg h0]
  have hne:=rS;clear HR;go_wp2;go_ret;exact⟨bQ HF.out.symm,B1⟩
theorem yR (x:Int)(ss:oA)(cap:Nat)(l:List Int)(w:World)(hl:l.length<=9223372036854775807)(hs:IntsAt w ss l):
  Calls pG 168 #[U ss l.length cap,.int .i64 x] w λe w'=>e=Rt (Bb (l.contains x))/\w'=w:=by
 have HX:Hid (l.contains x=decide (x∈l)):=gR;generalize l.contains x=r at *;go_enter func168,ntmps168;go_wp2
 go_loop [5] (λi=>∃k:Nat,k<=l.length/\i=.int .i64 k/\Hid (x∈l↔x∈l.drop k)) (λi=>l.length - (intOf i).toNat)
 case atStart=>exact⟨0,j2 _,rfl,Iff.rfl⟩
 case round=>
  obtain⟨k,hk,rfl,HA⟩:=hrel;by_cases hlt:k < l.length
  ·obtain⟨b,off,rfl,hb,hc⟩:=hs.get k hlt
   have n0:=bA;have n1:=mZ;have c0:=hc k hlt;have HN:=FV;clear hc hs;by_cases hp:l[k]=x
   ·have HT:Hid (x∈l):=HA.out.2 (HN.out.2 (.inl hp.symm))
    clear HN HA;have hp':(l[k]==x)=true:=by simp[hp]
    go_wp2;go_ret;exact⟨bF (by rw[HX.out];exact(decide_eq_true HT.out).symm),rfl⟩
   ·have HT:=Gj
    have hp':(l[k]==x)=false:=by simpa using hp
    clear HN HA;go_wp2
    go_round
    case rel=>exact⟨k+1,aa,aF,HT⟩
    case measure=>exact aK
  ·go_wp2
   go_ret;exact⟨bF (by rw[HX.out];exact(decide_eq_false λh=>by have:=HA.out.1 h;rw[q6 (by omega)] at this;cases this).symm),rfl⟩
theorem iQ {x:Int}(h:wrap64 x=x):IntKind.i64.wrap x=x:=by
 rw[IntKind.wrap_i64];unfold wrap64 at h;exact h

theorem sK (k:Int)(s t:Sp)(w:World)(hk:k=5\/k=6\/k=7)(hs:s.Ok)(ht:t.Ok):
  Calls pG 172 #[.int .i64 k,sv s,sv t] w λe w'=>e=Rt (sv (cu k s t))/\bl w w':=by
 by_cases h:(s.n||t.n)=true
 ·have:=Ur k s t w h
  unfold cu;rw[if_pos h];exact this
 ·have e0:cu k s t=gW (tW k s.lo t.lo) (tW k s.lo t.hi) (tW k s.hi t.lo) (tW k s.hi t.hi):=by unfold cu;rw[if_neg h]
  rw[e0];obtain⟨n,lo,hi⟩:=s;obtain⟨n',lo',hi'⟩:=t;cases n with
  |true=>exact absurd rfl h
  |false=>
   cases n' with
   |true=>exact absurd rfl h
   |false=>
    rcases hk with rfl|rfl|rfl
    ·exact Pk lo hi lo' hi' _ _ _ _ w (iQ (il hs.1 ht.1)) (iQ (il hs.1 ht.2.1)) (iQ (il hs.2.1 ht.1)) (iQ (il hs.2.1 ht.2.1))
    ·exact NJ lo hi lo' hi' _ _ _ _ w (iQ (ik hs.1 ht.1)) (iQ (ik hs.1 ht.2.1)) (iQ (ik hs.2.1 ht.1)) (iQ (ik hs.2.1 ht.2.1))
    ·exact OG lo hi lo' hi' _ _ _ _ w (iQ (g8 hs.1 ht.1)) (iQ (g8 hs.1 ht.2.1)) (iQ (g8 hs.2.1 ht.1)) (iQ (g8 hs.2.1 ht.2.1))

theorem Iw (s t:Sp)(w:World):
  Calls pG 167 #[sv s,sv t,Bb false] w λe w'=>e=Rt (sv (bj s t))/\bl w w':=by
 by_cases h:(s.n||t.n)=true
 ·exact Be s t false w h
 ·obtain⟨n,lo,hi⟩:=s
  obtain⟨n',lo',hi'⟩:=t;cases n with
  |true=>exact absurd rfl h
  |false=>
   cases n' with
   |true=>exact absurd rfl h
   |false=>exact Ow lo hi lo' hi' w

theorem Id (s t:Sp)(w:World):
  Calls pG 167 #[sv s,sv t,Bb true] w λe w'=>e=Rt (sv (bp s t))/\bl w w':=by
 by_cases h:(s.n||t.n)=true
 ·have e0:bp s t=bj s t:=by
   unfold bp bj;obtain⟨n,lo,hi⟩:=s;obtain⟨n',lo',hi'⟩:=t;cases n with
   |true=>rfl
   |false=>
    cases n' with
    |true=>rfl
    |false=>exact absurd h ah
  rw[e0];exact Be s t true w h
 ·obtain⟨n,lo,hi⟩:=s
  obtain⟨n',lo',hi'⟩:=t;cases n with
  |true=>exact absurd rfl h
  |false=>
   cases n' with
   |true=>exact absurd rfl h
   |false=>exact O4 lo hi lo' hi' w
theorem iD {p:Prop}(h:p:=by
 go_wp2_with fail;refine(HI.out _).mono ?_;rintro e w1 ⟨rfl,hb1⟩;go_wp2
 go_ret2
 exact⟨mT oF (by rw[HN.out];simp),Below.trans am (hb1.mono ah)⟩):p:=h
theorem fT {p:Prop}(h:p:=by
 go_wp2
 go_ret2
 exact⟨mT oF (by rw[HN.out];simp),am⟩):p:=h
theorem AA {p:Prop}(h:p:=by
 cases sn
 ·by_cases h1:lo=0
  ·subst h1
   by_cases h2:hi=0
   ·subst h2
    go_enter func112,ntmps112;exact fT
   ·have h2':(hi !=0)=true:=by simpa using h2
    go_enter func112,ntmps112;exact fT
  ·have h1':(lo !=0)=true:=by simpa using h1
   go_enter func112,ntmps112;exact fT
 ·go_enter func112,ntmps112
  exact fT):p:=h
theorem vR (g:Gs)(ss:oA)(gc:Nat)(w:World):
  Calls pG 112 #[gv g ss gc] w λe w'=>e=Rt (Tu #[Bb (cd g),Bb (cQ g)])/\bl w w':=by
 have HI:=ag (λw=>CI g.sp 0 w);have HY:=Hq;have HN:Hid (cQ g=(g.sp.has 0||(g.n||g.f))):=rfl;generalize cd g=yy at *;generalize cQ g=nn at *;generalize g.sp.has 0=z at *;obtain⟨n,⟨sn,lo,hi⟩,t,f,s⟩:=g;cases n
 ·cases f
  ·cases t
   ·by_cases hl:0 < s.length
    ·have hl':=p7
     go_enter func112,ntmps112;exact iD
    ·have hl':=yO
     cases sn
     ·by_cases h1:lo=0
      ·subst h1
       by_cases h2:hi=0
       ·subst h2
        go_enter func112,ntmps112;exact iD
       ·have h2':(hi !=0)=true:=by simpa using h2
        go_enter func112,ntmps112;exact iD
      ·have h1':(lo !=0)=true:=by simpa using h1
       go_enter func112,ntmps112;exact iD
     ·go_enter func112,ntmps112
      exact iD
   ·go_enter func112,ntmps112
    exact iD
  ·cases t
   ·by_cases hl:0 < s.length
    ·have hl':=p7
     go_enter func112,ntmps112;exact fT
    ·have hl':=yO
     exact AA
   ·go_enter func112,ntmps112
    exact fT
 ·cases t
  ·by_cases hl:0 < s.length
   ·have hl':=p7
    go_enter func112,ntmps112;exact fT
   ·have hl':=yO
    exact AA
  ·go_enter func112,ntmps112
   exact fT

theorem Hf (w:World)(g:Gs)(ss:oA)(gc:Nat)(h:Gs)(st:oA)(hc:Nat):
  GuAt ((w.alloc (Cc #[Bb g.n,Bb g.sp.n,.int .i64 g.sp.lo,.int .i64 g.sp.hi,Bb g.t,Bb g.f,U ss g.s.length gc] 91)).alloc (Cc #[Bb h.n,Bb h.sp.n,.int .i64 h.sp.lo,.int .i64 h.sp.hi,Bb h.t,Bb h.f,U st h.s.length hc] 91)) w.heap.size 0 g ss gc/\GuAt ((w.alloc (Cc #[Bb g.n,Bb g.sp.n,.int .i64 g.sp.lo,.int .i64 g.sp.hi,Bb g.t,Bb g.f,U ss g.s.length gc] 91)).alloc (Cc #[Bb h.n,Bb h.sp.n,.int .i64 h.sp.lo,.int .i64 h.sp.hi,Bb h.t,Bb h.f,U st h.s.length hc] 91)) (w.heap.size+1) 0 h st hc/\bl w ((w.alloc (Cc #[Bb g.n,Bb g.sp.n,.int .i64 g.sp.lo,.int .i64 g.sp.hi,Bb g.t,Bb g.f,U ss g.s.length gc] 91)).alloc (Cc #[Bb h.n,Bb h.sp.n,.int .i64 h.sp.lo,.int .i64 h.sp.hi,Bb h.t,Bb h.f,U st h.s.length hc] 91)):=by
 refine⟨(GuAt.new w g ss gc).alloc _,?_,am⟩;have:=GuAt.new (w.alloc (Cc #[Bb g.n,Bb g.sp.n,.int .i64 g.sp.lo,.int .i64 g.sp.hi,Bb g.t,Bb g.f,U ss g.s.length gc] 91)) h st hc;rw[j0] at this;exact this
end
section
open Go.RowKit
attribute [local go_sem ↓] Go.wp_at_zero Go.wp_at_succ
def SameAns (e:Ending)(p:Prop):Prop:=∃b:Bool,e=Rt (Bb b)/\(b=true↔p)
theorem SameAns.no {p:Prop}(h:¬p):SameAns (Rt (Bb false)) p:=⟨false,rfl,⟨λe=>absurd e ai,λe=>absurd e h⟩⟩
theorem SameAns.yes {p:Prop}(h:p):SameAns (Rt (Bb true)) p:=⟨true,rfl,⟨λ_=>h,λ_=>rfl⟩⟩
theorem Rh {p:Prop} [Decidable p](h:¬p):Ending.returned (Bb false)=Rt (Bb (decide p)):=by rw[decide_eq_false h]
theorem VP {p:Prop} [Decidable p](h:p):Ending.returned (Bb true)=Rt (Bb (decide p)):=by rw[decide_eq_true h]
theorem Kq (s1 s2:oA)(c1 c2:Nat)(a b:List Int)(w:World)(ha:a.length<=maxLen)(hb:b.length<=maxLen)(h1:IntsAt w s1 a)(h2:IntsAt w s2 b):
  Calls pG 184 #[U s1 a.length c1,U s2 b.length c2] w λe w'=>e=Rt (Bb (decide (a=b)))/\bl w w':=by
 by_cases hl:a.length=b.length
 ·by_cases hn:a=[]
  ·subst hn
   have hb0:b=[]:=Z9 hl.symm;subst hb0;exact FQ s1 s2 c1 c2 w
  have hn2:b≠[]:=λe=>by rw[e] at hl;exact hn (Z9 hl)
  rcases h1 with e|⟨b1,o1,rfl,b1lt,h1⟩
  ·exact absurd e hn
  rcases h2 with e|⟨b2,o2,rfl,b2lt,h2⟩
  ·exact absurd e hn2
  rw[<-hl];have HL:=ag hl;clear hl hn hn2;unfold maxLen at ha;go_enter func184,ntmps184;go_wp2;go_loopw [5] (λi wr=>∃k:Nat,k<=a.length/\i=.int .i64 k/\Hid (a.take k=b.take k)/\bl w wr) (λi _=>a.length - (intOf i).toNat)
  case atStart=>exact⟨0,j2 _,rfl,rfl,bR _ _⟩
  case round=>
   obtain⟨k,hk,rfl,HE,hb⟩:=hrel;by_cases hlt:k < a.length
   ·have n0:=dk
    have n1:(k:Int) < (a.length:Int):=aa;have hlb:k < b.length:=ut;obtain⟨x,hx⟩:∃x,x=a[k]:=⟨_,rfl⟩;obtain⟨y,hy⟩:∃y,y=b[k]:=⟨_,rfl⟩;have q0:wr.cell? ⟨b1,o1+k,nO⟩=sO (.int .i64 x):=by rw[hb.cell (p:=⟨b1,_,nO⟩) b1lt,hx];exact h1 k hlt
    have r0:wr.cell? ⟨b2,o2+k,nO⟩=sO (.int .i64 y):=by rw[hb.cell (p:=⟨b2,_,nO⟩) b2lt,hy];exact h2 k hlb
    have HXY:=ag (And.intro hx hy);clear h1 h2 hx hy;by_cases hxy:x=y
    ·have e1:(x !=y)=false:=by simpa using hxy
     have HQ:=ag hxy;clear hxy;go_wp2
     go_quiet (fail)
     go_wp2;go_roundw
     case rel=>exact⟨k+1,aa,aF,by show _=_;rw[z7 hlt,z7 hlb,HE.out,<-HXY.out.1,<-HXY.out.2,HQ.out],below_drewN hb _⟩
     case measure=>exact aK
    ·have e1:(x !=y)=true:=by simpa using hxy
     have HQ:=ag hxy;clear hxy;go_wp2
     go_quiet (fail)
     go_wp2;go_ret;exact⟨Rh λe=>by subst e;exact HQ.out (HXY.out.1.trans HXY.out.2.symm),below_drewN hb _⟩
   ·have n1:=Ai
    go_wp2;go_ret;exact⟨VP MD,hb⟩
 ·have e1:=IF
  have HL:=ag hl;clear hl;go_enter func184,ntmps184;go_wp2;go_ret;exact⟨Rh λe=>HL.out (by rw[e]),bR _ _⟩
theorem Fv (g:Gs)(ss:oA)(gc:Nat)(h:Gs)(st:oA)(hc:Nat)(w:World)(hs:IntsAt w ss g.s)(ht:IntsAt w st h.s)(hgl:g.s.length<=maxLen)(hhl:h.s.length<=maxLen):
  Calls pG 126 #[gv g ss gc,gv h st hc] w λe w'=>SameAns e (g=h)/\bl w w':=by
 obtain⟨n,⟨a,b,c⟩,t,f,sl⟩:=g;obtain⟨n',⟨a',b',c'⟩,t',f',sl'⟩:=h;have HI:=ag (λwx (hb:bl w wx)=>Kq ss st gc hc sl sl' wx hgl hhl (hs.below hb (lR _)) (ht.below hb (lR _)));clear hs ht;go_enter func126,ntmps126;go_wp2_with fail
 ·refine(HI.out _ am).mono ?_
  rintro e w1 ⟨rfl,hb1⟩;clear HI;go_wp2;go_ret;exact⟨⟨decide (sl=sl'),rfl,by simp_all⟩,Below.trans am (hb1.mono oy)⟩
 all_goals go_ret
 all_goals exact⟨SameAns.no (by simp_all),am⟩
theorem Cr {p:Prop}(h:p:=by
 go_wp2;go_roundw
 case rel=>exact⟨k+1,aa,aF,by show _=_;rw[List.take_succ_eq_append_getElem hlt,List.take_succ_eq_append_getElem hlb,HE.out,HQ.out],hbr.trans (HB5.mono hbr.size)⟩
 case measure=>exact aK):p:=h
theorem nH (a b:List Gs)(s1:oA)(c1:Nat)(s2:oA)(c2:Nat)(w:World)(ha:a.length<=maxLen)(h1:GsAt w s1 a)(h2:GsAt w s2 b):
  Calls pG 74 #[U s1 a.length c1,U s2 b.length c2] w λe w'=>SameAns e (a=b)/\bl w w':=by
 have hm:maxLen<=9223372036854775807:=ai;by_cases hl:a.length=b.length
 ·rw[<-hl]
  have HL:=ag hl;clear hl;go_enter func74,ntmps74;go_wp2;go_loopw [5] (λi wr=>∃k:Nat,k<=a.length/\i=.int .i64 k/\Hid (a.take k=b.take k)/\bl w wr) (λi _=>a.length - (intOf i).toNat)
  case atStart=>exact⟨0,j2 _,rfl,rfl,bR _ _⟩
  case round=>
   obtain⟨k,hk,rfl,HE,hbr⟩:=hrel;by_cases hlt:k < a.length
   ·have n0:=dk
    have n1:(k:Int) < (a.length:Int):=aa;have hlb:k < b.length:=ut;obtain⟨b1,o1,rfl,ss1,g1,G1,I1,k1,m1⟩:=h1.below hbr (lR _) k hlt;obtain⟨b2,o2,rfl,ss2,g2,G2,I2,k2,m2⟩:=h2.below hbr (lR _) k hlb;have HSG:=ag (λwx (q1:IntsAt wx ss1 a[k].s) (q2:IntsAt wx ss2 b[k].s)=>Fv a[k] ss1 g1 b[k] ss2 g2 wx q1 q2 (lT k1 m1) (lT k2 m2));have HKZ:=ag (λwx (hx:bl wr wx)=>And.intro (G1.call hx).1 (G2.call hx).1);have HD:=dB;go_wp2;refine aG (S:=(λwx=>(wx.cell? ⟨b1,o1+k * 7,nO⟩=sO (Bb a[k].n)/\wx.cell? ⟨b1,o1+k * 7+1,nO⟩=sO (Bb a[k].sp.n)/\wx.cell? ⟨b1,o1+k * 7+2,nO⟩=sO (.int .i64 a[k].sp.lo)/\wx.cell? ⟨b1,o1+k * 7+3,nO⟩=sO (.int .i64 a[k].sp.hi)/\wx.cell? ⟨b1,o1+k * 7+4,nO⟩=sO (Bb a[k].t)/\wx.cell? ⟨b1,o1+k * 7+5,nO⟩=sO (Bb a[k].f)/\wx.cell? ⟨b1,o1+k * 7+6,nO⟩=sO (U ss1 a[k].s.length g1))/\(wx.cell? ⟨b2,o2+k * 7,nO⟩=sO (Bb b[k].n)/\wx.cell? ⟨b2,o2+k * 7+1,nO⟩=sO (Bb b[k].sp.n)/\wx.cell? ⟨b2,o2+k * 7+2,nO⟩=sO (.int .i64 b[k].sp.lo)/\wx.cell? ⟨b2,o2+k * 7+3,nO⟩=sO (.int .i64 b[k].sp.hi)/\wx.cell? ⟨b2,o2+k * 7+4,nO⟩=sO (Bb b[k].t)/\wx.cell? ⟨b2,o2+k * 7+5,nO⟩=sO (Bb b[k].f)/\wx.cell? ⟨b2,o2+k * 7+6,nO⟩=sO (U ss2 b[k].s.length g2)))) [] ae (HKZ.out _ HD) (λhHeld=> ?_);refine vZ 0 ?_ ?_;refine vZ 1 ?_ ?_;refine vZ 2 ?_ ?_;refine vZ 3 ?_ ?_;refine vZ 4 ?_ ?_;refine vZ 5 ?_ ?_;refine vZ 6 ?_ ?_;refine vZ 7 ?_ ?_;refine aB (i:=8) rfl ae (λK hK=> ?_);go_simp;go_at_call 126;refine(HSG.out _ (I1.call HD) (I2.call HD)).mono ?_;rintro e w5 ⟨⟨bb,rfl,HBB0⟩,hb5⟩;have HBB:=ag HBB0;clear HBB0;have HB5:=nw;go_wp2_with fail;refine hK.out _ _ (HKZ.out _ HB5) (λhHeld=> ?_);clear hK K;refine sm ?_;refine vZ 9 ?_ ?_;refine aC ae ?_ _;rcases J6 bb with e1|e1
    ·have HQ:=ag (HBB.out.1 e1)
     subst e1;exact Cr
    ·have HQ:Hid (¬a[k]=b[k]):=λh=>by rw[HBB.out.2 h] at e1;cases e1
     subst e1;go_wp2;go_ret;exact⟨SameAns.no λe=>HQ.out (by subst e;rfl),hbr.trans (HB5.mono hbr.size)⟩
   ·have n1:=Ai
    go_wp2;go_ret;exact⟨SameAns.yes MD,hbr⟩
 ·have e1:=IF
  have HL:=ag hl;clear hl;go_enter func74,ntmps74;go_wp2;go_ret;exact⟨SameAns.no λe=>HL.out (by rw[e]),bR _ _⟩
theorem BG (x y:Pic)(vs1:oA)(vc1:Nat)(fs1:oA)(fc1:Nat)(vs2:oA)(vc2:Nat)(fs2:oA)(fc2:Nat)(w:World)(hl:Wy x)(h1:PicAt w x vs1 fs1)(h2:PicAt w y vs2 fs2):
  Calls pG 34 #[xv x vs1 vc1 fs1 fc1,xv y vs2 vc2 fs2 fc2] w λe w'=>SameAns e (x=y)/\bl w w':=by
 obtain⟨hl1,hl2⟩:=hl;have hm:maxLen<=9223372036854775807:=ai;have hb0:Below w.heap.size w ((w.alloc (Cc #[Bb x.none,U vs1 x.vq.length vc1,U fs1 x.fq.length fc1] 28)).alloc (Cc #[Bb y.none,U vs2 y.vq.length vc2,U fs2 y.fq.length fc2] 28)):=am;have A0:=(XAt.new w x vs1 vc1 fs1 fc1).call (w':=((w.alloc (Cc #[Bb x.none,U vs1 x.vq.length vc1,U fs1 x.fq.length fc1] 28)).alloc (Cc #[Bb y.none,U vs2 y.vq.length vc2,U fs2 y.fq.length fc2] 28))) am;have B0:=XAt.new (w.alloc (Cc #[Bb x.none,U vs1 x.vq.length vc1,U fs1 x.fq.length fc1] 28)) y vs2 vc2 fs2 fc2;rw[j0] at B0;have hP1:=h1.below hb0 (lR _);have hP2:=h2.below hb0 (lR _);have HS:=ag (nH x.vq y.vq vs1 vc1 vs2 vc2 ((w.alloc (Cc #[Bb x.none,U vs1 x.vq.length vc1,U fs1 x.fq.length fc1] 28)).alloc (Cc #[Bb y.none,U vs2 y.vq.length vc2,U fs2 y.fq.length fc2] 28)) hl1 hP1.1 hP2.1);clear h1 h2;unfold xv;obtain⟨⟨a0,a1,a2⟩,az,-⟩:=id A0;obtain⟨⟨b0,b1,b2⟩,bz,-⟩:=id B0;generalize hxn:x.none=xn at *;generalize hyn:y.none=yn at *;by_cases hn:xn=yn;rotate_left
 ·have HN:Hid (¬x=y):=λe=>hn (by rw[<-hxn,<-hyn,e])
  have hn2:(xn=true/\yn=false)\/(xn=false/\yn=true):=by cases xn<;>cases yn<;>simp_all
  clear hn HS A0 B0 hP1 hP2 hxn hyn a0 a1 a2 az b0 b1 b2 bz;rcases hn2 with⟨rfl,rfl⟩|⟨rfl,rfl⟩;all_goals
   go_enter func34,ntmps34;go_wp2;go_ret;exact⟨SameAns.no HN.out,hb0⟩
 have HN:Hid (x.none=y.none):=by show _=_;rw[hxn,hyn,hn]
 subst hn;clear hxn hyn;go_enter func34,ntmps34;go_upto_region 1 with fail
 generalize ((w.alloc (Cc #[Bb xn,U vs1 x.vq.length vc1,U fs1 x.fq.length fc1] 28)).alloc (Cc #[Bb xn,U vs2 y.vq.length vc2,U fs2 y.fq.length fc2] 28))=w0 at *;go_wp2_with fail;refine HS.out.mono ?_;rintro e w1 ⟨⟨r1,rfl,HR0⟩,hb1⟩;have HR:=ag HR0;clear HS HR0 a0 a1 a2 az b0 b1 b2 bz;have R1:=hP1.2.below hb1 (lR _);have R2:=hP2.2.below hb1 (lR _);have A1:=A0.call hb1;have B1:=B0.call hb1;have H1:=ny;clear A0 B0 hP1 hP2 hb0 hb1;obtain⟨⟨a0,a1,a2⟩,az,-⟩:=id A1;obtain⟨⟨b0,b1,b2⟩,bz,-⟩:=id B1;rcases J6 r1 with er|er;rotate_left
 ·have HV:Hid (¬x=y):=λe=>by have h:=HR.out.2 (by rw[e]);rw[er] at h;cases h
  subst er;go_wp2;go_ret;exact⟨SameAns.no HV.out,H1⟩
 have HV:=ag (HR.out.1 er);subst er;by_cases hf:x.fq.length=y.fq.length;rotate_left
 ·have e2:((x.fq.length:Int)!=(y.fq.length:Int))=true:=by simpa using λh=>hf aa
  have HF:Hid (¬x=y):=λe=>hf (by rw[e]);clear hf;go_wp2;go_ret;exact⟨SameAns.no HF.out,H1⟩
 have e2:((x.fq.length:Int)!=(y.fq.length:Int))=false:=by rw[hf];simp
 have HF:=ag hf;clear hf;go_wp2;clear a0 a1 a2 az b0 b1 b2 bz;go_loopw [5] (λi wr=>∃k:Nat,k<=x.fq.length/\i=.int .i64 k/\Hid (x.fq.take k=y.fq.take k)/\bl w1 wr) (λi _=>x.fq.length - (intOf i).toNat)
 case atStart=>exact⟨0,j2 _,rfl,rfl,bR _ _⟩
 case round=>
  obtain⟨k,hk,rfl,HE,hbr⟩:=hrel;obtain⟨⟨a0,a1,a2⟩,az,-⟩:=id (A1.call hbr);obtain⟨⟨b0,b1,b2⟩,bz,-⟩:=id (B1.call hbr);have hbz:=H1.trans (hbr.mono H1.size);by_cases hlt:k < x.fq.length
  ·have n0:=dk
   have n1:(k:Int) < (x.fq.length:Int):=aa;have hlb:k < y.fq.length:=uI;have n2:(k:Int) < (y.fq.length:Int):=aa;obtain⟨p1,q1,rfl,zp1,r1,rc1,C1,k1,m1,J1⟩:=R1.below hbr (lR _) k hlt;obtain⟨p2,q2,rfl,zp2,r2,rc2,C2,k2,m2,J2⟩:=R2.below hbr (lR _) k hlb;have hgl:x.fq[k].length<=maxLen:=lT k1 m1;have HKZ:Hid (∀wx,bl wr wx->(wx.cell? ⟨w.heap.size,2,nO⟩=sO (U (sO ⟨p1,q1,nO⟩) x.fq.length fc1)/\wx.cell? ⟨p1,q1+k,nO⟩=sO (U r1 x.fq[k].length rc1))/\(wx.cell? ⟨w.heap.size+1,2,nO⟩=sO (U (sO ⟨p2,q2,nO⟩) y.fq.length fc2)/\wx.cell? ⟨p2,q2+k,nO⟩=sO (U r2 y.fq[k].length rc2))):=λwx hx=>⟨⟨by rw[hx.cell (by simp only;exact az)];exact a2,by rw[hx.cell (by simp only;exact zp1)];exact C1⟩,by rw[hx.cell (by simp only;exact bz)];exact b2,by rw[hx.cell (by simp only;exact zp2)];exact C2⟩;have HD:=dB;go_wp2;refine aG (S:=(λwx=>(wx.cell? ⟨w.heap.size,2,nO⟩=sO (U (sO ⟨p1,q1,nO⟩) x.fq.length fc1)/\wx.cell? ⟨p1,q1+k,nO⟩=sO (U r1 x.fq[k].length rc1))/\(wx.cell? ⟨w.heap.size+1,2,nO⟩=sO (U (sO ⟨p2,q2,nO⟩) y.fq.length fc2)/\wx.cell? ⟨p2,q2+k,nO⟩=sO (U r2 y.fq[k].length rc2)))) [] ae (HKZ.out _ HD) (λhHeld=> ?_);refine vZ 0 ?_ ?_;refine vZ 1 ?_ ?_;refine vZ 2 ?_ ?_;refine vZ 3 ?_ ?_;refine vZ 4 ?_ ?_;refine vZ 5 ?_ ?_;refine vZ 6 ?_ ?_;refine vZ 7 ?_ ?_;refine vZ 8 ?_ ?_;refine vZ 9 ?_ ?_;refine aB (i:=10) rfl ae (λK hK=> ?_);go_simp;go_at_call 74;refine(nH x.fq[k] y.fq[k] r1 rc1 r2 rc2 _ hgl (J1.call HD) (J2.call HD)).mono ?_;rintro e w5 ⟨⟨bb,rfl,HBB0⟩,hb5⟩;have HBB:=ag HBB0;clear HBB0;have HB5:=nw;go_wp2_with fail;refine hK.out _ _ (HKZ.out _ HB5) (λhHeld=> ?_);clear hK K;refine sm ?_;refine vZ 11 ?_ ?_;refine aC ae ?_ _;rcases J6 bb with er|er
   ·have HQ:=ag (HBB.out.1 er)
    subst er;exact Cr
   ·have HQ:Hid (¬x=y):=λh=>by have h2:=HBB.out.2 (by subst h;rfl);rw[er] at h2;cases h2
    subst er;go_wp2;go_ret;exact⟨SameAns.no HQ.out,hbz.trans (HB5.mono hbz.size)⟩
  ·have n1:¬(k:Int) < (x.fq.length:Int):=by omega
   go_wp2;go_ret;refine⟨SameAns.yes ?_,hbz⟩;have h:=HE.out;rw[X0 aa,X0 uI] at h;have h1:=HN.out;have h2:=HV.out;cases x;cases y
   simp_all
end
section
open Go.RowKit Go.Sort
theorem CE {P:Program}(w:World)(base:Nat)(t ty e:TypeId)(i:TypeInfo)(size:Nat)(ht:P.underlying t=sO (.slice e))(hi:P.info? e=sO i)
  (v:Value)(n c:Nat)(xs:List Value)(hown:w.ownsRow base e size v n xs):
  (Builtin.append_ #[t,t] ty #[v,U nO 0 c]).run P w=.ok v w:=by
 rcases hown.2 with⟨rfl,rfl⟩|⟨g,cap,cur,rfl,_,_,hnc,_⟩
 ·simp[Builtin.append_,run_underlying ht,sizeOf,typeInfo,hi,Builtin.lenOf,Builtin.firstCells]
 ·simp[Builtin.append_,run_underlying ht,sizeOf,typeInfo,hi,Builtin.lenOf,Builtin.firstCells,hnc,storeCells]

theorem ue {P:Program}(w:World){ops:Array Oper}{rest:List Oper}{o:Oper}{a:Act}{Q:Exit->Act->World->Prop}(hgd:o.guard=nO)(s x:Operand)(t:TypeId)
  (ho:o.op=.call {callee:=.builtin .append,args:=#[s,x],argTypes:=#[t,t]})
  (base:Nat)(e:TypeId)(i:TypeInfo)(size:Nat)(ht:P.underlying t=sO (.slice e))(hi:P.info? e=sO i)
  (v:Value)(n c:Nat)(xs:List Value)(hs:a.eval s=v)(hown:w.ownsRow base e size v n xs)(hx:a.eval x=U nO 0 c)
  (h:wpList P ops Q rest (a.put o.dst v) w):wpList P ops Q (o::rest) a w:=by
 refine wpList_plain hgd λK hK=> ?_;have hr:=CE (P:=P) w base t o.type e i size ht hi v n c xs hown;unfold Oper.wp execOp;simp only[ho,resolve,invoke,builtin,Sem.run_bind,Sem.run_pure,Result.andThen_ok,List.map_toArray,X2,List.map_nil,hs,hx,hr];exact hK _ _ h

theorem Ra (w:World):grow w #[]=w:=by simp[grow]

theorem Fa {w:World}{B g cap n m:Nat}{e:TypeId}{xs:List Value}(h:w.ownsRow B e 1 (U (sO ⟨g,0,nO⟩) n cap) n xs)(hm:m<=n):w.ownsRow B e 1 (U (sO ⟨g,0,nO⟩) m cap) m (xs.take m):=by
 obtain⟨hl,h2⟩:=h;rcases h2 with⟨h',_⟩|⟨g',cap',cur,h',hb,hg,h1,h2,h3,h4⟩
 ·cases h'
 ·cases h'
  refine⟨by rw[List.length_take];omega,.inr ⟨g,cap,cur,rfl,hb,hg,aa,h2,h3,?_⟩⟩;rw[<-h4,List.take_take];congr 1;omega

theorem IntsAt.own {w:World}{B n:Nat}{e:TypeId}{v:Value}{l:List Int}(h:w.ownsRow B e 1 v n (l.map (.int .i64))):
  ∃ss cap,v=U ss l.length cap/\IntsAt w ss l/\l.length<=cap/\cap<=maxLen/\∀a,ss=sO a->B<=a.block:=by
 have hn:l.length=n:=by have:=h.1;simpa using this
 subst hn;rcases h.2 with⟨rfl,h0⟩|⟨g,cap,cur,rfl,hb,hg,h1,h2,h3,h4⟩
 ·have:l=[]:=X4.1 h0
  subst this;exact⟨nO,0,rfl,.inl rfl,lR _,cO,λa ha=>iJ⟩
 ·refine⟨sO ⟨g,0,nO⟩,cap,rfl,.inr ⟨g,0,rfl,(j7.1 hg).1,λk hk=> ?_⟩,h1,h2,λa ha=>by cases ha;exact hb⟩
  have:=h.cellAt k aa;rw[j3,this];simp[hk]

def cI (L:List Gs):List Int:=Lib.compact ((L.flatMap Gs.s).mergeSort λx y=>decide (x<=y))

theorem TB (L:List Gs)(k:Nat)(h:k < L.length):(L.take (k+1)).flatMap Gs.s=(L.take k).flatMap Gs.s++L[k].s:=by
 rw[z7 h,J7];simp
theorem Wi (L:List Gs)(k:Nat):((L.take k).flatMap Gs.s).length<=(L.flatMap Gs.s).length:=by
 conv=>rhs;rw[<-List.take_append_drop k L]
 rw[J7,q7];omega

theorem Tryz.info_intG:(Tryz.prog.info? 3).map (λi=>(i.zero,i.size,i.bytes))=sO (sO (.int .i64 0),1,8):=ae
theorem ni {w:World}{B:Nat}{e:TypeId}{z:Nat}{v:Value}{n:Nat}{xs:List Value}(h:w.ownsRow B e z v n xs){k:Nat}(hk:v.ownBlock=sO k):B<=k:=by
 rcases h.2 with⟨rfl,_⟩|⟨g,cap,cur,rfl,hb,hg,_⟩
 ·cases hk
 ·cases hk
  exact hb

theorem IU (ls:oA)(L:List Gs)(lc:Nat)(w:World)(hL:GsAt w ls L)(hl:L.length<=1000000)(hT:(L.flatMap Gs.s).length<=1000000):
  Calls pG 180 #[U ls L.length lc] w λe w'=>∃v,e=Rt v/\w'.ownsRow w.heap.size 3 1 v (cI L).length ((cI L).map (.int .i64))/\bl w w':=by
 obtain⟨ti,hi,hz0,hz1,hz2⟩:=info_parts Tryz.info_intG;go_enter func180,ntmps180;go_wp2;go_loopw [3,8] (λo i wr=>∃k:Nat,k<=L.length/\i=.int .i64 k/\wr.ownsRow w.heap.size 3 1 o ((L.take k).flatMap Gs.s).length (((L.take k).flatMap Gs.s).map (.int .i64))/\bl w wr) (λ_ i _=>L.length - (intOf i).toNat)
 case atStart=>exact⟨0,j2 _,rfl,⟨ah,.inl ⟨rfl,ah⟩⟩,bR _ _⟩
 case round=>
  obtain⟨k,hk,rfl,hown,hbr⟩:=hrel;have s1:=hbr.size;by_cases hlt:k < L.length
  ·obtain⟨b,off,rfl,ss,gc,GR,IR,hg1,hg2⟩:=hL.below hbr (lR _) k hlt
   obtain⟨⟨g0,g1,g2,g3,g4,g5,g6⟩,gz⟩:=id GR;have n0:=bA;have n1:=gC;have HC:=ag (TB L k hlt);have c1:=Wi L (k+1);rw[HC.out,q7] at c1;have IA:=Hk;have OA:=hown.alloc (Cc #[Bb L[k].n,Bb L[k].sp.n,.int .i64 L[k].sp.lo,.int .i64 L[k].sp.hi,Bb L[k].t,Bb L[k].f,U ss L[k].s.length gc] 91);have BA:=hbr.alloc s1 (Cc #[Bb L[k].n,Bb L[k].sp.n,.int .i64 L[k].sp.lo,.int .i64 L[k].sp.hi,Bb L[k].t,Bb L[k].f,U ss L[k].s.length gc] 91);cases ss with
   |none=>
    have h0:L[k].s=[]:=by
     rcases IR with h|⟨_,_,h,_⟩
     ·exact h
     ·cases h
    have HC':Hid ((L.take (k+1)).flatMap Gs.s=(L.take k).flatMap Gs.s):=by show _=_;rw[HC.out,h0,X5]
    rw[h0] at OA BA g6;clear IA HC c1;go_wp2_with (at_builtin;refine ue _ rfl _ _ 34 rfl w.heap.size 3 ti 1 underlying34 hi _ _ gc _ rfl OA rfl ?_);go_roundw
    case rel=>exact⟨k+1,aa,aF,by rw[HC'.out];exact OA,BA⟩
    case measure=>exact aK
   |some ad=>
    have hnews:∀j u,(L[k].s.map (Value.int .i64))[j]? =sO u->(wr.alloc (Cc #[Bb L[k].n,Bb L[k].sp.n,.int .i64 L[k].sp.lo,.int .i64 L[k].sp.hi,Bb L[k].t,Bb L[k].f,U (sO ad) L[k].s.length gc] 91)).cell? (ad.add j)=sO u:=by
     intro j u hju;have hj:j < L[k].s.length:=by
      have:=(X6.1 hju).1;simpa using this
     obtain⟨b',off',e',hb',hc'⟩:=IA.get j hj;cases e';have:=hc' j hj;rw[z8,j8 hj] at hju;cases hju;rw[<-this,Addr.add_lit]
    clear IA;go_wp2_with (at_builtin;refine wpList_append_own _ rfl _ _ 34 rfl w.heap.size 3 ti (.int .i64 0) 1 8 underlying34 hi hz0 hz1 hz2 rfl ai _ _ _ rfl OA ad L[k].s.length gc (L[k].s.map (.int .i64)) rfl ah hnews (λx hx=>by obtain⟨y,_,rfl⟩:=X7.1 hx;rfl) cO aa ap ?_;intro v' w3 hown' hgrow3 hnil3);go_roundw
    case rel=>exact⟨k+1,aa,aF,by rw[HC.out,J8,q7];exact hown',BA.grown hgrow3 ap (λj hj=>ni hown hj)⟩
    case measure=>exact aK
  ·have hk':k=L.length:=by omega
   subst hk';rw[List.take_length] at hown;have HS:Hid (cI L=Lib.compact ((L.flatMap Gs.s).mergeSort λx y=>decide (x<=y))):=rfl;generalize hzs:L.flatMap Gs.s=zs at *;have HZ:=ag hzs;clear hzs hL;rcases hown.2 with⟨rfl,h0⟩|⟨g,cap,cur,rfl,hbg,hg,h1,h2,h3,h4⟩
   ·have hnil:zs=[]:=X4.1 h0
    have HE:Hid (cI L=[]):=by show _=_;rw[HS.out,hnil];simp[Lib.compact,Lib.compactUpTo]
    clear HS HZ hnil h0;go_wp2_with fail;refine(Tryz.slices_Sort_int_none _ _ _).mono ?_;rintro e w1 ⟨rfl,rfl⟩;go_wp2_with fail;refine(Tryz.slices_Compact_int_empty _ _ _).mono ?_;rintro e w1 ⟨rfl,rfl⟩;go_wp2;go_ret;exact⟨_,rfl,by rw[HE.out];exact⟨rfl,.inl ⟨rfl,rfl⟩⟩,hbr⟩
   ·have hgl:g < wr.heap.size:=(j7.1 hg).1
    rw[Nat.mul_one] at h4;go_wp2_with fail;refine(Tryz.slices_Sort_int g 0 cap zs _ (holds_of_blockI hg h4) hgl aa).mono ?_;rintro e w1 ⟨rfl,n,os,hw1⟩;have hml:(zs.mergeSort λx y=>decide (x<=y)).length=zs.length:=List.length_mergeSort _;have O1:w1.ownsRow w.heap.size 3 1 (U (sO ⟨g,0,nO⟩) zs.length cap) zs.length ((zs.mergeSort λx y=>decide (x<=y)).map (.int .i64)):=by
     rw[hw1];exact ownsRow_sortedI hml hbg hg h1 h2 h3
    have B1:bl w w1:=by
     rw[hw1];exact hbr.grown (grownBy_sortedI _) s1 (λj hj=>by cases hj;exact hbg)
    clear hw1;generalize hys:(zs.mergeSort λx y=>decide (x<=y))=ys at *;have HE:Hid (cI L=Lib.compact ys):=HS.out;have hyl:ys.length=zs.length:=hml;clear hys hml HS hown h4 h3 hg hbr;rcases O1.2 with⟨h',_⟩|⟨g',cap',cur',h',-,hg',h1',h2',h3',h4'⟩
    ·cases h'
    ·cases h'
     rw[Nat.mul_one,<-hyl] at h4';have hcl:=Lib.compact_length_le ys;go_wp2_with fail;rw[<-hyl];refine(Tryz.slices_Compact_int g 0 cap ys _ (holds_of_blockI hg' h4') aa aa).mono ?_;rintro e w2 ⟨rfl,q,hw2⟩;rw[<-Ra (putRow _ _ _ _ _)] at hw2;have htl:(Lib.compact ys++List.replicate (ys.length - (Lib.compact ys).length) (0:Int)).length=ys.length:=by rw[q7,List.length_replicate];omega
     have O2:=ownsRow_sortedI (w:=w1) (n:=q) (os:=#[]) (ss:=ys) htl hbg hg' aa h2' h3';rw[<-hw2] at O2;have B2:bl w w2:=by
      rw[hw2];exact B1.grown (grownBy_sortedI _) B1.size (λj hj=>by cases hj;exact hbg)
     have O3:=Fa O2 hcl;rw[<-List.map_take,List.take_left] at O3;clear hw2 O2 O1 B1 htl hg' h4';go_wp2;go_ret;exact⟨_,rfl,by rw[HE.out];exact O3,B2⟩
end
section
open Go.RowKit
attribute [local go_sem ↓] Go.wp_at_zero Go.wp_at_succ
theorem IntsAt.news {w:World}{ss:oA}{l:List Int}(h:IntsAt w ss l):∀ad,ss=sO ad->∀j u,(l.map (Value.int .i64))[j]? =sO u->w.cell? (ad.add j)=sO u:=by
 intro ad e j u hj;obtain⟨hjl,rfl⟩:=X6.1 hj;rw[J9] at hjl;rcases h with h|⟨b,off,e',hb,hc⟩
 ·rw[h] at hjl;simp at hjl
 ·rw[e'] at e
  cases e;rw[Addr.add_lit,hc j hjl];simp
theorem Lr (g:Gs)(ss:oA)(gc:Nat)(w:World)(hI:IntsAt w ss g.s)(hl:g.s.length<=1000000):
  Calls pG 68 #[gv g ss gc] w λe w'=>(∃js jc,e=Rt (gv g js jc)/\IntsAt w' js g.s/\g.s.length<=jc/\jc<=maxLen/\∀a,js=sO a->w.heap.size<=a.block)/\bl w w':=by
 obtain⟨ti,hi,hz0,hz1,hz2⟩:=info_parts Tryz.info_int;have hb0:Below w.heap.size w ((w.alloc (Cc #[Bb g.n,Bb g.sp.n,.int .i64 g.sp.lo,.int .i64 g.sp.hi,Bb g.t,Bb g.f,U ss g.s.length gc] 91)).alloc (Cc #[Bb false,Bb false,.int .i64 0,.int .i64 0,Bb false,Bb false,U nO 0 0] 91)):=am;have G0:Cells ((w.alloc (Cc #[Bb g.n,Bb g.sp.n,.int .i64 g.sp.lo,.int .i64 g.sp.hi,Bb g.t,Bb g.f,U ss g.s.length gc] 91)).alloc (Cc #[Bb false,Bb false,.int .i64 0,.int .i64 0,Bb false,Bb false,U nO 0 0] 91)) w.heap.size [Bb g.n,Bb g.sp.n,.int .i64 g.sp.lo,.int .i64 g.sp.hi,Bb g.t,Bb g.f,U ss g.s.length gc]:=(Cells.new w 91 [Bb g.n,Bb g.sp.n,.int .i64 g.sp.lo,.int .i64 g.sp.hi,Bb g.t,Bb g.f,U ss g.s.length gc]).call am;have Z0:Cells ((w.alloc (Cc #[Bb g.n,Bb g.sp.n,.int .i64 g.sp.lo,.int .i64 g.sp.hi,Bb g.t,Bb g.f,U ss g.s.length gc] 91)).alloc (Cc #[Bb false,Bb false,.int .i64 0,.int .i64 0,Bb false,Bb false,U nO 0 0] 91)) (w.heap.size+1) [Bb false,Bb false,.int .i64 0,.int .i64 0,Bb false,Bb false,U nO 0 0]:=by
  have h:=Cells.new (w.alloc (Cc #[Bb g.n,Bb g.sp.n,.int .i64 g.sp.lo,.int .i64 g.sp.hi,Bb g.t,Bb g.f,U ss g.s.length gc] 91)) 91 [Bb false,Bb false,.int .i64 0,.int .i64 0,Bb false,Bb false,U nO 0 0];rw[j0] at h;exact h
 have I0:=hI.call hb0;have hsz:((w.alloc (Cc #[Bb g.n,Bb g.sp.n,.int .i64 g.sp.lo,.int .i64 g.sp.hi,Bb g.t,Bb g.f,U ss g.s.length gc] 91)).alloc (Cc #[Bb false,Bb false,.int .i64 0,.int .i64 0,Bb false,Bb false,U nO 0 0] 91)).heap.size=w.heap.size+1+1:=ah;have HSZ:=ag hsz;clear hI hsz;go_enter func68,ntmps68;go_upto_region 1 with fail
 generalize ((w.alloc (Cc #[Bb g.n,Bb g.sp.n,.int .i64 g.sp.lo,.int .i64 g.sp.hi,Bb g.t,Bb g.f,U ss g.s.length gc] 91)).alloc (Cc #[Bb false,Bb false,.int .i64 0,.int .i64 0,Bb false,Bb false,U nO 0 0] 91))=w1 at *;have OWE:=World.ownsRow_made w1 (e:=3) (size:=1) #[] 0 (lR _) (j2 _) rfl;have I1:=I0.call (w':=w1.alloc (Cc #[] 3)) am;have G1:=G0.call (w':=w1.alloc (Cc #[] 3)) am;have Z1:=Z0.call (w':=w1.alloc (Cc #[] 3)) am;have c4:=G1.1 6 _ rfl;have hlt:w.heap.size < w1.heap.size:=G0.2.1;go_wp2_with (at_builtin;refine bh _ rfl _ _ 34 rfl w1.heap.size 3 ti (.int .i64 0) 1 8 underlying34 hi hz0 hz1 hz2 rfl ai _ _ _ rfl OWE ss g.s.length gc (g.s.map (.int .i64)) rfl ?qc1 ?qc0 ?qc2 ?qc3 ?qc4 ?qc5 ?qc6 ?_)
 case qc1=>simp
 case qc0=>
  intro e;rcases I0 with h|⟨b,off,e',_⟩
  ·rw[h];rfl
  ·rw[e'] at e;cases e
 case qc2=>exact I1.news
 case qc3=>intro u hu;obtain⟨x,-,rfl⟩:=X7.1 hu;rfl
 case qc4=>unfold maxLen;omega
 case qc5=>omega
 case qc6=>first|omega|(rw[j0];omega)|(simp;omega)|simp
 intro v' w2 hown hgrow hat;have hbg:bl w1 w2:=((bR _ w1).alloc (lR _) _).grown hgrow ah (λk hk=>by cases hk;exact lR _);(try rw[X8] at hown);obtain⟨js,jc,rfl,JI,J1,J2,JF⟩:=ip;have G2:=G0.call hbg;have Z2:=Z0.call hbg;have B2:=hb0.trans (hbg.mono hb0.size);have HJ:Hid (IntsIn (λb=>w.heap.size+1+1<=b) w2 js g.s):=by
  show IntsIn _ _ _ _;rcases JI with h|⟨b,off,e,hb,hc⟩
  ·exact .inl h
  ·have:=JF _ e
   have h2:=HSZ.out;simp only at this;exact .inr ⟨b,off,e,aa,hb,hc⟩
 have HF:Hid (∀a,js=sO a->w.heap.size<=a.block):=λa ha=>by have:=JF a ha;have:=hb0.size;omega
 clear hown hgrow hat G0 Z0 G1 Z1 I0 I1 OWE c4 hlt hbg hb0 JI JF HSZ;have g0:=G2.1 0 _ rfl;have g1:=G2.1 1 _ rfl;have g2:=G2.1 2 _ rfl;have g3:=G2.1 3 _ rfl;have g4:=G2.1 4 _ rfl;have g5:=G2.1 5 _ rfl;have g6:=G2.1 6 _ rfl;have fg0:=G2.2.2 0;have fg1:=G2.2.2 1;have fg2:=G2.2.2 2;have fg3:=G2.2.2 3;have fg4:=G2.2.2 4;have fg5:=G2.2.2 5;have fg6:=G2.2.2 6;have z0:=Z2.1 0 _ rfl;have z1:=Z2.1 1 _ rfl;have z2:=Z2.1 2 _ rfl;have z3:=Z2.1 3 _ rfl;have z4:=Z2.1 4 _ rfl;have z5:=Z2.1 5 _ rfl;have z6:=Z2.1 6 _ rfl;have fz0:=Z2.2.2 0;have fz1:=Z2.2.2 1;have fz2:=Z2.2.2 2;have fz3:=Z2.2.2 3;have fz4:=Z2.2.2 4;have fz5:=Z2.2.2 5;have fz6:=Z2.2.2 6;go_wp2;refine bodyPost_ret (v:=Ag #[Bb g.n,Bb g.sp.n,.int .i64 g.sp.lo,.int .i64 g.sp.hi,Bb g.t,Bb g.f,U js g.s.length jc]) (by simp[results,results68,go_sem,z0,z1,z2,z3,z4,z5,z6]) rfl ⟨⟨js,jc,rfl,(HJ.out.same (λb hb _=> ?_) ?_).at,J1,J2,HF.out⟩,?_⟩
 ·have n1:b≠w.heap.size:=by omega
  have n2:b≠w.heap.size+1:=aa;rw[hSe _ _ _ _ n2,hSe _ _ _ _ n2,hSe _ _ _ _ n2,hSe _ _ _ _ n2,hSe _ _ _ _ n2,hSe _ _ _ _ n2,hSe _ _ _ _ n2,hSe _ _ _ _ n1]
 ·simp[World.setCell]
 ·exact(((((((B2.setCell aw _).setCell aw _).setCell aw _).setCell aw _).setCell aw _).setCell aw _).setCell aw _).setCell aw _
end
section
open Go.RowKit
def WA (S:Nat->Prop)(w:World)(fs:oA)(L:List (List Gs)):Prop:=
 ∀i (h:i < L.length),∃b off,fs=sO ⟨b,off,nO⟩/\S b/\b < w.heap.size/\∃rs rc,w.cell? ⟨b,off+i,nO⟩=sO (U rs L[i].length rc)/\L[i].length<=rc/\rc<=maxLen/\GsIn S w rs L[i]
theorem NV (S:Nat->Prop)(w:World):∃w3:World,w3.heap.size=w.heap.size/\(∀b,S b->w3.heap[b]? =w.heap[b]?)/\∀b o,¬S b->w3.cell? ⟨b,o,nO⟩=none:=by
 classical
 refine⟨{w with heap:=w.heap.mapIdx λk x=>if S k then x else Cc #[] 0},ah,λb hb=> ?_,λb o hb=> ?_⟩
 ·simp only[Array.getElem?_mapIdx]
  cases w.heap[b]? with
  |none=>rfl
  |some x=>simp[hb]
 ·simp only[World.cell?,Array.getElem?_mapIdx]
  cases w.heap[b]? with
  |none=>rfl
  |some x=>simp[hb]
section
variable {S:Nat->Prop} {w:World} {x:Pic} {vs fs:oA}
theorem PicOn.in (h:PicOn S w x vs fs):GsIn S w vs x.vq/\WA S w fs x.fq:=by
 obtain⟨w3,hz,hs,hn⟩:=NV S w;have h3:=h w3 (λb hb _=>hs b hb) aa;have hS:∀{b o:Nat} {v:Value},w3.cell? ⟨b,o,nO⟩=sO v->S b/\b < w.heap.size/\w.cell? ⟨b,o,nO⟩=sO v:=by
  intro b o v hc;have hb:S b:=Classical.byContradiction λhb=>by rw[hn b o hb] at hc;cases hc
  have hb2:=World.block_lt_of_cell? w3 _ hc;refine⟨hb,by simpa[hz] using hb2,?_⟩;rw[<-j4 (a:=⟨b,o,nO⟩) (hs b hb)];exact hc
 have hI:∀{ss:oA} {l:List Int},IntsAt w3 ss l->IntsIn S w ss l:=by
  intro ss l h;rcases h with h|⟨b,off,e,hb,hc⟩
  ·exact .inl h
  ·cases l with
   |nil=>exact .inl rfl
   |cons a r=>
    have h0:=hS (hc 0 ah);exact .inr ⟨b,off,e,h0.1,h0.2.1,λk hk=>(hS (hc k hk)).2.2⟩
 have hG:∀{ls:oA} {L:List Gs},GsAt w3 ls L->GsIn S w ls L:=by
  intro ls L h i hi;obtain⟨b,off,e,ss,cap,⟨⟨c0,c1,c2,c3,c4,c5,c6⟩,_⟩,h2,h4,h5⟩:=h i hi;have a0:=hS c0;exact⟨b,off,e,a0.1,ss,cap,⟨⟨a0.2.2,(hS c1).2.2,(hS c2).2.2,(hS c3).2.2,(hS c4).2.2,(hS c5).2.2,(hS c6).2.2⟩,a0.2.1⟩,hI h2,h4,h5⟩
 refine⟨hG h3.1,λi hi=> ?_⟩;obtain⟨b,off,e,_,rs,rc,h1,h2,h4,h5⟩:=h3.2 i hi;have a0:=hS h1;exact⟨b,off,e,a0.1,a0.2.1,rs,rc,a0.2.2,h2,h4,hG h5⟩
end
def EdsOn (S:Nat->Prop)(w:World)(es:oA)(L:List Edg):Prop:=
 ∀i (h:i < L.length),∃b off,es=sO ⟨b,off,nO⟩/\S b/\b < w.heap.size/\∃vs vc fs fc,(w.cell? ⟨b,off+i * 4,nO⟩=sO (.int .i64 L[i].tgt)/\w.cell? ⟨b,off+i * 4+1,nO⟩=sO (Bb L[i].pic.none)/\w.cell? ⟨b,off+i * 4+2,nO⟩=sO (U vs L[i].pic.vq.length vc)/\w.cell? ⟨b,off+i * 4+3,nO⟩=sO (U fs L[i].pic.fq.length fc))/\PicOn S w L[i].pic vs fs/\(L[i].pic.vq.length<=vc/\vc<=maxLen)/\(L[i].pic.fq.length<=fc/\fc<=maxLen)
section
variable {S S':Nat->Prop} {w w':World} {es:oA} {L:List Edg}
theorem EdsOn.nil:EdsOn S w es []:=λi h=>absurd h ah
theorem EdsOn.same (h:EdsOn S w es L)(hs:∀b,S b->b < w.heap.size->w'.heap[b]? =w.heap[b]?)(hz:w.heap.size<=w'.heap.size):EdsOn S w' es L:=by
 intro i hi;obtain⟨b,off,e,hS,hb,vs,vc,fs,fc,⟨c0,c1,c2,c3⟩,hp,hv,hf⟩:=h i hi;have hc:∀j,w'.cell? ⟨b,j,nO⟩=w.cell? ⟨b,j,nO⟩:=λj=>j4 (a:=⟨b,j,nO⟩) (hs b hS hb);exact⟨b,off,e,hS,lL hb hz,vs,vc,fs,fc,⟨(hc _).trans c0,(hc _).trans c1,(hc _).trans c2,(hc _).trans c3⟩,(hp.same hs hz).mono λb hb _=>hb.1,hv,hf⟩
theorem EdsOn.mono (h:EdsOn S w es L)(hs:∀b,S b->b < w.heap.size->S' b):EdsOn S' w es L:=by
 intro i hi;obtain⟨b,off,e,hS,hb,vs,vc,fs,fc,hc,hp,hv,hf⟩:=h i hi;exact⟨b,off,e,hs b hS hb,hb,vs,vc,fs,fc,hc,hp.mono hs,hv,hf⟩
theorem EdsOn.call (h:EdsOn S w es L)(hb:bl w w'):EdsOn S w' es L:=h.same (λb _ hlt=>hb.block b hlt) hb.size
end
theorem ERow.eds {n sb:Nat}{w:World}{es:oA}{ec:Nat}{L:List Ed}(h:ERow n sb w (U es L.length ec) L):EdsOn (λb=>n<=b) w es (L.map edG):=by
 intro i hi;have hil:i < L.length:=fN;have ei:(L.map edG)[i]=edG L[i]:=ah;rw[ei];rcases h.own.2 with⟨e,h0⟩|⟨g,cap,cur,e,hb,hg,k1,k2,k3,k4⟩
 ·omega
 ·simp only[j9.injEq] at e
  obtain⟨e1,-,-⟩:=e;subst e1;obtain⟨p1,p2,p3⟩:=h.pics _ (gM hil);have hc:∀j,j < 4->w.cell? ⟨g,i * 4+j,nO⟩=(c8 L[i])[j]? :=λj hj=>by
   rw[<-vI L i hil j hj];exact World.ownsRow.cellAt h.own _ aa
  refine⟨g,0,rfl,hb,(j7.1 hg).1,L[i].vs,L[i].vc,L[i].fs,L[i].fc,?_,p1.mono λb hb _=>hb.1,p2,p3⟩;simp only[j3];exact⟨hc 0 aa,hc 1 aa,hc 2 aa,hc 3 aa⟩
def bY (S:Nat->Prop)(w':World)(e:Ending)(r:List Edg×Bool×Bool):Prop:=∃es ec,e=Rt (Tu #[U es r.1.length ec,Bb r.2.1,Bb r.2.2])/\EdsOn S w' es r.1
abbrev nE (w:World)(V F:Int)(s:oA)(c:lI)(cap:Nat)(g:Gs)(ss:oA)(gc:Nat)(h:Gs)(st:oA)(hc:Nat):World:=
 (((w.alloc (Cc #[.int .i64 V,.int .i64 F,U s c.length cap] 24)).alloc (Cc #[Bb g.n,Bb g.sp.n,.int .i64 g.sp.lo,.int .i64 g.sp.hi,Bb g.t,Bb g.f,U ss g.s.length gc] 91)).alloc (Cc #[Bb h.n,Bb h.sp.n,.int .i64 h.sp.lo,.int .i64 h.sp.hi,Bb h.t,Bb h.f,U st h.s.length hc] 91)).alloc (Cc #[Bb false,Bb false,.int .i64 0,.int .i64 0,Bb false,Bb false,U nO 0 0] 91)

def Fr7 (w:World)(b:Nat):Prop:=(∀j,w.frozen? ⟨b,j,nO⟩=false)/\b < w.heap.size
theorem Fr7.call {w w':World}{b:Nat}(h:Fr7 w b)(hb:bl w w'):Fr7 w' b:=
 ⟨λj=>by rw[hb.frozen (by simpa using h.2)];exact h.1 j,lL h.2 hb.size⟩

theorem Fr7.drew {w:World}{b:Nat}(h:Fr7 w b):Fr7 w.drew b:=h.call (bR _ _).drew
theorem Fr7.alloc {w:World}{b:Nat}(h:Fr7 w b)(o:Obj):Fr7 (w.alloc o) b:=h.call (Below.alloc (bR _ _) (lR _) o)

theorem fC {V F:Int}{c:lI}{g h:Gs}(hk:ba V F c [g,h]=0):bx g.sp h.sp=0:=by
 unfold ba at hk;split at hk
 ·have e:b9 c [g,h]=if aE c g=0 then(if aE c h=0 then 0 else aE c h) else aE c g:=rfl
  have sp0:∀x,aE c x=0->cE x.sp=0:=λx hx=>by
   unfold aE at hx;split at hx
   ·assumption
   ·rename_i hn;exact Decidable.not_not.1 hn
  rw[e] at hk;by_cases hg:aE c g=0
  ·rw[if_pos hg] at hk
   by_cases hh:aE c h=0
   ·exact ckSps_ok.2 ⟨ckSp_ok.1 (sp0 g hg),ckSp_ok.1 (sp0 h hh)⟩
   ·rw[if_neg hh] at hk;exact absurd hk hh
  ·rw[if_neg hg] at hk;exact absurd hk hg
 ·rename_i hn;exact absurd hk hn

theorem Vq (w:World)(V F:Int)(s:oA)(c:lI)(cap:Nat)(g:Gs)(ss:oA)(gc:Nat)(h:Gs)(st:oA)(hc:Nat):
  PrAt (nE w V F s c cap g ss gc h st hc) w.heap.size V F s c cap/\GuAt (nE w V F s c cap g ss gc h st hc) (w.heap.size+1) 0 g ss gc/\GuAt (nE w V F s c cap g ss gc h st hc) (w.heap.size+1+1) 0 h st hc/\GuAt (nE w V F s c cap g ss gc h st hc) (w.heap.size+1+1+1) 0 bG nO 0/\Fr7 (nE w V F s c cap g ss gc h st hc) (w.heap.size+1+1+1):=by
 refine⟨?_,?_,?_,?_,?_⟩
 ·exact(((PrAt.new w V F s c cap).alloc _).alloc _).alloc _
 ·have:=GuAt.new (w.alloc (Cc #[.int .i64 V,.int .i64 F,U s c.length cap] 24)) g ss gc
  rw[j0] at this;exact(this.alloc _).alloc _
 ·have:=GuAt.new ((w.alloc (Cc #[.int .i64 V,.int .i64 F,U s c.length cap] 24)).alloc (Cc #[Bb g.n,Bb g.sp.n,.int .i64 g.sp.lo,.int .i64 g.sp.hi,Bb g.t,Bb g.f,U ss g.s.length gc] 91)) h st hc
  simp only[j0] at this;exact this.alloc _
 ·have:=GuAt.new (((w.alloc (Cc #[.int .i64 V,.int .i64 F,U s c.length cap] 24)).alloc (Cc #[Bb g.n,Bb g.sp.n,.int .i64 g.sp.lo,.int .i64 g.sp.hi,Bb g.t,Bb g.f,U ss g.s.length gc] 91)).alloc (Cc #[Bb h.n,Bb h.sp.n,.int .i64 h.sp.lo,.int .i64 h.sp.hi,Bb h.t,Bb h.f,U st h.s.length hc] 91)) bG nO 0
  simp only[j0] at this;exact this
 ·refine⟨λj=> ?_,ah⟩
  simp[go_sem]

theorem NE (w:World)(V F:Int)(s:oA)(c:lI)(cap:Nat)(g:Gs)(ss:oA)(gc:Nat)(h:Gs)(st:oA)(hc:Nat):Below w.heap.size w (nE w V F s c cap g ss gc h st hc):=am

def Ea (w:World)(jb:Nat)(g:Gs)(ss:oA)(gc:Nat)(h:Gs)(st:oA)(hc:Nat)(J:Sp)(w':World):Prop:=
 (w'.cell? ⟨w.heap.size+1,0,nO⟩=sO (Bb g.n)/\w'.cell? ⟨w.heap.size+1,1,nO⟩=sO (Bb g.sp.n)/\w'.cell? ⟨w.heap.size+1,2,nO⟩=sO (.int .i64 g.sp.lo)/\w'.cell? ⟨w.heap.size+1,3,nO⟩=sO (.int .i64 g.sp.hi)/\w'.cell? ⟨w.heap.size+1,4,nO⟩=sO (Bb g.t)/\w'.cell? ⟨w.heap.size+1,5,nO⟩=sO (Bb g.f)/\w'.cell? ⟨w.heap.size+1,6,nO⟩=sO (U ss g.s.length gc))/\
 (w'.cell? ⟨w.heap.size+1+1,0,nO⟩=sO (Bb h.n)/\w'.cell? ⟨w.heap.size+1+1,1,nO⟩=sO (Bb h.sp.n)/\w'.cell? ⟨w.heap.size+1+1,2,nO⟩=sO (.int .i64 h.sp.lo)/\w'.cell? ⟨w.heap.size+1+1,3,nO⟩=sO (.int .i64 h.sp.hi)/\w'.cell? ⟨w.heap.size+1+1,4,nO⟩=sO (Bb h.t)/\w'.cell? ⟨w.heap.size+1+1,5,nO⟩=sO (Bb h.f)/\w'.cell? ⟨w.heap.size+1+1,6,nO⟩=sO (U st h.s.length hc))/\
 (w'.cell? ⟨jb,0,nO⟩=sO (Bb J.n)/\w'.cell? ⟨jb,1,nO⟩=sO (.int .i64 J.lo)/\w'.cell? ⟨jb,2,nO⟩=sO (.int .i64 J.hi))


abbrev iX (w:World)(b:Nat)(v0 v1 v2 v3 v4 v5 v6:Value):World:=((((((w.setCell ⟨b,0,nO⟩ v0).setCell ⟨b,1,nO⟩ v1).setCell ⟨b,2,nO⟩ v2).setCell ⟨b,3,nO⟩ v3).setCell ⟨b,4,nO⟩ v4).setCell ⟨b,5,nO⟩ v5).setCell ⟨b,6,nO⟩ v6
theorem EC (w:World)(b k:Nat)(v0 v1 v2 v3 v4 v5 v6:Value)(h:k≠b):(iX w b v0 v1 v2 v3 v4 v5 v6).heap[k]? =w.heap[k]? :=by
 unfold iX;rw[hSe _ _ _ _ h,hSe _ _ _ _ h,hSe _ _ _ _ h,hSe _ _ _ _ h,hSe _ _ _ _ h,hSe _ _ _ _ h,hSe _ _ _ _ h]
theorem ug (w:World)(b:Nat)(v0 v1 v2 v3 v4 v5 v6:Value):(iX w b v0 v1 v2 v3 v4 v5 v6).heap.size=w.heap.size:=by simp[iX]
theorem EM (w:World)(b k j:Nat)(v0 v1 v2 v3 v4 v5 v6:Value)(h:k≠b):(iX w b v0 v1 v2 v3 v4 v5 v6).cell? ⟨k,j,nO⟩=w.cell? ⟨k,j,nO⟩:=j4 (a:=⟨k,j,nO⟩) (EC w b k v0 v1 v2 v3 v4 v5 v6 h)
theorem GuAt.put7 {w:World}{b k o:Nat}{g:Gs}{ss:oA}{cap:Nat}{v0 v1 v2 v3 v4 v5 v6:Value}(hg:GuAt w k o g ss cap)(h:k≠b):GuAt (iX w b v0 v1 v2 v3 v4 v5 v6) k o g ss cap:=by
 obtain⟨⟨h0,h1,h2,h3,h4,h5,h6⟩,hz⟩:=hg;refine⟨⟨?_,?_,?_,?_,?_,?_,?_⟩,by rw[ug];exact hz⟩<;>rw[EM _ _ _ _ _ _ _ _ _ _ _ h]<;>assumption
theorem SpAt.put7 {w:World}{b k:Nat}{s:Sp}{v0 v1 v2 v3 v4 v5 v6:Value}(hg:SpAt w k s)(h:k≠b):SpAt (iX w b v0 v1 v2 v3 v4 v5 v6) k s:=by
 obtain⟨⟨h0,h1,h2⟩,hz⟩:=hg;refine⟨⟨?_,?_,?_⟩,by rw[ug];exact hz⟩<;>rw[EM _ _ _ _ _ _ _ _ _ _ _ h]<;>assumption
theorem bC {B b:Nat}{a w:World}{v0 v1 v2 v3 v4 v5 v6:Value}(h:Below B a w)(hg:B<=b):Below B a (iX w b v0 v1 v2 v3 v4 v5 v6):=((((((h.setCell lz _).setCell lz _).setCell lz _).setCell lz _).setCell lz _).setCell lz _).setCell lz _
theorem gr {w:World}{B B' n z:Nat}{e:TypeId}{v:Value}{xs:List Value}(h:w.ownsRow B e z v n xs)(hB:B'<=B):w.ownsRow B' e z v n xs:=
 ⟨h.1,h.2.imp id λ⟨g,cap,cur,r1,r2,r3⟩=>⟨g,cap,cur,r1,aa,r3⟩⟩
theorem gw {w:World}{B n b z:Nat}{e:TypeId}{v:Value}{xs:List Value}{v0 v1 v2 v3 v4 v5 v6:Value}(h:w.ownsRow B e z v n xs)(hb:b < B):(iX w b v0 v1 v2 v3 v4 v5 v6).ownsRow B e z v n xs:=
 ⟨h.1,h.2.imp id λ⟨g,cap,cur,r1,r2,r3,r4⟩=>⟨g,cap,cur,r1,r2,by rw[EC _ _ _ _ _ _ _ _ _ _ (by omega)];exact r3,r4⟩⟩
theorem GsAt.drew {w:World}{ls:oA}{L:List Gs}(h:GsAt w ls L):GsAt w.drew ls L:=h.call ((bR _ _).drew)

theorem CF {p:Prop}(h:p:=by
 refine(hJ.out _).mono ?_;rintro e w2 ⟨rfl,hb2⟩;have G2:=G1.call hb2;have H2:=H1.call hb2;have R2:=R1.call hb2;have I2:=I1.call hb2;have J2:=J1.call hb2;have F2:=F1.call hb2;have B2:=gH;clear hb2 G1 H1 R1 I1 J1 F1 B1 g0 g1 g2 g3 g4 g5 g6 gz k0 k1 k2 k3 k4 k5 k6 kz hJ;go_wp2;have G3:=G2.alloc (.cells #[.bool J.n,.int .i64 J.lo,.int .i64 J.hi] 89);have H3:=H2.alloc (.cells #[.bool J.n,.int .i64 J.lo,.int .i64 J.hi] 89);have R3:=R2.alloc (.cells #[.bool J.n,.int .i64 J.lo,.int .i64 J.hi] 89);have I3:=I2.alloc (.cells #[.bool J.n,.int .i64 J.lo,.int .i64 J.hi] 89);have J3:=J2.alloc (.cells #[.bool J.n,.int .i64 J.lo,.int .i64 J.hi] 89);have F3:=F2.alloc (.cells #[.bool J.n,.int .i64 J.lo,.int .i64 J.hi] 89);have B3:=B2.alloc B2.size (.cells #[.bool J.n,.int .i64 J.lo,.int .i64 J.hi] 89);have S3:=SpAt.new w2 J;have zj:w.heap.size+1+1+1 < w2.heap.size:=F2.2;clear G2 H2 R2 I2 J2 F2 B2;generalize w2.alloc (.cells #[.bool J.n,.int .i64 J.lo,.int .i64 J.hi] 89)=w3 at *;generalize w2.heap.size=jb at *;have KS:=KN;unfold Ea at KS;obtain⟨n,sp,t,f,sl⟩:=g;refine wp_region_held_drew (S:=Ea w jb ⟨n,sp,t,f,sl⟩ ss gc h st hc J) ae (KS _ G3.drew H3.drew S3.drew) (λhHeld=> ?_);unfold Ea at hHeld |-;refine vH 0 ?_ ?_;refine vH 1 ?_ ?_;refine vH 2 ?_ ?_;refine wpAnyH_take (i:=3) (v:=if n=true then undef else .pointer (some ⟨w.heap.size+1+1,0,none⟩)) rfl ae ae ae (λ_ _ _ h=>h) ?_ cr ?_
 ·cases n
  ·refine Or.inl ⟨?_,?_⟩
   ·rfl
   ·(intro w hSw;(try dsimp only at hSw);first|(go_simp;done)|(go_simp;with_reducible rfl))
  ·exact dj
 refine sm ?_;refine wpAnyH_take (i:=4) (v:=if n=true then undef else .bool h.n) rfl ae ae ae (λ_ _ _ h=>h) ?_ cr ?_
 ·cases n
  ·refine Or.inl ⟨?_,?_⟩
   ·rfl
   ·(intro w hSw;(try dsimp only at hSw);first|(go_simp;done)|(go_simp;with_reducible rfl))
  ·exact dj
 refine sm ?_;refine wpAnyH_take (i:=5) (v:=.bool (n||h.n)) rfl ae ae ae (λ_ _ _ h=>h) ?_ cr ?_
 ·cases n
  ·refine Or.inl ⟨?_,?_⟩
   ·rfl
   ·(intro w hSw;(try dsimp only at hSw);first|(go_simp;done)|(go_simp;with_reducible rfl))
  ·refine Or.inl ⟨?_,?_⟩
   ·rfl
   ·(intro w hSw;(try dsimp only at hSw);first|(go_simp;done)|(go_simp;with_reducible rfl))
 refine sm ?_;refine vH 6 ?_ ?_;refine vH 7 ?_ ?_;refine vH 8 ?_ ?_;refine vH 9 ?_ ?_;refine wpAnyH_take (i:=10) (v:=if t=true then undef else .pointer (some ⟨w.heap.size+1+1,4,none⟩)) rfl ae ae ae (λ_ _ _ h=>h) ?_ cr ?_
 ·cases t
  ·refine Or.inl ⟨?_,?_⟩
   ·rfl
   ·(intro w hSw;(try dsimp only at hSw);first|(go_simp;done)|(go_simp;with_reducible rfl))
  ·exact dj
 refine sm ?_;refine wpAnyH_take (i:=11) (v:=if t=true then undef else .bool h.t) rfl ae ae ae (λ_ _ _ h=>h) ?_ cr ?_
 ·cases t
  ·refine Or.inl ⟨?_,?_⟩
   ·rfl
   ·(intro w hSw;(try dsimp only at hSw);first|(go_simp;done)|(go_simp;with_reducible rfl))
  ·exact dj
 refine sm ?_;refine wpAnyH_take (i:=12) (v:=.bool (t||h.t)) rfl ae ae ae (λ_ _ _ h=>h) ?_ cr ?_
 ·cases t
  ·refine Or.inl ⟨?_,?_⟩
   ·rfl
   ·(intro w hSw;(try dsimp only at hSw);first|(go_simp;done)|(go_simp;with_reducible rfl))
  ·refine Or.inl ⟨?_,?_⟩
   ·rfl
   ·(intro w hSw;(try dsimp only at hSw);first|(go_simp;done)|(go_simp;with_reducible rfl))
 refine sm ?_;refine vH 13 ?_ ?_;refine vH 14 ?_ ?_;refine vH 15 ?_ ?_;refine wpAnyH_take (i:=16) (v:=if f=true then undef else .pointer (some ⟨w.heap.size+1+1,5,none⟩)) rfl ae ae ae (λ_ _ _ h=>h) ?_ cr ?_
 ·cases f
  ·refine Or.inl ⟨?_,?_⟩
   ·rfl
   ·(intro w hSw;(try dsimp only at hSw);first|(go_simp;done)|(go_simp;with_reducible rfl))
  ·exact dj
 refine sm ?_;refine wpAnyH_take (i:=17) (v:=if f=true then undef else .bool h.f) rfl ae ae ae (λ_ _ _ h=>h) ?_ cr ?_
 ·cases f
  ·refine Or.inl ⟨?_,?_⟩
   ·rfl
   ·(intro w hSw;(try dsimp only at hSw);first|(go_simp;done)|(go_simp;with_reducible rfl))
  ·exact dj
 refine sm ?_;refine wpAnyH_take (i:=18) (v:=.bool (f||h.f)) rfl ae ae ae (λ_ _ _ h=>h) ?_ cr ?_
 ·cases f
  ·refine Or.inl ⟨?_,?_⟩
   ·rfl
   ·(intro w hSw;(try dsimp only at hSw);first|(go_simp;done)|(go_simp;with_reducible rfl))
  ·refine Or.inl ⟨?_,?_⟩
   ·rfl
   ·(intro w hSw;(try dsimp only at hSw);first|(go_simp;done)|(go_simp;with_reducible rfl))
 refine sm ?_;refine vH 19 ?_ ?_;refine vH 20 ?_ ?_;have L3:=(GsAt.new2 w3 ⟨n,sp,t,f,sl⟩ ss gc h st hc I3 h1 h2 J3 h3 h4).drew;have G4:=G3.alloc (.cells #[.bool n,.bool sp.n,.int .i64 sp.lo,.int .i64 sp.hi,.bool t,.bool f,.slice ss sl.length gc,.bool h.n,.bool h.sp.n,.int .i64 h.sp.lo,.int .i64 h.sp.hi,.bool h.t,.bool h.f,.slice st h.s.length hc] 91);have H4:=H3.alloc (.cells #[.bool n,.bool sp.n,.int .i64 sp.lo,.int .i64 sp.hi,.bool t,.bool f,.slice ss sl.length gc,.bool h.n,.bool h.sp.n,.int .i64 h.sp.lo,.int .i64 h.sp.hi,.bool h.t,.bool h.f,.slice st h.s.length hc] 91);have R4:=R3.alloc (.cells #[.bool n,.bool sp.n,.int .i64 sp.lo,.int .i64 sp.hi,.bool t,.bool f,.slice ss sl.length gc,.bool h.n,.bool h.sp.n,.int .i64 h.sp.lo,.int .i64 h.sp.hi,.bool h.t,.bool h.f,.slice st h.s.length hc] 91);have F4:=F3.alloc (.cells #[.bool n,.bool sp.n,.int .i64 sp.lo,.int .i64 sp.hi,.bool t,.bool f,.slice ss sl.length gc,.bool h.n,.bool h.sp.n,.int .i64 h.sp.lo,.int .i64 h.sp.hi,.bool h.t,.bool h.f,.slice st h.s.length hc] 91);have S4:=S3.alloc (.cells #[.bool n,.bool sp.n,.int .i64 sp.lo,.int .i64 sp.hi,.bool t,.bool f,.slice ss sl.length gc,.bool h.n,.bool h.sp.n,.int .i64 h.sp.lo,.int .i64 h.sp.hi,.bool h.t,.bool h.f,.slice st h.s.length hc] 91);have B4:=(B3.alloc B3.size (.cells #[.bool n,.bool sp.n,.int .i64 sp.lo,.int .i64 sp.hi,.bool t,.bool f,.slice ss sl.length gc,.bool h.n,.bool h.sp.n,.int .i64 h.sp.lo,.int .i64 h.sp.hi,.bool h.t,.bool h.f,.slice st h.s.length hc] 91)).drew;refine wpAnyH_ready (rs:=[21]) ae ah ?_;refine AllReadyH.cons rfl (λK hK=> ?_) AllReadyH.nil;go_simp;refine hK.out _ _ (KS _ G4.drew H4.drew S4.drew) (λhHeld=> ?_);clear hK K;refine sm ?_;refine wpAnyH_ready (rs:=[22]) ae ah ?_;refine AllReadyH.cons rfl (λK hK=> ?_) AllReadyH.nil;go_simp;refine(IU _ [⟨n,sp,t,f,sl⟩,h] 2 _ L3 ah hlen).mono ?_;rintro e w5 ⟨v,rfl,hown,hb5⟩;have G5:=G4.drew.call hb5;have H5:=H4.drew.call hb5;have R5:=R4.drew.call hb5;have F5:=F4.drew.call hb5;have S5:=S4.drew.call hb5;have B5:bl w w5:=B4.trans (hb5.mono B4.size);have z5:w.heap.size+1+1+1 < w3.heap.size:=F3.2;simp only[World.size_drew,World.size_alloc] at hown;have O5:=hown;clear hb5 G4 H4 R4 F4 S4 B4 L3 G3 H3 R3 F3 S3 B3 I3 J3;obtain⟨vs,vc,rfl,-,-,-,hvb⟩:=ip;refine hK.out _ _ (KS _ G5 H5 S5) (λhHeld=> ?_);clear hK K hown;refine sm ?_;refine vH 23 ?_ ?_;obtain⟨⟨r0,r1,r2,r3,r4,r5,r6⟩,rz⟩:=id R5;simp only[Nat.zero_add,bG] at r0 r1 r2 r3 r4 r5 r6;have fz:=F5.1;refine wpAnyH_ready (rs:=[24]) ae ah ?_;refine AllReadyH.cons rfl (λK hK=> ?_) AllReadyH.nil;go_simp;refine hK.out _ _ (KS _ (G5.put7 aa) (H5.put7 aa) (S5.put7 aa)) (λhHeld=> ?_);clear hK K;refine sm ?_;refine vH 25 ?_ ?_;refine wpAnyH_done ae ?_ _;generalize (if n=true then undef else(.pointer (some ⟨w.heap.size+1+1,0,none⟩):Value))=y0;generalize (if n=true then undef else(.bool h.n:Value))=y1;generalize (if t=true then undef else(.pointer (some ⟨w.heap.size+1+1,4,none⟩):Value))=y2;generalize (if t=true then undef else(.bool h.t:Value))=y3;generalize (if f=true then undef else(.pointer (some ⟨w.heap.size+1+1,5,none⟩):Value))=y4;generalize (if f=true then undef else(.bool h.f:Value))=y5;go_wp2;refine bodyPost_ret (v:=.tuple #[.agg #[.bool (n||h.n),.bool J.n,.int .i64 J.lo,.int .i64 J.hi,.bool (t||h.t),.bool (f||h.f),.slice vs (cI [⟨n,sp,t,f,sl⟩,h]).length vc],.int .i64 0]) (by simp[results,results123,go_sem,r0,r1,r2,r3,r4,r5,r6]) rfl ⟨_,rfl,?_,?_⟩
 ·exact gr (gw O5 aa) aa
 ·exact bC B5 aa):p:=h
theorem pV {p:Prop}(h:p:=by
 have HW:=ag (λls lc w hL=>vW ls [g,h] lc w ah hL);generalize ([g,h].any aP&& ![g,h].any an)=wr at HW |-;go_enter func164,ntmps164;go_wp2_with fail;refine(eR V F s c cap _ [g,h] 2 _ (C0.alloc _) L0 ah).mono ?_;rintro e w1 ⟨rfl,hb1⟩;rw[HK.out];have G1:=eT;have H1:=fE;have R1:=gD;have F1:=gG;have B1:=eX;clear hb1 G0 H0 R0 I0 J0 F0 B0 C0 P0 L0 hcd hs ht HK;obtain⟨⟨g0,g1,g2,g3,g4,g5,g6⟩,gz⟩:=id G1;obtain⟨⟨k0,k1,k2,k3,k4,k5,k6⟩,kz⟩:=id H1;simp only[Nat.zero_add] at g0 g1 g2 g3 g4 g5 g6 k0 k1 k2 k3 k4 k5 k6;go_wp2_with fail;refine(hJ.out _).mono ?_;rintro e w2 ⟨rfl,hb2⟩;have G2:=G1.call hb2;have H2:=H1.call hb2;have R2:=R1.call hb2;have F2:=F1.call hb2;have B2:=gH;clear hb2 G1 H1 R1 F1 B1 g0 g1 g2 g3 g4 g5 g6 gz k0 k1 k2 k3 k4 k5 k6 kz hJ;go_wp2;have G3:=G2.alloc (.cells #[.bool J.n,.int .i64 J.lo,.int .i64 J.hi] 89);have H3:=H2.alloc (.cells #[.bool J.n,.int .i64 J.lo,.int .i64 J.hi] 89);have R3:=R2.alloc (.cells #[.bool J.n,.int .i64 J.lo,.int .i64 J.hi] 89);have F3:=F2.alloc (.cells #[.bool J.n,.int .i64 J.lo,.int .i64 J.hi] 89);have B3:=B2.alloc B2.size (.cells #[.bool J.n,.int .i64 J.lo,.int .i64 J.hi] 89);have S3:=SpAt.new w2 J;have zj:w.heap.size+1+1+1 < w2.heap.size:=F2.2;clear G2 H2 R2 F2 B2;generalize w2.alloc (.cells #[.bool J.n,.int .i64 J.lo,.int .i64 J.hi] 89)=w3 at *;generalize w2.heap.size=jb at *;have KS:=KN;refine wp_region_held_drew (S:=Ea w jb g ss gc h st hc J) ae (KS _ G3.drew H3.drew S3.drew) (λhHeld=> ?_);unfold Ea at hHeld KS |-;refine vH 0 ?_ ?_;refine vH 1 ?_ ?_;refine vH 2 ?_ ?_;refine vH 3 ?_ ?_;have L3:GhAt (uk w3 g ss gc h st hc).drew (some ⟨w3.heap.size,0,none⟩) [g,h]:=(GhAt.new2 w3 g ss gc h st hc).call (Below.refl _ _).drew;have G4:=KO;have H4:=Kw;have R4:=Kf;have F4:=Ha;have S4:=S3.alloc (.cells #[.bool g.n,.bool g.sp.n,.int .i64 g.sp.lo,.int .i64 g.sp.hi,.bool g.t,.bool g.f,.slice ss g.s.length gc,.bool h.n,.bool h.sp.n,.int .i64 h.sp.lo,.int .i64 h.sp.hi,.bool h.t,.bool h.f,.slice st h.s.length hc] 91);have B4:=(B3.alloc B3.size (.cells #[.bool g.n,.bool g.sp.n,.int .i64 g.sp.lo,.int .i64 g.sp.hi,.bool g.t,.bool g.f,.slice ss g.s.length gc,.bool h.n,.bool h.sp.n,.int .i64 h.sp.lo,.int .i64 h.sp.hi,.bool h.t,.bool h.f,.slice st h.s.length hc] 91)).drew;refine wpAnyH_ready (rs:=[4]) ae ah ?_;refine AllReadyH.cons rfl (λK hK=> ?_) AllReadyH.nil;go_simp;refine hK.out _ _ (KS _ G4.drew H4.drew S4.drew) (λhHeld=> ?_);clear hK K;refine sm ?_;refine wpAnyH_ready (rs:=[5]) ae ah ?_;refine AllReadyH.cons rfl (λK hK=> ?_) AllReadyH.nil;go_simp;refine(HW.out _ 2 _ L3).mono ?_;rintro e w5 ⟨rfl,hb5⟩;have G5:=G4.drew.call hb5;have H5:=H4.drew.call hb5;have R5:=R4.drew.call hb5;have F5:=F4.drew.call hb5;have S5:=S4.drew.call hb5;have B5:bl w w5:=B4.trans (hb5.mono B4.size);clear hb5 G4 H4 R4 F4 S4 B4 L3 G3 H3 R3 F3 S3 B3;refine hK.out _ _ (KS _ G5 H5 S5) (λhHeld=> ?_);clear hK K;refine sm ?_;obtain⟨⟨r0,r1,r2,r3,r4,r5,r6⟩,rz⟩:=id R5;simp only[Nat.zero_add,bG] at r0 r1 r2 r3 r4 r5 r6;have fz:=F5.1;refine wpAnyH_ready (rs:=[6]) ae ah ?_;refine AllReadyH.cons rfl (λK hK=> ?_) AllReadyH.nil;go_simp;refine hK.out _ _ (KS _ (G5.put7 aa) (H5.put7 aa) (S5.put7 aa)) (λhHeld=> ?_);clear hK K;refine sm ?_;refine vH 7 ?_ ?_;refine vH 8 ?_ ?_;refine wpAnyH_done ae ?_ _;go_wp2;refine bodyPost_ret (v:=.tuple #[gv ⟨false,J,false,false,[]⟩ none 0,.bool wr,.int .i64 0]) uB rfl ⟨rfl,?_⟩;exact bC B5 aa):p:=h
theorem Di (V F:Int)(s:oA)(c:lI)(cap:Nat)(g:Gs)(ss:oA)(gc:Nat)(h:Gs)(st:oA)(hc:Nat)(w:World)
  (hcd:CodeAt w s c)(hs:IntsAt w ss g.s)(h1:g.s.length<=gc)(h2:gc<=maxLen)(ht:IntsAt w st h.s)(h3:h.s.length<=hc)(h4:hc<=maxLen)(hck:ba V F c [g,h]=0)(hlen:([g,h].flatMap Gs.s).length<=1000000):
  Calls pG 123 #[pv V F s c cap,gv g ss gc,gv h st hc,.func (.func 124) #[] #[]] w λe w'=>∃v,e=Rt (Tu #[Ag #[Bb (g.n||h.n),Bb (bj g.sp h.sp).n,.int .i64 (bj g.sp h.sp).lo,.int .i64 (bj g.sp h.sp).hi,Bb (g.t||h.t),Bb (g.f||h.f),v],.int .i64 0])/\w'.ownsRow w.heap.size 3 1 v (cI [g,h]).length ((cI [g,h]).map (.int .i64))/\bl w w':=by
 obtain⟨P0,G0,H0,R0,F0⟩:=dR;have B0:=dQ;have C0:=dW;have I0:=d7;have J0:=dV;have L0:=fB;simp only[j0] at L0;have hJ0:=λw=>Pu g.sp h.sp w;rw[fC hck,show∀r,fJ 0 r=r from λr=>rfl] at hJ0;have hJ:=ag hJ0;have HK:=ag hck;clear hck hJ0;generalize bj g.sp h.sp=J at hJ |-;go_enter func123,ntmps123;go_wp2_with fail;refine(eR V F s c cap _ [g,h] 2 _ (C0.alloc _) L0 ah).mono ?_;rintro e w1 ⟨rfl,hb1⟩;rw[HK.out];have G1:=eT;have H1:=fE;have R1:=gD;have I1:=gh;have J1:=gd;have F1:=gG;have B1:=eX;clear hb1 G0 H0 R0 I0 J0 F0 B0 C0 P0 L0 hcd hs ht HK;obtain⟨⟨g0,g1,g2,g3,g4,g5,g6⟩,gz⟩:=id G1;obtain⟨⟨k0,k1,k2,k3,k4,k5,k6⟩,kz⟩:=id H1;simp only[j3] at g0 g1 g2 g3 g4 g5 g6 k0 k1 k2 k3 k4 k5 k6;go_wp2_with fail;exact CF
theorem Ds (V F:Int)(s:oA)(c:lI)(cap:Nat)(g:Gs)(ss:oA)(gc:Nat)(h:Gs)(st:oA)(hc:Nat)(w:World)
  (hcd:CodeAt w s c)(hs:IntsAt w ss g.s)(h1:g.s.length<=gc)(h2:gc<=maxLen)(ht:IntsAt w st h.s)(h3:h.s.length<=hc)(h4:hc<=maxLen)(hck:ba V F c [g,h]=0)(hlen:([g,h].flatMap Gs.s).length<=1000000):
  Calls pG 123 #[pv V F s c cap,gv g ss gc,gv h st hc,.func (.func 125) #[] #[]] w λe w'=>∃v,e=Rt (Tu #[Ag #[Bb (g.n||h.n),Bb (bp g.sp h.sp).n,.int .i64 (bp g.sp h.sp).lo,.int .i64 (bp g.sp h.sp).hi,Bb (g.t||h.t),Bb (g.f||h.f),v],.int .i64 0])/\w'.ownsRow w.heap.size 3 1 v (cI [g,h]).length ((cI [g,h]).map (.int .i64))/\bl w w':=by
 obtain⟨P0,G0,H0,R0,F0⟩:=dR;have B0:=dQ;have C0:=dW;have I0:=d7;have J0:=dV;have L0:=fB;simp only[j0] at L0;have hJ0:=λw=>OD g.sp h.sp w;rw[fC hck,show∀r,fJ 0 r=r from λr=>rfl] at hJ0;have hJ:=ag hJ0;have HK:=ag hck;clear hck hJ0;generalize bp g.sp h.sp=J at hJ |-;go_enter func123,ntmps123;go_wp2_with fail;refine(eR V F s c cap _ [g,h] 2 _ (C0.alloc _) L0 ah).mono ?_;rintro e w1 ⟨rfl,hb1⟩;rw[HK.out];have G1:=eT;have H1:=fE;have R1:=gD;have I1:=gh;have J1:=gd;have F1:=gG;have B1:=eX;clear hb1 G0 H0 R0 I0 J0 F0 B0 C0 P0 L0 hcd hs ht HK;obtain⟨⟨g0,g1,g2,g3,g4,g5,g6⟩,gz⟩:=id G1;obtain⟨⟨k0,k1,k2,k3,k4,k5,k6⟩,kz⟩:=id H1;simp only[j3] at g0 g1 g2 g3 g4 g5 g6 k0 k1 k2 k3 k4 k5 k6;go_wp2_with fail;exact CF
theorem NL (V F:Int)(s:oA)(c:lI)(cap:Nat)(g:Gs)(ss:oA)(gc:Nat)(w:World)(hcd:CodeAt w s c)(hs:IntsAt w ss g.s)(h1:g.s.length<=gc)(h2:gc<=maxLen):
  Calls pG 140 #[pv V F s c cap,gv g ss gc] w λe w'=>e=Rt (.int .i64 (ba V F c [g]))/\bl w w':=by
 have B0:Below w.heap.size w (pgW w V F s c cap g ss gc):=am;have L0:=GsAt.new1 (pgW w V F s c cap g ss gc) g ss gc ((hs.alloc _).alloc _) h1 h2;simp only[j0] at L0;have HC:=ag (eR V F s c cap (sO ⟨w.heap.size+1+1,0,nO⟩) [g] 1 _ (((hcd.alloc _).alloc _).alloc _) L0 ah);generalize ba V F c [g]=ce at HC |-;clear hcd hs L0;go_enter func140,ntmps140;go_wp2_with fail;refine HC.out.mono ?_;rintro e w1 ⟨rfl,hb1⟩;go_wp2;go_ret;exact yT

theorem SG (V F:Int)(s:oA)(c:lI)(cap:Nat)(g:Gs)(ss:oA)(gc:Nat)(h:Gs)(st:oA)(hc:Nat)(w:World)
  (hcd:CodeAt w s c)(hs:IntsAt w ss g.s)(h1:g.s.length<=gc)(h2:gc<=maxLen)(ht:IntsAt w st h.s)(h3:h.s.length<=hc)(h4:hc<=maxLen)(hck:ba V F c [g,h]=0)(hlen:([g,h].flatMap Gs.s).length<=1000000):
  Calls pG 72 #[pv V F s c cap,gv g ss gc,gv h st hc] w λe w'=>∃v,e=Rt (Tu #[Ag #[Bb (g.n||h.n),Bb (bj g.sp h.sp).n,.int .i64 (bj g.sp h.sp).lo,.int .i64 (bj g.sp h.sp).hi,Bb (g.t||h.t),Bb (g.f||h.f),v],.int .i64 0])/\w'.ownsRow w.heap.size 3 1 v (cI [g,h]).length ((cI [g,h]).map (.int .i64))/\bl w w':=by
 obtain⟨P0,G0,H0,R0,F0⟩:=dR;have B0:=dQ;have C0:=dW;have I0:=d7;have J0:=dV;have HT:=ag (Di V F s c cap g ss gc h st hc _ C0 I0 h1 h2 J0 h3 h4 hck hlen);clear hck hlen hcd hs ht P0 G0 H0 C0 I0 J0;generalize bj g.sp h.sp=J at HT |-;generalize cI [g,h]=T at HT |-;go_enter func72,ntmps72;go_wp2_with fail;refine HT.out.mono ?_;rintro e w1 ⟨v,rfl,hown,hb1⟩;have R1:=R0.call hb1;have F1:Fr7 w1 (w.heap.size+1+1+1):=F0.call hb1;have B1:bl w w1:=B0.trans (hb1.mono B0.size);simp only[j0] at hown;have O1:=hown;obtain⟨vs,vc,rfl,-,-,-,-⟩:=ip;clear hb1 R0 F0 B0 HT hown;obtain⟨⟨r0,r1,r2,r3,r4,r5,r6⟩,rz⟩:=id R1;simp only[j3,bG] at r0 r1 r2 r3 r4 r5 r6;have fz:=F1.1;go_wp2;refine bodyPost_ret (v:=Tu #[Ag #[Bb (g.n||h.n),Bb J.n,.int .i64 J.lo,.int .i64 J.hi,Bb (g.t||h.t),Bb (g.f||h.f),U vs T.length vc],.int .i64 0]) (by simp[results,results72,go_sem,r0,r1,r2,r3,r4,r5,r6]) rfl ⟨_,rfl,?_,?_⟩
 ·exact gr (gw O1 aa) aa
 ·exact bC B1 aa

theorem SC (V F:Int)(s:oA)(c:lI)(cap:Nat)(g:Gs)(ss:oA)(gc:Nat)(h:Gs)(st:oA)(hc:Nat)(w:World)
  (hcd:CodeAt w s c)(hs:IntsAt w ss g.s)(h1:g.s.length<=gc)(h2:gc<=maxLen)(ht:IntsAt w st h.s)(h3:h.s.length<=hc)(h4:hc<=maxLen)(hck:ba V F c [g,h]=0)(hlen:([g,h].flatMap Gs.s).length<=1000000):
  Calls pG 73 #[pv V F s c cap,gv g ss gc,gv h st hc] w λe w'=>∃v,e=Rt (Tu #[Ag #[Bb (g.n||h.n),Bb (bp g.sp h.sp).n,.int .i64 (bp g.sp h.sp).lo,.int .i64 (bp g.sp h.sp).hi,Bb (g.t||h.t),Bb (g.f||h.f),v],.int .i64 0])/\w'.ownsRow w.heap.size 3 1 v (cI [g,h]).length ((cI [g,h]).map (.int .i64))/\bl w w':=by
 obtain⟨P0,G0,H0,R0,F0⟩:=dR;have B0:=dQ;have C0:=dW;have I0:=d7;have J0:=dV;have HT:=ag (Ds V F s c cap g ss gc h st hc _ C0 I0 h1 h2 J0 h3 h4 hck hlen);clear hck hlen hcd hs ht P0 G0 H0 C0 I0 J0;generalize bp g.sp h.sp=J at HT |-;generalize cI [g,h]=T at HT |-;go_enter func73,ntmps73;go_wp2_with fail;refine HT.out.mono ?_;rintro e w1 ⟨v,rfl,hown,hb1⟩;have R1:=R0.call hb1;have F1:Fr7 w1 (w.heap.size+1+1+1):=F0.call hb1;have B1:bl w w1:=B0.trans (hb1.mono B0.size);simp only[j0] at hown;have O1:=hown;obtain⟨vs,vc,rfl,-,-,-,-⟩:=ip;clear hb1 R0 F0 B0 HT hown;obtain⟨⟨r0,r1,r2,r3,r4,r5,r6⟩,rz⟩:=id R1;simp only[j3,bG] at r0 r1 r2 r3 r4 r5 r6;have fz:=F1.1;go_wp2;refine bodyPost_ret (v:=Tu #[Ag #[Bb (g.n||h.n),Bb J.n,.int .i64 J.lo,.int .i64 J.hi,Bb (g.t||h.t),Bb (g.f||h.f),U vs T.length vc],.int .i64 0]) (by simp[results,results73,go_sem,r0,r1,r2,r3,r4,r5,r6]) rfl ⟨_,rfl,?_,?_⟩
 ·exact gr (gw O1 aa) aa
 ·exact bC B1 aa
theorem WG (V F:Int)(s:oA)(c:lI)(cap:Nat)(g:Gs)(ss:oA)(gc:Nat)(h:Gs)(st:oA)(hc:Nat)(w:World)
  (hcd:CodeAt w s c)(hs:IntsAt w ss g.s)(h1:g.s.length<=gc)(h2:gc<=maxLen)(ht:IntsAt w st h.s)(h3:h.s.length<=hc)(h4:hc<=maxLen)(hck:ba V F c [g,h]=0):
  Calls pG 164 #[pv V F s c cap,.int .i64 5,gv g ss gc,gv h st hc] w λe w'=>e=Rt (Tu #[gv ⟨false,cu 5 g.sp h.sp,false,false,[]⟩ nO 0,Bb ([g,h].any aP&& ![g,h].any an),.int .i64 0])/\bl w w':=by
 obtain⟨P0,G0,H0,R0,F0⟩:=dR;have B0:=dQ;have C0:=dW;have I0:=d7;have J0:=dV;have L0:=fB;simp only[j0] at L0;have hJ0:=λw=>Kl 5 g.sp h.sp w;rw[show gY 5 g.sp h.sp=0 by unfold gY;rw[if_pos (fC hck),if_pos ai],show∀r,fJ 0 r=r from λr=>rfl] at hJ0;have hJ:=ag hJ0;have HK:=ag hck;clear hck hJ0;generalize cu 5 g.sp h.sp=J at hJ |-;exact pV
theorem WF (V F:Int)(s:oA)(c:lI)(cap:Nat)(g:Gs)(ss:oA)(gc:Nat)(h:Gs)(st:oA)(hc:Nat)(w:World)
  (hcd:CodeAt w s c)(hs:IntsAt w ss g.s)(h1:g.s.length<=gc)(h2:gc<=maxLen)(ht:IntsAt w st h.s)(h3:h.s.length<=hc)(h4:hc<=maxLen)(hck:ba V F c [g,h]=0):
  Calls pG 164 #[pv V F s c cap,.int .i64 6,gv g ss gc,gv h st hc] w λe w'=>e=Rt (Tu #[gv ⟨false,cu 6 g.sp h.sp,false,false,[]⟩ nO 0,Bb ([g,h].any aP&& ![g,h].any an),.int .i64 0])/\bl w w':=by
 obtain⟨P0,G0,H0,R0,F0⟩:=dR;have B0:=dQ;have C0:=dW;have I0:=d7;have J0:=dV;have L0:=fB;simp only[j0] at L0;have hJ0:=λw=>Kl 6 g.sp h.sp w;rw[show gY 6 g.sp h.sp=0 by unfold gY;rw[if_pos (fC hck),if_pos ai],show∀r,fJ 0 r=r from λr=>rfl] at hJ0;have hJ:=ag hJ0;have HK:=ag hck;clear hck hJ0;generalize cu 6 g.sp h.sp=J at hJ |-;exact pV
theorem WS (V F:Int)(s:oA)(c:lI)(cap:Nat)(g:Gs)(ss:oA)(gc:Nat)(h:Gs)(st:oA)(hc:Nat)(w:World)
  (hcd:CodeAt w s c)(hs:IntsAt w ss g.s)(h1:g.s.length<=gc)(h2:gc<=maxLen)(ht:IntsAt w st h.s)(h3:h.s.length<=hc)(h4:hc<=maxLen)(hck:ba V F c [g,h]=0):
  Calls pG 164 #[pv V F s c cap,.int .i64 7,gv g ss gc,gv h st hc] w λe w'=>e=Rt (Tu #[gv ⟨false,cu 7 g.sp h.sp,false,false,[]⟩ nO 0,Bb ([g,h].any aP&& ![g,h].any an),.int .i64 0])/\bl w w':=by
 obtain⟨P0,G0,H0,R0,F0⟩:=dR;have B0:=dQ;have C0:=dW;have I0:=d7;have J0:=dV;have L0:=fB;simp only[j0] at L0;have hJ0:=λw=>Kl 7 g.sp h.sp w;rw[show gY 7 g.sp h.sp=0 by unfold gY;rw[if_pos (fC hck),if_pos ai],show∀r,fJ 0 r=r from λr=>rfl] at hJ0;have hJ:=ag hJ0;have HK:=ag hck;clear hck hJ0;generalize cu 7 g.sp h.sp=J at hJ |-;exact pV
theorem yg (s a b:ByteArray)(w:World)(hm:Cap w)(hs:s.size < 4294967281)(hc:Lib.cut s.data.toList [10]=(a.data.toList,b.data.toList,true)):
  Calls pG 173 #[.string s,.string ⟨#[10]⟩] w λe w'=>e=Rt (Tu #[.string a,.string b,Bb true])/\bl w w':=by
 obtain⟨m,hm⟩:=hm;refine(Tryz.strings_Cut s ⟨#[10]⟩ m w hs hm).mono ?_;rintro e w' ⟨rfl,n,rfl⟩;have hc':Lib.cut s.data.toList (⟨#[10]⟩:ByteArray).data.toList=(a.data.toList,b.data.toList,true):=hc;rw[hc'];exact⟨rfl,below_drewN (bR _ _) n⟩

def cR (i:Ins):List Value:=[.int .i64 i.k,.int .i64 i.tgt,.int .i64 i.a,.int .i64 i.b,.int .i64 i.n,.int .i64 i.g]
def gA (c:lI):List Value:=c.flatMap cR

theorem T0 (c:lI):∀k (h:k < c.length) j,j < 6->(gA c)[k * 6+j]? =(cR c[k])[j]? :=by
 induction c with
 |nil=>intro k h;simp at h
 |cons x r ih=>
  intro k h j hj;have hl:(cR x).length=6:=rfl;simp only[gA,List.flatMap_cons]
  match k,h with
  |0,_=>simp only[Nat.zero_mul,j3];rw[List.getElem?_append_left (by rw[hl];exact hj)];rfl
  |k+1,h=>
   rw[List.getElem?_append_right (by rw[hl];omega),hl,show (k+1) * 6+j - 6=k * 6+j by omega];exact ih k cq j hj

theorem tz (w:World)(xs:List Value)(t:TypeId):∀j u,xs[j]? =sO u->(w.alloc (Cc xs.toArray t)).cell? ((⟨w.heap.size,0,nO⟩:Addr).add j)=sO u:=by
 intro j u hj;have e:((⟨w.heap.size,0,nO⟩:Addr).add j)=⟨w.heap.size,j,nO⟩:=by
  cases j with
  |zero=>rfl
  |succ j=>simp[Addr.add]
 rw[e];simp[go_sem,hj]

theorem dA {w:World}{B:Nat}{v:Value}{c:lI}(h:w.ownsRow B 100 6 v c.length (gA c)):∃s cap,v=U s c.length cap/\CodeAt w s c:=by
 cases c with
 |nil=>
  rcases h.2 with⟨rfl,_⟩|⟨g,cap,cur,rfl,_⟩
  ·exact⟨_,_,rfl,.inl rfl⟩
  ·exact⟨_,_,rfl,.inl rfl⟩
 |cons x r=>
  obtain⟨g,cap,rfl,hb,hlt⟩:=h.form ah;refine⟨_,_,rfl,.inr ⟨g,0,rfl,hlt,λk hk=> ?_⟩⟩;have hf:∀j,j < 6->w.cell? ⟨g,0+k * 6+j,nO⟩=(cR (x::r)[k])[j]? :=λj hj=>by
   rw[h.cellAt _ aa,show 0+k * 6+j=k * 6+j by omega];exact T0 _ k hk j hj
  exact⟨hf 0 aa,hf 1 aa,hf 2 aa,hf 3 aa,hf 4 aa,hf 5 aa⟩

theorem l9 {w:World}{B B':Nat}{e:TypeId}{z:Nat}{v:Value}{n:Nat}{xs:List Value}(h:w.ownsRow B e z v n xs)(hb:B'<=B):w.ownsRow B' e z v n xs:=by
 obtain⟨h1,h2⟩:=h;refine⟨h1,?_⟩;rcases h2 with h2|⟨g,cap,cur,hv,hB,r⟩
 ·exact .inl h2
 ·exact .inr ⟨g,cap,cur,hv,lT hb hB,r⟩

theorem ShpAt.of_blocks {N:Nat}{l:List Shp}{w w':World}(h:ShpAt N l w)(hb:∀k,N<=k->k < w.heap.size->w'.heap[k]? =w.heap[k]?):ShpAt N l w':=by
 have hl:∀{k o},w.heap[k]? =sO o->k < w.heap.size:=λhk=>(j7.1 hk).1;exact⟨by rw[hb N (lR _) (hl h.map)];exact h.map,λj hj hne=>by rw[hb _ (by omega) (hl (h.parts j hj hne))];exact h.parts j hj hne⟩

def PrgAt (w:World)(B:Nat)(V F:Int)(v:Value):Prop:=
 w.cell? ⟨B,0,nO⟩=sO (.int .i64 V)/\w.cell? ⟨B,1,nO⟩=sO (.int .i64 F)/\w.cell? ⟨B,2,nO⟩=sO v/\∀j,w.frozen? ⟨B,j,nO⟩=false

theorem PrgAt.block {w w':World}{B:Nat}{V F:Int}{v:Value}(h:PrgAt w B V F v)(hb:w'.heap[B]? =w.heap[B]?):PrgAt w' B V F v:=by
 have hc:∀j,w'.cell? ⟨B,j,nO⟩=w.cell? ⟨B,j,nO⟩:=λj=>j4 (a:=⟨B,j,nO⟩) hb;have hf:∀j,w'.frozen? ⟨B,j,nO⟩=w.frozen? ⟨B,j,nO⟩:=λj=>x6 (a:=⟨B,j,nO⟩) hb;obtain⟨h0,h1,h2,h3⟩:=h;exact⟨by rw[hc];exact h0,by rw[hc];exact h1,by rw[hc];exact h2,λj=>by rw[hf];exact h3 j⟩

theorem PrgAt.set {w:World}{B:Nat}{V F:Int}{v:Value}(h:PrgAt w B V F v)(u:Value):PrgAt (w.setCell ⟨B,2,nO⟩ u) B V F u:=by
 obtain⟨h0,h1,h2,h3⟩:=h;refine⟨?_,?_,?_,λj=> ?_⟩<;>simp[go_sem,h0,h1,h2,h3]

theorem wI:(Tryz.prog.info? 100).map (λi=>(i.zero,i.size,i.bytes))=sO (sO (Ag #[.int .i64 0,.int .i64 0,.int .i64 0,.int .i64 0,.int .i64 0,.int .i64 0]),6,48):=ae

theorem Te (V F:Int)(c:lI)(s:ByteArray)(w:World)(hs:s.size<=4000)(h0:au V F c=0)
  (hp:∀w',bl w w'->Calls pG 117 #[.string s] w' λe w''=>∃v,e=Rt (Tu #[Ag #[.int .i64 V,.int .i64 F,v],.int .i64 0])/\w''.ownsRow w'.heap.size 100 6 v c.length (gA c)/\bl w' w''):
  Calls pG 60 #[.string s] w λe w'=>∃v,e=Rt (Tu #[Ag #[.int .i64 V,.int .i64 F,v],.int .i64 0,.int .i64 0])/\w'.ownsRow w.heap.size 100 6 v c.length (gA c)/\bl w w':=by
 have n0:=nz;go_enter func60,ntmps60;have hb0:=iV;have hP:=hp _ hb0;clear hp;go_wp2_with fail;refine hP.mono ?_;rintro e w1 ⟨v,rfl,hown,hb1⟩;obtain⟨sl,cap,rfl,hc⟩:=dA hown;have HB1:bl w w1:=hb0.trans (hb1.mono ah);have hb2:=Kh;have hC2:=fL V F sl cap c _ (hc.below hb2 (lR _));rw[h0] at hC2;have rb:w1.heap[w.heap.size]? =sO (Cc #[.int .i64 0,.int .i64 0,U nO 0 0] 24 (0,0)):=by
  rw[hb1.block _ ah];exact(MapKept.heap_alloc _ _).1
 have z1:w.heap.size < w1.heap.size:=(j7.1 rb).1;go_wp2_with fail;refine hC2.mono ?_;rintro e w2 ⟨rfl,hb3⟩;have HB2:bl w w2:=(HB1.trans (hb2.mono HB1.size)).trans (hb3.mono ap);have z2:w1.heap.size < w2.heap.size:=DA;have z3:w.heap.size < w2.heap.size:=aa;have pb:w2.heap[w1.heap.size]? =sO (Cc #[.int .i64 V,.int .i64 F,U sl c.length cap] 24 (0,0)):=by
  rw[hb3.block _ ah];exact(MapKept.heap_alloc _ _).1
 have rb2:w2.heap[w.heap.size]? =sO (Cc #[.int .i64 0,.int .i64 0,U nO 0 0] 24 (0,0)):=by
  rw[hb3.block _ ap,Below.heap_alloc _ _ _ aa];exact rb
 have pc:∀j,w2.cell? ⟨w1.heap.size,j,nO⟩=(#[.int .i64 V,.int .i64 F,U sl c.length cap]:Array Value)[j]? :=λj=>by simp[World.cell?,pb]
 have rc:∀j,w2.cell? ⟨w.heap.size,j,nO⟩=(#[.int .i64 0,.int .i64 0,U nO 0 0]:Array Value)[j]? :=λj=>by simp[World.cell?,rb2]
 have rf:∀j,w2.frozen? ⟨w.heap.size,j,nO⟩=false:=λj=>by simp[World.frozen?,rb2]
 have p0:w2.cell? ⟨w1.heap.size,0,nO⟩=sO (.int .i64 V):=pc 0;have p1:w2.cell? ⟨w1.heap.size,1,nO⟩=sO (.int .i64 F):=pc 1;have p3:w2.cell? ⟨w1.heap.size,2,nO⟩=sO (U sl c.length cap):=pc 2;have r0:w2.cell? ⟨w.heap.size,0,nO⟩=sO (.int .i64 0):=rc 0;have r1:w2.cell? ⟨w.heap.size,1,nO⟩=sO (.int .i64 0):=rc 1;have r3:w2.cell? ⟨w.heap.size,2,nO⟩=sO (U nO 0 0):=rc 2;have hown2:w2.ownsRow (w.heap.size+1) 100 6 (U sl c.length cap) c.length (gA c):=by
  have h1:=bB (w':=w2) hown (λj hj=>by
   have hl:=(cn hown hj).1;rw[hb3.block _ ap,Below.heap_alloc _ _ _ hl])
  simpa using h1
 clear pb rb rb2 pc rc hP hC2;go_wp2;refine bodyPost_ret (v:=Tu #[Ag #[.int .i64 V,.int .i64 F,U sl c.length cap],.int .i64 0,.int .i64 0]) (by simp[results,results60,go_sem,r0,r1,r3]) rfl ⟨U sl c.length cap,rfl,?_,?_⟩
 ·have hz:=z9 w.heap.size
  exact l9 (ownsRow_setCell_below (a:=⟨w.heap.size,2,nO⟩) (ownsRow_setCell_below (a:=⟨w.heap.size,1,nO⟩) (ownsRow_setCell_below (a:=⟨w.heap.size,0,nO⟩) hown2 hz (.int .i64 V)) hz (.int .i64 F)) hz (U sl c.length cap)) (Q6 hz)
 ·exact((HB2.setCell (lR _) _).setCell (lR _) _).setCell (lR _) _
def dD:Ins:=⟨0,0,0,0,0,0⟩
def ke (i:Ins):Value:=Ag #[.int .i64 i.k,.int .i64 i.tgt,.int .i64 i.a,.int .i64 i.b,.int .i64 i.n,.int .i64 i.g]
def lP:Option Ins->Value
 |some i=>Tu #[ke i,Bb true]
 |none=>Tu #[ke dD,Bb false]

def goI (qs:List Nat)(xs:List (List UInt8))(i:Ins):Option Ins:=match e8 xs with
 |none=>nO
 |some t=>sO (tK qs t i)
theorem VT (i:Ins):goI [] [] i=sO i:=rfl
theorem Un (q:Nat)(qs:List Nat)(x:List UInt8)(xs:List (List UInt8))(i:Ins):goI (q::qs) (x::xs) i=match bW x with
  |none=>nO
  |some v=>goI qs xs (nu q v i):=by
 unfold goI;rw[e8];cases bW x with
 |none=>rfl
 |some v=>
  cases e8 xs with
  |none=>rfl
  |some t=>rfl

def XAtO (w:World)(X:Nat)(i:Ins):Prop:=
 (w.cell? ⟨X,0,nO⟩=sO (.int .i64 i.k)/\w.cell? ⟨X,1,nO⟩=sO (.int .i64 i.tgt)/\w.cell? ⟨X,2,nO⟩=sO (.int .i64 i.a)/\w.cell? ⟨X,3,nO⟩=sO (.int .i64 i.b)/\w.cell? ⟨X,4,nO⟩=sO (.int .i64 i.n)/\w.cell? ⟨X,5,nO⟩=sO (.int .i64 i.g))/\(∀j,w.frozen? ⟨X,j,nO⟩=false)/\X < w.heap.size
theorem XAtO.call {w w':World}{X:Nat}{i:Ins}(h:XAtO w X i)(hb:bl w w'):XAtO w' X i:=by
 obtain⟨⟨h0,h1,h2,h3,h4,h5⟩,hf,hz⟩:=h;exact⟨⟨by rw[hb.cell hz];exact h0,by rw[hb.cell hz];exact h1,by rw[hb.cell hz];exact h2,by rw[hb.cell hz];exact h3,by rw[hb.cell hz];exact h4,by rw[hb.cell hz];exact h5⟩,λj=>by rw[hb.frozen hz];exact hf j,lL hz hb.size⟩
theorem XAtO.at {w:World}{X q:Nat}{i:Ins}(h:XAtO w X i):∃z,w.cell? ⟨X,kP q,nO⟩=sO (.int .i64 z):=by
 obtain⟨⟨h0,h1,h2,h3,h4,h5⟩,hf,hz⟩:=h
 match q with
 |0=>exact⟨_,h1⟩
 |1=>exact⟨_,h2⟩
 |2=>exact⟨_,h3⟩
 |3=>exact⟨_,h5⟩
 |q+4=>exact⟨_,h4⟩
theorem XAtO.put {w:World}{X q:Nat}{i:Ins}(v:Int)(h:XAtO w X i):XAtO (w.setCell ⟨X,kP q,nO⟩ (.int .i64 v)) X (nu q v i):=by
 obtain⟨⟨h0,h1,h2,h3,h4,h5⟩,hf,hz⟩:=h
 match q with
 |0=>exact⟨⟨oS,oL,oG,oP,oU,oV⟩,λj=>o9,fr⟩
 |1=>exact⟨⟨oS,oL,oG,oP,oU,oV⟩,λj=>o9,fr⟩
 |2=>exact⟨⟨oS,oL,oG,oP,oU,oV⟩,λj=>o9,fr⟩
 |3=>exact⟨⟨oS,oL,oG,oP,oU,oV⟩,λj=>o9,fr⟩
 |q+4=>exact⟨⟨oS,oL,oG,oP,oU,oV⟩,λj=>o9,fr⟩

theorem EH (l:ByteArray)(w:World)(hm:Cap w)(hl:l.size<=4000):∃x ns,((x::ns).map λb:ByteArray=>b.data.toList)=bt 32 l.data.toList/\ns.length<=4000/\
  Calls pG 211 #[.string l,.string ⟨#[32]⟩] w λe w'=>e=Rt (U (sO ⟨w.heap.size,0,nO⟩) (ns.length+1) (ns.length+1))/\(∀j (hj:j < (x::ns).length),w'.cell? ⟨w.heap.size,j,nO⟩=sO (.string (x::ns)[j]))/\w.heap.size < w'.heap.size/\bl w w':=by
 have hlen:=Lib.splitB_all ⟨#[32]⟩ ai 0 _ l rfl;have hle:=Lib.countB_le ⟨#[32]⟩ ai l.size l (lR _);have hdat:=Lib.splitB_data ⟨#[32]⟩ 0 (Lib.countB l ⟨#[32]⟩) l;have hcnt:Lib.countB l ⟨#[32]⟩=Lib.count l.data.toList [32]:=by first|rfl|exact Lib.countB_eq _ _|simp[Lib.countB]
 have hk:=CN 32 l.data.toList;rw[<-hcnt] at hk;have hd2:(Lib.splitB ⟨#[32]⟩ 0 (Lib.countB l ⟨#[32]⟩) l).map (λb:ByteArray=>b.data.toList)=bt 32 l.data.toList:=hdat.trans hk;cases hx:Lib.splitB ⟨#[32]⟩ 0 (Lib.countB l ⟨#[32]⟩) l with
 |nil=>rw[hx] at hlen;simp at hlen
 |cons x ns=>
  rw[hx] at hd2 hlen;simp only[j5] at hlen;refine⟨x,ns,hd2,aa,?_⟩;refine(Ll l (x::ns) w hm aa (by rw[j5];omega) hx).mono ?_;rintro e w' ⟨rfl,rfl⟩;refine⟨rfl,λj hj=> ?_,ah,am⟩;have:=tz w ((x::ns).map Value.string) 9 j (.string (x::ns)[j]) (by rw[z8,j8 hj];rfl);cases j with
  |zero=>exact this
  |succ j=>simp[Addr.add]

theorem oa {l:List UInt8}{x:ByteArray}{ns:List ByteArray}(h:((x::ns).map λb:ByteArray=>b.data.toList)=bt 32 l):eI l=match eH x.data.toList ns.length with
  |none=>nO
  |some k=>goI (prt k) (ns.map λb:ByteArray=>b.data.toList) ⟨k,0,0,0,0,0⟩:=by
 unfold eI goI;rw[<-h];simp only[X2,J9];cases eH x.data.toList ns.length with
 |none=>rfl
 |some k=>rfl

theorem o7 (N:Nat)(l:ByteArray)(w:World)(hl:l.size<=4000)(hs:ShpAt N shps w)(ht:Tab w)(hm:Cap w)(hE:ErrS w):
  Calls pG 175 #[.map (sO N),.string l] w λe w'=>e=Rt (lP (eI l.data.toList))/\bl w w':=by
 have hb1:=Hv;obtain⟨x,ns,hdat,hnl,hsp⟩:=EH l (w.alloc (Cc #[.int .i64 0,.int .i64 0,.int .i64 0,.int .i64 0,.int .i64 0,.int .i64 0] 100)) (hm.below hb1) hl;have hans:=oa hdat;generalize eI l.data.toList=ans at hans;have Hans:=uO hans;clear hdat hl hans;simp only[j0] at hsp;go_enter func175,ntmps175;go_wp2_with fail;refine hsp.mono ?_;rintro e w0 ⟨rfl,hcells,hz0,hb0⟩;clear hsp;have H0:bl w w0:=hb1.trans (hb0.mono ah);have R0:XAtO w0 w.heap.size dD:=by
  refine XAtO.call (w:=w.alloc (Cc #[.int .i64 0,.int .i64 0,.int .i64 0,.int .i64 0,.int .i64 0,.int .i64 0] 100)) ⟨⟨?_,?_,?_,?_,?_,?_⟩,λj=> ?_,?_⟩ (by simpa using hb0)<;>simp[go_sem,dD]
 have c0:=hcells 0 ah;have zr:w.heap.size < w0.heap.size:=aa;have hb2:Below w0.heap.size w0 (w0.alloc (Cc #[U (sO ⟨w.heap.size+1,0,nO⟩) (ns.length+1) (ns.length+1)] 31)):=am;have hfi:=Tt x N w0.heap.size (w.heap.size+1) (ns.length+1) (ns.length+1) (w0.alloc (Cc #[U (sO ⟨w.heap.size+1,0,nO⟩) (ns.length+1) (ns.length+1)] 31)) aa ((hs.below H0 (lR _)).below hb2 (lR _)) aa ah ap aX (by rw[hb2.cell (by simpa using hz0)];exact c0);rw[Nat.add_sub_cancel] at hfi;go_wp2_with fail;refine hfi.mono ?_;rintro e w1 ⟨he,hw1⟩;clear hfi;have H1:bl w0 w1:=hb2.trans (hw1.mono ah);have HW1:bl w w1:=H0.trans (H1.mono H0.size);have R1:XAtO w1 w.heap.size dD:=R0.call H1;have av:w1.cell? ⟨w0.heap.size,0,nO⟩=sO (U (sO ⟨w.heap.size+1,0,nO⟩) (ns.length+1) (ns.length+1)):=by rw[hw1.cell (by simp)];simp[go_sem]
 have zv:w0.heap.size < w1.heap.size:=by have:=hw1.size;simp at this;omega
 have hcw:∀j,j < ns.length->∃y:ByteArray,(ns.map λb:ByteArray=>b.data.toList).drop j=y.data.toList::(ns.map λb:ByteArray=>b.data.toList).drop (j+1)/\w1.cell? ⟨w.heap.size+1,j+1,nO⟩=sO (.string y):=λj hj=>by
  refine⟨ns[j],?_,?_⟩
  ·rw[q4 (by simpa using hj),X9]
  ·rw[H1.cell hz0];exact hcells (j+1) ap
 clear hcells c0 hb2 hw1 R0 hb0;have zw:w.heap.size+1 < w1.heap.size:=aa;generalize w0.heap.size=P at *;generalize hk:eH x.data.toList ns.length=ko at *;cases ko with
 |none=>
  obtain rfl:ans=none:=Hans.out;clear Hans;simp only[NT] at he;subst he;clear hcw av hk;obtain⟨⟨r0,r1,r2,r3,r4,r5⟩,rf,rz⟩:=R1;simp only[dD] at r0 r1 r2 r3 r4 r5;go_wp2;refine bodyPost_ret (v:=lP nO) MK rfl ⟨rfl,?_⟩;exact((((((HW1.setCell (lR _) _).setCell (lR _) _).setCell (lR _) _).setCell (lR _) _).setCell (lR _) _).setCell (lR _) _)
 |some K=>
  obtain⟨⟨hK1,hK19⟩,-,hnp⟩:=Pn hk;simp only[NT] at he;subst he;clear hk;have hS1:=hs.below HW1 (lR _);have hbx:Below w1.heap.size w1 (w1.alloc (Cc #[.int .i64 K,.int .i64 0,.int .i64 0,.int .i64 0,.int .i64 0,.int .i64 0] 100)):=am;obtain⟨sa,hlk,hpart⟩:=At (hS1.below hbx (lR _)) K hK1 hK19;have hpart1:∀j,j < (prt K).length->∃q:Nat,(prt K).drop j=q::(prt K).drop (j+1)/\sa=sO ⟨N+K,0,nO⟩/\w1.cell? ⟨N+K,j,nO⟩=sO (.int .i64 q)/\N+K < w1.heap.size:=by
   intro j hj;obtain⟨sa',hlk',hp'⟩:=At hS1 K hK1 hK19;obtain⟨h1,-,-⟩:=hpart j hj;obtain⟨-,h2,h3⟩:=hp' j hj;exact⟨(prt K)[j],q4 hj,h1,h2,h3⟩
  have X1:XAtO (w1.alloc (Cc #[.int .i64 K,.int .i64 0,.int .i64 0,.int .i64 0,.int .i64 0,.int .i64 0] 100)) w1.heap.size ⟨K,0,0,0,0,0⟩:=by
   refine⟨⟨?_,?_,?_,?_,?_,?_⟩,λj=> ?_,?_⟩<;>simp[go_sem]
  generalize aL K=wk at *;have Hgo:Hid (goI (prt K) (ns.map λb:ByteArray=>b.data.toList) ⟨K,0,0,0,0,0⟩=ans):=Hans.out.symm;clear Hans hpart hS1 hs;rw[hnp] at hlk hpart1;have hfld:∀wx:World,(Instr.field 228 (Ag #[.string wk,U sa ns.length ns.length]) 1).run pG wx=.ok (U sa ns.length ns.length) wx:=λ_=>ae;go_wp2;go_loopw [32] (λi wr=>∃(j:Nat) (I:Ins),j<=ns.length/\i=.int .i64 j/\Hid (goI ((prt K).drop j) ((ns.map λb:ByteArray=>b.data.toList).drop j) I=ans)/\XAtO wr w1.heap.size I/\bl w1 wr) (λi _=>ns.length - (intOf i).toNat)
  case atStart=>exact⟨0,_,j2 _,rfl,Hgo,X1,hbx⟩
  case round=>
   obtain⟨j,I,hj,rfl,HG,XR,hbr⟩:=hrel;clear X1 hbx Hgo hlk hfld;have HR:bl w wr:=HW1.trans (hbr.mono HW1.size);have RR:XAtO wr w.heap.size dD:=R1.call hbr;clear R1;by_cases hlt:j < ns.length
   ·have n0:=i7
    have n1:(j:Int) < (ns.length:Int):=aa;have n2:(0:Int)<=(j:Int)+1:=aa;have n3:(j:Int)+1 < ((ns.length+1:Nat):Int):=aa;have n4:((j:Int)+1).toNat=j+1:=aa;obtain⟨q,hdq,rfl,hq,hqz⟩:=hpart1 j aa;obtain⟨y,hdy,hy⟩:=hcw j aa;have q0:wr.cell? ⟨N+K,j,nO⟩=sO (.int .i64 q):=by rw[hbr.cell hqz];exact hq
    have w0c:wr.cell? ⟨P,0,nO⟩=sO (U (sO ⟨w.heap.size+1,0,nO⟩) (ns.length+1) (ns.length+1)):=by rw[hbr.cell zv];exact av
    have w1c:wr.cell? ⟨w.heap.size+1,j+1,nO⟩=sO (.string y):=by rw[hbr.cell zw];exact hy
    have HG2:=HG.out;rw[hdq,hdy,Un] at HG2;clear HG hq hcw hpart1 av hdq hdy hy;go_wp2_with fail;refine(kH y wr (ht.below HR) (hE.below HR)).mono ?_;rintro e w5 ⟨v,rfl,hv,hb5⟩;have XR5:=XR.call hb5;have RR5:=RR.call hb5;have B5:=nf;have HR5:=nC;clear q0 w0c w1c XR RR hb5 hbr HR;cases hn:bW y.data.toList with
    |none=>
     rw[hn] at HG2;simp only at HG2;subst HG2;clear hv hn XR5;simp only[x7];obtain⟨⟨r0,r1,r2,r3,r4,r5⟩,rf,rz⟩:=RR5;simp only[dD] at r0 r1 r2 r3 r4 r5;go_wp2;refine bodyPost_ret (v:=lP nO) MK rfl ⟨rfl,?_⟩;exact Ki
    |some n=>
     rw[hn] at HG2;simp only at HG2;obtain rfl:=hv n hn;have HG3:=uO HG2;clear HG2 hn hv RR5 HR5;simp only[x7];obtain⟨z,hz⟩:=XR5.at (q:=q);have hfz:=XR5.2.1;have hzz:=XR5.2.2;have XP:=XR5.put (q:=q) v;clear XR5;go_wp2_with fail;refine(Ul _ q _).mono ?_;rintro e w6 ⟨rfl,hw6⟩;have hw7:=hw6.symm;subst hw7;clear hw6;have B6:bl w1 (World.setCell _ (⟨w1.heap.size,kP q,nO⟩:Addr) (.int .i64 v)):=B5.setCell (lR _) _;generalize kP q=pp at *;go_wp2;go_roundw
     case rel=>exact⟨j+1,nu q v I,aa,aF,HG3,XP,B6⟩
     case measure=>exact aK
   ·have hj':j=ns.length:=by omega
    subst hj';have HG2:=HG.out;rw[q6 aa,q6 ah,VT] at HG2;subst HG2;clear HG hpart1 hcw av;obtain⟨⟨r0,r1,r2,r3,r4,r5⟩,rf,rz⟩:=RR;obtain⟨⟨x0,x1,x2,x3,x4,x5⟩,xf,xz⟩:=XR;simp only[dD] at r0 r1 r2 r3 r4 r5;go_wp2;refine bodyPost_ret (v:=lP (sO I)) (by simp[results,results175,go_sem,lP,ke,r0,r1,r2,r3,r4,r5]) rfl ⟨rfl,?_⟩;exact((((((HR.setCell (lR _) _).setCell (lR _) _).setCell (lR _) _).setCell (lR _) _).setCell (lR _) _).setCell (lR _) _)
theorem vC {l:List UInt8}{x:ByteArray}{ns:List ByteArray}(h:((x::ns).map λb:ByteArray=>b.data.toList)=bt 32 l)(hn:ns.length≠3):eE l=none:=by
 unfold eE;rw[<-h]
 match ns,hn with
 |[],_=>rfl
 |[_],_=>rfl
 |[_,_],_=>rfl
 |[_,_,_],h=>exact absurd rfl h
 |_::_::_::_::_,_=>rfl
theorem vL {l:List UInt8}{x a b c:ByteArray}(h:(([x,a,b,c]).map λb:ByteArray=>b.data.toList)=bt 32 l):eE l=if x.data.toList=nQ/\b.data.toList=mJ then(match bW a.data.toList with
  |none=>nO
  |some v=>match bW c.data.toList with
   |none=>nO
   |some f=>sO (v,f)) else none:=by
 unfold eE;rw[<-h];rfl
theorem kT {a:ByteArray}{l:List UInt8}(h:a.data.toList=l):a=⟨l.toArray⟩:=by
 apply ByteArray.ext;apply q5.1;rw[h]

def ZAt (w:World)(b:Nat):Prop:=w.cell? ⟨b,0,nO⟩=sO (.int .i64 0)/\w.cell? ⟨b,1,nO⟩=sO (.int .i64 0)/\w.cell? ⟨b,2,nO⟩=sO (U nO 0 0)/\(∀j,w.frozen? ⟨b,j,nO⟩=false)/\b < w.heap.size
theorem ZAt.new (w:World):ZAt (w.alloc (Cc #[.int .i64 0,.int .i64 0,U nO 0 0] 24)) w.heap.size:=by
 refine⟨?_,?_,?_,λj=> ?_,?_⟩<;>simp[go_sem]
theorem ZAt.call {w w':World}{b:Nat}(h:ZAt w b)(hb:bl w w'):ZAt w' b:=by
 obtain⟨h0,h1,h2,h3,hz⟩:=h;exact⟨by rw[hb.cell hz];exact h0,by rw[hb.cell hz];exact h1,by rw[hb.cell hz];exact h2,λj=>by rw[hb.frozen hz];exact h3 j,lL hz hb.size⟩

theorem pP {p:Prop}(h:p:=by
 go_wp2;refine bodyPost_ret (v:=.tuple #[.agg #[.int .i64 0,.int .i64 0,.slice none 0 0],.bool false]) DP rfl ⟨0,0,rfl,λ_ _ h=>aT,?_⟩;exact((HB.setCell (Nat.le_refl _) _).setCell (Nat.le_refl _) _).setCell (Nat.le_refl _) _):p:=h
theorem sU (l:ByteArray)(w:World)(hl:l.size<=4000)(ht:Tab w)(hm:Cap w)(hE:ErrS w):
  Calls pG 174 #[.string l] w λe w'=>∃V F,e=Rt (Tu #[Ag #[.int .i64 V,.int .i64 F,U nO 0 0],Bb (eE l.data.toList).isSome])/\(∀V' F',eE l.data.toList=sO (V',F')->V=V'/\F=F')/\bl w w':=by
 have hb1:=iV;have Z1:=ZAt.new w;obtain⟨x,ns,hdat,hnl,hsp⟩:=EH l (w.alloc (Cc #[.int .i64 0,.int .i64 0,U nO 0 0] 24)) (hm.below hb1) hl;simp only[j0] at hsp;by_cases h3:ns.length=3
 ·match ns,h3 with
  |[a,b,c],_=>
   have hh:=vL hdat;generalize eE l.data.toList=ho at hh |-;have Hh:=uO hh;clear hh hdat hl hnl;simp only[j5,Q7,j3,Qa] at hsp;go_enter func174,ntmps174;go_wp2_with fail;refine hsp.mono ?_;rintro e w0 ⟨rfl,hcells,hz0,hb0⟩;clear hsp;have Z0:=Z1.call (by simpa using hb0);have HB:bl w w0:=hb1.trans (hb0.mono ah);have c0:w0.cell? ⟨w.heap.size+1,0,nO⟩=sO (.string x):=hcells 0 ah;have c1:w0.cell? ⟨w.heap.size+1,1,nO⟩=sO (.string a):=hcells 1 ah;have c2:w0.cell? ⟨w.heap.size+1,2,nO⟩=sO (.string b):=hcells 2 ah;have c3:w0.cell? ⟨w.heap.size+1,3,nO⟩=sO (.string c):=hcells 3 ah;clear hcells hb1 hb0 Z1;by_cases hx:x.data.toList=nQ
   ·by_cases hbf:b.data.toList=mJ
    ·have ex:=kT hx
     have eb:=kT hbf;simp only[nQ] at ex;simp only[mJ] at eb;rw[if_pos ⟨hx,hbf⟩] at Hh;subst ex eb;clear hx hbf;go_wp2_with fail;refine(kH a w0 (ht.below HB) (hE.below HB)).mono ?_;rintro e w3 ⟨v,rfl,hv,hb3⟩;have Z3:=Z0.call hb3;have c4:w3.cell? ⟨w.heap.size+1,3,nO⟩=sO (.string c):=by rw[hb3.cell hz0];exact c3
     have HB3:bl w w3:=HB.trans (hb3.mono HB.size);clear Z0 c0 c1 c2 c3;have hz3:w.heap.size+1 < w3.heap.size:=lL hz0 hb3.size;clear hb3;go_wp2_with fail;refine(kH c w3 (ht.below HB3) (hE.below HB3)).mono ?_;rintro e w4 ⟨f,rfl,hf,hb4⟩;obtain⟨e0,e1,e2,ef,ez⟩:=Z3.call hb4;have HB4:bl w w4:=HB3.trans (hb4.mono HB3.size);clear Z3 c4 hb4;have hres:ho.isSome=((bW a.data.toList).isSome&&(bW c.data.toList).isSome)/\∀V' F',ho=sO (V',F')->v=V'/\f=F':=by
      rw[Hh.out];cases e1:bW a.data.toList with
      |none=>exact⟨rfl,λ_ _ h=>aT⟩
      |some v'=>
       cases e2:bW c.data.toList with
       |none=>exact⟨rfl,λ_ _ h=>aT⟩
       |some f'=>exact⟨rfl,λ_ _ h=>by cases h;exact⟨hv _ e1,hf _ e2⟩⟩
     have hr2:=uO hres.2;have hr1:=uO hres.1;clear hres hv hf Hh;generalize (bW a.data.toList).isSome=q1 at *;generalize (bW c.data.toList).isSome=q2 at *;cases q1 with
     |true=>
      go_wp2;refine bodyPost_ret (v:=Tu #[Ag #[.int .i64 v,.int .i64 f,U nO 0 0],Bb q2]) DP rfl ⟨v,f,by rw[hr1.out];simp,hr2.out,?_⟩;exact KX
     |false=>
      go_wp2;refine bodyPost_ret (v:=Tu #[Ag #[.int .i64 v,.int .i64 f,U nO 0 0],Bb false]) DP rfl ⟨v,f,by rw[hr1.out];simp,hr2.out,?_⟩;exact KX
    ·obtain rfl:ho=none:=Hh.out.trans (if_neg (λh=>hbf h.2))
     have ex:=kT hx;simp only[nQ] at ex;have hne:(b.toList==[102,105,101,108,100,115])=false:=by
      rw[beq_eq_false_iff_ne,ByteArray.toList_eq];exact hbf
     subst ex;clear Hh hx hbf;obtain⟨e0,e1,e2,ef,ez⟩:=Z0;exact pP
   ·obtain rfl:ho=none:=Hh.out.trans (if_neg (λh=>hx h.1))
    have hne:(x.toList==[118,97,114,115])=false:=by
     rw[beq_eq_false_iff_ne,ByteArray.toList_eq];exact hx
    clear Hh hx;obtain⟨e0,e1,e2,ef,ez⟩:=Z0;exact pP
 ·have hh:=vC hdat h3
  rw[hh];have hn4:ns.length+1≠4:=aa;clear hdat hl hh h3;generalize ns.length+1=n at *;have hn5:((n:Int)!=4)=true:=ap;go_enter func174,ntmps174;go_wp2_with fail;refine hsp.mono ?_;rintro e w0 ⟨rfl,-,hz0,hb0⟩;clear hsp;obtain⟨e0,e1,e2,ef,ez⟩:=Z1.call (by simpa using hb0);have HB:bl w w0:=hb1.trans (hb0.mono ah);clear hb1 hb0 Z1;exact pP

theorem MX (s a b:ByteArray)(en:Bool)(w:World)(hm:Cap w)(hs:s.size < 4294967281)(hc:Lib.cut s.data.toList [10]=(a.data.toList,b.data.toList,en)):
  Calls pG 173 #[.string s,.string ⟨#[10]⟩] w λe w'=>e=Rt (Tu #[.string a,.string b,Bb en])/\bl w w':=by
 obtain⟨m,hm⟩:=hm;refine(Tryz.strings_Cut s ⟨#[10]⟩ m w hs hm).mono ?_;rintro e w' ⟨rfl,n,rfl⟩;have hc':Lib.cut s.data.toList (⟨#[10]⟩:ByteArray).data.toList=(a.data.toList,b.data.toList,en):=hc;rw[hc'];exact⟨rfl,below_drewN (bR _ _) n⟩

theorem Ba {p:Prop}(h:p:=by
 go_wp2;refine bodyPost_ret (v:=.tuple #[.agg #[.int .i64 V,.int .i64 F,.slice none 0 0],.int .i64 1]) (by simp[results,results117,go_sem,r0,r1,r2,rz,Nat.ne_of_lt rz]) rfl ⟨V,F,_,rfl,⟨_,_,_,rfl⟩,?_⟩;first|exact(((H2.setCell (Nat.le_refl _) _).setCell (Nat.le_refl _) _).setCell (Nat.le_refl _) _).alloc ap _|exact(((H2.alloc H2.size _).setCell (Nat.le_refl _) _).setCell (Nat.le_refl _) _).setCell (Nat.le_refl _) _):p:=h
theorem nv (s H T:ByteArray)(en:Bool)(w:World)(ht:Tab w)(hm:Cap w)(hE:ErrS w)(hs:s.size<=4000)(hH:H.size<=4000)(hcH:Lib.cut s.data.toList [10]=(H.data.toList,T.data.toList,en))(hbad:(en&&(eE H.data.toList).isSome)=false):
  Calls pG 117 #[.string s] w λe w'=>∃V F v,e=Rt (Tu #[Ag #[.int .i64 V,.int .i64 F,v],.int .i64 1])/\(∃a l c,v=U a l c)/\bl w w':=by
 have hb0:=iV;have Z0:=ZAt.new w;go_enter func117,ntmps117;go_wp2_with fail;refine(MX s H T en _ (hm.below hb0) aa hcH).mono ?_;rintro e w1 ⟨rfl,hb1⟩;have H1:=ya;have Z1:=Z0.call hb1;clear Z0 hb1 hcH;go_wp2_with fail;refine(sU H w1 hH (ht.below H1) (hm.below H1) (hE.below H1)).mono ?_;rintro e w2 ⟨V,F,rfl,-,hb2⟩;have H2:bl w w2:=H1.trans (hb2.mono H1.size);obtain⟨r0,r1,r2,rf,rz⟩:=Z1.call hb2;clear Z1 hb2;generalize (eE H.data.toList).isSome=q at *;cases en with
 |false=>
  exact Ba
 |true=>
  obtain rfl:q=false:=by simpa using hbad
  exact Ba
theorem AK {p:Prop}(h:p:=by
 have n0:(k:Int)+2 < 5000:=aa;have hcut:=yg (T k) (L k) (T (k+1)) wr (hm.below HR) (by have:=hT k;omega) (hc k hlt)
 go_wp2_with fail;refine hcut.mono ?_;rintro e w4 ⟨rfl,hb4⟩;have H4:bl w w4:=HR.trans (hb4.mono HR.size);have hs4:ShpAt (w2.heap.size+1) shps w4:=hsh.of_blocks (λj hj hj'=>Nr);go_wp2_with fail;refine(hI k hlt _ w4 hs4 (ht.below H4) (hm.below H4) (hEr.below H4)).mono ?_;rintro e w5 ⟨rfl,hb5⟩;have B5:∀j,j < wr.heap.size->w5.heap[j]? =wr.heap[j]? :=λj hj=>MC;have S5:wr.heap.size<=w5.heap.size:=Nat.le_trans hb4.size hb5.size;obtain⟨P0,P1,P2,Pf⟩:PrgAt w5 w2.heap.size V F (.slice sl k cap):=PrgAt.block ⟨p0,p1,p2,pf⟩ (B5 _ hBr);have hB5:w2.heap.size < w5.heap.size:=aa;have hown5:=bB hown (λj hj=>B5 j (cn hown hj).1);clear hcut hs4 hsh;have hnews:∀j u,(cR (I k))[j]? =some u->((w5.alloc (.cells #[.int .i64 (I k).k,.int .i64 (I k).tgt,.int .i64 (I k).a,.int .i64 (I k).b,.int .i64 (I k).n,.int .i64 (I k).g] 100)).alloc (.cells #[.int .i64 (I k).k,.int .i64 (I k).tgt,.int .i64 (I k).a,.int .i64 (I k).b,.int .i64 (I k).n,.int .i64 (I k).g] 100)).cell? ((⟨w5.heap.size+1,0,none⟩:Addr).add j)=some u:=by
  have:=tz (w5.alloc (.cells #[.int .i64 (I k).k,.int .i64 (I k).tgt,.int .i64 (I k).a,.int .i64 (I k).b,.int .i64 (I k).n,.int .i64 (I k).g] 100)) (cR (I k)) 100;intro j u hj;have h:=this j u hj;simp only[World.size_alloc] at h;exact h
 have hG:∀w6,((w5.alloc (.cells #[.int .i64 (I k).k,.int .i64 (I k).tgt,.int .i64 (I k).a,.int .i64 (I k).b,.int .i64 (I k).n,.int .i64 (I k).g] 100)).alloc (.cells #[.int .i64 (I k).k,.int .i64 (I k).tgt,.int .i64 (I k).a,.int .i64 (I k).b,.int .i64 (I k).n,.int .i64 (I k).g] 100)).grownBy w6 (Value.slice sl k cap).ownBlock->w6.heap[w2.heap.size]? =w5.heap[w2.heap.size]? :=λw6 hgrow=>by
  rw[hgrow.block _ ap (λe=>uG),Below.heap_alloc _ _ _ ap,Below.heap_alloc _ _ _ aa]
 have hH6:∀w6,((w5.alloc (.cells #[.int .i64 (I k).k,.int .i64 (I k).tgt,.int .i64 (I k).a,.int .i64 (I k).b,.int .i64 (I k).n,.int .i64 (I k).g] 100)).alloc (.cells #[.int .i64 (I k).k,.int .i64 (I k).tgt,.int .i64 (I k).a,.int .i64 (I k).b,.int .i64 (I k).n,.int .i64 (I k).g] 100)).grownBy w6 (Value.slice sl k cap).ownBlock->bl w2 w6:=λw6 hgrow=>
  ((((hbr.trans (hb4.mono aa)).trans (hb5.mono (by have:=hb4.size;omega))).alloc aa _).alloc ap _).grown hgrow ap (λj hj=>Dt)
 have hflat:gA ((List.range (k+1)).map I)=gA ((List.range k).map I)++cR (I k):=by
  rw[List.range_succ,List.map_append,gA,List.flatMap_append];simp[gA]
 have hone:∀u∈cR (I k),u.oneCell'=true:=DX;have hba:w3.heap.size<=((w5.alloc (.cells #[.int .i64 (I k).k,.int .i64 (I k).tgt,.int .i64 (I k).a,.int .i64 (I k).b,.int .i64 (I k).n,.int .i64 (I k).g] 100)).alloc (.cells #[.int .i64 (I k).k,.int .i64 (I k).tgt,.int .i64 (I k).a,.int .i64 (I k).b,.int .i64 (I k).n,.int .i64 (I k).g] 100)).heap.size:=ap;go_wp2_with (at_builtin;refine wpList_append_own _ rfl _ _ 22 rfl w3.heap.size 100 ti (.agg #[.int .i64 0,.int .i64 0,.int .i64 0,.int .i64 0,.int .i64 0,.int .i64 0]) 6 48 underlying22 hi hz0 hz1 hz2 rfl ai _ _ _ rfl ((hown5.alloc _).alloc _) ⟨w5.heap.size+1,0,none⟩ 1 1 (cR (I k)) rfl rfl hnews hone cO aa hba ?_;intro v' w6 hown' hgrow hnil;obtain⟨g,cap',rfl,hg,hlt'⟩:=hown'.form (Nat.succ_pos _);obtain⟨Q0,Q1,Q2,Qf⟩:PrgAt w6 w2.heap.size V F (.slice sl k cap):=PrgAt.block ⟨P0,P1,P2,Pf⟩ (hG w6 hgrow));go_roundw
 case rel=>
  refine⟨k+1,_,hlt,rfl,aF,PrgAt.set ⟨Q0,Q1,Q2,Qf⟩ _,ownsRow_setCell_below ?_ s3 _,?_,?_,?_⟩
  ·rw[hflat];exact hown'
  ·exact(hH6 w6 hgrow).setCell (Nat.le_refl _) _
  ·have:=hgrow.size;simp at this |-;omega
  ·intro j hj hj'
   rw[Below.heap_setCell _ _ _ _ hj',hgrow.block j ap (λe=>uG),Below.heap_alloc _ _ _ ap,Below.heap_alloc _ _ _ aa,B5 j aa];exact hsame j hj hj'
 case measure=>exact aK):p:=h
theorem CV (n:Nat)(hn:n<=4001)(s H:ByteArray)(V F:Int)(T L:Nat->ByteArray)(I:Nat->Ins)(w:World)(ht:Tab w)(hm:Cap w)(hEr:ErrS w)(hs:s.size < 5000)(hT:∀k,(T k).size < 5000)
  (hcH:Lib.cut s.data.toList [10]=(H.data.toList,(T 0).data.toList,true))
  (hH:∀w,Tab w->Cap w->ErrS w->Calls pG 174 #[.string H] w λe w'=>e=Rt (Tu #[Ag #[.int .i64 V,.int .i64 F,U nO 0 0],Bb true])/\bl w w')
  (hc:∀k,k < n->Lib.cut (T k).data.toList [10]=((L k).data.toList,(T (k+1)).data.toList,true))(h0:∀k,k < n->(T k)≠⟨#[]⟩)(hE:T n=⟨#[]⟩)
  (hI:∀k,k < n->∀N w,ShpAt N shps w->Tab w->Cap w->ErrS w->Calls pG 175 #[.map (sO N),.string (L k)] w λe w'=>e=Rt (Tu #[Ag #[.int .i64 (I k).k,.int .i64 (I k).tgt,.int .i64 (I k).a,.int .i64 (I k).b,.int .i64 (I k).n,.int .i64 (I k).g],Bb true])/\bl w w'):
  Calls pG 117 #[.string s] w λe w'=>∃v,e=Rt (Tu #[Ag #[.int .i64 V,.int .i64 F,v],.int .i64 0])/\w'.ownsRow w.heap.size 100 6 v n (gA ((j6 n).map I))/\bl w w':=by
 obtain⟨ti,hi,hz0,hz1,hz2⟩:=info_parts wI;have hb0:=iV;go_enter func117,ntmps117;go_wp2_with fail;refine(yg s H (T 0) _ (hm.below hb0) aa hcH).mono ?_;rintro e w1 ⟨rfl,hb1⟩;have H1:=ya;go_wp2_with fail;refine(hH _ (ht.below H1) (hm.below H1) (hEr.below H1)).mono ?_;rintro e w2 ⟨rfl,hb2⟩;have H2:bl w w2:=H1.trans (hb2.mono H1.size);have r2:w2.heap[w.heap.size]? =sO (Cc #[.int .i64 0,.int .i64 0,U nO 0 0] 24 (0,0)):=by
  have s1:=hb1.size;rw[hb2.block _ (by simp at s1;omega),hb1.block _ ah];exact(MapKept.heap_alloc _ _).1
 have z2:w.heap.size < w2.heap.size:=(j7.1 r2).1;go_wp2_with fail;refine(mv _).mono ?_;rintro e w3 ⟨rfl,hsh,hb3⟩;have q3:PrgAt w3 w2.heap.size V F (U nO 0 0):=by
  have hb:=hb3.block w2.heap.size ah;refine PrgAt.block ⟨?_,?_,?_,λj=> ?_⟩ hb<;>simp[go_sem]
 have s3:w2.heap.size < w3.heap.size:=DA;have H3:=II;simp at hsh;clear hb1 hb2;go_wp2;go_loopw [0,9] (λt l wr=>∃k v,k<=n/\t=.string (T k)/\l=.int .i64 ((k:Int)+2)/\PrgAt wr w2.heap.size V F v/\wr.ownsRow w3.heap.size 100 6 v k (gA ((j6 k).map I))/\bl w2 wr/\w3.heap.size<=wr.heap.size/\∀j,j < w3.heap.size->j≠w2.heap.size->wr.heap[j]? =w3.heap[j]?) (λ_ l _=>n+2 - (intOf l).toNat)
 case atStart=>exact⟨0,_,j2 _,rfl,rfl,q3,q8 _ _ _ _,H3,lR _,λ_ _ _=>rfl⟩
 case round=>
  obtain⟨k,v,hk,rfl,rfl,hp,hown,hbr,hsz,hsame⟩:=hrel;obtain⟨sl,cap,rfl,hcode⟩:∃sl cap,v=U sl k cap/\CodeAt wr sl ((j6 k).map I):=by
   have:=dA (c:=(j6 k).map I) (by simpa using hown);simpa using this
  obtain⟨p0,p1,p2,pf⟩:=hp;have hBr:w2.heap.size < wr.heap.size:=aa;have HR:bl w wr:=H2.trans (hbr.mono aa);by_cases hlt:k < n
  ·have hne:(T k).toList.isEmpty=false:=by
    rw[ByteArray.toList_eq,x9];intro e;exact h0 k hlt (ByteArray.ext kQ)
   exact AK
  ·have hk':k=n:=by omega
   subst hk';have rb:=Kk;have rc:∀j,wr.cell? ⟨w.heap.size,j,nO⟩=(#[.int .i64 0,.int .i64 0,U nO 0 0]:Array Value)[j]? :=λj=>u7;have rf:∀j,wr.frozen? ⟨w.heap.size,j,nO⟩=false:=λj=>by simp[World.frozen?,rb]
   have r0:wr.cell? ⟨w.heap.size,0,nO⟩=sO (.int .i64 0):=rc 0;have r1:wr.cell? ⟨w.heap.size,1,nO⟩=sO (.int .i64 0):=rc 1;have r3:wr.cell? ⟨w.heap.size,2,nO⟩=sO (U nO 0 0):=rc 2;have hne:(T k).toList.isEmpty=true:=by rw[hE,ByteArray.toList_eq];rfl
   have zr:w.heap.size < wr.heap.size:=aa;clear rb rc;go_wp2;refine bodyPost_ret (v:=Tu #[Ag #[.int .i64 V,.int .i64 F,U sl k cap],.int .i64 0]) (by simp[results,results117,go_sem,r0,r1,r3]) rfl ⟨U sl k cap,rfl,?_,?_⟩
   ·have hz:w.heap.size < w3.heap.size:=by omega
    exact l9 (ownsRow_setCell_below (a:=⟨w.heap.size,2,nO⟩) (ownsRow_setCell_below (a:=⟨w.heap.size,1,nO⟩) (ownsRow_setCell_below (a:=⟨w.heap.size,0,nO⟩) hown hz (.int .i64 V)) hz (.int .i64 F)) hz (U sl k cap)) (Q6 hz)
   ·exact((HR.setCell (lR _) _).setCell (lR _) _).setCell (lR _) _

theorem sC {p:Prop}(h:p:=by
 go_wp2;refine bodyPost_ret (v:=.tuple #[.agg #[.int .i64 V,.int .i64 F,.slice sl k cap],.int .i64 ((k:Int)+2)]) (by simp[results,results117,go_sem,r0,r1,r3,rz,Nat.ne_of_lt rz]) rfl ⟨V,F,_,rfl,⟨_,_,_,rfl⟩,?_⟩;first|exact(hfin _ H5).alloc ap _|exact hfin _ (H5.alloc H5.size _)):p:=h
theorem Dz (n:Nat)(hn:n<=4001)(s H:ByteArray)(V F:Int)(T L:Nat->ByteArray)(I:Nat->Ins)(w:World)(ht:Tab w)(hm:Cap w)(hEr:ErrS w)(hs:s.size < 5000)(hT:∀k,(T k).size < 5000)
  (hcH:Lib.cut s.data.toList [10]=(H.data.toList,(T 0).data.toList,true))
  (hH:∀w,Tab w->Cap w->ErrS w->Calls pG 174 #[.string H] w λe w'=>e=Rt (Tu #[Ag #[.int .i64 V,.int .i64 F,U nO 0 0],Bb true])/\bl w w')
  (hc:∀k,k < n->Lib.cut (T k).data.toList [10]=((L k).data.toList,(T (k+1)).data.toList,true))(h0:∀k,k < n->(T k)≠⟨#[]⟩)(hne0:T n≠⟨#[]⟩)(X Y:ByteArray)(en:Bool)(hX:X.size<=4000)(hcX:Lib.cut (T n).data.toList [10]=(X.data.toList,Y.data.toList,en))(hbad:(en&&(eI X.data.toList).isSome)=false)
  (hI:∀k,k < n->∀N w,ShpAt N shps w->Tab w->Cap w->ErrS w->Calls pG 175 #[.map (sO N),.string (L k)] w λe w'=>e=Rt (Tu #[Ag #[.int .i64 (I k).k,.int .i64 (I k).tgt,.int .i64 (I k).a,.int .i64 (I k).b,.int .i64 (I k).n,.int .i64 (I k).g],Bb true])/\bl w w'):
  Calls pG 117 #[.string s] w λe w'=>∃V F v,e=Rt (Tu #[Ag #[.int .i64 V,.int .i64 F,v],.int .i64 ((n:Int)+2)])/\(∃a l c,v=U a l c)/\bl w w':=by
 obtain⟨ti,hi,hz0,hz1,hz2⟩:=info_parts wI;have hb0:=iV;go_enter func117,ntmps117;go_wp2_with fail;refine(yg s H (T 0) _ (hm.below hb0) aa hcH).mono ?_;rintro e w1 ⟨rfl,hb1⟩;have H1:=ya;go_wp2_with fail;refine(hH _ (ht.below H1) (hm.below H1) (hEr.below H1)).mono ?_;rintro e w2 ⟨rfl,hb2⟩;have H2:bl w w2:=H1.trans (hb2.mono H1.size);have r2:w2.heap[w.heap.size]? =sO (Cc #[.int .i64 0,.int .i64 0,U nO 0 0] 24 (0,0)):=by
  have s1:=hb1.size;rw[hb2.block _ (by simp at s1;omega),hb1.block _ ah];exact(MapKept.heap_alloc _ _).1
 have z2:w.heap.size < w2.heap.size:=(j7.1 r2).1;go_wp2_with fail;refine(mv _).mono ?_;rintro e w3 ⟨rfl,hsh,hb3⟩;have q3:PrgAt w3 w2.heap.size V F (U nO 0 0):=by
  have hb:=hb3.block w2.heap.size ah;refine PrgAt.block ⟨?_,?_,?_,λj=> ?_⟩ hb<;>simp[go_sem]
 have s3:w2.heap.size < w3.heap.size:=DA;have H3:=II;simp at hsh;clear hb1 hb2;go_wp2;go_loopw [0,9] (λt l wr=>∃k v,k<=n/\t=.string (T k)/\l=.int .i64 ((k:Int)+2)/\PrgAt wr w2.heap.size V F v/\wr.ownsRow w3.heap.size 100 6 v k (gA ((j6 k).map I))/\bl w2 wr/\w3.heap.size<=wr.heap.size/\∀j,j < w3.heap.size->j≠w2.heap.size->wr.heap[j]? =w3.heap[j]?) (λ_ l _=>n+2 - (intOf l).toNat)
 case atStart=>exact⟨0,_,j2 _,rfl,rfl,q3,q8 _ _ _ _,H3,lR _,λ_ _ _=>rfl⟩
 case round=>
  obtain⟨k,v,hk,rfl,rfl,hp,hown,hbr,hsz,hsame⟩:=hrel;obtain⟨sl,cap,rfl,hcode⟩:∃sl cap,v=U sl k cap/\CodeAt wr sl ((j6 k).map I):=by
   have:=dA (c:=(j6 k).map I) (by simpa using hown);simpa using this
  obtain⟨p0,p1,p2,pf⟩:=hp;have hBr:w2.heap.size < wr.heap.size:=aa;have HR:bl w wr:=H2.trans (hbr.mono aa);by_cases hlt:k < n
  ·have hne:(T k).toList.isEmpty=false:=by
    rw[ByteArray.toList_eq,x9];intro e;exact h0 k hlt (ByteArray.ext kQ)
   exact AK
  ·have hk':k=n:=by omega
   subst hk';have rb:=Kk;have zr:w.heap.size < wr.heap.size:=aa;have Zr:ZAt wr w.heap.size:=⟨u7,u7,u7,λj=>by simp[World.frozen?,rb],zr⟩;have hne:(T k).toList.isEmpty=false:=by
    rw[ByteArray.toList_eq,x9];intro e;exact hne0 (ByteArray.ext kQ)
   clear rb;go_wp2_with fail;refine(MX (T k) X Y en wr (hm.below HR) (by have:=hT k;omega) hcX).mono ?_;rintro e w4 ⟨rfl,hb4⟩;have H4:bl w w4:=HR.trans (hb4.mono HR.size);have hs4:ShpAt (w2.heap.size+1) shps w4:=hsh.of_blocks (λj hj hj'=>Nr);go_wp2_with fail;refine(o7 _ X w4 hX hs4 (ht.below H4) (hm.below H4) (hEr.below H4)).mono ?_;rintro e w5 ⟨he5,hb5⟩;have B5:∀j,j < wr.heap.size->w5.heap[j]? =wr.heap[j]? :=λj hj=>MC;obtain⟨P0,P1,P2,Pf⟩:PrgAt w5 w2.heap.size V F (U sl k cap):=PrgAt.block ⟨p0,p1,p2,pf⟩ (B5 _ hBr);have hB5:w2.heap.size < w5.heap.size:=by have:=hb4.size;have:=hb5.size;omega
   obtain⟨r0,r1,r3,rf,rz⟩:=(Zr.call hb4).call hb5;have H5:bl w w5:=H4.trans (hb5.mono H4.size);clear Zr hs4 hsh p0 p1 p2 pf;generalize eI X.data.toList=o at *;have hfin:∀wx,bl w wx->bl w (((wx.setCell ⟨w.heap.size,0,nO⟩ (.int .i64 V)).setCell ⟨w.heap.size,1,nO⟩ (.int .i64 F)).setCell ⟨w.heap.size,2,nO⟩ (U sl k cap)):=λwx h=>((h.setCell (lR _) _).setCell (lR _) _).setCell (lR _) _;cases o with
   |none=>
    simp only[lP,ke,dD] at he5;subst he5;cases en with
    |false=>
     exact sC
    |true=>
     exact sC
   |some i=>
    obtain rfl:en=false:=by simpa using hbad
    simp only[lP,ke] at he5;subst he5;exact sC
def aD (s:ByteArray):(Int×Int×lI)×Int×Int:=
 if 4000 < s.size then((0,0,[]),0,2) else match d8 s.data.toList with
  |.error k=>((0,0,[]),k,1)
  |.ok (V,F,c)=>if au V F c=0 then((V,F,c),0,0) else((0,0,[]),0,au V F c)

theorem mN (a:ByteArray)(l:List UInt8)(h:a.data.toList=l):a.size=l.length:=by rw[<-h,gI]

theorem UC {H:ByteArray}{V F:Int}(hl:H.size<=4000)(h:eE H.data.toList=sO (V,F)):∀w,Tab w->Cap w->ErrS w->Calls pG 174 #[.string H] w λe w'=>e=Rt (Tu #[Ag #[.int .i64 V,.int .i64 F,U nO 0 0],Bb true])/\bl w w':=by
 intro w ht hm hE;refine(sU H w hl ht hm hE).mono ?_;rintro e w' ⟨V',F',rfl,h2,hb⟩;obtain⟨rfl,rfl⟩:=h2 _ _ h;rw[h];exact⟨rfl,hb⟩
theorem UI {L:ByteArray}{i:Ins}(hl:L.size<=4000)(h:eI L.data.toList=sO i):∀N w,ShpAt N shps w->Tab w->Cap w->ErrS w->Calls pG 175 #[.map (sO N),.string L] w λe w'=>e=Rt (Tu #[Ag #[.int .i64 i.k,.int .i64 i.tgt,.int .i64 i.a,.int .i64 i.b,.int .i64 i.n,.int .i64 i.g],Bb true])/\bl w w':=by
 intro N w hs ht hm hE;refine(o7 N L w hl hs ht hm hE).mono ?_;rintro e w' ⟨rfl,hb⟩;rw[h];exact⟨rfl,hb⟩

theorem Bi {p:Prop}(h:p:=by
 intro k;rw[mN _ _ (eU _ _)];by_cases hk:k < (y::r).length
 ·rw[lC hk]
  exact Nat.le_trans (iT 10 _ _ (List.mem_cons_of_mem _ (List.getElem_mem hk))) hall
 ·rw[List.getD,List.getElem?_eq_none aa];simp):p:=h
theorem vT (s:ByteArray)(V F:Int)(c:lI)(w:World)(hs:s.size<=4000)(ht:Tab w)(hm:Cap w)(hE:ErrS w)(h:d8 s.data.toList=.ok (V,F,c)):
  Calls pG 117 #[.string s] w λe w'=>∃v,e=Rt (Tu #[Ag #[.int .i64 V,.int .i64 F,v],.int .i64 0])/\w'.ownsRow w.heap.size 100 6 v c.length (gA c)/\bl w w':=by
 have hg:=kS 10 s.data.toList;have hfree:=n7 10 s.data.toList;have hcl:=kL 10 s.data.toList;rw[gI] at hcl;unfold d8 at h;split at h
 ·rename_i x y r hc
  rw[hc] at hg hfree hcl;simp only[j5] at hcl;have hall:(gV 10 (x::y::r)).length<=4000:=by rw[hg,gI];exact hs
  split at h
  ·cases h
  ·rename_i V' F' hh
   split at h
   ·cases h
   ·rename_i c' hcc
    cases h;obtain⟨h1,h2,h3⟩:=MH hcc;have hxl:(lnB (x::y::r) 0).size<=4000:=by
     rw[mN _ _ (eU _ _)];exact lT (iT 10 _ _ ah) hall
    have hll:∀k,(lnB (y::r) k).size<=4000:=by
     exact Bi
    have htl:∀k,(txB (y::r) k).size<=4000:=by
     intro k;rw[mN _ _ (fY _ _)];refine lT (uo 10 _ _) (lT ?_ hall);rw[iW];simp;omega
    have hfy:=KJ;have hmain:=CV c.length (by simp only[j5] at h1;omega) s (lnB (x::y::r) 0) V F (txB (y::r)) (lnB (y::r)) (λk=>c.getD k dD) w ht hm hE aa (λk=>by have:=htl k;omega)
     (by
      have:=Mv 10 x (gV 10 (y::r)) (hfree x ah);rw[<-iW,hg] at this;rw[this,eU,fY];rfl)
     (UC hxl (by rw[eU];exact hh))
     (λk hk=>Bg aa hfy)
     (λk hk=>Pb aa)
     (by
      apply ByteArray.ext;apply q5.1;rw[Su aa];exact h2)
     (λk hk=>UI (hll k) (by rw[eU,h3 k hk];simp[q9,j8 hk]))
    have hmap:(j6 c.length).map (λk=>c.getD k dD)=c:=by
     apply List.ext_getElem
     ·simp
     ·intro k hk1 hk2
      simp[q9,j8 hk2]
    rw[hmap] at hmain;exact hmain
 ·cases h

theorem Lo (s:ByteArray)(k:Nat)(w:World)(hs:s.size<=4000)(ht:Tab w)(hm:Cap w)(hE:ErrS w)(h:d8 s.data.toList=.error k):
  Calls pG 117 #[.string s] w λe w'=>∃V F v,e=Rt (Tu #[Ag #[.int .i64 V,.int .i64 F,v],.int .i64 k])/\k≠0/\(∃a l c,v=U a l c)/\bl w w':=by
 have hg:=kS 10 s.data.toList;have hfree:=n7 10 s.data.toList;have hcl:=kL 10 s.data.toList;rw[gI] at hcl;obtain⟨x,r,hc⟩:=ge 10 s.data.toList;rw[hc] at hg hfree hcl;have hall:(gV 10 (x::r)).length<=4000:=by rw[hg,gI];exact hs
 have hxl:(lnB (x::r) 0).size<=4000:=by
  rw[mN _ _ (eU _ _)];exact lT (iT 10 _ _ ah) hall
 unfold d8 at h;rw[hc] at h;cases r with
 |nil=>
  cases h;have hcut:=MY (ls:=[x]) (k:=0) rfl hfree;rw[fY,J4,hg] at hcut;refine(nv s (lnB [x] 0) ⟨#[]⟩ false w ht hm hE hs hxl hcut rfl).mono ?_;rintro e w' ⟨V,F,v,rfl,hv,hb⟩;exact⟨V,F,v,rfl,aa,hv,hb⟩
 |cons y r=>
  simp only[j5] at hcl;have hcut:=Bg (ls:=x::y::r) (k:=0) ah hfree;rw[fY,J4,hg] at hcut;simp only at h;cases hh:eE x with
  |none=>
   rw[hh] at h;cases h;refine(nv s (lnB (x::y::r) 0) (txB (x::y::r) 1) true w ht hm hE hs hxl hcut (by rw[eU];show (true&&(eE x).isSome)=false;rw[hh];rfl)).mono ?_;rintro e w' ⟨V,F,v,rfl,hv,hb⟩;exact⟨V,F,v,rfl,aa,hv,hb⟩
  |some vf=>
   obtain⟨V,F⟩:=vf;rw[hh] at h;simp only at h;cases hcc:eF 2 (y::r) with
   |ok c=>rw[hcc] at h;cases h
   |error e=>
    rw[hcc] at h;cases h;obtain⟨n,h1,h2,h3,h4⟩:=Ke ah hcc;subst h1;have hll:∀k,(lnB (y::r) k).size<=4000:=by
     exact Bi
    have htl:∀k,(txB (y::r) k).size<=4000:=by
     intro k;rw[mN _ _ (fY _ _)];refine lT (uo 10 _ _) (lT ?_ hall);rw[iW];simp;omega
    have hfy:=KJ;have hend:txB (y::r) n≠⟨#[]⟩/\∃(Y:ByteArray) (en:Bool),Lib.cut (txB (y::r) n).data.toList [10]=((lnB (y::r) n).data.toList,Y.data.toList,en)/\(en&&(eI (lnB (y::r) n).data.toList).isSome)=false:=by
     rcases h4 with⟨h5,h6⟩|⟨h5,h6⟩
     ·refine⟨λe=>h6 ?_,_,_,MY h5 hfy,rfl⟩
      rw[<-Su h5,e]
     ·refine⟨Pb h5,_,_,Bg h5 hfy,?_⟩
      rw[eU,h6];rfl
    obtain⟨he1,Y,en,he2,he3⟩:=hend;refine(Dz n (by simp only[j5] at h2;omega) s (lnB (x::y::r) 0) V F (txB (y::r)) (lnB (y::r)) (λk=>(eI ((y::r).getD k [])).getD dD) w ht hm hE aa (λk=>by have:=htl k;omega)
     (by rw[hcut];rfl)
     (UC hxl (by rw[eU];exact hh))
     (λk hk=>Bg aa hfy)
     (λk hk=>Pb aa)
     he1 (lnB (y::r) n) Y en (hll n) he2 he3
     (λk hk=>UI (hll k) (by obtain⟨i,hi⟩:=h3 k hk;rw[eU,hi];rfl))).mono ?_
    rintro e w' ⟨V',F',v,rfl,hv,hb⟩;refine⟨V',F',v,?_,aa,hv,hb⟩;rw[show ((2+n:Nat):Int)=(n:Int)+2 by omega]

theorem RZ (s:ByteArray)(w:World)(ht:Tab w)(hm:Cap w)(hE:ErrS w):
  Calls pG 60 #[.string s] w λe w'=>∃v,e=Rt (Tu #[Ag #[.int .i64 (aD s).1.1,.int .i64 (aD s).1.2.1,v],.int .i64 (aD s).2.1,.int .i64 (aD s).2.2])/\w'.ownsRow w.heap.size 100 6 v (aD s).1.2.2.length (gA (aD s).1.2.2)/\bl w w':=by
 have hb0:=iV;have Z0:=ZAt.new w;by_cases hs:4000 < s.size
 ·have hp:aD s=((0,0,[]),0,2):=by unfold aD;rw[if_pos hs]
  rw[hp];have n0:=pa;clear hp Z0 hb0;go_enter func60,ntmps60;go_wp2;refine bodyPost_ret (v:=Tu #[Ag #[.int .i64 0,.int .i64 0,U nO 0 0],.int .i64 0,.int .i64 2]) (by simp[results,results60,go_sem]) rfl ⟨_,rfl,q8 _ _ _ _,?_⟩;go_grown
 ·have hs':s.size<=4000:=by omega
  have n0:=nz;cases hr:d8 s.data.toList with
  |error k=>
   have hp:aD s=((0,0,[]),(k:Int),1):=by unfold aD;rw[if_neg hs,hr]
   rw[hp];have hL:=Lo s k _ hs' (ht.below hb0) (hm.below hb0) (hE.below hb0) hr;clear hp hr;go_enter func60,ntmps60;go_wp2_with fail;refine hL.mono ?_;rintro e w1 ⟨V,F,v,rfl,hk0,⟨a,l,c,rfl⟩,hb1⟩;have HB1:bl w w1:=hb0.trans (hb1.mono ah);obtain⟨e0,e1,e2,ef,ez⟩:=Z0.call hb1;have hk1:((k:Int)!=0)=true:=ap;clear hL hk0 Z0 hb0 hb1;go_wp2;refine bodyPost_ret (v:=Tu #[Ag #[.int .i64 0,.int .i64 0,U nO 0 0],.int .i64 (k:Int),.int .i64 1]) Nn rfl ⟨_,rfl,q8 _ _ _ _,?_⟩;first|exact(((HB1.setCell (lR _) _).setCell (lR _) _).setCell (lR _) _)|exact(((HB1.setCell (lR _) _).setCell (lR _) _).setCell (lR _) _).alloc ap _
  |ok p=>
   obtain⟨V,F,c⟩:=p;by_cases h0:au V F c=0
   ·have hp:aD s=((V,F,c),0,0):=by unfold aD;rw[if_neg hs,hr];simp only;rw[if_pos h0]
    rw[hp];exact Te V F c s w hs' h0 (λw' hb=>vT s V F c w' hs' (ht.below hb) (hm.below hb) (hE.below hb) hr)
   ·have hp:aD s=((0,0,[]),0,au V F c):=by unfold aD;rw[if_neg hs,hr];simp only;rw[if_neg h0]
    rw[hp];have hL:=vT s V F c _ hs' (ht.below hb0) (hm.below hb0) (hE.below hb0) hr;clear hp hr;go_enter func60,ntmps60;go_wp2_with fail;refine hL.mono ?_;rintro e w1 ⟨v,rfl,hown,hb1⟩;obtain⟨sl,cap,rfl,hc⟩:=dA hown;have HB1:bl w w1:=hb0.trans (hb1.mono ah);have Z1:=Z0.call hb1;have hb2:=Kh;have hC2:=fL V F sl cap c _ (hc.below hb2 (lR _));clear hL Z0 hb0 hb1 hown hc;go_wp2_with fail;refine hC2.mono ?_;rintro e w2 ⟨rfl,hb3⟩;have HB2:bl w w2:=(HB1.trans (hb2.mono HB1.size)).trans (hb3.mono (by simp;have:=HB1.size;omega))
    obtain⟨e0,e1,e2,ef,ez⟩:=(Z1.call hb2).call hb3;have hk1:=rS;clear hC2 Z1 hb2 hb3 HB1 h0;go_wp2;refine bodyPost_ret (v:=Tu #[Ag #[.int .i64 0,.int .i64 0,U nO 0 0],.int .i64 0,.int .i64 (au V F c)]) Nn rfl ⟨_,rfl,q8 _ _ _ _,?_⟩;first|exact(((HB2.setCell (lR _) _).setCell (lR _) _).setCell (lR _) _)|exact(((HB2.setCell (lR _) _).setCell (lR _) _).setCell (lR _) _).alloc ap _
def tk (vs:List Int)(a:Nat)(b:Bool):Int×Nat:=if b=true then(if a < vs.length then(vs.getD a 0,a+1) else(0,99)) else(0,a)

theorem CM {w:World}{ss:oA}{l:List Int}{b o:Nat}(v:Value)(h:IntsAt w ss l)(hf:∀a,ss=sO a->a.block≠b):IntsAt (w.setCell ⟨b,o,nO⟩ v) ss l:=by
 rcases h with h|⟨k,off,hs,hlt,hi⟩
 ·exact .inl h
 ·have hne:k≠b:=by
   have:=hf _ hs;simpa using this
  refine .inr ⟨k,off,hs,dn,λj hj=> ?_⟩;rw[<-hi j hj];exact j4 (a:=⟨k,off+j,nO⟩) (hSe _ _ _ _ hne)

def IQ (w0:World)(R B X A:Nat)(ss:oA)(cp:Nat)(vs:List Int)(i:Ins)(a:Nat)(w:World):Prop:=
 XAtO w R dD/\XAtO w X i/\(w.cell? ⟨A,0,nO⟩=sO (.int .i64 a)/\w.frozen? ⟨A,0,nO⟩=false)/\w.cell? ⟨B,0,nO⟩=sO (U ss vs.length cp)/\IntsAt w ss vs/\bl w0 w/\(w0.heap.size<=R/\R < B/\B < X/\X < A/\A < w.heap.size)/\∀a,ss=sO a->a.block < X
theorem XAtO.other {w:World}{X b o:Nat}{i:Ins}(v:Value)(h:XAtO w X i)(hne:X≠b):XAtO (w.setCell ⟨b,o,nO⟩ v) X i:=by
 have hc:∀j,(w.setCell ⟨b,o,nO⟩ v).cell? ⟨X,j,nO⟩=w.cell? ⟨X,j,nO⟩:=λj=>j4 (a:=⟨X,j,nO⟩) (hSe _ _ _ _ hne);have hfz:∀j,(w.setCell ⟨b,o,nO⟩ v).frozen? ⟨X,j,nO⟩=w.frozen? ⟨X,j,nO⟩:=λj=>x6 (a:=⟨X,j,nO⟩) (hSe _ _ _ _ hne);obtain⟨⟨h0,h1,h2,h3,h4,h5⟩,hf,hz⟩:=h;exact⟨⟨(hc _).trans h0,(hc _).trans h1,(hc _).trans h2,(hc _).trans h3,(hc _).trans h4,(hc _).trans h5⟩,λj=>(hfz j).trans (hf j),fr⟩
theorem IQ.takes {w0:World}{R B X A:Nat}{ss:oA}{cp:Nat}{vs:List Int}{i:Ins}{a:Nat}{w:World}(h:IQ w0 R B X A ss cp vs i a w)(a':Nat):IQ w0 R B X A ss cp vs i a' (w.setCell ⟨A,0,nO⟩ (.int .i64 a')):=by
 obtain⟨h1,h2,⟨h3,h4⟩,h5,h6,h7,⟨z1,z2,z3,z4,z5⟩,h8⟩:=h;refine⟨h1.other _ aa,h2.other _ aa,⟨by simp[go_sem,h3],by simp[go_sem,h4]⟩,?_,CM _ h6 (λx hx=>by have:=h8 x hx;omega),h7.setCell ap _,⟨z1,z2,z3,z4,by simpa using z5⟩,h8⟩;rw[<-h5];exact j4 (a:=⟨B,0,nO⟩) (hSe _ _ _ _ (by show B≠A;omega))
theorem IQ.puts {w0:World}{R B X A:Nat}{ss:oA}{cp:Nat}{vs:List Int}{i:Ins}{a:Nat}{w:World}(h:IQ w0 R B X A ss cp vs i a w)(q:Nat)(v:Int):IQ w0 R B X A ss cp vs (nu q v i) a (w.setCell ⟨X,kP q,nO⟩ (.int .i64 v)):=by
 obtain⟨h1,h2,⟨h3,h4⟩,h5,h6,h7,⟨z1,z2,z3,z4,z5⟩,h8⟩:=h;refine⟨h1.other _ aa,h2.put v,⟨?_,?_⟩,?_,CM _ h6 (λx hx=>by have:=h8 x hx;omega),h7.setCell ap _,⟨z1,z2,z3,z4,by simpa using z5⟩,h8⟩
 ·rw[<-h3]
  exact j4 (a:=⟨A,0,nO⟩) (hSe _ _ _ _ (by show A≠X;omega))
 ·rw[<-h4]
  exact x6 (a:=⟨A,0,nO⟩) (hSe _ _ _ _ (by show A≠X;omega))
 ·rw[<-h5]
  exact j4 (a:=⟨B,0,nO⟩) (hSe _ _ _ _ (by show B≠X;omega))

theorem io {w0:World}{R B X A:Nat}{ss:oA}{cp:Nat}{vs:List Int}{i:Ins}{a:Nat}(b:Bool)(w:World)(hv:vs.length<=5000)(ha:a<=200)(h:IQ w0 R B X A ss cp vs i a w):
  Calls pG 121 #[Bb b,Pp (sO ⟨A,0,nO⟩),Pp (sO ⟨B,0,nO⟩)] w λe w'=>e=Rt (.int .i64 (tk vs a b).1)/\IQ w0 R B X A ss cp vs i (tk vs a b).2 w':=by
 obtain⟨-,-,⟨h3,h4⟩,h5,h6,-,⟨z1,z2,z3,z4,z5⟩,h8⟩:=id h;have zb:B < w.heap.size:=aa;cases b with
 |false=>
  have e0:tk vs a false=(0,a):=rfl;rw[e0];go_enter func121,ntmps121;go_wp2;go_ret;exact⟨rfl,h⟩
 |true=>
  by_cases hlt:a < vs.length
  ·have e0:tk vs a true=(vs.getD a 0,a+1):=by unfold tk;rw[if_pos rfl,if_pos hlt]
   rw[e0];have n0:(a:Int) < (vs.length:Int):=aa;have n1:(0:Int)<=(a:Int):=aa;have hT:=h.takes (a+1);rcases h6 with h6|⟨k,off,rfl,hk,hi⟩
   ·rw[h6] at hlt
    simp at hlt
   ·have c0:=hi a hlt
    have hg:vs.getD a 0=vs[a]:=by simp[q9,j8 hlt]
    rw[hg];have hne:k≠A:=by have:=h8 _ rfl;simp at this;omega
    have hne2:B≠A:=aa;have ec:((a+1:Nat):Int)=(a:Int)+1:=aa;rw[ec] at hT;clear h hi hg h8 e0;go_enter func121,ntmps121;go_wp2;go_ret;exact⟨rfl,hT⟩
  ·have e0:tk vs a true=(0,99):=by unfold tk;rw[if_pos rfl,if_neg hlt]
   rw[e0];have n0:¬(a:Int) < (vs.length:Int):=aa;have hT:=h.takes 99;clear h e0 h6 h8;go_enter func121,ntmps121;go_wp2;go_ret;exact⟨rfl,hT⟩

def rp (k:Nat)(vs:List Int):Ins×Nat:=
 let r1:=tk vs 0 (nTo k)
 let r2:=tk vs r1.2 (nA k)
 let r3:=if k=13 then tk vs r2.2 true else(0,r2.2)
 let r4:=tk vs r3.2 (nB k)
 let r5:=if k=13 then(r3.1,r4.2) else tk vs r4.2 (nN k)
 let r6:=tk vs r5.2 (nG k)
 (⟨k,r1.1,r2.1,r4.1,r5.1,r6.1⟩,r6.2)
theorem Tk {k:Nat}{vs:List Int}(h1:1<=k)(h19:k<=19)(h:(prt k).length=vs.length):rp k vs=(tK (prt k) vs ⟨k,0,0,0,0,0⟩,vs.length):=by
 rcases fm h1 h19 with rfl|rfl|rfl|rfl|rfl|rfl|rfl|rfl|rfl|rfl|rfl|rfl|rfl|rfl|rfl|rfl|rfl|rfl|rfl<;>simp only[prt,j5,Q7] at h<;>
 first
  |(match vs,h with
   |[],_=>rfl)
  |(match vs,h with
   |[a],_=>rfl)
  |(match vs,h with
   |[a,b],_=>rfl)
  |(match vs,h with
   |[a,b,c],_=>rfl)
theorem Th {k:Nat}{vs:List Int}(h1:1<=k)(h19:k<=19)(h:(prt k).length≠vs.length):(rp k vs).2≠vs.length:=by
 match vs with
 |[]=>
  rcases fm h1 h19 with rfl|rfl|rfl|rfl|rfl|rfl|rfl|rfl|rfl|rfl|rfl|rfl|rfl|rfl|rfl|rfl|rfl|rfl|rfl<;>revert h<;>decide
 |[a]=>
  rcases fm h1 h19 with rfl|rfl|rfl|rfl|rfl|rfl|rfl|rfl|rfl|rfl|rfl|rfl|rfl|rfl|rfl|rfl|rfl|rfl|rfl<;>first|(exact absurd rfl h)|(exact(by decide:(99:Nat)≠1))|(exact(by decide:(0:Nat)≠1))
 |[a,b]=>
  rcases fm h1 h19 with rfl|rfl|rfl|rfl|rfl|rfl|rfl|rfl|rfl|rfl|rfl|rfl|rfl|rfl|rfl|rfl|rfl|rfl|rfl<;>first|(exact absurd rfl h)|(exact(by decide:(99:Nat)≠2))|(exact(by decide:(0:Nat)≠2))|(exact(by decide:(1:Nat)≠2))
 |[a,b,c]=>
  rcases fm h1 h19 with rfl|rfl|rfl|rfl|rfl|rfl|rfl|rfl|rfl|rfl|rfl|rfl|rfl|rfl|rfl|rfl|rfl|rfl|rfl<;>first|(exact absurd rfl h)|(exact(by decide:(0:Nat)≠3))|(exact(by decide:(1:Nat)≠3))|(exact(by decide:(2:Nat)≠3))
 |a::b::c::d::r=>
  have hs:(rp k (a::b::c::d::r)).2<=3:=by
   rcases fm h1 h19 with rfl|rfl|rfl|rfl|rfl|rfl|rfl|rfl|rfl|rfl|rfl|rfl|rfl|rfl|rfl|rfl|rfl|rfl|rfl<;>simp[rp,tk,nTo,nA,nB,nN,nG,btw]
  simp only[j5];omega
theorem nS {vs:List Int}{a n:Nat}{b:Bool}(h:a<=n)(hn:99<=n):(tk vs a b).2<=n+1:=by
 unfold tk;split
 ·split<;>simp only<;>omega
 ·simp only;omega
def regI (X A B:Nat)(ss:oA)(cp n:Nat)(i:Ins)(a:Nat)(w':World):Prop:=
 (w'.cell? ⟨X,0,nO⟩=sO (.int .i64 i.k)/\w'.cell? ⟨X,1,nO⟩=sO (.int .i64 i.tgt)/\w'.cell? ⟨X,2,nO⟩=sO (.int .i64 i.a)/\w'.cell? ⟨X,3,nO⟩=sO (.int .i64 i.b)/\w'.cell? ⟨X,4,nO⟩=sO (.int .i64 i.n)/\w'.cell? ⟨X,5,nO⟩=sO (.int .i64 i.g))/\w'.cell? ⟨A,0,nO⟩=sO (.int .i64 a)/\w'.cell? ⟨B,0,nO⟩=sO (U ss n cp)
theorem regI.other {X A B:Nat}{ss:oA}{cp n:Nat}{i:Ins}{a:Nat}{w:World}{R o:Nat}{v:Value}(h:regI X A B ss cp n i a w)(h1:X≠R)(h2:A≠R)(h3:B≠R):regI X A B ss cp n i a (w.setCell ⟨R,o,nO⟩ v):=by
 have hc:∀b j,b≠R->(w.setCell ⟨R,o,nO⟩ v).cell? ⟨b,j,nO⟩=w.cell? ⟨b,j,nO⟩:=λb j hb=>j4 (a:=⟨b,j,nO⟩) (hSe _ _ _ _ hb);obtain⟨⟨x0,x1,x2,x3,x4,x5⟩,y,z⟩:=h;exact⟨⟨(hc _ _ h1).trans x0,(hc _ _ h1).trans x1,(hc _ _ h1).trans x2,(hc _ _ h1).trans x3,(hc _ _ h1).trans x4,(hc _ _ h1).trans x5⟩,(hc _ _ h2).trans y,(hc _ _ h3).trans z⟩
theorem WC {B R:Nat}{a w:World}{v0 v1 v2 v3 v4 v5:Value}(h:Below B a w)(hR:B<=R):Below B a ((((((w.setCell ⟨R,0,nO⟩ v0).setCell ⟨R,1,nO⟩ v1).setCell ⟨R,2,nO⟩ v2).setCell ⟨R,3,nO⟩ v3).setCell ⟨R,4,nO⟩ v4).setCell ⟨R,5,nO⟩ v5):=
 (((((h.setCell hR _).setCell hR _).setCell hR _).setCell hR _).setCell hR _).setCell hR _
theorem IQ.drew {w0:World}{R B X A:Nat}{ss:oA}{cp:Nat}{vs:List Int}{i:Ins}{a:Nat}{w:World}(h:IQ w0 R B X A ss cp vs i a w):IQ w0 R B X A ss cp vs i a w.drew:=by
 obtain⟨h1,h2,⟨h3,h4⟩,h5,h6,h7,⟨z1,z2,z3,z4,z5⟩,h8⟩:=h;have hb:=lB;exact⟨h1.call hb,h2.call hb,⟨by rw[hb.cell (by simpa using z5)];exact h3,by rw[hb.frozen (by simpa using z5)];exact h4⟩,by rw[hb.cell (by show B < w.heap.size;omega)];exact h5,IntsAt.below h6 hb (lR _),h7.drew,⟨z1,z2,z3,z4,lL z5 hb.size⟩,h8⟩

def Pz (o:Option Ins)(e:Ending):Prop:=∃i,e=Rt (Tu #[ke i,Bb o.isSome])/\∀j,o=sO j->i=j

theorem Ry {l:List UInt8}{x:ByteArray}{ns:List ByteArray}(h:((x::ns).map λb:ByteArray=>b.data.toList)=bt 32 l)(hn:e8 (ns.map λb:ByteArray=>b.data.toList)=nO):eI l=none:=by
 rw[oa h];cases eH x.data.toList ns.length with
 |none=>rfl
 |some k=>simp only[goI,hn]
theorem Rz {l:List UInt8}{x:ByteArray}{ns:List ByteArray}{vs:List Int}(h:((x::ns).map λb:ByteArray=>b.data.toList)=bt 32 l)(hn:e8 (ns.map λb:ByteArray=>b.data.toList)=sO vs):eI l=match eH x.data.toList ns.length with
  |none=>nO
  |some k=>sO (tK (prt k) vs ⟨k,0,0,0,0,0⟩):=by
 rw[oa h];cases eH x.data.toList ns.length with
 |none=>rfl
 |some k=>simp only[goI,hn]
theorem Uo:∀j:Fin 20,∀k:Fin 20,1<=j.val->1<=k.val->j.val≠k.val->((aL (j.val:Int)).data.toList==(aL (k.val:Int)).data.toList)=false:=fK
theorem RN {x:List UInt8}{n k:Nat}(h1:1<=k)(h19:k<=19)(hx:(aL k).data.toList=x):eH x n=if (prt k).length=n then sO k else none:=by
 have ho:∀j,1<=j->j < 20->j≠k->eZ x n j=false:=by
  intro j j1 j20 hjk;have:=Uo ⟨j,j20⟩ ⟨k,aa⟩ j1 h1 hjk;simp only at this;unfold eZ;rw[<-hx,this];rfl
 by_cases hn:(prt k).length=n
 ·rw[if_pos hn]
  refine wu (λj a b=>ho j a aa aa) h1 h19 ?_;unfold eZ;rw[hx,hn];simp
 ·rw[if_neg hn]
  refine nZ (λj a b=> ?_);by_cases hj:j=k
  ·subst hj
   unfold eZ;have:((prt j).length==n)=false:=by rw[beq_eq_false_iff_ne];exact hn
   rw[this];simp
  ·exact ho j a b hj
theorem KU {x:List UInt8}{n:Nat}(h:∀j:Nat,1<=j->j < 20->(aL j).data.toList≠x):eH x n=none:=by
 refine nZ (λj a b=> ?_);unfold eZ;have:((aL j).data.toList==x)=false:=by rw[beq_eq_false_iff_ne];exact h j a b
 rw[this];rfl

theorem Bd {p:Prop}(h:p:=by
 obtain⟨iv,HIv⟩:=HIv;rw[<-HIv.out] at Qz;clear Q5;go_wp2;clear x0 x1 x2 x3 x4 x5 xf xz;have KS:∀wx,IQ w w.heap.size B we.heap.size (we.heap.size+1) ss cp vs iv a5 wx->regI we.heap.size (we.heap.size+1) B ss cp vs.length iv a5 wx:=λwx q=>⟨q.2.1.1,q.2.2.1.1,q.2.2.2.1⟩;refine wp_region_held_drew (S:=regI we.heap.size (we.heap.size+1) B ss cp vs.length iv a5) ae (KS _ Qz) (λhHeld=> ?_);generalize (w15.setCell ⟨we.heap.size,5,none⟩ (.int .i64 v5)).drew=wd at *;obtain⟨zR,zB,zX,zA,zz⟩:=Qz.2.2.2.2.2.2.1;have RO:∀(wx:World) (o:Nat) (u:Value),regI we.heap.size (we.heap.size+1) B ss cp vs.length iv a5 wx->regI we.heap.size (we.heap.size+1) B ss cp vs.length iv a5 (wx.setCell ⟨w.heap.size,o,none⟩ u):=λwx o u h=>h.other aa aa aa;have KP:=λ(_:True)=>RO _ 5 (.int .i64 iv.g) (RO _ 4 (.int .i64 iv.n) (RO _ 3 (.int .i64 iv.b) (RO _ 2 (.int .i64 iv.a) (RO _ 1 (.int .i64 iv.tgt) (RO _ 0 (.int .i64 iv.k) (KS wd Qz))))));have HBz:=WC (R:=w.heap.size) (v0:=.int .i64 iv.k) (v1:=.int .i64 iv.tgt) (v2:=.int .i64 iv.a) (v3:=.int .i64 iv.b) (v4:=.int .i64 iv.n) (v5:=.int .i64 iv.g) Qz.2.2.2.2.2.1 zR;obtain⟨⟨r0,r1,r2,r3,r4,r5⟩,rf,rz⟩:=Qz.1;simp only[dD] at r0 r1 r2 r3 r4 r5;clear Qz RO;unfold regI at hHeld KP |-;clear KS;refine vH 0 ?_ ?_;refine vH 1 ?_ ?_;refine vH 2 ?_ ?_;refine vH 3 ?_ ?_;refine vH 4 ?_ ?_;refine rH1 5 λK hK=> ?_;go_simp;refine hK.out _ _ (KP trivial) (λhHeldz=> ?_);clear KP;clear hK K;refine sm ?_;refine vH 6 ?_ ?_;refine wpAnyH_done ae ?_ _;go_wp2;refine bodyPost_ret (v:=.tuple #[ke iv,.bool ((a5:Int)==(vs.length:Int))]) (by simp[results,results67,go_sem,ke,r0,r1,r2,r3,r4,r5,hvl]) rfl ⟨?_,HBz⟩;exact HEND.out iv a5 (by rw[HIv.out];exact HRP.out.symm)):p:=h
theorem ot (l:ByteArray)(w:World)(hl:l.size<=4000):
  Calls pG 67 #[.string l] w λe w'=>Pz (eI l.data.toList) e/\bl w w':=by
 obtain⟨ti,hi,hz0,hz1,hz2⟩:=info_parts Tryz.info_int;have hb1:=Hv;have R0:XAtO (w.alloc (Cc #[.int .i64 0,.int .i64 0,.int .i64 0,.int .i64 0,.int .i64 0,.int .i64 0] 100)) w.heap.size dD:=by
  refine⟨⟨?_,?_,?_,?_,?_,?_⟩,λj=> ?_,?_⟩<;>simp[go_sem,dD]
 have hC:Calls pG 65 #[.string l,.int .u8 32] (w.alloc (Cc #[.int .i64 0,.int .i64 0,.int .i64 0,.int .i64 0,.int .i64 0,.int .i64 0] 100)) _:=Ah l 32 _ hl;generalize hans:eI l.data.toList=ans;go_enter func67,ntmps67;go_wp2_with fail;refine hC.mono ?_;rintro e w1 ⟨v,xs,rfl,hdat,hxl,hown,hbc⟩;clear hC;cases xs with
 |nil=>
  obtain⟨y,r,hy⟩:=ge 32 l.data.toList;rw[hy] at hdat;cases hdat
 |cons x ns=>
  have R1:=R0.call hbc;have H1:bl w w1:=hb1.trans (hbc.mono ah);obtain⟨g,cw,rfl,hgB,hgz⟩:=hown.form ah;have hcl:∀j (hj:j < (x::ns).length),w1.cell? ⟨g,j,nO⟩=sO (.string (x::ns)[j]):=λj hj=>by
   rw[hown.cellAt _ aa,z8,j8 hj];rfl
  have hlen:ns.length<=4000:=by simp at hxl;omega
  have HNone:=cD (λh=>(Ry hdat h).symm.trans hans);have HSome:=cD (λvs (h:e8 (ns.map λb:ByteArray=>b.data.toList)=sO vs)=>(Rz hdat h).symm.trans hans);have hyl:∀j (hj:j < ns.length),(ns[j]).size<=4000:=by
   intro j hj;have hm:(ns[j]).data.toList∈bt 32 l.data.toList:=by
    rw[<-hdat];exact Q9 (Qb _ (gM hj))
   have:=iT 32 _ _ hm;rw[kS,ci,ci] at this;omega
  simp only[j5];clear hans hdat hown hbc R0 hb1 hxl;have c0:=hcl 0 ah;have hcs:∀j (hj:j < ns.length),w1.cell? ⟨g,j+1,nO⟩=sO (.string ns[j]):=λj hj=>hcl (j+1) ap;clear hcl;simp only[List.getElem_cons_zero] at c0;have hB:Below w1.heap.size w1 (w1.alloc (Cc #[U nO 0 0] 34)):=am;go_wp2;go_loopw [6] (λi wr=>∃(k:Nat) (vs:List Int) (vB:Value),k<=ns.length/\i=.int .i64 ((k:Int)+1)/\vs.length=k/\Hid (e8 (ns.map λb:ByteArray=>b.data.toList)=match e8 ((ns.map λb:ByteArray=>b.data.toList).drop k) with
    |none=>nO
    |some t=>sO (vs++t))/\(wr.cell? ⟨w1.heap.size,0,nO⟩=sO vB/\wr.frozen? ⟨w1.heap.size,0,nO⟩=false)/\wr.ownsRow (w1.heap.size+1) 3 1 vB k (vs.map (.int .i64))/\bl w1 wr/\w1.heap.size < wr.heap.size) (λi _=>ns.length+1 - (intOf i).toNat)
  case atStart=>
   refine⟨0,[],_,j2 _,rfl,rfl,?_,⟨aX,aX⟩,⟨rfl,.inl ⟨rfl,rfl⟩⟩,hB,ah⟩;show _=_;rw[J4];cases e8 (ns.map λb:ByteArray=>b.data.toList) with
   |none=>rfl
   |some t=>rfl
  case round=>
   obtain⟨k,vs,vB,hk,rfl,hvl,HM,⟨b0,bf⟩,hownB,hbr,hzr⟩:=hrel;clear hB;have HR:bl w wr:=H1.trans (hbr.mono H1.size);have RR:=R1.call hbr;by_cases hlt:k < ns.length
   ·have n0:(0:Int)<=(k:Int)+1:=by omega
    have n1:(k:Int)+1 < ((ns.length+1:Nat):Int):=aa;have n2:((k:Int)+1).toNat=k+1:=aa;have c1:wr.cell? ⟨g,k+1,nO⟩=sO (.string ns[k]):=by rw[hbr.cell hgz];exact hcs k hlt
    have hy:=hyl k hlt;have HM2:=HM.out;rw[q4 dn,X9,e8] at HM2;generalize ns[k]=y at *;clear HM;go_wp2_with fail;refine(n9 y wr hy).mono ?_;rintro e w5 ⟨⟨u,rfl,hu⟩,hb5⟩;have RR5:=RR.call hb5;have HR5:=nC;clear c1 RR HR;cases hn:bW y.data.toList with
    |none=>
     rw[hn] at HM2;obtain rfl:=HNone.out HM2;simp only[x7];clear HM2 hu HSome HNone hownB;obtain⟨⟨r0,r1,r2,r3,r4,r5⟩,rf,rz⟩:=RR5;simp only[dD] at r0 r1 r2 r3 r4 r5;go_wp2;refine bodyPost_ret (v:=Tu #[ke dD,Bb false]) Mi rfl ⟨⟨dD,rfl,λj h=>aT⟩,?_⟩;exact Ki
    |some m=>
     obtain rfl:=hu m hn;rw[hn] at HM2;have HM3:Hid (e8 (ns.map λb:ByteArray=>b.data.toList)=match e8 ((ns.map λb:ByteArray=>b.data.toList).drop (k+1)) with
       |none=>nO
       |some t=>sO ((vs++[u])++t)):=by
      show _=_;rw[HM2];cases e8 ((ns.map λb:ByteArray=>b.data.toList).drop (k+1)) with
      |none=>rfl
      |some t=>simp
     simp only[x7];clear HM2 hn hu RR5;have B5:=Ae;have S5:wr.heap.size<=w5.heap.size:=hb5.size;have b05:w5.cell? ⟨w1.heap.size,0,nO⟩=sO vB:=by rw[hb5.cell (by simpa using hzr)];exact b0
     have bf5:w5.frozen? ⟨w1.heap.size,0,nO⟩=false:=by rw[hb5.frozen (by simpa using hzr)];exact bf
     have hown5:=bB hownB (λj hj=>B5 j (cn hownB hj).1);have hbr5:=nf;have hz5:w1.heap.size < w5.heap.size:=aa;obtain⟨sB,cB,rfl⟩:∃sB cB,vB=U sB k cB:=by
      obtain⟨s,c,hs,-⟩:=Cs (l:=vs) (by rw[hvl];exact hown5);rw[hvl] at hs;exact⟨s,c,hs⟩
     have hX:∀w6,(w5.alloc (Cc #[.int .i64 u] 3)).grownBy w6 (j9 sB k cB).ownBlock->w6.heap[w1.heap.size]? =w5.heap[w1.heap.size]? :=λw6 hgrow=>by
      rw[hgrow.block _ ap (λe=>uG),Below.heap_alloc _ _ _ hz5]
     clear b0 bf hownB hb5;go_wp2_with (at_builtin;refine wpList_append_own _ rfl _ _ 34 rfl (w1.heap.size+1) 3 ti (.int .i64 0) 1 8 underlying34 hi hz0 hz1 hz2 rfl ai _ _ _ rfl (hown5.alloc _) ⟨w5.heap.size,0,nO⟩ 1 1 [.int .i64 u] rfl rfl (cell_one_new _ _ _) (λx hx=>kr) cO aa ap ?_;intro v' w6 hown' hgrow hnil;obtain⟨g6,c6,rfl,hg6,hl6⟩:=hown'.form (x8 _);have b06:w6.cell? ⟨w1.heap.size,0,nO⟩=sO (U sB k cB):=(j4 (a:=⟨w1.heap.size,0,nO⟩) (hX w6 hgrow)).trans b05;have bf6:w6.frozen? ⟨w1.heap.size,0,nO⟩=false:=(x6 (a:=⟨w1.heap.size,0,nO⟩) (hX w6 hgrow)).trans bf5);go_roundw
     case rel=>
      refine⟨k+1,vs++[u],U (sO ⟨g6,0,nO⟩) (k+1) c6,hlt,aF,by rw[q7,hvl];rfl,HM3,⟨by simp[go_sem,b06],by simp[go_sem,bf6]⟩,ownsRow_setCell_below ?_ (z9 _) _,?_,?_⟩
      ·rw[J8];exact hown'
      ·exact((hbr5.alloc aa _).grown hgrow ap (λj hj=>Dt)).setCell (lR _) _
      ·have:=hgrow.size;simp at this |-;omega
     case measure=>exact aK
   ·have hke:k=ns.length:=by omega
    subst hke;have HM2:=HM.out;rw[q6 ah] at HM2;simp only[e8,X5] at HM2;have HS2:=cD (HSome.out vs HM2);obtain⟨ss,cp,rfl,hIv⟩:∃ss cp,vB=U ss ns.length cp/\IntsAt wr ss vs:=by
     obtain⟨s,c,hs,hI⟩:=Cs (l:=vs) (by rw[hvl];exact hownB);rw[hvl] at hs;exact⟨s,c,hs,hI⟩
    have hss:∀a,ss=sO a->a.block < wr.heap.size:=λa ha=>(cn hownB (by rw[ha];rfl)).1;have cx:wr.cell? ⟨g,0,nO⟩=sO (.string x):=by rw[hbr.cell hgz];exact c0
    have zg:g < wr.heap.size:=by have:=hbr.size;omega
    clear HM HM2 HSome HNone hcs hyl hlt hownB c0 hk;have hw1:w.heap.size < w1.heap.size:=R1.2.2;generalize w1.heap.size=B at *;generalize wr=wp at *;go_wp2;go_loopw [9] (λi wr=>∃(k:Nat),1<=k/\k<=20/\i=.int .i64 k/\Hid (∀j:Nat,1<=j->j < k->(aL j).data.toList≠x.data.toList)/\bl wp wr) (λi _=>20 - (intOf i).toNat)
    case atStart=>exact⟨1,lR _,aa,rfl,(by intro j h1 h2;omega),bR _ _⟩
    case round=>
     obtain⟨k,hk1,hk20,rfl,HW,hbq⟩:=hrel;have HQ:bl w wr:=HR.trans (hbq.mono HR.size);have RQ:=RR.call hbq;by_cases h20:k=20
     ·subst h20
      obtain rfl:nO=ans:=by
       have:=HS2.out;rw[KU HW.out] at this;exact this
      clear HS2 HW;obtain⟨⟨r0,r1,r2,r3,r4,r5⟩,rf,rz⟩:=RQ;simp only[dD] at r0 r1 r2 r3 r4 r5;go_wp2;refine bodyPost_ret (v:=Tu #[ke dD,Bb false]) Mi rfl ⟨⟨dD,rfl,λj h=>aT⟩,?_⟩;exact((((((HQ.setCell (lR _) _).setCell (lR _) _).setCell (lR _) _).setCell (lR _) _).setCell (lR _) _).setCell (lR _) _)
     ·have hk19:k<=19:=by omega
      have m0:(k:Int)<=19:=aa;have KS:∀wx,bl wp wx->wx.cell? ⟨g,0,nO⟩=sO (.string x):=λwx hx=>by rw[hx.cell zg];exact cx
      have hn0:(0:Int) < ((ns.length+1:Nat):Int):=aa;go_wp2;refine wp_region_held_drew (S:=λwx=>wx.cell? ⟨g,0,nO⟩=sO (.string x)) ae (KS _ hbq.drew) (λhHeld=> ?_);have hbd:=hbq.drew;clear hbq HQ RQ;generalize wr.drew=wd at *;refine vH 0 ?_ ?_;refine vH 2 ?_ ?_;refine vH 3 ?_ ?_;refine vH 4 ?_ ?_;refine rH1 1 λK hK=> ?_;go_simp;refine(KC (k:Int) _).mono ?_;rintro e we ⟨rfl,hbe⟩;have hbf:=hbd.trans (hbe.mono hbd.size);refine hK.out _ _ (KS _ hbf) (λhHeld2=> ?_);clear hK K hbe hbd;refine sm ?_;by_cases hw:(aL k).data.toList=x.data.toList
      ·have hx2:aL k=x:=by
        apply ByteArray.ext;apply q5.1;exact hw
       obtain hans2:=HS2.out;rw[RN hk1 hk19 hw] at hans2;have HEND:Hid (∀(iv:Ins) (a:Nat),(iv,a)=rp k vs->Pz ans (Rt (Tu #[ke iv,Bb ((a:Int)==(vs.length:Int))]))):=by
        intro iv a hrp;by_cases hp:(prt k).length=ns.length
        ·rw[if_pos hp] at hans2
         rw[Tk hk1 hk19 (by rw[hp,hvl])] at hrp;obtain⟨rfl,rfl⟩:=Prod.mk.inj hrp;rw[<-hans2];exact⟨_,ah,λj h=>Option.some.inj h⟩
        ·rw[if_neg hp] at hans2
         have h2:=Th hk1 hk19 (vs:=vs) (by rw[hvl];exact hp);rw[<-hrp] at h2;rw[<-hans2];have h3:((a:Int)==(vs.length:Int))=false:=by
          rw[beq_eq_false_iff_ne];intro e;apply h2;show a=vs.length;omega
         rw[h3];exact⟨iv,rfl,λj h=>aT⟩
       clear hans2 HS2 HW hw;rw[hx2];refine vH 5 ?_ ?_;refine wpAnyH_done ae ?_ _;clear hx2;have HQ:bl w we:=HR.trans (hbf.mono HR.size);have RQ:=RR.call hbf;have bq:we.cell? ⟨B,0,nO⟩=sO (U ss ns.length cp):=by rw[hbf.cell hzr];exact b0
       have hIq:=IntsAt.below hIv hbf (lR _);have zBe:B < we.heap.size:=lL hzr hbf.size;have hse:∀a,ss=sO a->a.block < we.heap.size:=λa ha=>lL (hss a ha) hbf.size;clear RR b0 bf hIv hss cx zg KS hbf HR R1;have Q0:IQ w w.heap.size B we.heap.size (we.heap.size+1) ss cp vs ⟨k,0,0,0,0,0⟩ 0 ((we.alloc (Cc #[.int .i64 k,.int .i64 0,.int .i64 0,.int .i64 0,.int .i64 0,.int .i64 0] 100)).alloc (Cc #[.int .i64 0] 3)):=by
        have hg2:Below we.heap.size we ((we.alloc (Cc #[.int .i64 k,.int .i64 0,.int .i64 0,.int .i64 0,.int .i64 0,.int .i64 0] 100)).alloc (Cc #[.int .i64 0] 3)):=am;refine⟨RQ.call hg2,⟨⟨?_,?_,?_,?_,?_,?_⟩,λj=> ?_,?_⟩,⟨?_,?_⟩,?_,IntsAt.below hIq hg2 (lR _),HQ.trans (hg2.mono HQ.size),⟨lR _,hw1,zBe,aa,ah⟩,hse⟩
        ·simp[go_sem]
        ·simp[go_sem]
        ·simp[go_sem]
        ·simp[go_sem]
        ·simp[go_sem]
        ·simp[go_sem]
        ·simp[go_sem]
        ·first|(simp;done)|(simp;omega)
        ·simp[go_sem]
        ·simp[go_sem]
        ·rw[hg2.cell (by simpa using zBe),bq,hvl]
       have hv5:vs.length<=5000:=aa;have hb0:(0:Nat)<=99:=aa;clear bq hIq HQ RQ zBe hse;go_wp2_with (first|(go_at_call 106;refine(vD _ _).mono ?_;rintro e w' ⟨rfl,rfl⟩)|(go_at_call 121;fail));refine(io (nTo (k:Int)) _ hv5 aa Q0).mono ?_;rintro e w11 ⟨rfl,T1⟩;have hb1:=nS (vs:=vs) (b:=(nTo (k:Int))) (n:=99) hb0 aa;generalize hr1:tk vs 0 (nTo (k:Int))=r1 at *;obtain⟨v1,a1⟩:=r1;have HR1:=cD hr1;clear hr1 Q0;simp only at T1 hb1;have Q1:IQ w w.heap.size B we.heap.size (we.heap.size+1) ss cp vs ⟨k,v1,0,0,0,0⟩ a1 (w11.setCell ⟨we.heap.size,1,nO⟩ (.int .i64 v1)):=T1.puts 0 v1;try clear x0 x1 x2 x3 x4 x5 xf xz
       obtain⟨⟨x0,x1,x2,x3,x4,x5⟩,xf,xz⟩:=id T1.2.1;clear T1;go_wp2_with (first|(go_at_call 107;refine(sL _ _).mono ?_;rintro e w' ⟨rfl,rfl⟩)|(go_at_call 121;fail));refine(io (nA (k:Int)) _ hv5 aa Q1).mono ?_;rintro e w12 ⟨rfl,T2⟩;have hb2:=nS (vs:=vs) (b:=(nA (k:Int))) (n:=100) hb1 aa;generalize hr2:tk vs a1 (nA (k:Int))=r2 at *;obtain⟨v2,a2⟩:=r2;have HR2:=cD hr2;clear hr2 Q1;simp only at T2 hb2;have Q2:IQ w w.heap.size B we.heap.size (we.heap.size+1) ss cp vs ⟨k,v1,v2,0,0,0⟩ a2 (w12.setCell ⟨we.heap.size,2,nO⟩ (.int .i64 v2)):=T2.puts 1 v2;try clear x0 x1 x2 x3 x4 x5 xf xz
       obtain⟨⟨x0,x1,x2,x3,x4,x5⟩,xf,xz⟩:=id T2.2.1;clear T2;by_cases h13:k=13
       ·subst h13
        go_wp2_with (first|(go_at_call 121;fail));refine(io true _ hv5 aa Q2).mono ?_;rintro e w13 ⟨rfl,T3⟩;have hb3:=nS (vs:=vs) (b:=true) (n:=101) hb2 aa;generalize hr3:tk vs a2 true=r3 at *;obtain⟨v3,a3⟩:=r3;have HR3:=cD hr3;clear hr3 Q2;simp only at T3 hb3;have Q3:IQ w w.heap.size B we.heap.size (we.heap.size+1) ss cp vs ⟨(13:Nat),v1,v2,0,v3,0⟩ a3 (w13.setCell ⟨we.heap.size,4,nO⟩ (.int .i64 v3)):=T3.puts 7 v3;try clear x0 x1 x2 x3 x4 x5 xf xz
        obtain⟨⟨x0,x1,x2,x3,x4,x5⟩,xf,xz⟩:=id T3.2.1;clear T3;go_wp2_with (first|(go_at_call 108;refine(mk _ _).mono ?_;rintro e w' ⟨rfl,rfl⟩)|(go_at_call 121;fail));refine(io (nB ((13:Nat):Int)) _ hv5 aa Q3).mono ?_;rintro e w14 ⟨rfl,T4⟩;have hb4:=nS (vs:=vs) (b:=(nB ((13:Nat):Int))) (n:=102) hb3 aa;generalize hr4:tk vs a3 (nB ((13:Nat):Int))=r4 at *;obtain⟨v4,a4⟩:=r4;have HR4:=cD hr4;clear hr4 Q3;simp only at T4 hb4;have Q4:IQ w w.heap.size B we.heap.size (we.heap.size+1) ss cp vs ⟨(13:Nat),v1,v2,v4,v3,0⟩ a4 (w14.setCell ⟨we.heap.size,3,nO⟩ (.int .i64 v4)):=T4.puts 2 v4;try clear x0 x1 x2 x3 x4 x5 xf xz
        obtain⟨⟨x0,x1,x2,x3,x4,x5⟩,xf,xz⟩:=id T4.2.1;clear T4;go_wp2_with (first|(go_at_call 109;refine(ma _ _).mono ?_;rintro e w' ⟨rfl,rfl⟩)|(go_at_call 121;fail));refine(io (nG ((13:Nat):Int)) _ hv5 aa Q4).mono ?_;rintro e w15 ⟨rfl,T5⟩;have hb5:=nS (vs:=vs) (b:=(nG ((13:Nat):Int))) (n:=103) hb4 aa;generalize hr5:tk vs a4 (nG ((13:Nat):Int))=r5 at *;obtain⟨v5,a5⟩:=r5;have HR5:=cD hr5;clear hr5 Q4;simp only at T5 hb5;have Q5:IQ w w.heap.size B we.heap.size (we.heap.size+1) ss cp vs ⟨(13:Nat),v1,v2,v4,v3,v5⟩ a5 (w15.setCell ⟨we.heap.size,5,nO⟩ (.int .i64 v5)):=T5.puts 3 v5;try clear x0 x1 x2 x3 x4 x5 xf xz
        obtain⟨⟨x0,x1,x2,x3,x4,x5⟩,xf,xz⟩:=id T5.2.1;clear T5;have HRP:Hid (rp 13 vs=(⟨(13:Nat),v1,v2,v4,v3,v5⟩,a5)):=by
         show _=_;unfold rp;simp only[HR1.out,HR2.out,HR3.out,HR4.out,HR5.out,if_true]
        have Qz:=Q5.drew;have HIv:∃iv:Ins,Hid (iv=⟨(13:Nat),v1,v2,v4,v3,v5⟩):=⟨_,rfl⟩;exact Bd
       ·have e13:((k:Int)==13)=false:=by simp;omega
        have e14:((k:Int)!=13)=true:=ap;go_wp2_with (first|(go_at_call 108;refine(mk _ _).mono ?_;rintro e w' ⟨rfl,rfl⟩)|(go_at_call 121;fail));refine(io (nB (k:Int)) _ hv5 aa Q2).mono ?_;rintro e w13 ⟨rfl,T3⟩;have hb3:=nS (vs:=vs) (b:=(nB (k:Int))) (n:=101) hb2 aa;generalize hr3:tk vs a2 (nB (k:Int))=r3 at *;obtain⟨v3,a3⟩:=r3;have HR3:=cD hr3;clear hr3 Q2;simp only at T3 hb3;have Q3:IQ w w.heap.size B we.heap.size (we.heap.size+1) ss cp vs ⟨k,v1,v2,v3,0,0⟩ a3 (w13.setCell ⟨we.heap.size,3,nO⟩ (.int .i64 v3)):=T3.puts 2 v3;try clear x0 x1 x2 x3 x4 x5 xf xz
        obtain⟨⟨x0,x1,x2,x3,x4,x5⟩,xf,xz⟩:=id T3.2.1;clear T3;go_wp2_with (first|(go_at_call 110;refine(Cz _ _).mono ?_;rintro e w' ⟨rfl,rfl⟩)|(go_at_call 121;fail));refine(io (nN (k:Int)) _ hv5 aa Q3).mono ?_;rintro e w14 ⟨rfl,T4⟩;have hb4:=nS (vs:=vs) (b:=(nN (k:Int))) (n:=102) hb3 aa;generalize hr4:tk vs a3 (nN (k:Int))=r4 at *;obtain⟨v4,a4⟩:=r4;have HR4:=cD hr4;clear hr4 Q3;simp only at T4 hb4;have Q4:IQ w w.heap.size B we.heap.size (we.heap.size+1) ss cp vs ⟨k,v1,v2,v3,v4,0⟩ a4 (w14.setCell ⟨we.heap.size,4,nO⟩ (.int .i64 v4)):=T4.puts 4 v4;try clear x0 x1 x2 x3 x4 x5 xf xz
        obtain⟨⟨x0,x1,x2,x3,x4,x5⟩,xf,xz⟩:=id T4.2.1;clear T4;go_wp2_with (first|(go_at_call 109;refine(ma _ _).mono ?_;rintro e w' ⟨rfl,rfl⟩)|(go_at_call 121;fail));refine(io (nG (k:Int)) _ hv5 aa Q4).mono ?_;rintro e w15 ⟨rfl,T5⟩;have hb5:=nS (vs:=vs) (b:=(nG (k:Int))) (n:=103) hb4 aa;generalize hr5:tk vs a4 (nG (k:Int))=r5 at *;obtain⟨v5,a5⟩:=r5;have HR5:=cD hr5;clear hr5 Q4;simp only at T5 hb5;have Q5:IQ w w.heap.size B we.heap.size (we.heap.size+1) ss cp vs ⟨k,v1,v2,v3,v4,v5⟩ a5 (w15.setCell ⟨we.heap.size,5,nO⟩ (.int .i64 v5)):=T5.puts 3 v5;try clear x0 x1 x2 x3 x4 x5 xf xz
        obtain⟨⟨x0,x1,x2,x3,x4,x5⟩,xf,xz⟩:=id T5.2.1;clear T5;have HRP:Hid (rp k vs=(⟨k,v1,v2,v3,v4,v5⟩,a5)):=by
         show _=_;unfold rp;simp only[HR1.out,HR2.out,HR3.out,HR4.out,HR5.out,if_neg h13]
        have Qz:=Q5.drew;have HIv:∃iv:Ins,Hid (iv=⟨k,v1,v2,v3,v4,v5⟩):=⟨_,rfl⟩;exact Bd
      ·have hx3:((aL k).toList==x.toList)=false:=by
        rw[beq_eq_false_iff_ne,ByteArray.toList_eq,ByteArray.toList_eq];exact hw
       have hx4:((aL k).toList !=x.toList)=true:=by rw[bne,hx3];rfl
       have HW2:Hid (∀j:Nat,1<=j->j < k+1->(aL j).data.toList≠x.data.toList):=by
        intro j h1 h2;by_cases hj:j=k
        ·rw[hj];exact hw
        ·exact HW.out j h1 aa
       clear HW hw;refine vH 5 ?_ ?_;refine wpAnyH_done ae ?_ _;go_wp2;go_roundw
       case rel=>exact⟨k+1,aa,aa,aF,HW2,hbf⟩
       case measure=>exact aK
theorem ZAt.block {w w':World}{b:Nat}(h:ZAt w b)(hb:w'.heap[b]? =w.heap[b]?):ZAt w' b:=by
 have hc:=yM;have hf:=Kc;obtain⟨h0,h1,h2,h3,hz⟩:=h;refine⟨(hc _).trans h0,(hc _).trans h1,(hc _).trans h2,λj=>(hf j).trans (h3 j),?_⟩;rw[Array.getElem?_eq_getElem hz] at hb;exact(j7.1 hb).1

def Gg (q:(Int×Int×lI)×Int×Int)(B:Nat)(e:Ending)(w':World):Prop:=
 ∃v,e=Rt (Tu #[Ag #[.int .i64 q.1.1,.int .i64 q.1.2.1,v],.int .i64 q.2.1,.int .i64 q.2.2])/\w'.ownsRow B 100 6 v q.1.2.2.length (gA q.1.2.2)

def gE (ls:List (List UInt8))(k:Nat)(V F:Int)(c:lI):Except Nat (Int×Int×lI):=match eF (k+1) (ls.drop k) with
 |.error e=>.error e
 |.ok t=>.ok (V,F,c++t)
theorem Ex {ls:List (List UInt8)}{k:Nat}{V F:Int}{c:lI}(h:k+1=ls.length):gE ls k V F c=if ls.getD k []=[] then .ok (V,F,c) else .error (k+1):=by
 unfold gE;rw[q4 (by omega:k < ls.length),q6 aa,lC (by omega:k < ls.length),eF];split
 ·rename_i e
  split at e
  ·cases e
  ·rename_i hx
   cases e;rw[if_neg hx]
 ·rename_i t e
  split at e
  ·rename_i hx
   cases e;rw[if_pos hx];simp
  ·cases e
theorem Rj {ls:List (List UInt8)}{k:Nat}{V F:Int}{c:lI}(h:k+1 < ls.length):gE ls k V F c=match eI (ls.getD k []) with
  |none=>.error (k+1)
  |some i=>gE ls (k+1) V F (c++[i]):=by
 unfold gE;rw[q4 (by omega:k < ls.length),q4 h,lC (by omega:k < ls.length),eF];cases eI ls[k] with
 |none=>rfl
 |some i=>
  simp only;cases eF (k+1+1) (ls[k+1]::List.drop (k+1+1) ls) with
  |error e=>rfl
  |ok t=>simp
theorem SB {s x:List UInt8}(h:bt 10 s=[x]):d8 s=.error 1:=by unfold d8;rw[h]
theorem Pt {s:List UInt8}{ls:List (List UInt8)}(h:bt 10 s=ls)(hl:1 < ls.length):d8 s=match eE (ls.getD 0 []) with
  |none=>.error 1
  |some (V,F)=>gE ls 1 V F []:=by
 unfold d8 gE;rw[h]
 match ls,hl with
 |x::y::r,_=>
  simp only[q9,List.getElem?_cons_zero,Option.getD_some,List.drop_succ_cons,J4,X8];cases eE x with
  |none=>rfl
  |some vf=>rfl

theorem BV {p:Prop}(h:p:=by
 have:=tz (w5.alloc (.cells #[.int .i64 i2.k,.int .i64 i2.tgt,.int .i64 i2.a,.int .i64 i2.b,.int .i64 i2.n,.int .i64 i2.g] 100)) (cR i2) 100;intro j u hj;have h:=this j u hj;simp only[World.size_alloc] at h;exact h):p:=h
theorem Bm {p:Prop}(h:p:=by
 rw[hgrow.block _ ap (λe=>uG),Below.heap_alloc _ _ _ ap,Below.heap_alloc _ _ _ aa]):p:=h
theorem AJ {p:Prop}(h:p:=by
 exact((hbr5.alloc aa _).alloc ap _).grown hgrow ap (λj hj=>Dt)):p:=h
theorem AW {p:Prop}(h:p:=by
 simp only[ke] at he2;subst he2;have B5:=Ae;have S5:wr.heap.size<=w5.heap.size:=hb5.size;obtain⟨P0,P1,P2,Pf⟩:PrgAt w5 w1.heap.size V F (.slice sl c.length cap):=PrgAt.block ⟨p0,p1,p2,pf⟩ (B5 _ hzr);have hB5:w1.heap.size < w5.heap.size:=aa;have hown5:=bB hownC (λj hj=>B5 j (cn hownC hj).1);have Z5:=ZR.call hb5;have hbr5:=nf;clear p0 p1 p2 pf ck hcode hownC hb5 ZR;have hnews:∀j u,(cR i2)[j]? =some u->((w5.alloc (.cells #[.int .i64 i2.k,.int .i64 i2.tgt,.int .i64 i2.a,.int .i64 i2.b,.int .i64 i2.n,.int .i64 i2.g] 100)).alloc (.cells #[.int .i64 i2.k,.int .i64 i2.tgt,.int .i64 i2.a,.int .i64 i2.b,.int .i64 i2.n,.int .i64 i2.g] 100)).cell? ((⟨w5.heap.size+1,0,none⟩:Addr).add j)=some u:=by
  exact BV
 have hG:∀w6,((w5.alloc (.cells #[.int .i64 i2.k,.int .i64 i2.tgt,.int .i64 i2.a,.int .i64 i2.b,.int .i64 i2.n,.int .i64 i2.g] 100)).alloc (.cells #[.int .i64 i2.k,.int .i64 i2.tgt,.int .i64 i2.a,.int .i64 i2.b,.int .i64 i2.n,.int .i64 i2.g] 100)).grownBy w6 (Value.slice sl c.length cap).ownBlock->∀j,j<=w1.heap.size->w6.heap[j]? =w5.heap[j]? :=λw6 hgrow j hj=>by
  exact Bm
 have hH6:∀w6,((w5.alloc (.cells #[.int .i64 i2.k,.int .i64 i2.tgt,.int .i64 i2.a,.int .i64 i2.b,.int .i64 i2.n,.int .i64 i2.g] 100)).alloc (.cells #[.int .i64 i2.k,.int .i64 i2.tgt,.int .i64 i2.a,.int .i64 i2.b,.int .i64 i2.n,.int .i64 i2.g] 100)).grownBy w6 (Value.slice sl c.length cap).ownBlock->bl w1 w6:=λw6 hgrow=>
  AJ
 have hone:∀u∈cR i2,u.oneCell'=true:=DX;have hba:=Gl;go_wp2_with (at_builtin;refine wpList_append_own _ rfl _ _ 22 rfl (w1.heap.size+1) 100 ti (.agg #[.int .i64 0,.int .i64 0,.int .i64 0,.int .i64 0,.int .i64 0,.int .i64 0]) 6 48 underlying22 hi hz0 hz1 hz2 rfl ai _ _ _ rfl ((hown5.alloc _).alloc _) ⟨w5.heap.size+1,0,none⟩ 1 1 (cR i2) rfl rfl hnews hone cO aa hba ?_;intro v' w6 hown' hgrow hnil;obtain⟨g6,cap6,rfl,hg6,hl6⟩:=hown'.form (Nat.succ_pos _);obtain⟨Q0,Q1,Q2,Qf⟩:PrgAt w6 w1.heap.size V F (.slice sl c.length cap):=PrgAt.block ⟨P0,P1,P2,Pf⟩ (hG w6 hgrow _ (Nat.le_refl _));obtain⟨e0,e1,e2,ef,ez⟩:ZAt w6 w.heap.size:=Z5.block (hG w6 hgrow _ aa);have H6:=hH6 w6 hgrow;have z6:w1.heap.size < w6.heap.size:=(by have:=hgrow.size;simp at this;omega));have H7:=H1.trans (H6.mono H1.size);refine bodyPost_ret (v:=.tuple #[.agg #[.int .i64 0,.int .i64 0,.slice none 0 0],.int .i64 ((k:Int)+1),.int .i64 1]) (by simp[results,results26,go_sem,e0,e1,e2,ez,hneP]) rfl ⟨?_,?_⟩
 ·rw[HP.out]
  exact mR
 ·first|exact(((((H7.setCell ap _).setCell (Nat.le_refl _) _).setCell (Nat.le_refl _) _).setCell (Nat.le_refl _) _))|exact(((((H7.setCell (Nat.le_refl _) _).setCell (Nat.le_refl _) _).setCell (Nat.le_refl _) _).setCell ap _))):p:=h
theorem mg {p:Prop}(h:p:=by
 go_wp2;refine bodyPost_ret (v:=.tuple #[.agg #[.int .i64 0,.int .i64 0,.slice none 0 0],.int .i64 1,.int .i64 1]) (by simp[results,results26,go_sem,e0,e1',e2,ez]) rfl ⟨?_,?_⟩
 ·rw[HP.out]
  exact mR
 ·exact((H5.setCell (Nat.le_refl _) _).setCell (Nat.le_refl _) _).setCell (Nat.le_refl _) _):p:=h
theorem Ay {p:Prop}(h:p:=by
 clear HRd HPE hva hvd Hh;go_wp2;refine bodyPost_ret (v:=.tuple #[.agg #[.int .i64 0,.int .i64 0,.slice none 0 0],.int .i64 1,.int .i64 1]) (by simp[results,results26,go_sem,e0,e1',e2,ez,hneP]) rfl ⟨?_,?_⟩
 ·rw[HP.out]
  exact mR
 ·first|exact((Hb.setCell (Nat.le_refl _) _).setCell (Nat.le_refl _) _).setCell (Nat.le_refl _) _|exact(((((H7.setCell (Nat.le_refl _) _).setCell (Nat.le_refl _) _).setCell (Nat.le_refl _) _).setCell ap _).setCell ap _)):p:=h
theorem Lu (s:ByteArray)(w:World):
  Calls pG 26 #[.string s] w λe w'=>Gg (aD s) w.heap.size e w'/\bl w w':=by
 obtain⟨ti,hi,hz0,hz1,hz2⟩:=info_parts wI;have hb0:=iV;have Z0:=ZAt.new w;by_cases hs:4000 < s.size
 ·have hp:aD s=((0,0,[]),0,2):=by unfold aD;rw[if_pos hs]
  have HP:=cD hp;have n0:=pa;clear hp Z0 hb0;generalize aD s=ps at *;go_enter func26,ntmps26;go_wp2;refine bodyPost_ret (v:=Tu #[Ag #[.int .i64 0,.int .i64 0,U nO 0 0],.int .i64 0,.int .i64 2]) (by simp[results,results26,go_sem]) rfl ⟨?_,am⟩;rw[HP.out];exact mR
 ·have hs':s.size<=4000:=by omega
  have n0:=nz;have HPE:Hid (∀k:Nat,d8 s.data.toList=.error k->aD s=((0,0,[]),(k:Int),1)):=by
   intro k hr;unfold aD;rw[if_neg hs,hr]
  have HPO:Hid (∀V F c,d8 s.data.toList=.ok (V,F,c)->aD s=if au V F c=0 then((V,F,c),0,0) else((0,0,[]),0,au V F c)):=by
   intro V F c hr;unfold aD;rw[if_neg hs,hr]
  have hC:Calls pG 65 #[.string s,.int .u8 10] (w.alloc (Cc #[.int .i64 0,.int .i64 0,U nO 0 0] 24)) _:=Ah s 10 _ hs';have hcl:=kL 10 s.data.toList;rw[ci] at hcl;generalize aD s=ps at *;go_enter func26,ntmps26;go_wp2_with fail;refine hC.mono ?_;rintro e w1 ⟨vl,xs,rfl,hdat,hxl,hown,hbc⟩;clear hC;have Z1:=Z0.call hbc;have H1:bl w w1:=hb0.trans (hbc.mono ah);have hlen0:1<=xs.length:=by
   obtain⟨y,r,hy⟩:=ge 10 s.data.toList;have:=congrArg List.length hdat;rw[hy] at this;simp at this;omega
  obtain⟨g,cw,rfl,hgB,hgz⟩:=hown.form hlen0;have hcs:∀j (hj:j < xs.length),w1.cell? ⟨g,j,nO⟩=sO (.string xs[j]):=λj hj=>by
   rw[hown.cellAt _ aa,z8,j8 hj];rfl
  have hyl:∀j (hj:j < xs.length),(xs[j]).size<=4000:=by
   intro j hj;have hm:(xs[j]).data.toList∈bt 10 s.data.toList:=by
    rw[<-hdat];exact Q9 (gM hj)
   have:=iT 10 _ _ hm;rw[kS,ci,ci] at this;omega
  have hLD:∃LD,LD=bt 10 s.data.toList:=⟨_,rfl⟩;obtain⟨LD,hLD⟩:=hLD;have HRM:=cD (λh=>Pt hLD.symm h);have HRO:=cD (λx h=>SB (x:=x) (hLD.symm.trans h));have hLn:LD.length=xs.length:=by rw[hLD,<-hdat,J9]
  have hLg:∀j (hj:j < xs.length),LD.getD j []=(xs[j]).data.toList:=by
   intro j hj;rw[hLD,<-hdat,q9,z8,j8 hj];rfl
  generalize d8 s.data.toList=rd at *;clear hLD hdat hown hbc Z0 hb0 hcl;have hPb:Below w1.heap.size w1 (w1.alloc (Cc #[.int .i64 0,.int .i64 0,U nO 0 0] 24)):=am;have hP0:PrgAt (w1.alloc (Cc #[.int .i64 0,.int .i64 0,U nO 0 0] 24)) w1.heap.size 0 0 (U nO 0 0):=by
   refine⟨?_,?_,?_,λj=> ?_⟩<;>simp[go_sem]
  go_wp2;go_loopw [7] (λi wr=>∃(k:Nat) (V F:Int) (c:lI) (v:Value),k < xs.length/\i=.int .i64 k/\((k=0/\V=0/\F=0/\c=[])\/(1<=k/\c.length+1=k/\Hid (rd=gE LD k V F c)))/\PrgAt wr w1.heap.size V F v/\wr.ownsRow (w1.heap.size+1) 100 6 v c.length (gA c)/\bl w1 wr/\w1.heap.size < wr.heap.size) (λi _=>xs.length - (intOf i).toNat)
  case atStart=>exact⟨0,0,0,[],_,aa,rfl,.inl ⟨rfl,rfl,rfl,rfl⟩,hP0,q8 _ _ _ _,hPb,ah⟩
  case round=>
   obtain⟨k,V,F,c,v,hk,rfl,hcase,hPr,hownC,hbr,hzr⟩:=hrel;clear hP0 hPb;have HR:bl w wr:=H1.trans (hbr.mono H1.size);have ZR:=Z1.call hbr;have ck:wr.cell? ⟨g,k,nO⟩=sO (.string xs[k]):=by rw[hbr.cell hgz];exact hcs k hk
   have hyk:=hyl k hk;have hLk:=hLg k hk;have m0:=bA;have m1:(k:Int) < (xs.length:Int):=aa;have hwP:w.heap.size < w1.heap.size:=Z1.2.2.2.2;rcases hcase with⟨rfl,rfl,rfl,rfl⟩|⟨hk1,hcl,HT⟩
   ·have hneP:¬w.heap.size=w1.heap.size:=by omega
    generalize xs[0]=y at *;have hC2:Calls pG 65 #[.string y,.int .u8 32] wr _:=Ah y 32 _ hyk;obtain⟨p0,p1,p2,pf⟩:=id hPr;by_cases hlast:1=xs.length
    ·have e1:((0:Int)==(xs.length:Int) - 1)=true:=by simp;omega
     have HP:Hid (ps=((0,0,[]),1,1)):=by
      refine HPE.out 1 ?_;cases LD with
      |nil=>simp at hLn;omega
      |cons z r=>
       cases r with
       |nil=>exact HRO.out z rfl
       |cons _ _=>simp at hLn;omega
     clear HRM HRO HPE HPO hlast;go_wp2_with fail;refine hC2.mono ?_;rintro e w5 ⟨v2,xs2,rfl,-,-,hown2,hb5⟩;clear hC2 hown2;have H5:=nC;obtain⟨e0,e1',e2,ef,ez⟩:=ZR.call hb5;clear hb5 ZR ck p0 p1 p2 pf;exact mg
    ·have e1:((0:Int)==(xs.length:Int) - 1)=false:=by simp;omega
     have hrd:=HRM.out (by rw[hLn];omega);rw[hLk] at hrd;have HRd:=cD hrd;clear HRM HRO HPO hrd;go_wp2_with fail;refine hC2.mono ?_;rintro e w5 ⟨v2,xs2,rfl,hdat2,hxl2,hown2,hb5⟩;clear hC2;have H5:=nC;have Z5:=ZR.call hb5;have hP5:PrgAt w5 w1.heap.size 0 0 v:=hPr.block (hb5.block _ hzr);have hown5:=Gq;have hbr5:=nf;have hz5:w1.heap.size < w5.heap.size:=lL hzr hb5.size;clear hb5 ZR ck p0 p1 p2 pf hownC hPr;have hl2:1<=xs2.length:=by
      obtain⟨z,r,hz⟩:=ge 32 y.data.toList;have:=congrArg List.length hdat2;rw[hz] at this;simp at this;omega
     obtain⟨g2,cw2,rfl,hgB2,hgz2⟩:=hown2.form hl2;by_cases h4:xs2.length=4
     ·match xs2,h4 with
      |[x,a,b,d],_=>
       have hh:=vL hdat2;have Hh:=cD hh;have q0:w5.cell? ⟨g2,0,nO⟩=sO (.string x):=by rw[hown2.cellAt 0 (by simp)];rfl
       have q1:w5.cell? ⟨g2,1,nO⟩=sO (.string a):=by rw[hown2.cellAt 1 (by simp)];rfl
       have q2:w5.cell? ⟨g2,2,nO⟩=sO (.string b):=by rw[hown2.cellAt 2 (by simp)];rfl
       have q3:w5.cell? ⟨g2,3,nO⟩=sO (.string d):=by rw[hown2.cellAt 3 (by simp)];rfl
       have hwl:∀z∈[x,a,b,d],z.size<=4000:=by
        intro z hz;have hm:z.data.toList∈bt 32 y.data.toList:=by
         rw[<-hdat2];exact Q9 hz
        have:=iT 32 _ _ hm;rw[kS,ci,ci] at this;omega
       have hal:=hwl a ah;have hdl:=hwl d ah;simp only[j5,Q7,j3,Qa];clear hh hdat2 hown2 hwl hxl2 hl2;generalize eE y.data.toList=ho at *;by_cases hx:x.data.toList=nQ
       ·by_cases hbf:b.data.toList=mJ
        ·have ex:=kT hx
         have eb:=kT hbf;simp only[nQ] at ex;simp only[mJ] at eb;rw[if_pos ⟨hx,hbf⟩] at Hh;subst ex eb;clear hx hbf;go_wp2_with fail;refine(n9 a w5 hal).mono ?_;rintro e w6 ⟨⟨va,rfl,hva⟩,hb6⟩;have H6:=H5.trans (hb6.mono H5.size);have Z6:=Z5.call hb6;have hP6:PrgAt w6 w1.heap.size 0 0 v:=hP5.block (hb6.block _ hz5);have hown6:=bB hown5 (λj hj=>hb6.block j (cn hown5 hj).1);have hbr6:=hbr5.trans (hb6.mono hbr5.size);have hz6:w1.heap.size < w6.heap.size:=lL hz5 hb6.size;have q3':w6.cell? ⟨g2,3,nO⟩=sO (.string d):=by rw[hb6.cell hgz2];exact q3
         have hg6:g2 < w6.heap.size:=lL hgz2 hb6.size;clear q0 q1 q2 q3 hb6 Z5 hP5 hown5 hbr5 H5;go_wp2_with fail;refine(n9 d w6 hdl).mono ?_;rintro e w7 ⟨⟨vd,rfl,hvd⟩,hb7⟩;have H7:=H6.trans (hb7.mono H6.size);obtain⟨e0,e1',e2,ef,ez⟩:=Z6.call hb7;obtain⟨p0,p1,p2,pf⟩:PrgAt w7 w1.heap.size 0 0 v:=hP6.block (hb7.block _ hz6);have hown7:=bB hown6 (λj hj=>hb7.block j (cn hown6 hj).1);have hbr7:=hbr6.trans (hb7.mono hbr6.size);have hz7:w1.heap.size < w7.heap.size:=lL hz6 hb7.size;clear q3' hb7 Z6 hP6 hown6 hbr6 H6;have Hb:bl w ((w7.setCell ⟨w1.heap.size,0,nO⟩ (.int .i64 va)).setCell ⟨w1.heap.size,1,nO⟩ (.int .i64 vd)):=(H7.setCell ap _).setCell ap _;cases ea:bW a.data.toList with
         |none=>
          have hho:ho=none:=by rw[Hh.out,ea]
          have HP:=nF;simp only[Z4];generalize (bW d.data.toList).isSome=bd at *;exact Ay
         |some na=>
          cases ed:bW d.data.toList with
          |none=>
           have hho:ho=none:=by rw[Hh.out,ea,ed]
           have HP:=nF;simp only[Z4,Z7];exact Ay
          |some nd=>
           obtain rfl:=hva na ea;obtain rfl:=hvd nd ed;have hho:ho=sO (va,vd):=by rw[Hh.out,ea,ed]
           have HT:Hid (rd=gE LD 1 va vd []):=by
            have:=HRd.out;rw[hho] at this;exact this
           have hPn:PrgAt ((w7.setCell ⟨w1.heap.size,0,nO⟩ (.int .i64 va)).setCell ⟨w1.heap.size,1,nO⟩ (.int .i64 vd)) w1.heap.size va vd v:=by
            refine⟨?_,?_,?_,λj=> ?_⟩<;>simp[go_sem,p0,p1,p2,pf]
           simp only[Z7];clear HRd HPE hva hvd Hh ea ed hho;go_wp2;go_roundw
           case rel=>exact⟨1,va,vd,[],v,aa,aF,.inr ⟨lR _,rfl,HT⟩,hPn,ownsRow_setCell_below (ownsRow_setCell_below hown7 (z9 _) _) (z9 _) _,(hbr7.setCell (lR _) _).setCell (lR _) _,by simpa using hz7⟩
           case measure=>exact aK
        ·have hho:ho=none:=Hh.out.trans (if_neg (λh=>hbf h.2))
         have HP:=nF;have ex:=kT hx;simp only[nQ] at ex;have hne:(b.toList==[102,105,101,108,100,115])=false:=by
          rw[beq_eq_false_iff_ne,ByteArray.toList_eq];exact hbf
         subst ex;clear Hh hx hbf HRd HPE;obtain⟨e0,e1',e2,ef,ez⟩:=Z5;exact mg
       ·have hho:ho=none:=Hh.out.trans (if_neg (λh=>hx h.1))
        have HP:=nF;have hne:(x.toList==[118,97,114,115])=false:=by
         rw[beq_eq_false_iff_ne,ByteArray.toList_eq];exact hx
        clear Hh hx HRd HPE;obtain⟨e0,e1',e2,ef,ez⟩:=Z5;exact mg
     ·have hho:eE y.data.toList=none:=by
       cases xs2 with
       |nil=>simp at hl2
       |cons x ns=>exact vC hdat2 (by simp at h4;omega)
      have HP:=nF;have hn5:((xs2.length:Int)==4)=false:=ap;clear hho HRd HPE hdat2 hown2;obtain⟨e0,e1',e2,ef,ez⟩:=Z5;exact mg
   ·have m2:(0:Int) < (k:Int):=by omega
    generalize xs[k]=y at *;by_cases hlast:k+1=xs.length
    ·have e1:((k:Int)==(xs.length:Int) - 1)=true:=by simp;omega
     by_cases hy0:y.data.toList=[]
     ·have hy1:y=⟨#[]⟩:=by
       apply ByteArray.ext;apply q5.1;exact hy0
      have hrd:=HT.out;rw[Ex (by rw[hLn];exact hlast),hLk,if_pos hy0] at hrd;have hps:=HPO.out V F c hrd;subst hy1;have hneP:¬w.heap.size=w1.heap.size:=aa;obtain⟨sl,cap,rfl,hcode⟩:=dA hownC;obtain⟨p0,p1,p2,pf⟩:=id hPr;go_wp2_with fail;refine(wF V F sl cap c wr hcode).mono ?_;rintro e w5 ⟨rfl,hb5⟩;have H5:=nC;obtain⟨e0,e1,e2,ef,ez⟩:=ZR.call hb5;obtain⟨P0,P1,P2,Pf⟩:PrgAt w5 w1.heap.size V F (U sl c.length cap):=PrgAt.block ⟨p0,p1,p2,pf⟩ (hb5.block _ hzr);have hown5:=Gq;have hz5:w1.heap.size < w5.heap.size:=lL hzr hb5.size;clear p0 p1 p2 pf ck hcode hownC hb5 ZR;by_cases h0:au V F c=0
      ·rw[if_pos h0] at hps
       have HP:=cD hps;rw[h0];go_wp2;refine bodyPost_ret (v:=Tu #[Ag #[.int .i64 V,.int .i64 F,U sl c.length cap],.int .i64 0,.int .i64 0]) (by simp[results,results26,go_sem,e0,e1,e2]) rfl ⟨?_,((H5.setCell (lR _) _).setCell (lR _) _).setCell (lR _) _⟩;rw[HP.out];refine⟨_,rfl,?_⟩;have hzz:w.heap.size < w1.heap.size+1:=aa;exact l9 (ownsRow_setCell_below (a:=⟨w.heap.size,2,nO⟩) (ownsRow_setCell_below (a:=⟨w.heap.size,1,nO⟩) (ownsRow_setCell_below (a:=⟨w.heap.size,0,nO⟩) hown5 hzz (.int .i64 V)) hzz (.int .i64 F)) hzz (U sl c.length cap)) (Q6 hzz)
      ·rw[if_neg h0] at hps
       have HP:=cD hps;have hk5:=rS;go_wp2;refine bodyPost_ret (v:=Tu #[Ag #[.int .i64 0,.int .i64 0,U nO 0 0],.int .i64 (0),.int .i64 (au V F c)]) (by simp[results,results26,go_sem,e0,e1,e2,ez,Q8 ez]) rfl ⟨?_,?_⟩
       ·rw[HP.out]
        exact mR
       ·first|exact(((H5.setCell (lR _) _).setCell (lR _) _).setCell (lR _) _)|exact((((H5.setCell (lR _) _).setCell (lR _) _).setCell (lR _) _).alloc ap _)
     ·have hne:(y.toList==[])=false:=by rw[beq_eq_false_iff_ne,ByteArray.toList_eq];exact hy0
      have hne2:y.toList.isEmpty=false:=by rw[ByteArray.toList_eq,x9];exact hy0
      have hrd:=HT.out;rw[Ex (by rw[hLn];exact hlast),hLk,if_neg hy0] at hrd;have HP:=cD (HPE.out _ hrd);have hneP:¬w.heap.size=w1.heap.size:=aa;have ec:((k+1:Nat):Int)=(k:Int)+1:=aa;rw[ec] at HP;clear HT hrd hy0 HRM HRO HPE HPO;obtain⟨sl,cap,rfl,hcode⟩:=dA hownC;obtain⟨p0,p1,p2,pf⟩:=id hPr;go_wp2_with fail;refine(ot y wr hyk).mono ?_;rintro e w5 ⟨⟨i2,he2,hi2⟩,hb5⟩;exact AW
    ·have e1:((k:Int)==(xs.length:Int) - 1)=false:=by simp;omega
     have hneP:¬w.heap.size=w1.heap.size:=aa;have ec:((k+1:Nat):Int)=(k:Int)+1:=aa;have hrd:=HT.out;rw[Rj (by rw[hLn];omega),hLk] at hrd;clear HT HRM HRO HPO;cases ho:eI y.data.toList with
     |none=>
      rw[ho] at hrd;have HP:=cD (HPE.out _ hrd);rw[ec] at HP;clear hrd HPE;obtain⟨sl,cap,rfl,hcode⟩:=dA hownC;obtain⟨p0,p1,p2,pf⟩:=id hPr;go_wp2_with fail;refine(ot y wr hyk).mono ?_;rintro e w5 ⟨⟨i2,he2,hi2⟩,hb5⟩;rw[ho] at he2;simp only[Z4] at he2;exact AW
     |some i=>
      rw[ho] at hrd;have HT2:=cD hrd;clear hrd HPE;obtain⟨sl,cap,rfl,hcode⟩:=dA hownC;obtain⟨p0,p1,p2,pf⟩:=id hPr;go_wp2_with fail;refine(ot y wr hyk).mono ?_;rintro e w5 ⟨⟨i2,he2,hi2⟩,hb5⟩;rw[ho] at he2 hi2;simp only[Z7] at he2;obtain rfl:=hi2 i rfl;clear hi2 ho;simp only[ke] at he2;subst he2;have B5:=Ae;have S5:wr.heap.size<=w5.heap.size:=hb5.size;obtain⟨P0,P1,P2,Pf⟩:PrgAt w5 w1.heap.size V F (U sl c.length cap):=PrgAt.block ⟨p0,p1,p2,pf⟩ (B5 _ hzr);have hB5:w1.heap.size < w5.heap.size:=aa;have hown5:=bB hownC (λj hj=>B5 j (cn hownC hj).1);have Z5:=ZR.call hb5;have hbr5:=nf;clear p0 p1 p2 pf ck hcode hownC hb5 ZR;have hnews:∀j u,(cR i2)[j]? =sO u->((w5.alloc (Cc #[.int .i64 i2.k,.int .i64 i2.tgt,.int .i64 i2.a,.int .i64 i2.b,.int .i64 i2.n,.int .i64 i2.g] 100)).alloc (Cc #[.int .i64 i2.k,.int .i64 i2.tgt,.int .i64 i2.a,.int .i64 i2.b,.int .i64 i2.n,.int .i64 i2.g] 100)).cell? ((⟨w5.heap.size+1,0,nO⟩:Addr).add j)=sO u:=by
       exact BV
      have hG:∀w6,((w5.alloc (Cc #[.int .i64 i2.k,.int .i64 i2.tgt,.int .i64 i2.a,.int .i64 i2.b,.int .i64 i2.n,.int .i64 i2.g] 100)).alloc (Cc #[.int .i64 i2.k,.int .i64 i2.tgt,.int .i64 i2.a,.int .i64 i2.b,.int .i64 i2.n,.int .i64 i2.g] 100)).grownBy w6 (j9 sl c.length cap).ownBlock->∀j,j<=w1.heap.size->w6.heap[j]? =w5.heap[j]? :=λw6 hgrow j hj=>by
       exact Bm
      have hH6:∀w6,((w5.alloc (Cc #[.int .i64 i2.k,.int .i64 i2.tgt,.int .i64 i2.a,.int .i64 i2.b,.int .i64 i2.n,.int .i64 i2.g] 100)).alloc (Cc #[.int .i64 i2.k,.int .i64 i2.tgt,.int .i64 i2.a,.int .i64 i2.b,.int .i64 i2.n,.int .i64 i2.g] 100)).grownBy w6 (j9 sl c.length cap).ownBlock->bl w1 w6:=λw6 hgrow=>
       AJ
      have hone:∀u∈cR i2,u.oneCell'=true:=DX;have hba:=Gl;go_wp2_with (at_builtin;refine wpList_append_own _ rfl _ _ 22 rfl (w1.heap.size+1) 100 ti (Ag #[.int .i64 0,.int .i64 0,.int .i64 0,.int .i64 0,.int .i64 0,.int .i64 0]) 6 48 underlying22 hi hz0 hz1 hz2 rfl ai _ _ _ rfl ((hown5.alloc _).alloc _) ⟨w5.heap.size+1,0,nO⟩ 1 1 (cR i2) rfl rfl hnews hone cO aa hba ?_;intro v' w6 hown' hgrow hnil;obtain⟨g6,cap6,rfl,hg6,hl6⟩:=hown'.form (x8 _);obtain⟨Q0,Q1,Q2,Qf⟩:PrgAt w6 w1.heap.size V F (U sl c.length cap):=PrgAt.block ⟨P0,P1,P2,Pf⟩ (hG w6 hgrow _ (lR _));obtain⟨e0,e1,e2,ef,ez⟩:ZAt w6 w.heap.size:=Z5.block (hG w6 hgrow _ aa);have H6:=hH6 w6 hgrow;have z6:w1.heap.size < w6.heap.size:=(by have:=hgrow.size;simp at this;omega));go_roundw
      case rel=>
       refine⟨k+1,V,F,c++[i2],U (sO ⟨g6,0,nO⟩) k cap6,aa,aF,.inr ⟨aa,by rw[q7];simp;omega,HT2⟩,PrgAt.set ⟨Q0,Q1,Q2,Qf⟩ _,?_,H6.setCell (lR _) _,by simpa using z6⟩;have hfl:gA (c++[i2])=gA c++cR i2:=by simp[gA]
       have hk9:(c++[i2]).length=c.length+1:=ah;rw[hfl,hk9];rw[hcl] at hown' |-;exact ownsRow_setCell_below hown' (z9 _) _
      case measure=>exact aK
end
end Go.Proofs.YtmapdpcfanecdabGreatDoor
