import Derived.Test.YtmapdpcfanecdabGreatDoorU23
import Derived.Test.YtmapdpcfanecdabGreatDoorU24
import Derived.Test.YtmapdpcfanecdabGreatDoorU25
import Derived.Test.YtmapdpcfanecdabGreatDoorU26
import Derived.FnData
import Derived.LaidLaws
import Derived.Sort.OwnSortedInts
import Derived.Lib.RowBridge
open Array renaming getElem?_eq_some_iff→j3,toList_inj→j7
open Bool renaming eq_false_or_eq_true→q8
open Go.Ending renaming returned→Rt
open Go.Obj renaming cells→Cc
open Go.Proofs.Tryz renaming prog→pG
open Go.RowKit.Below renaming heap_setCell→hSe,refl→bR
open Go.Value renaming agg→Ag,bool→Bb,pointer→Pp,slice→U,tuple→Tu
open Go.World renaming cell?→z7,cell?_of_block→q5,frozen?→z8,ownsRow_nil→j6,setCell→Q6,settled→x9,size_alloc→zA
open List renaming drop_eq_getElem_cons→q7,drop_eq_nil_of_le→j8,drop_zero→Q8,eq_nil_of_length_eq_zero→J4,find?_eq_none→x8,flatMap_append→q9,getD→x7,getElem?_eq_getElem→q4,getElem?_eq_some_iff→J8,getElem?_map→J9,getElem_mem→gM,isEmpty_eq_false_iff→z9,length_append→j9,length_cons→j4,length_eq_zero_iff→J7,length_map→Q5,map_append→Q4,map_cons→J6,mem_cons_of_mem→x6,mem_map→Q3,range→j1,range'→q6,take_of_length_le→J5,take_succ_eq_append_getElem→j5
open Nat renaming le_refl→lR,le_trans→lT,lt_of_lt_of_le→lL,zero_add→j2,zero_le→j0
open Option renaming isSome→Q7,none→nO,some→sO
set_option linter.unusedSimpArgs false
set_option linter.unusedVariables false
set_option maxHeartbeats 8000000
set_option maxRecDepth 100000
namespace Go.Proofs.YtmapdpcfanecdabGreatDoor
section
open Go.RowKit
theorem lQ (V F:Int)(s:oA)(len cap N:Nat)(i:Ins)(w:World)(hV:1<=V)(hV':V<=8)(hF:0<=F)(hF':F<=3)(hL:len<=60)(hs:ShpAt N shps w):
  Calls pG 128 #[Ag #[.int .i64 V,.int .i64 F,U s len cap],.map (sO N),Ag #[.int .i64 i.k,.int .i64 i.tgt,.int .i64 i.a,.int .i64 i.b,.int .i64 i.n,.int .i64 i.g]] w λe w'=>e=Rt (.int .i64 (bk V F len i))/\bl w w':=by
 obtain⟨k,tto,a,b,n,g⟩:=i;by_cases h:btw k 1 19=true
 ·rcases om h with rfl|rfl|rfl|rfl|rfl|rfl|rfl|rfl|rfl|rfl|rfl|rfl|rfl|rfl|rfl|rfl|rfl|rfl|rfl
  ·exact yO V F s len cap N tto a b n g w hV hV' hF hF' hL hs
  ·exact Ay V F s len cap N tto a b n g w hV hV' hF hF' hL hs
  ·exact Aw V F s len cap N tto a b n g w hV hV' hF hF' hL hs
  ·exact yV V F s len cap N tto a b n g w hV hV' hF hF' hL hs
  ·exact Aj V F s len cap N tto a b n g w hV hV' hF hF' hL hs
  ·exact AH V F s len cap N tto a b n g w hV hV' hF hF' hL hs
  ·exact At V F s len cap N tto a b n g w hV hV' hF hF' hL hs
  ·exact Ao V F s len cap N tto a b n g w hV hV' hF hF' hL hs
  ·exact AQ V F s len cap N tto a b n g w hV hV' hF hF' hL hs
  ·exact ya V F s len cap N tto a b n g w hV hV' hF hF' hL hs
  ·exact yg V F s len cap N tto a b n g w hV hV' hF hF' hL hs
  ·exact yr V F s len cap N tto a b n g w hV hV' hF hF' hL hs
  ·exact yH V F s len cap N tto a b n g w hV hV' hF hF' hL hs
  ·exact wU V F s len cap N tto a b n g w hV hV' hF hF' hL hs
  ·exact wZ V F s len cap N tto a b n g w hV hV' hF hF' hL hs
  ·exact yu V F s len cap N tto a b n g w hV hV' hF hF' hL hs
  ·exact yq V F s len cap N tto a b n g w hV hV' hF hF' hL hs
  ·exact yo V F s len cap N tto a b n g w hV hV' hF hF' hL hs
  ·exact wX V F s len cap N tto a b n g w hV hV' hF hF' hL hs
 ·exact ym V F s len cap N k tto a b n g w hV hV' hF hF' hL hs cj

theorem FE (V F:Int)(b off cap:Nat)(c:lI)(w:World)(hV:1<=V)(hV':V<=8)(hF:0<=F)(hF':F<=3)(hL:c.length<=60)(hb:b < w.heap.size)(hc:∀k (h:k < c.length),InsAt w b (off+k * 6) c[k]):
  Calls pG 76 #[Ag #[.int .i64 V,.int .i64 F,U (sO ⟨b,off,nO⟩) c.length cap]] w λe w'=>e=Rt (.int .i64 (eI V F c.length c))/\bl w w':=by
 have hl60:(c.length:Int)<=60:=aa;have hbox:Below w.heap.size w (w.alloc (Cc #[.int .i64 V,.int .i64 F,U (sO ⟨b,off,nO⟩) c.length cap] 24)):=ai;go_enter Tryz.func76,Tryz.ntmps76;go_wp2_with (go_at_call 127;refine(i8 _).mono ?_;rintro e w1 ⟨rfl,hs1,hb1⟩;obtain⟨hc1,hf1⟩:=yK hb1;have q2:w1.cell? ⟨w.heap.size,2,nO⟩=sO (U (sO ⟨b,off,nO⟩) c.length cap):=pa);simp only[zA] at hs1;have q0:w1.cell? ⟨w.heap.size,0,nO⟩=sO (.int .i64 V):=pa;have q1:w1.cell? ⟨w.heap.size,1,nO⟩=sO (.int .i64 F):=pa;clear hc1 hf1;have z1:w.heap.size+1<=w1.heap.size:=kM;have hbw:bl w w1:=hbox.trans (hb1.mono ah);go_loopw [35] (λi wr=>∃k:Nat,k<=c.length/\i=.int .i64 k/\bl w1 wr/\Hid (eI V F c.length (c.drop k)=eI V F c.length c)) (λi _=>c.length - (intOf i).toNat)
 case atStart=>exact⟨0,j0 _,rfl,bR _ _,rfl⟩
 case round=>
  obtain⟨k,hk,rfl,hbr,HR⟩:=hrel;have r0:wr.cell? ⟨w.heap.size,0,nO⟩=sO (.int .i64 V):=by rw[hbr.cell (by simp;omega)];exact q0
  have r1:wr.cell? ⟨w.heap.size,1,nO⟩=sO (.int .i64 F):=by rw[hbr.cell (by simp;omega)];exact q1
  have r2:wr.cell? ⟨w.heap.size,2,nO⟩=sO (U (sO ⟨b,off,nO⟩) c.length cap):=by rw[hbr.cell (by simp;omega)];exact q2
  have s0:w1.heap.size<=wr.heap.size:=hbr.size;have s1:w.heap.size < wr.heap.size:=aa;have s2:b < wr.heap.size:=aa;by_cases hlt:k < c.length
  ·have hi:InsAt wr b (off+k * 6) c[k]:=((hc k hlt).below hbw hb).below hbr aa
   obtain⟨i0,i1,i2,i3,i4,i5⟩:=hi;have n0:(0:Int)<=(k:Int):=aa;have n1:(k:Int) < (c.length:Int):=aa;clear q0 q1 q2;have HS:=uN (V:=V) (F:=F) (L:=c.length) hlt;by_cases hz:bk V F c.length c[k]=0
   ·have HC:Hid (eI V F c.length (c.drop (k+1))=eI V F c.length c):=by have:=HR.out;rw[HS,if_pos hz] at this;exact this
    clear HS HR;go_wp2_with (go_at_call 128;refine(lQ V F _ _ _ _ c[k] _ hV hV' hF hF' hL ?hs).mono ?_;(case hs=>exact hs1.below (hbr.alloc s0 _) (lR _));rintro e w2 ⟨rfl,hb2⟩);go_roundw
    case rel=>exact⟨k+1,aa,aJ,(hbr.alloc s0 _).trans (hb2.mono an),HC⟩
    case measure=>simp[intOf];omega
   ·rw[if_neg hz] at HS
    have HC:Hid (bk V F c.length c[k]=eI V F c.length c):=by have:=HR.out;rw[HS] at this;exact this
    have hz':(bk V F c.length c[k]!=0)=true:=d9;clear HS HR;go_wp2_with (go_at_call 128;refine(lQ V F _ _ _ _ c[k] _ hV hV' hF hF' hL ?hs).mono ?_;(case hs=>exact hs1.below (hbr.alloc s0 _) (lR _));rintro e w2 ⟨rfl,hb2⟩);go_ret;exact⟨bP HC.out,hbw.trans (((hbr.alloc s0 _).trans (hb2.mono an)).mono aa)⟩
  ·go_wp2
   go_ret;exact⟨bP Di,hbw.trans (hbr.mono aa)⟩

theorem Gh (V F:Int)(s:oA)(cap:Nat)(w:World)(hV:1<=V)(hV':V<=8)(hF:0<=F)(hF':F<=3):
  Calls pG 76 #[Ag #[.int .i64 V,.int .i64 F,U s 0 cap]] w λe w'=>e=Rt (.int .i64 0)/\bl w w':=by
 have hbox:Below w.heap.size w (w.alloc (Cc #[.int .i64 V,.int .i64 F,U s 0 cap] 24)):=ai;go_enter Tryz.func76,Tryz.ntmps76;go_wp2_with (go_at_call 127;refine(i8 _).mono ?_;rintro e w1 ⟨rfl,hs1,hb1⟩;have q2:w1.cell? ⟨w.heap.size,2,nO⟩=sO (U s 0 cap):=pa)
 go_rounds 1
 go_ret;exact⟨rfl,hbox.trans (hb1.mono ah)⟩

theorem DN (V F:Int)(s:oA)(len cap:Nat)(w:World)(hV:1<=V)(hV':V<=8)(hF:0<=F)(hF':F<=3)(hl:60 < len):
  Calls pG 76 #[Ag #[.int .i64 V,.int .i64 F,U s len cap]] w λe w'=>e=Rt (.int .i64 2)/\bl w w':=by
 have t3:(60:Int) < (len:Int):=aa;go_enter Tryz.func76,Tryz.ntmps76;go_wp2;go_ret;exact⟨rfl,ai⟩

theorem rp (V F:Int)(s:oA)(len cap:Nat)(w:World)(h:¬(1<=V/\V<=8/\0<=F/\F<=3)):
  Calls pG 76 #[Ag #[.int .i64 V,.int .i64 F,U s len cap]] w λe w'=>e=Rt (.int .i64 3)/\bl w w':=by
 by_cases h1:V < 1
 ·clear h
  go_enter Tryz.func76,Tryz.ntmps76;go_wp2;go_ret;exact⟨rfl,ai⟩
 by_cases h2:8 < V
 ·clear h
  go_enter Tryz.func76,Tryz.ntmps76;go_wp2;go_ret;exact⟨rfl,ai⟩
 by_cases h3:F < 0
 ·clear h
  go_enter Tryz.func76,Tryz.ntmps76;go_wp2;go_ret;exact⟨rfl,ai⟩
 ·have h4:3 < F:=by omega
  clear h;go_enter Tryz.func76,Tryz.ntmps76;go_wp2;go_ret;exact⟨rfl,ai⟩

theorem d7 (V F:Int)(s:oA)(cap:Nat)(c:lI)(w:World)(h:CodeAt w s c):
  Calls pG 76 #[Ag #[.int .i64 V,.int .i64 F,U s c.length cap]] w λe w'=>e=Rt (.int .i64 (aw V F c))/\bl w w':=by
 unfold aw;by_cases hr:1<=V/\V<=8/\0<=F/\F<=3
 ·obtain⟨hV,hV',hF,hF'⟩:=hr
  have t1:btw V 1 8=true:=fw hV hV';have t2:btw F 0 3=true:=fw hF hF';by_cases hl:60 < c.length
  ·simpa[t1,t2,hl] using DN V F s c.length cap w hV hV' hF hF' hl
  ·rcases h with rfl|⟨b,off,rfl,hb,hc⟩
   ·simpa[t1,t2,eI] using Gh V F s cap w hV hV' hF hF'
   ·simpa[t1,t2,hl] using FE V F b off cap c w hV hV' hF hF' aa hb hc
 ·have:btw V 1 8=false\/btw F 0 3=false:=by
   by_cases h1:1<=V/\V<=8
   ·right;simp[btw];omega
   ·left;simp[btw];omega
  rcases this with t|t
  ·simpa[t] using rp V F s c.length cap w hr
  ·simpa[t] using rp V F s c.length cap w hr
theorem gQ {B b:Nat}{p:Value}{bs:List Value}{w w':World}(h:Lib.BuilderAt 122 5 B b p bs w)(hb:bl w w'):Lib.BuilderAt 122 5 B b p bs w':=by
 have hlt:=h.lt;obtain⟨h1,v,h2,h3,h4⟩:=h;exact⟨h1,v,by rw[hb.block b hlt];exact h2,ci h3 (λk hk=>hb.block k (gU h3 hk).1),h4⟩

theorem sA (a b:ByteArray):Lib.strCells (a++b)=Lib.strCells a++Lib.strCells b:=by
 simp[Lib.strCells]
def Cap (w:World):Prop:=∃m,w.cell? ⟨0,0,nO⟩=sO (.int .i64 m)
theorem Cap.below {w w':World}(h:Cap w)(hb:bl w w'):Cap w':=by
 obtain⟨m,hm⟩:=h;exact⟨m,DL⟩

theorem vr (s:ByteArray)(v:Int)(w:World)(h:Lib.atoiAll s.data.toList=.ok v)(hf:lA v)(hi:gR v=s)(hs:s.size<=11)(ht:Tab w):
  Calls pG 212 #[.string s] w λe w'=>e=Rt (Tu #[.int .i64 v,Bb true])/\bl w w':=by
 have n1:¬(11:Int) < (s.size:Int):=aa;have hA:∀w,Calls pG 238 #[.string s] w λe w'=>e=Rt (Tu #[.int .i64 v,.nilIface])/\bl w w':=by
  intro w;refine(Tryz.strconv_Atoi_ok s aa v h w).mono ?_;rintro e w' ⟨rfl,rfl|⟨t,rfl⟩⟩
  ·exact⟨rfl,bR _ _⟩
  ·exact⟨rfl,Lib.bytesWorld_below _ _ _⟩
 go_enter Tryz.func212,Tryz.ntmps212;go_wp2_with (first
  |(go_at_call 238;refine(hA _).mono ?_;rintro e w1 ⟨rfl,hb1⟩)
  |(go_at_call 118;refine(m8 v _ hf (ht.below hb1)).mono ?_;rintro e w2 ⟨rfl,hb2⟩))
 go_ret2
 exact⟨rfl,hb1.trans (hb2.mono hb1.size)⟩

theorem BO (s:ByteArray)(xs:List ByteArray)(w:World)(hm:Cap w)(hs:s.size < 4294967281)(hc:Lib.countB s ⟨#[32]⟩+1=xs.length)(hx:Lib.splitB ⟨#[32]⟩ 0 (Lib.countB s ⟨#[32]⟩) s=xs):
  Calls pG 211 #[.string s,.string ⟨#[32]⟩] w λe w'=>e=Rt (U (sO ⟨w.heap.size,0,nO⟩) xs.length xs.length)/\w'=w.alloc (Cc (xs.map Value.string).toArray 9):=by
 obtain⟨m,hm⟩:=hm;refine(Tryz.strings_Split s ⟨#[32]⟩ m w hs hm aj).mono ?_;rintro e w' ⟨rfl,rfl⟩;rw[hc,hx];exact⟨rfl,rfl⟩
def npt (k:Nat):Nat:=match k with
 |1=>2|2=>2|3=>1|4=>2|5=>3|6=>3|7=>3|8=>3|9=>3|10=>2|11=>1|12=>3|13=>3|14=>2|15=>2|16=>1|17=>1|18=>1|_=>0

theorem lj {k:Nat}(h1:1<=k)(h:k<=19):k=1\/k=2\/k=3\/k=4\/k=5\/k=6\/k=7\/k=8\/k=9\/k=10\/k=11\/k=12\/k=13\/k=14\/k=15\/k=16\/k=17\/k=18\/k=19:=aa

theorem Kv {N:Nat}{w:World}(h:ShpAt N shps w)(k:Nat)(h1:1<=k)(h19:k<=19):∃sa,(Instr.lookup 179 (.map (sO N)) (.int .i64 (k:Int)) false).run pG w=.ok (Ag #[.string (aQ k),U sa (npt k) (npt k)]) w:=by
 rcases lj h1 h19 with rfl|rfl|rfl|rfl|rfl|rfl|rfl|rfl|rfl|rfl|rfl|rfl|rfl|rfl|rfl|rfl|rfl|rfl|rfl
 ·exact⟨_,bn h 1 0 _ rfl⟩
 ·exact⟨_,bn h 2 1 _ rfl⟩
 ·exact⟨_,bn h 3 2 _ rfl⟩
 ·exact⟨_,bn h 4 3 _ rfl⟩
 ·exact⟨_,bn h 5 4 _ rfl⟩
 ·exact⟨_,bn h 6 5 _ rfl⟩
 ·exact⟨_,bn h 7 6 _ rfl⟩
 ·exact⟨_,bn h 8 7 _ rfl⟩
 ·exact⟨_,bn h 9 8 _ rfl⟩
 ·exact⟨_,bn h 10 9 _ rfl⟩
 ·exact⟨_,bn h 11 10 _ rfl⟩
 ·exact⟨_,bn h 12 11 _ rfl⟩
 ·exact⟨_,bn h 13 12 _ rfl⟩
 ·exact⟨_,bn h 14 13 _ rfl⟩
 ·exact⟨_,bn h 15 14 _ rfl⟩
 ·exact⟨_,bn h 16 15 _ rfl⟩
 ·exact⟨_,bn h 17 16 _ rfl⟩
 ·exact⟨_,bn h 18 17 _ rfl⟩
 ·exact⟨_,bn h 19 18 _ rfl⟩
def ErrS (w:World):Prop:=∃ev,w.cell? ⟨2,0,nO⟩=sO ev/\(ev=.nilIface\/∃te pe,ev=.iface te pe)
theorem ErrS.below {w w':World}(h:ErrS w)(hb:bl w w'):ErrS w':=by
 obtain⟨m,hm,hi⟩:=h;exact⟨m,DL,hi⟩

theorem pk {p:Prop}(h:p):Hid p:=h
theorem fk (s:ByteArray):s.data.toList.length=s.size:=by show s.data.toList.length=s.data.size;exact Array.length_toList
theorem tA (v:Int):(gR v).data.toList=Lib.itoa v:=by simp[gR]

theorem il (s:ByteArray)(w:World)(ht:Tab w)(hE:ErrS w):
  Calls pG 212 #[.string s] w λe w'=>∃v,e=Rt (Tu #[.int .i64 v,Bb (di s.data.toList).isSome])/\(∀n,di s.data.toList=sO n->v=n)/\bl w w':=by
 by_cases hl:s.size<=11
 ·have n1:¬(11:Int) < (s.size:Int):=by omega
  have hat:=Lib.atoiAll_short s.data.toList (by rw[fk];omega);cases ha:Lib.atoi s.data.toList with
  |none=>
   rw[ha] at hat;have hno:di s.data.toList=none:=by unfold di;rw[ha];simp
   rw[hno];obtain⟨ev,hev,hev2⟩:=hE;have hA:=Tryz.strconv_Atoi_syntax s aa hat ev w hev hev2;clear hat ha;go_enter Tryz.func212,Tryz.ntmps212;go_wp2_with fail;refine hA.mono ?_;rintro e w1 ⟨M,rfl,-,-,hb1⟩;clear hA;go_wp2
   go_ret2
   exact⟨0,rfl,λn h=>aX,hb1⟩
  |some v=>
   rw[ha] at hat;have hf:lA v:=Lib.atoiAll_bounds hat;by_cases hi:Lib.itoa v=s.data.toList
   ·have hi':gR v=s:=by
     apply ByteArray.ext;apply j7.1;rw[tA];exact hi
    have hno:di s.data.toList=sO v:=by unfold di;rw[if_pos (by rw[fk];exact hl),ha];simp[hi]
    rw[hno];refine(vr s v w hat hf hi' hl ht).mono ?_;rintro e w' ⟨rfl,hb⟩;exact⟨v,rfl,λn h=>(by cases h;rfl),hb⟩
   ·have hno:di s.data.toList=none:=by unfold di;rw[if_pos (by rw[fk];exact hl),ha];simp[hi]
    rw[hno];have hne:((gR v).toList==s.toList)=false:=by
     rw[beq_eq_false_iff_ne,ByteArray.toList_eq,ByteArray.toList_eq,tA];exact hi
    have hA:∀w,Calls pG 238 #[.string s] w λe w'=>e=Rt (Tu #[.int .i64 v,.nilIface])/\bl w w':=by
     intro w;refine(Tryz.strconv_Atoi_ok s aa v hat w).mono ?_;rintro e w' ⟨rfl,rfl|⟨t,rfl⟩⟩
     ·exact⟨rfl,bR _ _⟩
     ·exact⟨rfl,Lib.bytesWorld_below _ _ _⟩
    clear hat ha hi hno;go_enter Tryz.func212,Tryz.ntmps212;go_wp2_with (first
     |(go_at_call 238;refine(hA _).mono ?_;rintro e w1 ⟨rfl,hb1⟩)
     |(go_at_call 118;refine(m8 v _ hf (ht.below hb1)).mono ?_;rintro e w2 ⟨rfl,hb2⟩))
    go_ret2
    exact⟨v,rfl,λn h=>aX,hb1.trans (hb2.mono hb1.size)⟩
 ·have n1:(11:Int) < (s.size:Int):=by omega
  have hno:di s.data.toList=none:=by unfold di;rw[if_neg (by rw[fk];exact hl)]
  rw[hno];go_enter Tryz.func212,Tryz.ntmps212;go_wp2
  go_ret2
  exact⟨0,rfl,λn h=>aX,bR _ _⟩

theorem mw {p:Prop}(h:p:=by
 go_enter Tryz.func214,Tryz.ntmps214;go_wp2
 go_quiet (fail)
 go_wp2;go_ret;exact⟨rfl,below_drewN ai _⟩):p:=h
theorem DX (x:ByteArray)(sa:oA)(np p g n c:Nat)(w:World)(h0:0 < n)(hn:n<=5000)(hp:p < w.heap.size)(hg:g < w.heap.size)(hc:w.cell? ⟨p,0,nO⟩=sO (U (sO ⟨g,0,nO⟩) n c))(hx:w.cell? ⟨g,0,nO⟩=sO (.string x))(he:np+1≠n):
  Calls pG 214 #[Ag #[.string x,U sa np np],Pp (sO ⟨p,0,nO⟩)] w λe w'=>e=Rt (Bb false)/\bl w w':=by
 have n0:(0:Int) < (n:Int):=aa;have e1:((np:Int)==(n:Int) - 1)=false:=an;have z1:p < w.heap.size+1:=aa;have z2:g < w.heap.size+1:=aa;clear he;exact mw
theorem Bz (x:ByteArray)(sa:oA)(np p g n c:Nat)(w:World)(h0:0 < n)(hn:n<=5000)(hp:p < w.heap.size)(hg:g < w.heap.size)(hc:w.cell? ⟨p,0,nO⟩=sO (U (sO ⟨g,0,nO⟩) n c))(hx:w.cell? ⟨g,0,nO⟩=sO (.string x))(he:np+1=n):
  Calls pG 214 #[Ag #[.string x,U sa np np],Pp (sO ⟨p,0,nO⟩)] w λe w'=>e=Rt (Bb true)/\bl w w':=by
 have n0:(0:Int) < (n:Int):=aa;have e1:((np:Int)==(n:Int) - 1)=true:=an;have z1:p < w.heap.size+1:=aa;have z2:g < w.heap.size+1:=aa;clear he;exact mw
theorem Bl (x y:ByteArray)(sa:oA)(np p g n c:Nat)(w:World)(h0:0 < n)(hn:n<=5000)(hp:p < w.heap.size)(hg:g < w.heap.size)(hc:w.cell? ⟨p,0,nO⟩=sO (U (sO ⟨g,0,nO⟩) n c))(hx:w.cell? ⟨g,0,nO⟩=sO (.string x))(hne:(y.toList==x.toList)=false):
  Calls pG 214 #[Ag #[.string y,U sa np np],Pp (sO ⟨p,0,nO⟩)] w λe w'=>e=Rt (Bb false)/\bl w w':=by
 have n0:(0:Int) < (n:Int):=aa;have z1:p < w.heap.size+1:=aa;have z2:g < w.heap.size+1:=aa;exact mw
theorem DZ (x y:ByteArray)(sa:oA)(np p g n c:Nat)(w:World)(h0:0 < n)(hn:n<=5000)(hp:p < w.heap.size)(hg:g < w.heap.size)(hc:w.cell? ⟨p,0,nO⟩=sO (U (sO ⟨g,0,nO⟩) n c))(hx:w.cell? ⟨g,0,nO⟩=sO (.string x)):
  Calls pG 214 #[Ag #[.string y,U sa np np],Pp (sO ⟨p,0,nO⟩)] w λe w'=>e=Rt (Bb (y.data.toList==x.data.toList&&np==n - 1))/\bl w w':=by
 cases hb:(y.data.toList==x.data.toList)
 ·rw[Bool.false_and]
  exact Bl x y sa np p g n c w h0 hn hp hg hc hx (by rw[ByteArray.toList_eq,ByteArray.toList_eq];exact hb)
 ·have hyx:y=x:=by
   apply ByteArray.ext;apply j7.1;exact beq_iff_eq.1 hb
  subst hyx;rw[Bool.true_and];by_cases he:np+1=n
  ·have:(np==n - 1)=true:=by rw[beq_iff_eq];omega
   rw[this];exact Bz y sa np p g n c w h0 hn hp hg hc hx he
  ·have:(np==n - 1)=false:=by rw[beq_eq_false_iff_ne];omega
   rw[this];exact DX y sa np p g n c w h0 hn hp hg hc hx he

theorem LD {k:Nat}(h1:1<=k)(h:k<=19):npt k=(prt k).length:=by
 rcases lj h1 h with rfl|rfl|rfl|rfl|rfl|rfl|rfl|rfl|rfl|rfl|rfl|rfl|rfl|rfl|rfl|rfl|rfl|rfl|rfl<;>rfl
theorem Bu {x:List UInt8}{n:Nat}(h:∀j,1<=j->j < 20->fV x n j=false):fB x n=none:=by
 unfold fB;rw[x8];intro j hj;simp at hj;rw[h j aa aa];simp
theorem Bt {x:List UInt8}{n k:Nat}(h:∀j,1<=j->j < k->fV x n j=false)(h1:1<=k)(h19:k<=19)(hk:fV x n k=true):fB x n=sO k:=by
 unfold fB;have hs:[1,2,3,4,5,6,7,8,9,10,11,12,13,14,15,16,17,18,19]=q6 1 (k - 1)++q6 k (20 - k):=by
  rcases lj h1 h19 with rfl|rfl|rfl|rfl|rfl|rfl|rfl|rfl|rfl|rfl|rfl|rfl|rfl|rfl|rfl|rfl|rfl|rfl|rfl<;>rfl
 rw[hs,List.find?_append];have hn:(q6 1 (k - 1)).find? (fV x n)=none:=by
  rw[x8];intro j hj;rw[List.mem_range'_1] at hj;rw[h j aa aa];simp
 rw[hn,show 20 - k=(19 - k)+1 by omega,List.range'_succ,List.find?_cons,hk];rfl

def Ex (o:Option Nat):Value:=match o with
 |some k=>Tu #[.int .i64 k,Bb true]
 |none=>Tu #[.int .i64 0,Bb false]

theorem Id (x:ByteArray)(N p g n c:Nat)(w:World)(h0:0 < n)(hs:ShpAt N shps w)(hn:n<=5000)(hp:p < w.heap.size)(hg:g < w.heap.size)(hc:w.cell? ⟨p,0,nO⟩=sO (U (sO ⟨g,0,nO⟩) n c))(hx:w.cell? ⟨g,0,nO⟩=sO (.string x)):
  Calls pG 213 #[.map (sO N),.func (.func 214) #[] #[Pp (sO ⟨p,0,nO⟩)]] w λe w'=>e=Rt (Ex (fB x.data.toList (n - 1)))/\bl w w':=by
 generalize hans:fB x.data.toList (n - 1)=ans;have Hans:=pk hans;clear hans;go_enter Tryz.func213,Tryz.ntmps213;go_wp2;go_loopw [6] (λi wr=>∃k:Nat,1<=k/\k<=20/\i=.int .i64 k/\Hid (∀j,1<=j->j < k->fV x.data.toList (n - 1) j=false)/\bl w wr) (λi _=>20 - (intOf i).toNat)
 case atStart=>exact⟨1,lR _,aa,rfl,(by intro j h1 h2;omega),bR _ _⟩
 case round=>
  obtain⟨k,hk1,hk,rfl,hno,hbr⟩:=hrel;by_cases h20:k=20
  ·subst h20
   have e0:fB x.data.toList (n - 1)=none:=Bu hno.out;obtain rfl:nO=ans:=e0.symm.trans Hans.out;clear hno e0 hc hx hs Hans;go_wp2
   go_ret2
   exact⟨rfl,hbr⟩
  ·have hk19:k<=19:=by omega
   obtain⟨sa,hl⟩:=Kv (hs.below hbr (lR _)) k hk1 hk19;have hc':wr.cell? ⟨p,0,nO⟩=sO (U (sO ⟨g,0,nO⟩) n c):=by rw[hbr.cell hp];exact hc
   have hx':wr.cell? ⟨g,0,nO⟩=sO (.string x):=by rw[hbr.cell hg];exact hx
   have s0:=hbr.size;have m1:(k:Int)<=19:=aa;have hW:=DZ x (aQ k) sa (npt k) p g n c wr h0 hn aa aa hc' hx';have hik:((aQ k).data.toList==x.data.toList&&npt k==n - 1)=fV x.data.toList (n - 1) k:=by unfold fV;rw[LD hk1 hk19]
   rw[hik] at hW;cases hb:fV x.data.toList (n - 1) k with
   |true=>
    have e0:=Bt hno.out hk1 hk19 hb;obtain rfl:sO k=ans:=e0.symm.trans Hans.out;rw[hb] at hW;clear hc' hx' hc hx hs hno e0 hik hb Hans;go_wp2_with (go_at_call 214;refine hW.mono ?_;rintro e w1 ⟨rfl,hb1⟩)
    go_ret2
    exact⟨rfl,hbr.trans (hb1.mono s0)⟩
   |false=>
    rw[hb] at hW;have hno':Hid (∀j,1<=j->j < k+1->fV x.data.toList (n - 1) j=false):=by
     intro j h1 h2;by_cases hj:j=k
     ·rw[hj];exact hb
     ·exact hno.out j h1 aa
    clear hc' hx' hc hx hs hno hik hb;go_wp2_with (go_at_call 214;refine hW.mono ?_;rintro e w1 ⟨rfl,hb1⟩);go_roundw
    case rel=>exact⟨k+1,aa,aa,aJ,hno',hbr.trans (hb1.mono s0)⟩
    case measure=>simp[intOf];omega

def iE (q:Nat):Nat:=match q with
 |0=>1|1=>2|2=>3|3=>5|_=>4
theorem IV (b q:Nat)(w:World):
  Calls pG 185 #[Pp (sO ⟨b,0,nO⟩),.int .i64 q] w λe w'=>e=Rt (Pp (sO ⟨b,iE q,nO⟩))/\w'=w:=by
 by_cases h0:q=0
 ·subst h0
  go_enter Tryz.func185,Tryz.ntmps185;go_wp2;go_ret;exact⟨rfl,rfl⟩
 by_cases h1:q=1
 ·subst h1
  go_enter Tryz.func185,Tryz.ntmps185;go_wp2;go_ret;exact⟨rfl,rfl⟩
 by_cases h2:q=2
 ·subst h2
  go_enter Tryz.func185,Tryz.ntmps185;go_wp2;go_ret;exact⟨rfl,rfl⟩
 by_cases h3:q=3
 ·subst h3
  go_enter Tryz.func185,Tryz.ntmps185;go_wp2;go_ret;exact⟨rfl,rfl⟩
 have e0:((q:Int)==0)=false:=an;have e1:((q:Int)==1)=false:=an;have e2:((q:Int)==2)=false:=an;have e3:((q:Int)==3)=false:=an;have ep:iE q=4:=by
  unfold iE;split<;>first|rfl|omega
 rw[ep];go_enter Tryz.func185,Tryz.ntmps185;go_wp2;go_ret;exact⟨rfl,rfl⟩

theorem uA {N:Nat}{w:World}(h:ShpAt N shps w)(k:Nat)(h1:1<=k)(h19:k<=19):∃sa,(Instr.lookup 179 (.map (sO N)) (.int .i64 (k:Int)) false).run pG w=.ok (Ag #[.string (aQ k),U sa (prt k).length (prt k).length]) w/\∀j (hj:j < (prt k).length),sa=sO ⟨N+k,0,nO⟩/\w.cell? ⟨N+k,j,nO⟩=sO (.int .i64 ((prt k)[j]:Nat))/\N+k < w.heap.size:=by
 rcases lj h1 h19 with rfl|rfl|rfl|rfl|rfl|rfl|rfl|rfl|rfl|rfl|rfl|rfl|rfl|rfl|rfl|rfl|rfl|rfl|rfl
 ·refine⟨_,bn h 1 0 _ rfl,λj hj=> ?_⟩
  match j,hj with
  |0,_=>exact⟨rfl,aq h 0 0 aj aj (.int .i64 0) rfl⟩
  |1,_=>exact⟨rfl,aq h 0 1 aj aj (.int .i64 4) rfl⟩
 ·refine⟨_,bn h 2 1 _ rfl,λj hj=> ?_⟩
  match j,hj with
  |0,_=>exact⟨rfl,aq h 1 0 aj aj (.int .i64 0) rfl⟩
  |1,_=>exact⟨rfl,aq h 1 1 aj aj (.int .i64 5) rfl⟩
 ·refine⟨_,bn h 3 2 _ rfl,λj hj=> ?_⟩
  match j,hj with
  |0,_=>exact⟨rfl,aq h 2 0 aj aj (.int .i64 0) rfl⟩
 ·refine⟨_,bn h 4 3 _ rfl,λj hj=> ?_⟩
  match j,hj with
  |0,_=>exact⟨rfl,aq h 3 0 aj aj (.int .i64 0) rfl⟩
  |1,_=>exact⟨rfl,aq h 3 1 aj aj (.int .i64 1) rfl⟩
 ·refine⟨_,bn h 5 4 _ rfl,λj hj=> ?_⟩
  match j,hj with
  |0,_=>exact⟨rfl,aq h 4 0 aj aj (.int .i64 0) rfl⟩
  |1,_=>exact⟨rfl,aq h 4 1 aj aj (.int .i64 1) rfl⟩
  |2,_=>exact⟨rfl,aq h 4 2 aj aj (.int .i64 2) rfl⟩
 ·refine⟨_,bn h 6 5 _ rfl,λj hj=> ?_⟩
  match j,hj with
  |0,_=>exact⟨rfl,aq h 5 0 aj aj (.int .i64 0) rfl⟩
  |1,_=>exact⟨rfl,aq h 5 1 aj aj (.int .i64 1) rfl⟩
  |2,_=>exact⟨rfl,aq h 5 2 aj aj (.int .i64 2) rfl⟩
 ·refine⟨_,bn h 7 6 _ rfl,λj hj=> ?_⟩
  match j,hj with
  |0,_=>exact⟨rfl,aq h 6 0 aj aj (.int .i64 0) rfl⟩
  |1,_=>exact⟨rfl,aq h 6 1 aj aj (.int .i64 1) rfl⟩
  |2,_=>exact⟨rfl,aq h 6 2 aj aj (.int .i64 2) rfl⟩
 ·refine⟨_,bn h 8 7 _ rfl,λj hj=> ?_⟩
  match j,hj with
  |0,_=>exact⟨rfl,aq h 7 0 aj aj (.int .i64 0) rfl⟩
  |1,_=>exact⟨rfl,aq h 7 1 aj aj (.int .i64 1) rfl⟩
  |2,_=>exact⟨rfl,aq h 7 2 aj aj (.int .i64 2) rfl⟩
 ·refine⟨_,bn h 9 8 _ rfl,λj hj=> ?_⟩
  match j,hj with
  |0,_=>exact⟨rfl,aq h 8 0 aj aj (.int .i64 0) rfl⟩
  |1,_=>exact⟨rfl,aq h 8 1 aj aj (.int .i64 1) rfl⟩
  |2,_=>exact⟨rfl,aq h 8 2 aj aj (.int .i64 2) rfl⟩
 ·refine⟨_,bn h 10 9 _ rfl,λj hj=> ?_⟩
  match j,hj with
  |0,_=>exact⟨rfl,aq h 9 0 aj aj (.int .i64 0) rfl⟩
  |1,_=>exact⟨rfl,aq h 9 1 aj aj (.int .i64 1) rfl⟩
 ·refine⟨_,bn h 11 10 _ rfl,λj hj=> ?_⟩
  match j,hj with
  |0,_=>exact⟨rfl,aq h 10 0 aj aj (.int .i64 0) rfl⟩
 ·refine⟨_,bn h 12 11 _ rfl,λj hj=> ?_⟩
  match j,hj with
  |0,_=>exact⟨rfl,aq h 11 0 aj aj (.int .i64 0) rfl⟩
  |1,_=>exact⟨rfl,aq h 11 1 aj aj (.int .i64 1) rfl⟩
  |2,_=>exact⟨rfl,aq h 11 2 aj aj (.int .i64 7) rfl⟩
 ·refine⟨_,bn h 13 12 _ rfl,λj hj=> ?_⟩
  match j,hj with
  |0,_=>exact⟨rfl,aq h 12 0 aj aj (.int .i64 1) rfl⟩
  |1,_=>exact⟨rfl,aq h 12 1 aj aj (.int .i64 7) rfl⟩
  |2,_=>exact⟨rfl,aq h 12 2 aj aj (.int .i64 2) rfl⟩
 ·refine⟨_,bn h 14 13 _ rfl,λj hj=> ?_⟩
  match j,hj with
  |0,_=>exact⟨rfl,aq h 13 0 aj aj (.int .i64 0) rfl⟩
  |1,_=>exact⟨rfl,aq h 13 1 aj aj (.int .i64 6) rfl⟩
 ·refine⟨_,bn h 15 14 _ rfl,λj hj=> ?_⟩
  match j,hj with
  |0,_=>exact⟨rfl,aq h 14 0 aj aj (.int .i64 1) rfl⟩
  |1,_=>exact⟨rfl,aq h 14 1 aj aj (.int .i64 3) rfl⟩
 ·refine⟨_,bn h 16 15 _ rfl,λj hj=> ?_⟩
  match j,hj with
  |0,_=>exact⟨rfl,aq h 15 0 aj aj (.int .i64 3) rfl⟩
 ·refine⟨_,bn h 17 16 _ rfl,λj hj=> ?_⟩
  match j,hj with
  |0,_=>exact⟨rfl,aq h 16 0 aj aj (.int .i64 1) rfl⟩
 ·refine⟨_,bn h 18 17 _ rfl,λj hj=> ?_⟩
  match j,hj with
  |0,_=>exact⟨rfl,aq h 17 0 aj aj (.int .i64 1) rfl⟩
 ·refine⟨_,bn h 19 18 _ rfl,λj hj=> ?_⟩
  exact absurd hj (by simp[prt])
end
section
open Go.ChangeShapes Go.WideShapes Go.ChangeAt Go.RowKit
theorem KQ: "*" ++ "errors.errorString" = "*errors.errorString" :=aj
theorem Nd (u:TypeId)(h:Tryz.prog.typeName? 3 u=sO "*errors.errorString"):u=327:=
 typeName_ptr_named (nm:= "errors.errorString") (by rw[KQ];kernel_rfl) ag aj u (by rw[KQ];exact h)
theorem Ld {r:List (String×DataW Unit)}{W:World}(h:laidMet pG (("strconv.ErrSyntax",Rows.laid_strconv_ErrSyntax)::r) W):ErrS W:=by
 obtain⟨a,s,hv,-,-,-⟩:=laid_sentinel (g:=2) (ti:=124) (tp:=327) (te:=329) (ts:=9) h ag ag Tryz.underlying124 Nd Tryz.underlying327 Tryz.underlying329 rfl rfl Tryz.underlying9 ag ag;exact⟨_,World.var?_cell ag hv 0,.inr ⟨_,_,rfl⟩⟩
theorem Ix (os:Os)(args:Array Value):Go.LaidIn pG ((iS pG os).forCall (λ_ _=>0) ⟨#[],args,[]⟩).memory Rows.alarmSoundRow.laid [4,5,1,7,3,2,(x9 pG default).heap.size,(x9 pG default).heap.size+1,6]:=
 Go.LaidIn.of_run _ 8 ag ag ag ag
theorem Gr (os:Os)(args:Array Value):laidMet pG Rows.alarmSoundRow.laid ((iS pG os).forCall (λ_ _=>0) ⟨#[],args,[]⟩).memory:=(Ix os args).met
end
section
open Go.RowKit
theorem GB {V F:Int}{c:lI}(h:aw V F c=0):c.length<=60:=by
 unfold aw at h;split at h
 ·cases h
 ·split at h
  ·cases h
  ·omega

theorem su (c:lI)(L:List Gs)(k:Nat)(h:k < L.length):bZ c (L.drop k)=if aE c L[k]=0 then bZ c (L.drop (k+1)) else aE c L[k]:=by
 rw[q7 h];rfl

theorem cc (V F:Int)(s:oA)(c:lI)(cap:Nat)(ls:oA)(L:List Gs)(lc:Nat)(w:World)(hc:CodeAt w s c)(hL:GsAt w ls L)(hl:L.length<=9223372036854775807):
  Calls pG 142 #[pv V F s c cap,U ls L.length lc] w λe w'=>e=Rt (.int .i64 (aY V F c L))/\bl w w':=by
 have P0:=PrAt.new w V F s c cap;have C0:=hc.alloc (Cc #[.int .i64 V,.int .i64 F,U s c.length cap] 24);have L0:=hL.alloc (Cc #[.int .i64 V,.int .i64 F,U s c.length cap] 24);have B0:Below w.heap.size w (w.alloc (Cc #[.int .i64 V,.int .i64 F,U s c.length cap] 24)):=ai;have HR:Hid (aY V F c L=if aw V F c=0 then bZ c L else aw V F c):=rfl;clear hc hL;go_enter Tryz.func142,Tryz.ntmps142;go_wp2_with fail;refine(d7 V F s cap c _ C0).mono ?_;rintro e w1 ⟨rfl,hb1⟩;have P1:=P0.call hb1;have C1:=C0.call hb1;have L1:=L0.call hb1;have B1:bl w w1:=B0.trans (hb1.mono ah);clear hb1 P0 C0 L0 B0;by_cases h0:aw V F c=0
 ·have h60:=GB h0
  have HF:Hid (aY V F c L=bZ c L):=by show _=_;rw[HR.out,if_pos h0]
  rw[h0];clear HR h0;go_wp2;go_loopw [16] (λi wr=>∃k:Nat,k<=L.length/\i=.int .i64 k/\PrAt wr w.heap.size V F s c cap/\CodeAt wr s c/\GsAt wr ls L/\bl w wr/\Hid (bZ c (L.drop k)=bZ c L)) (λi _=>L.length - (intOf i).toNat)
  case atStart=>exact⟨0,j0 _,rfl,P1,C1,L1,B1,rfl⟩
  case round=>
   obtain⟨k,hk,rfl,PR,CR,LR,BR,HK⟩:=hrel;clear P1 C1 L1 B1;by_cases hlt:k < L.length
   ·obtain⟨b,off,rfl,ss,gc,GR,IR,hg1,hg2⟩:=LR k hlt
    obtain⟨⟨p0,p1,p2⟩,p3⟩:=id PR;obtain⟨⟨g0,g1,g2,g3,g4,g5,g6⟩,gz⟩:=id GR;have n0:(0:Int)<=(k:Int):=aa;have n1:(k:Int) < (L.length:Int):=aa;have HS:=ae (su c L k hlt);unfold maxLen at hg2;have PA:=PR.alloc (Cc #[Bb L[k].n,Bb L[k].sp.n,.int .i64 L[k].sp.lo,.int .i64 L[k].sp.hi,Bb L[k].t,Bb L[k].f,U ss L[k].s.length gc] 91);have CA:=CR.alloc (Cc #[Bb L[k].n,Bb L[k].sp.n,.int .i64 L[k].sp.lo,.int .i64 L[k].sp.hi,Bb L[k].t,Bb L[k].f,U ss L[k].s.length gc] 91);have LA:=LR.alloc (Cc #[Bb L[k].n,Bb L[k].sp.n,.int .i64 L[k].sp.lo,.int .i64 L[k].sp.hi,Bb L[k].t,Bb L[k].f,U ss L[k].s.length gc] 91);have IA:=IR.alloc (Cc #[Bb L[k].n,Bb L[k].sp.n,.int .i64 L[k].sp.lo,.int .i64 L[k].sp.hi,Bb L[k].t,Bb L[k].f,U ss L[k].s.length gc] 91);have BA:=BR.alloc BR.size (Cc #[Bb L[k].n,Bb L[k].sp.n,.int .i64 L[k].sp.lo,.int .i64 L[k].sp.hi,Bb L[k].t,Bb L[k].f,U ss L[k].s.length gc] 91);clear PR CR LR IR BR GR;go_wp2_with fail;refine(vA V F s c cap L[k] ss gc _ CA h60 IA aa).mono ?_;rintro e w2 ⟨rfl,hb2⟩;have P2:=PA.call hb2;have C2:=CA.call hb2;have L2:=LA.call hb2;have B2:=BA.trans (hb2.mono BA.size);clear hb2 PA CA LA IA BA;by_cases hz:aE c L[k]=0
    ·have HT:Hid (bZ c (L.drop (k+1))=bZ c L):=by show _=_;rw[<-HK.out,HS.out,if_pos hz]
     rw[hz];clear HK HS hz;go_wp2;go_roundw
     case rel=>exact⟨k+1,aa,aJ,P2,C2,L2,B2,HT⟩
     case measure=>simp[intOf];omega
    ·have HT:Hid (aE c L[k]=bZ c L):=by show _=_;rw[<-HK.out,HS.out,if_neg hz]
     have hne:(aE c L[k]!=0)=true:=d9;clear HK HS;go_wp2;go_ret;exact⟨bP (by rw[HF.out,HT.out]),B2⟩
   ·go_wp2
    go_ret;exact⟨bP (by rw[HF.out,<-HK.out,j8 (by omega)];rfl),BR⟩
 ·have HF:Hid (aY V F c L=aw V F c):=by show _=_;rw[HR.out,if_neg h0]
  have hne:(aw V F c !=0)=true:=iw;clear HR;go_wp2;go_ret;exact⟨bP HF.out.symm,B1⟩
theorem rZ (x:Int)(ss:oA)(cap:Nat)(l:List Int)(w:World)(hl:l.length<=9223372036854775807)(hs:IntsAt w ss l):
  Calls pG 168 #[U ss l.length cap,.int .i64 x] w λe w'=>e=Rt (Bb (l.contains x))/\w'=w:=by
 have HX:Hid (l.contains x=decide (x∈l)):=dI;generalize l.contains x=r at *;go_enter Tryz.func168,Tryz.ntmps168;go_wp2
 go_loop [5] (λi=>∃k:Nat,k<=l.length/\i=.int .i64 k/\Hid (x∈l↔x∈l.drop k)) (λi=>l.length - (intOf i).toNat)
 case atStart=>exact⟨0,j0 _,rfl,Iff.rfl⟩
 case round=>
  obtain⟨k,hk,rfl,HA⟩:=hrel;by_cases hlt:k < l.length
  ·obtain⟨b,off,rfl,hb,hc⟩:=hs.get k hlt
   have n0:(0:Int)<=(k:Int):=aa;have n1:(k:Int) < (l.length:Int):=aa;have c0:=hc k hlt;have HN:Hid (x∈l.drop k↔(x=l[k]\/x∈l.drop (k+1))):=wB l x k hlt;clear hc hs;by_cases hp:l[k]=x
   ·have HT:Hid (x∈l):=HA.out.2 (HN.out.2 (.inl hp.symm))
    clear HN HA;have hp':(l[k]==x)=true:=by simp[hp]
    go_wp2;go_ret;exact⟨bj (by rw[HX.out];exact(decide_eq_true HT.out).symm),rfl⟩
   ·have HT:Hid (x∈l↔x∈l.drop (k+1)):=HA.out.trans (HN.out.trans ⟨λh=>h.resolve_left λe=>hp e.symm,.inr⟩)
    have hp':(l[k]==x)=false:=by simpa using hp
    clear HN HA;go_wp2
    go_round
    case rel=>exact⟨k+1,aa,aJ,HT⟩
    case measure=>simp[intOf];omega
  ·go_wp2
   go_ret;exact⟨bj (by rw[HX.out];exact(decide_eq_false λh=>by have:=HA.out.1 h;rw[j8 (by omega)] at this;cases this).symm),rfl⟩
theorem gr {p:Prop}(h:p:=by
 go_wp2_with fail;refine(HI.out _).mono ?_;rintro e w1 ⟨rfl,hb1⟩;go_wp2
 go_ret2
 exact⟨kY mb (by rw[HN.out];simp),Below.trans ai (hb1.mono ah)⟩):p:=h
theorem eK {p:Prop}(h:p:=by
 go_wp2
 go_ret2
 exact⟨kY mb (by rw[HN.out];simp),ai⟩):p:=h
theorem tG {p:Prop}(h:p:=by
 cases sn
 ·by_cases h1:lo=0
  ·subst h1
   by_cases h2:hi=0
   ·subst h2
    go_enter Tryz.func112,Tryz.ntmps112;exact eK
   ·have h2':(hi !=0)=true:=by simpa using h2
    go_enter Tryz.func112,Tryz.ntmps112;exact eK
  ·have h1':(lo !=0)=true:=by simpa using h1
   go_enter Tryz.func112,Tryz.ntmps112;exact eK
 ·go_enter Tryz.func112,Tryz.ntmps112
  exact eK):p:=h
theorem rv (g:Gs)(ss:oA)(gc:Nat)(w:World):
  Calls pG 112 #[gv g ss gc] w λe w'=>e=Rt (Tu #[Bb (b8 g),Bb (cF g)])/\bl w w':=by
 have HI:=ae (λw=>ul g.sp 0 w);have HY:Hid (b8 g=((!g.sp.n&& !decide (g.sp.lo=0/\g.sp.hi=0))||(g.t||decide (0 < g.s.length)))):=rfl;have HN:Hid (cF g=(g.sp.has 0||(g.n||g.f))):=rfl;generalize b8 g=yy at *;generalize cF g=nn at *;generalize g.sp.has 0=z at *;obtain⟨n,⟨sn,lo,hi⟩,t,f,s⟩:=g;cases n
 ·cases f
  ·cases t
   ·by_cases hl:0 < s.length
    ·have hl':(0:Int) < (s.length:Int):=by omega
     go_enter Tryz.func112,Tryz.ntmps112;exact gr
    ·have hl':¬(0:Int) < (s.length:Int):=by omega
     cases sn
     ·by_cases h1:lo=0
      ·subst h1
       by_cases h2:hi=0
       ·subst h2
        go_enter Tryz.func112,Tryz.ntmps112;exact gr
       ·have h2':(hi !=0)=true:=by simpa using h2
        go_enter Tryz.func112,Tryz.ntmps112;exact gr
      ·have h1':(lo !=0)=true:=by simpa using h1
       go_enter Tryz.func112,Tryz.ntmps112;exact gr
     ·go_enter Tryz.func112,Tryz.ntmps112
      exact gr
   ·go_enter Tryz.func112,Tryz.ntmps112
    exact gr
  ·cases t
   ·by_cases hl:0 < s.length
    ·have hl':(0:Int) < (s.length:Int):=by omega
     go_enter Tryz.func112,Tryz.ntmps112;exact eK
    ·have hl':¬(0:Int) < (s.length:Int):=by omega
     exact tG
   ·go_enter Tryz.func112,Tryz.ntmps112
    exact eK
 ·cases t
  ·by_cases hl:0 < s.length
   ·have hl':(0:Int) < (s.length:Int):=by omega
    go_enter Tryz.func112,Tryz.ntmps112;exact eK
   ·have hl':¬(0:Int) < (s.length:Int):=by omega
    exact tG
  ·go_enter Tryz.func112,Tryz.ntmps112
   exact eK

theorem yL (w:World)(g:Gs)(ss:oA)(gc:Nat)(h:Gs)(st:oA)(hc:Nat):
  GuAt ((w.alloc (Cc #[Bb g.n,Bb g.sp.n,.int .i64 g.sp.lo,.int .i64 g.sp.hi,Bb g.t,Bb g.f,U ss g.s.length gc] 91)).alloc (Cc #[Bb h.n,Bb h.sp.n,.int .i64 h.sp.lo,.int .i64 h.sp.hi,Bb h.t,Bb h.f,U st h.s.length hc] 91)) w.heap.size 0 g ss gc/\GuAt ((w.alloc (Cc #[Bb g.n,Bb g.sp.n,.int .i64 g.sp.lo,.int .i64 g.sp.hi,Bb g.t,Bb g.f,U ss g.s.length gc] 91)).alloc (Cc #[Bb h.n,Bb h.sp.n,.int .i64 h.sp.lo,.int .i64 h.sp.hi,Bb h.t,Bb h.f,U st h.s.length hc] 91)) (w.heap.size+1) 0 h st hc/\bl w ((w.alloc (Cc #[Bb g.n,Bb g.sp.n,.int .i64 g.sp.lo,.int .i64 g.sp.hi,Bb g.t,Bb g.f,U ss g.s.length gc] 91)).alloc (Cc #[Bb h.n,Bb h.sp.n,.int .i64 h.sp.lo,.int .i64 h.sp.hi,Bb h.t,Bb h.f,U st h.s.length hc] 91)):=by
 refine⟨(GuAt.new w g ss gc).alloc _,?_,ai⟩;have:=GuAt.new (w.alloc (Cc #[Bb g.n,Bb g.sp.n,.int .i64 g.sp.lo,.int .i64 g.sp.hi,Bb g.t,Bb g.f,U ss g.s.length gc] 91)) h st hc;rw[zA] at this;exact this
end
section
open Go.RowKit
attribute [local go_sem ↓] Go.wp_at_zero Go.wp_at_succ
def SameAns (e:Ending)(p:Prop):Prop:=∃b:Bool,e=Rt (Bb b)/\(b=true↔p)
theorem SameAns.no {p:Prop}(h:¬p):SameAns (Rt (Bb false)) p:=⟨false,rfl,⟨λe=>absurd e aj,λe=>absurd e h⟩⟩
theorem SameAns.yes {p:Prop}(h:p):SameAns (Rt (Bb true)) p:=⟨true,rfl,⟨λ_=>h,λ_=>rfl⟩⟩
theorem Hw {p:Prop} [Decidable p](h:¬p):Ending.returned (Bb false)=Rt (Bb (decide p)):=by rw[decide_eq_false h]
theorem Mi {p:Prop} [Decidable p](h:p):Ending.returned (Bb true)=Rt (Bb (decide p)):=by rw[decide_eq_true h]
theorem yN (s1 s2:oA)(c1 c2:Nat)(a b:List Int)(w:World)(ha:a.length<=maxLen)(hb:b.length<=maxLen)(h1:IntsAt w s1 a)(h2:IntsAt w s2 b):
  Calls pG 184 #[U s1 a.length c1,U s2 b.length c2] w λe w'=>e=Rt (Bb (decide (a=b)))/\bl w w':=by
 by_cases hl:a.length=b.length
 ·by_cases hn:a=[]
  ·subst hn
   have hb0:b=[]:=J4 hl.symm;subst hb0;exact AC s1 s2 c1 c2 w
  have hn2:b≠[]:=λe=>by rw[e] at hl;exact hn (J4 hl)
  rcases h1 with e|⟨b1,o1,rfl,b1lt,h1⟩
  ·exact absurd e hn
  rcases h2 with e|⟨b2,o2,rfl,b2lt,h2⟩
  ·exact absurd e hn2
  rw[<-hl];have HL:=ae hl;clear hl hn hn2;unfold maxLen at ha;go_enter Tryz.func184,Tryz.ntmps184;go_wp2;go_loopw [5] (λi wr=>∃k:Nat,k<=a.length/\i=.int .i64 k/\Hid (a.take k=b.take k)/\bl w wr) (λi _=>a.length - (intOf i).toNat)
  case atStart=>exact⟨0,j0 _,rfl,rfl,bR _ _⟩
  case round=>
   obtain⟨k,hk,rfl,HE,hb⟩:=hrel;by_cases hlt:k < a.length
   ·have n0:(0:Int)<=(k:Int):=by omega
    have n1:(k:Int) < (a.length:Int):=aa;have hlb:k < b.length:=pu;obtain⟨x,hx⟩:∃x,x=a[k]:=⟨_,rfl⟩;obtain⟨y,hy⟩:∃y,y=b[k]:=⟨_,rfl⟩;have q0:wr.cell? ⟨b1,o1+k,nO⟩=sO (.int .i64 x):=by rw[hb.cell (p:=⟨b1,_,nO⟩) b1lt,hx];exact h1 k hlt
    have r0:wr.cell? ⟨b2,o2+k,nO⟩=sO (.int .i64 y):=by rw[hb.cell (p:=⟨b2,_,nO⟩) b2lt,hy];exact h2 k hlb
    have HXY:=ae (And.intro hx hy);clear h1 h2 hx hy;by_cases hxy:x=y
    ·have e1:(x !=y)=false:=by simpa using hxy
     have HQ:=ae hxy;clear hxy;go_wp2
     go_quiet (fail)
     go_wp2;go_roundw
     case rel=>exact⟨k+1,aa,aJ,by show _=_;rw[j5 hlt,j5 hlb,HE.out,<-HXY.out.1,<-HXY.out.2,HQ.out],below_drewN hb _⟩
     case measure=>simp[intOf];omega
    ·have e1:(x !=y)=true:=by simpa using hxy
     have HQ:=ae hxy;clear hxy;go_wp2
     go_quiet (fail)
     go_wp2;go_ret;exact⟨Hw λe=>by subst e;exact HQ.out (HXY.out.1.trans HXY.out.2.symm),below_drewN hb _⟩
   ·have n1:¬(k:Int) < (a.length:Int):=by omega
    go_wp2;go_ret;exact⟨Mi CO,hb⟩
 ·have e1:((a.length:Int)!=(b.length:Int))=true:=by simpa using λh=>hl aa
  have HL:=ae hl;clear hl;go_enter Tryz.func184,Tryz.ntmps184;go_wp2;go_ret;exact⟨Hw λe=>HL.out (by rw[e]),bR _ _⟩
theorem wV (g:Gs)(ss:oA)(gc:Nat)(h:Gs)(st:oA)(hc:Nat)(w:World)(hs:IntsAt w ss g.s)(ht:IntsAt w st h.s)(hgl:g.s.length<=maxLen)(hhl:h.s.length<=maxLen):
  Calls pG 126 #[gv g ss gc,gv h st hc] w λe w'=>SameAns e (g=h)/\bl w w':=by
 obtain⟨n,⟨a,b,c⟩,t,f,sl⟩:=g;obtain⟨n',⟨a',b',c'⟩,t',f',sl'⟩:=h;have HI:=ae (λwx (hb:bl w wx)=>yN ss st gc hc sl sl' wx hgl hhl (hs.below hb (lR _)) (ht.below hb (lR _)));clear hs ht;go_enter Tryz.func126,Tryz.ntmps126;go_wp2_with fail
 ·refine(HI.out _ ai).mono ?_
  rintro e w1 ⟨rfl,hb1⟩;clear HI;go_wp2;go_ret;exact⟨⟨decide (sl=sl'),rfl,by simp_all⟩,Below.trans ai (hb1.mono iC)⟩
 all_goals go_ret
 all_goals exact⟨SameAns.no (by simp_all),ai⟩
theorem tI {p:Prop}(h:p:=by
 go_wp2;go_roundw
 case rel=>exact⟨k+1,aa,aJ,by show _=_;rw[List.take_succ_eq_append_getElem hlt,List.take_succ_eq_append_getElem hlb,HE.out,HQ.out],hbr.trans (HB5.mono hbr.size)⟩
 case measure=>simp[intOf];omega):p:=h
theorem lg (a b:List Gs)(s1:oA)(c1:Nat)(s2:oA)(c2:Nat)(w:World)(ha:a.length<=maxLen)(h1:GsAt w s1 a)(h2:GsAt w s2 b):
  Calls pG 74 #[U s1 a.length c1,U s2 b.length c2] w λe w'=>SameAns e (a=b)/\bl w w':=by
 have hm:maxLen<=9223372036854775807:=aj;by_cases hl:a.length=b.length
 ·rw[<-hl]
  have HL:=ae hl;clear hl;go_enter Tryz.func74,Tryz.ntmps74;go_wp2;go_loopw [5] (λi wr=>∃k:Nat,k<=a.length/\i=.int .i64 k/\Hid (a.take k=b.take k)/\bl w wr) (λi _=>a.length - (intOf i).toNat)
  case atStart=>exact⟨0,j0 _,rfl,rfl,bR _ _⟩
  case round=>
   obtain⟨k,hk,rfl,HE,hbr⟩:=hrel;by_cases hlt:k < a.length
   ·have n0:(0:Int)<=(k:Int):=by omega
    have n1:(k:Int) < (a.length:Int):=aa;have hlb:k < b.length:=pu;obtain⟨b1,o1,rfl,ss1,g1,G1,I1,k1,m1⟩:=h1.below hbr (lR _) k hlt;obtain⟨b2,o2,rfl,ss2,g2,G2,I2,k2,m2⟩:=h2.below hbr (lR _) k hlb;have HSG:=ae (λwx (q1:IntsAt wx ss1 a[k].s) (q2:IntsAt wx ss2 b[k].s)=>wV a[k] ss1 g1 b[k] ss2 g2 wx q1 q2 (lT k1 m1) (lT k2 m2));have HKZ:=ae (λwx (hx:bl wr wx)=>And.intro (G1.call hx).1 (G2.call hx).1);have HD:bl wr wr.drew:=(bR _ _).drew;go_wp2;refine aD (S:=(λwx=>(wx.cell? ⟨b1,o1+k * 7,nO⟩=sO (Bb a[k].n)/\wx.cell? ⟨b1,o1+k * 7+1,nO⟩=sO (Bb a[k].sp.n)/\wx.cell? ⟨b1,o1+k * 7+2,nO⟩=sO (.int .i64 a[k].sp.lo)/\wx.cell? ⟨b1,o1+k * 7+3,nO⟩=sO (.int .i64 a[k].sp.hi)/\wx.cell? ⟨b1,o1+k * 7+4,nO⟩=sO (Bb a[k].t)/\wx.cell? ⟨b1,o1+k * 7+5,nO⟩=sO (Bb a[k].f)/\wx.cell? ⟨b1,o1+k * 7+6,nO⟩=sO (U ss1 a[k].s.length g1))/\(wx.cell? ⟨b2,o2+k * 7,nO⟩=sO (Bb b[k].n)/\wx.cell? ⟨b2,o2+k * 7+1,nO⟩=sO (Bb b[k].sp.n)/\wx.cell? ⟨b2,o2+k * 7+2,nO⟩=sO (.int .i64 b[k].sp.lo)/\wx.cell? ⟨b2,o2+k * 7+3,nO⟩=sO (.int .i64 b[k].sp.hi)/\wx.cell? ⟨b2,o2+k * 7+4,nO⟩=sO (Bb b[k].t)/\wx.cell? ⟨b2,o2+k * 7+5,nO⟩=sO (Bb b[k].f)/\wx.cell? ⟨b2,o2+k * 7+6,nO⟩=sO (U ss2 b[k].s.length g2)))) [] ag (HKZ.out _ HD) (λhHeld=> ?_);refine vZ 0 ?_ ?_;refine vZ 1 ?_ ?_;refine vZ 2 ?_ ?_;refine vZ 3 ?_ ?_;refine vZ 4 ?_ ?_;refine vZ 5 ?_ ?_;refine vZ 6 ?_ ?_;refine vZ 7 ?_ ?_;refine aB (i:=8) rfl ag (λK hK=> ?_);go_simp;go_at_call 126;refine(HSG.out _ (I1.call HD) (I2.call HD)).mono ?_;rintro e w5 ⟨⟨bb,rfl,HBB0⟩,hb5⟩;have HBB:=ae HBB0;clear HBB0;have HB5:bl wr w5:=HD.trans (hb5.mono HD.size);go_wp2_with fail;refine hK.out _ _ (HKZ.out _ HB5) (λhHeld=> ?_);clear hK K;refine sm ?_;refine vZ 9 ?_ ?_;refine aC ag ?_ _;rcases q8 bb with e1|e1
    ·have HQ:=ae (HBB.out.1 e1)
     subst e1;exact tI
    ·have HQ:Hid (¬a[k]=b[k]):=λh=>by rw[HBB.out.2 h] at e1;cases e1
     subst e1;go_wp2;go_ret;exact⟨SameAns.no λe=>HQ.out (by subst e;rfl),hbr.trans (HB5.mono hbr.size)⟩
   ·have n1:¬(k:Int) < (a.length:Int):=by omega
    go_wp2;go_ret;exact⟨SameAns.yes CO,hbr⟩
 ·have e1:((a.length:Int)!=(b.length:Int))=true:=by simpa using λh=>hl aa
  have HL:=ae hl;clear hl;go_enter Tryz.func74,Tryz.ntmps74;go_wp2;go_ret;exact⟨SameAns.no λe=>HL.out (by rw[e]),bR _ _⟩
theorem sr (x y:Pic)(vs1:oA)(vc1:Nat)(fs1:oA)(fc1:Nat)(vs2:oA)(vc2:Nat)(fs2:oA)(fc2:Nat)(w:World)(hl:ME x)(h1:PicAt w x vs1 fs1)(h2:PicAt w y vs2 fs2):
  Calls pG 34 #[xv x vs1 vc1 fs1 fc1,xv y vs2 vc2 fs2 fc2] w λe w'=>SameAns e (x=y)/\bl w w':=by
 obtain⟨hl1,hl2⟩:=hl;have hm:maxLen<=9223372036854775807:=aj;have hb0:Below w.heap.size w ((w.alloc (Cc #[Bb x.none,U vs1 x.vq.length vc1,U fs1 x.fq.length fc1] 28)).alloc (Cc #[Bb y.none,U vs2 y.vq.length vc2,U fs2 y.fq.length fc2] 28)):=ai;have A0:=(XAt.new w x vs1 vc1 fs1 fc1).call (w':=((w.alloc (Cc #[Bb x.none,U vs1 x.vq.length vc1,U fs1 x.fq.length fc1] 28)).alloc (Cc #[Bb y.none,U vs2 y.vq.length vc2,U fs2 y.fq.length fc2] 28))) ai;have B0:=XAt.new (w.alloc (Cc #[Bb x.none,U vs1 x.vq.length vc1,U fs1 x.fq.length fc1] 28)) y vs2 vc2 fs2 fc2;rw[zA] at B0;have hP1:=h1.below hb0 (lR _);have hP2:=h2.below hb0 (lR _);have HS:=ae (lg x.vq y.vq vs1 vc1 vs2 vc2 ((w.alloc (Cc #[Bb x.none,U vs1 x.vq.length vc1,U fs1 x.fq.length fc1] 28)).alloc (Cc #[Bb y.none,U vs2 y.vq.length vc2,U fs2 y.fq.length fc2] 28)) hl1 hP1.1 hP2.1);clear h1 h2;unfold xv;obtain⟨⟨a0,a1,a2⟩,az,-⟩:=id A0;obtain⟨⟨b0,b1,b2⟩,bz,-⟩:=id B0;generalize hxn:x.none=xn at *;generalize hyn:y.none=yn at *;by_cases hn:xn=yn;rotate_left
 ·have HN:Hid (¬x=y):=λe=>hn (by rw[<-hxn,<-hyn,e])
  have hn2:(xn=true/\yn=false)\/(xn=false/\yn=true):=by cases xn<;>cases yn<;>simp_all
  clear hn HS A0 B0 hP1 hP2 hxn hyn a0 a1 a2 az b0 b1 b2 bz;rcases hn2 with⟨rfl,rfl⟩|⟨rfl,rfl⟩;all_goals
   go_enter Tryz.func34,Tryz.ntmps34;go_wp2;go_ret;exact⟨SameAns.no HN.out,hb0⟩
 have HN:Hid (x.none=y.none):=by show _=_;rw[hxn,hyn,hn]
 subst hn;clear hxn hyn;go_enter Tryz.func34,Tryz.ntmps34;go_upto_region 1 with fail
 generalize ((w.alloc (Cc #[Bb xn,U vs1 x.vq.length vc1,U fs1 x.fq.length fc1] 28)).alloc (Cc #[Bb xn,U vs2 y.vq.length vc2,U fs2 y.fq.length fc2] 28))=w0 at *;go_wp2_with fail;refine HS.out.mono ?_;rintro e w1 ⟨⟨r1,rfl,HR0⟩,hb1⟩;have HR:=ae HR0;clear HS HR0 a0 a1 a2 az b0 b1 b2 bz;have R1:=hP1.2.below hb1 (lR _);have R2:=hP2.2.below hb1 (lR _);have A1:=A0.call hb1;have B1:=B0.call hb1;have H1:=hb0.trans (hb1.mono hb0.size);clear A0 B0 hP1 hP2 hb0 hb1;obtain⟨⟨a0,a1,a2⟩,az,-⟩:=id A1;obtain⟨⟨b0,b1,b2⟩,bz,-⟩:=id B1;rcases q8 r1 with er|er;rotate_left
 ·have HV:Hid (¬x=y):=λe=>by have h:=HR.out.2 (by rw[e]);rw[er] at h;cases h
  subst er;go_wp2;go_ret;exact⟨SameAns.no HV.out,H1⟩
 have HV:=ae (HR.out.1 er);subst er;by_cases hf:x.fq.length=y.fq.length;rotate_left
 ·have e2:((x.fq.length:Int)!=(y.fq.length:Int))=true:=by simpa using λh=>hf aa
  have HF:Hid (¬x=y):=λe=>hf (by rw[e]);clear hf;go_wp2;go_ret;exact⟨SameAns.no HF.out,H1⟩
 have e2:((x.fq.length:Int)!=(y.fq.length:Int))=false:=by rw[hf];simp
 have HF:=ae hf;clear hf;go_wp2;clear a0 a1 a2 az b0 b1 b2 bz;go_loopw [5] (λi wr=>∃k:Nat,k<=x.fq.length/\i=.int .i64 k/\Hid (x.fq.take k=y.fq.take k)/\bl w1 wr) (λi _=>x.fq.length - (intOf i).toNat)
 case atStart=>exact⟨0,j0 _,rfl,rfl,bR _ _⟩
 case round=>
  obtain⟨k,hk,rfl,HE,hbr⟩:=hrel;obtain⟨⟨a0,a1,a2⟩,az,-⟩:=id (A1.call hbr);obtain⟨⟨b0,b1,b2⟩,bz,-⟩:=id (B1.call hbr);have hbz:=H1.trans (hbr.mono H1.size);by_cases hlt:k < x.fq.length
  ·have n0:(0:Int)<=(k:Int):=by omega
   have n1:(k:Int) < (x.fq.length:Int):=aa;have hlb:k < y.fq.length:=pO;have n2:(k:Int) < (y.fq.length:Int):=aa;obtain⟨p1,q1,rfl,zp1,r1,rc1,C1,k1,m1,J1⟩:=R1.below hbr (lR _) k hlt;obtain⟨p2,q2,rfl,zp2,r2,rc2,C2,k2,m2,J2⟩:=R2.below hbr (lR _) k hlb;have hgl:x.fq[k].length<=maxLen:=lT k1 m1;have HKZ:Hid (∀wx,bl wr wx->(wx.cell? ⟨w.heap.size,2,nO⟩=sO (U (sO ⟨p1,q1,nO⟩) x.fq.length fc1)/\wx.cell? ⟨p1,q1+k,nO⟩=sO (U r1 x.fq[k].length rc1))/\(wx.cell? ⟨w.heap.size+1,2,nO⟩=sO (U (sO ⟨p2,q2,nO⟩) y.fq.length fc2)/\wx.cell? ⟨p2,q2+k,nO⟩=sO (U r2 y.fq[k].length rc2))):=λwx hx=>⟨⟨by rw[hx.cell (by simp only;exact az)];exact a2,by rw[hx.cell (by simp only;exact zp1)];exact C1⟩,by rw[hx.cell (by simp only;exact bz)];exact b2,by rw[hx.cell (by simp only;exact zp2)];exact C2⟩;have HD:bl wr wr.drew:=(bR _ _).drew;go_wp2;refine aD (S:=(λwx=>(wx.cell? ⟨w.heap.size,2,nO⟩=sO (U (sO ⟨p1,q1,nO⟩) x.fq.length fc1)/\wx.cell? ⟨p1,q1+k,nO⟩=sO (U r1 x.fq[k].length rc1))/\(wx.cell? ⟨w.heap.size+1,2,nO⟩=sO (U (sO ⟨p2,q2,nO⟩) y.fq.length fc2)/\wx.cell? ⟨p2,q2+k,nO⟩=sO (U r2 y.fq[k].length rc2)))) [] ag (HKZ.out _ HD) (λhHeld=> ?_);refine vZ 0 ?_ ?_;refine vZ 1 ?_ ?_;refine vZ 2 ?_ ?_;refine vZ 3 ?_ ?_;refine vZ 4 ?_ ?_;refine vZ 5 ?_ ?_;refine vZ 6 ?_ ?_;refine vZ 7 ?_ ?_;refine vZ 8 ?_ ?_;refine vZ 9 ?_ ?_;refine aB (i:=10) rfl ag (λK hK=> ?_);go_simp;go_at_call 74;refine(lg x.fq[k] y.fq[k] r1 rc1 r2 rc2 _ hgl (J1.call HD) (J2.call HD)).mono ?_;rintro e w5 ⟨⟨bb,rfl,HBB0⟩,hb5⟩;have HBB:=ae HBB0;clear HBB0;have HB5:bl wr w5:=HD.trans (hb5.mono HD.size);go_wp2_with fail;refine hK.out _ _ (HKZ.out _ HB5) (λhHeld=> ?_);clear hK K;refine sm ?_;refine vZ 11 ?_ ?_;refine aC ag ?_ _;rcases q8 bb with er|er
   ·have HQ:=ae (HBB.out.1 er)
    subst er;exact tI
   ·have HQ:Hid (¬x=y):=λh=>by have h2:=HBB.out.2 (by subst h;rfl);rw[er] at h2;cases h2
    subst er;go_wp2;go_ret;exact⟨SameAns.no HQ.out,hbz.trans (HB5.mono hbz.size)⟩
  ·have n1:¬(k:Int) < (x.fq.length:Int):=by omega
   go_wp2;go_ret;refine⟨SameAns.yes ?_,hbz⟩;have h:=HE.out;rw[J5 aa,J5 pO] at h;have h1:=HN.out;have h2:=HV.out;cases x;cases y
   simp_all
end
section
open Go.RowKit Go.Sort
theorem tD {P:Program}(w:World)(base:Nat)(t ty e:TypeId)(i:TypeInfo)(size:Nat)(ht:P.underlying t=sO (.slice e))(hi:P.info? e=sO i)
  (v:Value)(n c:Nat)(xs:List Value)(hown:w.ownsRow base e size v n xs):
  (Builtin.append_ #[t,t] ty #[v,U nO 0 c]).run P w=.ok v w:=by
 rcases hown.2 with⟨rfl,rfl⟩|⟨g,cap,cur,rfl,_,_,hnc,_⟩
 ·simp[Builtin.append_,run_underlying ht,sizeOf,typeInfo,hi,Builtin.lenOf,Builtin.firstCells]
 ·simp[Builtin.append_,run_underlying ht,sizeOf,typeInfo,hi,Builtin.lenOf,Builtin.firstCells,hnc,storeCells]

theorem oE {P:Program}(w:World){ops:Array Oper}{rest:List Oper}{o:Oper}{a:Act}{Q:Exit->Act->World->Prop}(hgd:o.guard=nO)(s x:Operand)(t:TypeId)
  (ho:o.op=.call {callee:=.builtin .append,args:=#[s,x],argTypes:=#[t,t]})
  (base:Nat)(e:TypeId)(i:TypeInfo)(size:Nat)(ht:P.underlying t=sO (.slice e))(hi:P.info? e=sO i)
  (v:Value)(n c:Nat)(xs:List Value)(hs:a.eval s=v)(hown:w.ownsRow base e size v n xs)(hx:a.eval x=U nO 0 c)
  (h:wpList P ops Q rest (a.put o.dst v) w):wpList P ops Q (o::rest) a w:=by
 refine wpList_plain hgd λK hK=> ?_;have hr:=tD (P:=P) w base t o.type e i size ht hi v n c xs hown;unfold Oper.wp execOp;simp only[ho,resolve,invoke,builtin,Sem.run_bind,Sem.run_pure,Result.andThen_ok,List.map_toArray,J6,List.map_nil,hs,hx,hr];exact hK _ _ h

theorem FM (w:World):grow w #[]=w:=by simp[grow]

theorem yG {w:World}{B g cap n m:Nat}{e:TypeId}{xs:List Value}(h:w.ownsRow B e 1 (U (sO ⟨g,0,nO⟩) n cap) n xs)(hm:m<=n):w.ownsRow B e 1 (U (sO ⟨g,0,nO⟩) m cap) m (xs.take m):=by
 obtain⟨hl,h2⟩:=h;rcases h2 with⟨h',_⟩|⟨g',cap',cur,h',hb,hg,h1,h2,h3,h4⟩
 ·cases h'
 ·cases h'
  refine⟨by rw[List.length_take];omega,.inr ⟨g,cap,cur,rfl,hb,hg,aa,h2,h3,?_⟩⟩;rw[<-h4,List.take_take];congr 1;omega

theorem IntsAt.own {w:World}{B n:Nat}{e:TypeId}{v:Value}{l:List Int}(h:w.ownsRow B e 1 v n (l.map (.int .i64))):
  ∃ss cap,v=U ss l.length cap/\IntsAt w ss l/\l.length<=cap/\cap<=maxLen/\∀a,ss=sO a->B<=a.block:=by
 have hn:l.length=n:=by have:=h.1;simpa using this
 subst hn;rcases h.2 with⟨rfl,h0⟩|⟨g,cap,cur,rfl,hb,hg,h1,h2,h3,h4⟩
 ·have:l=[]:=J7.1 h0
  subst this;exact⟨nO,0,rfl,.inl rfl,lR _,dg,λa ha=>fY⟩
 ·refine⟨sO ⟨g,0,nO⟩,cap,rfl,.inr ⟨g,0,rfl,(j3.1 hg).1,λk hk=> ?_⟩,h1,h2,λa ha=>by cases ha;exact hb⟩
  have:=h.cellAt k aa;rw[j2,this];simp[hk]

def cA (L:List Gs):List Int:=Lib.compact ((L.flatMap Gs.s).mergeSort λx y=>decide (x<=y))

theorem IJ (L:List Gs)(k:Nat)(h:k < L.length):(L.take (k+1)).flatMap Gs.s=(L.take k).flatMap Gs.s++L[k].s:=by
 rw[j5 h,q9];simp
theorem Mq (L:List Gs)(k:Nat):((L.take k).flatMap Gs.s).length<=(L.flatMap Gs.s).length:=by
 conv=>rhs;rw[<-List.take_append_drop k L]
 rw[q9,j9];omega

theorem Tryz.info_intG:(Tryz.prog.info? 3).map (λi=>(i.zero,i.size,i.bytes))=sO (sO (.int .i64 0),1,8):=ag
theorem kU {w:World}{B:Nat}{e:TypeId}{z:Nat}{v:Value}{n:Nat}{xs:List Value}(h:w.ownsRow B e z v n xs){k:Nat}(hk:v.ownBlock=sO k):B<=k:=by
 rcases h.2 with⟨rfl,_⟩|⟨g,cap,cur,rfl,hb,hg,_⟩
 ·cases hk
 ·cases hk
  exact hb

theorem AN (ls:oA)(L:List Gs)(lc:Nat)(w:World)(hL:GsAt w ls L)(hl:L.length<=1000000)(hT:(L.flatMap Gs.s).length<=1000000):
  Calls pG 180 #[U ls L.length lc] w λe w'=>∃v,e=Rt v/\w'.ownsRow w.heap.size 3 1 v (cA L).length ((cA L).map (.int .i64))/\bl w w':=by
 obtain⟨ti,hi,hz0,hz1,hz2⟩:=info_parts Tryz.info_intG;go_enter Tryz.func180,Tryz.ntmps180;go_wp2;go_loopw [3,8] (λo i wr=>∃k:Nat,k<=L.length/\i=.int .i64 k/\wr.ownsRow w.heap.size 3 1 o ((L.take k).flatMap Gs.s).length (((L.take k).flatMap Gs.s).map (.int .i64))/\bl w wr) (λ_ i _=>L.length - (intOf i).toNat)
 case atStart=>exact⟨0,j0 _,rfl,⟨ah,.inl ⟨rfl,ah⟩⟩,bR _ _⟩
 case round=>
  obtain⟨k,hk,rfl,hown,hbr⟩:=hrel;have s1:=hbr.size;by_cases hlt:k < L.length
  ·obtain⟨b,off,rfl,ss,gc,GR,IR,hg1,hg2⟩:=hL.below hbr (lR _) k hlt
   obtain⟨⟨g0,g1,g2,g3,g4,g5,g6⟩,gz⟩:=id GR;have n0:(0:Int)<=(k:Int):=aa;have n1:(k:Int) < (L.length:Int):=aa;have HC:=ae (IJ L k hlt);have c1:=Mq L (k+1);rw[HC.out,j9] at c1;have IA:=IR.alloc (Cc #[Bb L[k].n,Bb L[k].sp.n,.int .i64 L[k].sp.lo,.int .i64 L[k].sp.hi,Bb L[k].t,Bb L[k].f,U ss L[k].s.length gc] 91);have OA:=hown.alloc (Cc #[Bb L[k].n,Bb L[k].sp.n,.int .i64 L[k].sp.lo,.int .i64 L[k].sp.hi,Bb L[k].t,Bb L[k].f,U ss L[k].s.length gc] 91);have BA:=hbr.alloc s1 (Cc #[Bb L[k].n,Bb L[k].sp.n,.int .i64 L[k].sp.lo,.int .i64 L[k].sp.hi,Bb L[k].t,Bb L[k].f,U ss L[k].s.length gc] 91);cases ss with
   |none=>
    have h0:L[k].s=[]:=by
     rcases IR with h|⟨_,_,h,_⟩
     ·exact h
     ·cases h
    have HC':Hid ((L.take (k+1)).flatMap Gs.s=(L.take k).flatMap Gs.s):=by show _=_;rw[HC.out,h0,List.append_nil]
    rw[h0] at OA BA g6;clear IA HC c1;go_wp2_with (at_builtin;refine oE _ rfl _ _ 34 rfl w.heap.size 3 ti 1 Tryz.underlying34 hi _ _ gc _ rfl OA rfl ?_);go_roundw
    case rel=>exact⟨k+1,aa,aJ,by rw[HC'.out];exact OA,BA⟩
    case measure=>simp[intOf];omega
   |some ad=>
    have hnews:∀j u,(L[k].s.map (Value.int .i64))[j]? =sO u->(wr.alloc (Cc #[Bb L[k].n,Bb L[k].sp.n,.int .i64 L[k].sp.lo,.int .i64 L[k].sp.hi,Bb L[k].t,Bb L[k].f,U (sO ad) L[k].s.length gc] 91)).cell? (ad.add j)=sO u:=by
     intro j u hju;have hj:j < L[k].s.length:=by
      have:=(J8.1 hju).1;simpa using this
     obtain⟨b',off',e',hb',hc'⟩:=IA.get j hj;cases e';have:=hc' j hj;rw[J9,q4 hj] at hju;cases hju;rw[<-this,Addr.add_lit]
    clear IA;go_wp2_with (at_builtin;refine wpList_append_own _ rfl _ _ 34 rfl w.heap.size 3 ti (.int .i64 0) 1 8 Tryz.underlying34 hi hz0 hz1 hz2 rfl aj _ _ _ rfl OA ad L[k].s.length gc (L[k].s.map (.int .i64)) rfl ah hnews (λx hx=>by obtain⟨y,_,rfl⟩:=Q3.1 hx;rfl) dg aa an ?_;intro v' w3 hown' hgrow3 hnil3);go_roundw
    case rel=>exact⟨k+1,aa,aJ,by rw[HC.out,Q4,j9];exact hown',BA.grown hgrow3 an (λj hj=>kU hown hj)⟩
    case measure=>simp[intOf];omega
  ·have hk':k=L.length:=by omega
   subst hk';rw[List.take_length] at hown;have HS:Hid (cA L=Lib.compact ((L.flatMap Gs.s).mergeSort λx y=>decide (x<=y))):=rfl;generalize hzs:L.flatMap Gs.s=zs at *;have HZ:=ae hzs;clear hzs hL;rcases hown.2 with⟨rfl,h0⟩|⟨g,cap,cur,rfl,hbg,hg,h1,h2,h3,h4⟩
   ·have hnil:zs=[]:=J7.1 h0
    have HE:Hid (cA L=[]):=by show _=_;rw[HS.out,hnil];simp[Lib.compact,Lib.compactUpTo]
    clear HS HZ hnil h0;go_wp2_with fail;refine(Tryz.slices_Sort_int_none _ _ _).mono ?_;rintro e w1 ⟨rfl,rfl⟩;go_wp2_with fail;refine(Tryz.slices_Compact_int_empty _ _ _).mono ?_;rintro e w1 ⟨rfl,rfl⟩;go_wp2;go_ret;exact⟨_,rfl,by rw[HE.out];exact⟨rfl,.inl ⟨rfl,rfl⟩⟩,hbr⟩
   ·have hgl:g < wr.heap.size:=(j3.1 hg).1
    rw[Nat.mul_one] at h4;go_wp2_with fail;refine(Tryz.slices_Sort_int g 0 cap zs _ (holds_of_blockI hg h4) hgl aa).mono ?_;rintro e w1 ⟨rfl,n,os,hw1⟩;have hml:(zs.mergeSort λx y=>decide (x<=y)).length=zs.length:=List.length_mergeSort _;have O1:w1.ownsRow w.heap.size 3 1 (U (sO ⟨g,0,nO⟩) zs.length cap) zs.length ((zs.mergeSort λx y=>decide (x<=y)).map (.int .i64)):=by
     rw[hw1];exact ownsRow_sortedI hml hbg hg h1 h2 h3
    have B1:bl w w1:=by
     rw[hw1];exact hbr.grown (grownBy_sortedI _) s1 (λj hj=>by cases hj;exact hbg)
    clear hw1;generalize hys:(zs.mergeSort λx y=>decide (x<=y))=ys at *;have HE:Hid (cA L=Lib.compact ys):=HS.out;have hyl:ys.length=zs.length:=hml;clear hys hml HS hown h4 h3 hg hbr;rcases O1.2 with⟨h',_⟩|⟨g',cap',cur',h',-,hg',h1',h2',h3',h4'⟩
    ·cases h'
    ·cases h'
     rw[Nat.mul_one,<-hyl] at h4';have hcl:=Lib.compact_length_le ys;go_wp2_with fail;rw[<-hyl];refine(Tryz.slices_Compact_int g 0 cap ys _ (holds_of_blockI hg' h4') aa aa).mono ?_;rintro e w2 ⟨rfl,q,hw2⟩;rw[<-FM (putRow _ _ _ _ _)] at hw2;have htl:(Lib.compact ys++List.replicate (ys.length - (Lib.compact ys).length) (0:Int)).length=ys.length:=by rw[j9,List.length_replicate];omega
     have O2:=ownsRow_sortedI (w:=w1) (n:=q) (os:=#[]) (ss:=ys) htl hbg hg' aa h2' h3';rw[<-hw2] at O2;have B2:bl w w2:=by
      rw[hw2];exact B1.grown (grownBy_sortedI _) B1.size (λj hj=>by cases hj;exact hbg)
     have O3:=yG O2 hcl;rw[<-List.map_take,List.take_left] at O3;clear hw2 O2 O1 B1 htl hg' h4';go_wp2;go_ret;exact⟨_,rfl,by rw[HE.out];exact O3,B2⟩
end
section
open Go.RowKit
attribute [local go_sem ↓] Go.wp_at_zero Go.wp_at_succ
theorem IntsAt.news {w:World}{ss:oA}{l:List Int}(h:IntsAt w ss l):∀ad,ss=sO ad->∀j u,(l.map (Value.int .i64))[j]? =sO u->w.cell? (ad.add j)=sO u:=by
 intro ad e j u hj;obtain⟨hjl,rfl⟩:=J8.1 hj;rw[Q5] at hjl;rcases h with h|⟨b,off,e',hb,hc⟩
 ·rw[h] at hjl;simp at hjl
 ·rw[e'] at e
  cases e;rw[Addr.add_lit,hc j hjl];simp
theorem Cs (g:Gs)(ss:oA)(gc:Nat)(w:World)(hI:IntsAt w ss g.s)(hl:g.s.length<=1000000):
  Calls pG 68 #[gv g ss gc] w λe w'=>(∃js jc,e=Rt (gv g js jc)/\IntsAt w' js g.s/\g.s.length<=jc/\jc<=maxLen/\∀a,js=sO a->w.heap.size<=a.block)/\bl w w':=by
 obtain⟨ti,hi,hz0,hz1,hz2⟩:=info_parts Tryz.info_int;have hb0:Below w.heap.size w ((w.alloc (Cc #[Bb g.n,Bb g.sp.n,.int .i64 g.sp.lo,.int .i64 g.sp.hi,Bb g.t,Bb g.f,U ss g.s.length gc] 91)).alloc (Cc #[Bb false,Bb false,.int .i64 0,.int .i64 0,Bb false,Bb false,U nO 0 0] 91)):=ai;have G0:Cells ((w.alloc (Cc #[Bb g.n,Bb g.sp.n,.int .i64 g.sp.lo,.int .i64 g.sp.hi,Bb g.t,Bb g.f,U ss g.s.length gc] 91)).alloc (Cc #[Bb false,Bb false,.int .i64 0,.int .i64 0,Bb false,Bb false,U nO 0 0] 91)) w.heap.size [Bb g.n,Bb g.sp.n,.int .i64 g.sp.lo,.int .i64 g.sp.hi,Bb g.t,Bb g.f,U ss g.s.length gc]:=(Cells.new w 91 [Bb g.n,Bb g.sp.n,.int .i64 g.sp.lo,.int .i64 g.sp.hi,Bb g.t,Bb g.f,U ss g.s.length gc]).call ai;have Z0:Cells ((w.alloc (Cc #[Bb g.n,Bb g.sp.n,.int .i64 g.sp.lo,.int .i64 g.sp.hi,Bb g.t,Bb g.f,U ss g.s.length gc] 91)).alloc (Cc #[Bb false,Bb false,.int .i64 0,.int .i64 0,Bb false,Bb false,U nO 0 0] 91)) (w.heap.size+1) [Bb false,Bb false,.int .i64 0,.int .i64 0,Bb false,Bb false,U nO 0 0]:=by
  have h:=Cells.new (w.alloc (Cc #[Bb g.n,Bb g.sp.n,.int .i64 g.sp.lo,.int .i64 g.sp.hi,Bb g.t,Bb g.f,U ss g.s.length gc] 91)) 91 [Bb false,Bb false,.int .i64 0,.int .i64 0,Bb false,Bb false,U nO 0 0];rw[zA] at h;exact h
 have I0:=hI.call hb0;have hsz:((w.alloc (Cc #[Bb g.n,Bb g.sp.n,.int .i64 g.sp.lo,.int .i64 g.sp.hi,Bb g.t,Bb g.f,U ss g.s.length gc] 91)).alloc (Cc #[Bb false,Bb false,.int .i64 0,.int .i64 0,Bb false,Bb false,U nO 0 0] 91)).heap.size=w.heap.size+1+1:=ah;have HSZ:=ae hsz;clear hI hsz;go_enter Tryz.func68,Tryz.ntmps68;go_upto_region 1 with fail
 generalize ((w.alloc (Cc #[Bb g.n,Bb g.sp.n,.int .i64 g.sp.lo,.int .i64 g.sp.hi,Bb g.t,Bb g.f,U ss g.s.length gc] 91)).alloc (Cc #[Bb false,Bb false,.int .i64 0,.int .i64 0,Bb false,Bb false,U nO 0 0] 91))=w1 at *;have OWE:=World.ownsRow_made w1 (e:=3) (size:=1) #[] 0 (lR _) (j0 _) rfl;have I1:=I0.call (w':=w1.alloc (Cc #[] 3)) ai;have G1:=G0.call (w':=w1.alloc (Cc #[] 3)) ai;have Z1:=Z0.call (w':=w1.alloc (Cc #[] 3)) ai;have c4:=G1.1 6 _ rfl;have hlt:w.heap.size < w1.heap.size:=G0.2.1;go_wp2_with (at_builtin;refine aZ _ rfl _ _ 34 rfl w1.heap.size 3 ti (.int .i64 0) 1 8 Tryz.underlying34 hi hz0 hz1 hz2 rfl aj _ _ _ rfl OWE ss g.s.length gc (g.s.map (.int .i64)) rfl ?qc1 ?qc0 ?qc2 ?qc3 ?qc4 ?qc5 ?qc6 ?_)
 case qc1=>simp
 case qc0=>
  intro e;rcases I0 with h|⟨b,off,e',_⟩
  ·rw[h];rfl
  ·rw[e'] at e;cases e
 case qc2=>exact I1.news
 case qc3=>intro u hu;obtain⟨x,-,rfl⟩:=Q3.1 hu;rfl
 case qc4=>unfold maxLen;omega
 case qc5=>omega
 case qc6=>first|omega|(rw[zA];omega)|(simp;omega)|simp
 intro v' w2 hown hgrow hat;have hbg:bl w1 w2:=((bR _ w1).alloc (lR _) _).grown hgrow ah (λk hk=>by cases hk;exact lR _);(try rw[List.nil_append] at hown);obtain⟨js,jc,rfl,JI,J1,J2,JF⟩:=IntsAt.own hown;have G2:=G0.call hbg;have Z2:=Z0.call hbg;have B2:=hb0.trans (hbg.mono hb0.size);have HJ:Hid (IntsIn (λb=>w.heap.size+1+1<=b) w2 js g.s):=by
  show IntsIn _ _ _ _;rcases JI with h|⟨b,off,e,hb,hc⟩
  ·exact .inl h
  ·have:=JF _ e
   have h2:=HSZ.out;simp only at this;exact .inr ⟨b,off,e,aa,hb,hc⟩
 have HF:Hid (∀a,js=sO a->w.heap.size<=a.block):=λa ha=>by have:=JF a ha;have:=hb0.size;omega
 clear hown hgrow hat G0 Z0 G1 Z1 I0 I1 OWE c4 hlt hbg hb0 JI JF HSZ;have g0:=G2.1 0 _ rfl;have g1:=G2.1 1 _ rfl;have g2:=G2.1 2 _ rfl;have g3:=G2.1 3 _ rfl;have g4:=G2.1 4 _ rfl;have g5:=G2.1 5 _ rfl;have g6:=G2.1 6 _ rfl;have fg0:=G2.2.2 0;have fg1:=G2.2.2 1;have fg2:=G2.2.2 2;have fg3:=G2.2.2 3;have fg4:=G2.2.2 4;have fg5:=G2.2.2 5;have fg6:=G2.2.2 6;have z0:=Z2.1 0 _ rfl;have z1:=Z2.1 1 _ rfl;have z2:=Z2.1 2 _ rfl;have z3:=Z2.1 3 _ rfl;have z4:=Z2.1 4 _ rfl;have z5:=Z2.1 5 _ rfl;have z6:=Z2.1 6 _ rfl;have fz0:=Z2.2.2 0;have fz1:=Z2.2.2 1;have fz2:=Z2.2.2 2;have fz3:=Z2.2.2 3;have fz4:=Z2.2.2 4;have fz5:=Z2.2.2 5;have fz6:=Z2.2.2 6;go_wp2;refine bodyPost_ret (v:=Ag #[Bb g.n,Bb g.sp.n,.int .i64 g.sp.lo,.int .i64 g.sp.hi,Bb g.t,Bb g.f,U js g.s.length jc]) (by simp[results,Tryz.results68,go_sem,z0,z1,z2,z3,z4,z5,z6]) rfl ⟨⟨js,jc,rfl,(HJ.out.same (λb hb _=> ?_) ?_).at,J1,J2,HF.out⟩,?_⟩
 ·have n1:b≠w.heap.size:=by omega
  have n2:b≠w.heap.size+1:=aa;rw[hSe _ _ _ _ n2,hSe _ _ _ _ n2,hSe _ _ _ _ n2,hSe _ _ _ _ n2,hSe _ _ _ _ n2,hSe _ _ _ _ n2,hSe _ _ _ _ n2,hSe _ _ _ _ n1]
 ·simp[Q6]
 ·exact(((((((B2.setCell au _).setCell au _).setCell au _).setCell au _).setCell au _).setCell au _).setCell au _).setCell au _
end
section
open Go.RowKit
def Ms (S:Nat->Prop)(w:World)(fs:oA)(L:List (List Gs)):Prop:=
 ∀i (h:i < L.length),∃b off,fs=sO ⟨b,off,nO⟩/\S b/\b < w.heap.size/\∃rs rc,w.cell? ⟨b,off+i,nO⟩=sO (U rs L[i].length rc)/\L[i].length<=rc/\rc<=maxLen/\GsIn S w rs L[i]
theorem Fj (S:Nat->Prop)(w:World):∃w3:World,w3.heap.size=w.heap.size/\(∀b,S b->w3.heap[b]? =w.heap[b]?)/\∀b o,¬S b->w3.cell? ⟨b,o,nO⟩=none:=by
 classical
 refine⟨{w with heap:=w.heap.mapIdx λk x=>if S k then x else Cc #[] 0},ah,λb hb=> ?_,λb o hb=> ?_⟩
 ·simp only[Array.getElem?_mapIdx]
  cases w.heap[b]? with
  |none=>rfl
  |some x=>simp[hb]
 ·simp only[z7,Array.getElem?_mapIdx]
  cases w.heap[b]? with
  |none=>rfl
  |some x=>simp[hb]
section
variable {S:Nat->Prop} {w:World} {x:Pic} {vs fs:oA}
theorem PicOn.in (h:PicOn S w x vs fs):GsIn S w vs x.vq/\Ms S w fs x.fq:=by
 obtain⟨w3,hz,hs,hn⟩:=Fj S w;have h3:=h w3 (λb hb _=>hs b hb) aa;have hS:∀{b o:Nat} {v:Value},w3.cell? ⟨b,o,nO⟩=sO v->S b/\b < w.heap.size/\w.cell? ⟨b,o,nO⟩=sO v:=by
  intro b o v hc;have hb:S b:=Classical.byContradiction λhb=>by rw[hn b o hb] at hc;cases hc
  have hb2:=World.block_lt_of_cell? w3 _ hc;refine⟨hb,by simpa[hz] using hb2,?_⟩;rw[<-q5 (a:=⟨b,o,nO⟩) (hs b hb)];exact hc
 have hI:∀{ss:oA} {l:List Int},IntsAt w3 ss l->IntsIn S w ss l:=by
  intro ss l h;rcases h with h|⟨b,off,e,hb,hc⟩
  ·exact .inl h
  ·cases l with
   |nil=>exact .inl rfl
   |cons a r=>
    have h0:=hS (hc 0 ah);exact .inr ⟨b,off,e,h0.1,h0.2.1,λk hk=>(hS (hc k hk)).2.2⟩
 have hG:∀{ls:oA} {L:List Gs},GsAt w3 ls L->GsIn S w ls L:=by
  intro ls L h i hi;obtain⟨b,off,e,ss,cap,⟨⟨c0,c1,c2,c3,c4,c5,c6⟩,_⟩,h2,h4,h5⟩:=h i hi;have a0:=hS c0;exact⟨b,off,e,a0.1,ss,cap,⟨⟨a0.2.2,(hS c1).2.2,(hS c2).2.2,(hS c3).2.2,(hS c4).2.2,(hS c5).2.2,(hS c6).2.2⟩,a0.2.1⟩,hI h2,h4,h5⟩
 refine⟨hG h3.1,λi hi=> ?_⟩;obtain⟨b,off,e,_,rs,rc,h1,h2,h4,h5⟩:=h3.2 i hi;have a0:=hS h1;exact⟨b,off,e,a0.1,a0.2.1,rs,rc,a0.2.2,h2,h4,hG h5⟩
end
def EdsOn (S:Nat->Prop)(w:World)(es:oA)(L:List Edg):Prop:=
 ∀i (h:i < L.length),∃b off,es=sO ⟨b,off,nO⟩/\S b/\b < w.heap.size/\∃vs vc fs fc,(w.cell? ⟨b,off+i * 4,nO⟩=sO (.int .i64 L[i].tgt)/\w.cell? ⟨b,off+i * 4+1,nO⟩=sO (Bb L[i].pic.none)/\w.cell? ⟨b,off+i * 4+2,nO⟩=sO (U vs L[i].pic.vq.length vc)/\w.cell? ⟨b,off+i * 4+3,nO⟩=sO (U fs L[i].pic.fq.length fc))/\PicOn S w L[i].pic vs fs/\(L[i].pic.vq.length<=vc/\vc<=maxLen)/\(L[i].pic.fq.length<=fc/\fc<=maxLen)
section
variable {S S':Nat->Prop} {w w':World} {es:oA} {L:List Edg}
theorem EdsOn.nil:EdsOn S w es []:=λi h=>absurd h ah
theorem EdsOn.same (h:EdsOn S w es L)(hs:∀b,S b->b < w.heap.size->w'.heap[b]? =w.heap[b]?)(hz:w.heap.size<=w'.heap.size):EdsOn S w' es L:=by
 intro i hi;obtain⟨b,off,e,hS,hb,vs,vc,fs,fc,⟨c0,c1,c2,c3⟩,hp,hv,hf⟩:=h i hi;have hc:∀j,w'.cell? ⟨b,j,nO⟩=w.cell? ⟨b,j,nO⟩:=λj=>q5 (a:=⟨b,j,nO⟩) (hs b hS hb);exact⟨b,off,e,hS,lL hb hz,vs,vc,fs,fc,⟨(hc _).trans c0,(hc _).trans c1,(hc _).trans c2,(hc _).trans c3⟩,(hp.same hs hz).mono λb hb _=>hb.1,hv,hf⟩
theorem EdsOn.mono (h:EdsOn S w es L)(hs:∀b,S b->b < w.heap.size->S' b):EdsOn S' w es L:=by
 intro i hi;obtain⟨b,off,e,hS,hb,vs,vc,fs,fc,hc,hp,hv,hf⟩:=h i hi;exact⟨b,off,e,hs b hS hb,hb,vs,vc,fs,fc,hc,hp.mono hs,hv,hf⟩
theorem EdsOn.call (h:EdsOn S w es L)(hb:bl w w'):EdsOn S w' es L:=h.same (λb _ hlt=>hb.block b hlt) hb.size
end
theorem ERow.eds {n sb:Nat}{w:World}{es:oA}{ec:Nat}{L:List Ed}(h:ERow n sb w (U es L.length ec) L):EdsOn (λb=>n<=b) w es (L.map edG):=by
 intro i hi;have hil:i < L.length:=d8;have ei:(L.map edG)[i]=edG L[i]:=ah;rw[ei];rcases h.own.2 with⟨e,h0⟩|⟨g,cap,cur,e,hb,hg,k1,k2,k3,k4⟩
 ·omega
 ·simp only[Value.slice.injEq] at e
  obtain⟨e1,-,-⟩:=e;subst e1;obtain⟨p1,p2,p3⟩:=h.pics _ (gM hil);have hc:∀j,j < 4->w.cell? ⟨g,i * 4+j,nO⟩=(cQ L[i])[j]? :=λj hj=>by
   rw[<-rh L i hil j hj];exact World.ownsRow.cellAt h.own _ aa
  refine⟨g,0,rfl,hb,(j3.1 hg).1,L[i].vs,L[i].vc,L[i].fs,L[i].fc,?_,p1.mono λb hb _=>hb.1,p2,p3⟩;simp only[j2];exact⟨hc 0 aa,hc 1 aa,hc 2 aa,hc 3 aa⟩
def bU (S:Nat->Prop)(w':World)(e:Ending)(r:List Edg×Bool×Bool):Prop:=∃es ec,e=Rt (Tu #[U es r.1.length ec,Bb r.2.1,Bb r.2.2])/\EdsOn S w' es r.1
abbrev bN (w:World)(V F:Int)(s:oA)(c:lI)(cap:Nat)(g:Gs)(ss:oA)(gc:Nat)(h:Gs)(st:oA)(hc:Nat):World:=
 (((w.alloc (Cc #[.int .i64 V,.int .i64 F,U s c.length cap] 24)).alloc (Cc #[Bb g.n,Bb g.sp.n,.int .i64 g.sp.lo,.int .i64 g.sp.hi,Bb g.t,Bb g.f,U ss g.s.length gc] 91)).alloc (Cc #[Bb h.n,Bb h.sp.n,.int .i64 h.sp.lo,.int .i64 h.sp.hi,Bb h.t,Bb h.f,U st h.s.length hc] 91)).alloc (Cc #[Bb false,Bb false,.int .i64 0,.int .i64 0,Bb false,Bb false,U nO 0 0] 91)

def Fr7 (w:World)(b:Nat):Prop:=(∀j,w.frozen? ⟨b,j,nO⟩=false)/\b < w.heap.size
theorem Fr7.call {w w':World}{b:Nat}(h:Fr7 w b)(hb:bl w w'):Fr7 w' b:=
 ⟨λj=>by rw[hb.frozen (by simpa using h.2)];exact h.1 j,lL h.2 hb.size⟩

theorem Fr7.drew {w:World}{b:Nat}(h:Fr7 w b):Fr7 w.drew b:=h.call (bR _ _).drew
theorem Fr7.alloc {w:World}{b:Nat}(h:Fr7 w b)(o:Obj):Fr7 (w.alloc o) b:=h.call (Below.alloc (bR _ _) (lR _) o)

theorem dS {V F:Int}{c:lI}{g h:Gs}(hk:aY V F c [g,h]=0):bu g.sp h.sp=0:=by
 unfold aY at hk;split at hk
 ·have e:bZ c [g,h]=if aE c g=0 then(if aE c h=0 then 0 else aE c h) else aE c g:=rfl
  have sp0:∀x,aE c x=0->cu x.sp=0:=λx hx=>by
   unfold aE at hx;split at hx
   ·assumption
   ·rename_i hn;exact Decidable.not_not.1 hn
  rw[e] at hk;by_cases hg:aE c g=0
  ·rw[if_pos hg] at hk
   by_cases hh:aE c h=0
   ·exact ckSps_ok.2 ⟨ckSp_ok.1 (sp0 g hg),ckSp_ok.1 (sp0 h hh)⟩
   ·rw[if_neg hh] at hk;exact absurd hk hh
  ·rw[if_neg hg] at hk;exact absurd hk hg
 ·rename_i hn;exact absurd hk hn

theorem dP (w:World)(V F:Int)(s:oA)(c:lI)(cap:Nat)(g:Gs)(ss:oA)(gc:Nat)(h:Gs)(st:oA)(hc:Nat):
  PrAt (bN w V F s c cap g ss gc h st hc) w.heap.size V F s c cap/\GuAt (bN w V F s c cap g ss gc h st hc) (w.heap.size+1) 0 g ss gc/\GuAt (bN w V F s c cap g ss gc h st hc) (w.heap.size+1+1) 0 h st hc/\GuAt (bN w V F s c cap g ss gc h st hc) (w.heap.size+1+1+1) 0 bC nO 0/\Fr7 (bN w V F s c cap g ss gc h st hc) (w.heap.size+1+1+1):=by
 refine⟨?_,?_,?_,?_,?_⟩
 ·exact(((PrAt.new w V F s c cap).alloc _).alloc _).alloc _
 ·have:=GuAt.new (w.alloc (Cc #[.int .i64 V,.int .i64 F,U s c.length cap] 24)) g ss gc
  rw[zA] at this;exact(this.alloc _).alloc _
 ·have:=GuAt.new ((w.alloc (Cc #[.int .i64 V,.int .i64 F,U s c.length cap] 24)).alloc (Cc #[Bb g.n,Bb g.sp.n,.int .i64 g.sp.lo,.int .i64 g.sp.hi,Bb g.t,Bb g.f,U ss g.s.length gc] 91)) h st hc
  simp only[zA] at this;exact this.alloc _
 ·have:=GuAt.new (((w.alloc (Cc #[.int .i64 V,.int .i64 F,U s c.length cap] 24)).alloc (Cc #[Bb g.n,Bb g.sp.n,.int .i64 g.sp.lo,.int .i64 g.sp.hi,Bb g.t,Bb g.f,U ss g.s.length gc] 91)).alloc (Cc #[Bb h.n,Bb h.sp.n,.int .i64 h.sp.lo,.int .i64 h.sp.hi,Bb h.t,Bb h.f,U st h.s.length hc] 91)) bC nO 0
  simp only[zA] at this;exact this
 ·refine⟨λj=> ?_,ah⟩
  simp[go_sem]

theorem cU (w:World)(V F:Int)(s:oA)(c:lI)(cap:Nat)(g:Gs)(ss:oA)(gc:Nat)(h:Gs)(st:oA)(hc:Nat):Below w.heap.size w (bN w V F s c cap g ss gc h st hc):=ai

def rL (w:World)(jb:Nat)(g:Gs)(ss:oA)(gc:Nat)(h:Gs)(st:oA)(hc:Nat)(J:Sp)(w':World):Prop:=
 (w'.cell? ⟨w.heap.size+1,0,nO⟩=sO (Bb g.n)/\w'.cell? ⟨w.heap.size+1,1,nO⟩=sO (Bb g.sp.n)/\w'.cell? ⟨w.heap.size+1,2,nO⟩=sO (.int .i64 g.sp.lo)/\w'.cell? ⟨w.heap.size+1,3,nO⟩=sO (.int .i64 g.sp.hi)/\w'.cell? ⟨w.heap.size+1,4,nO⟩=sO (Bb g.t)/\w'.cell? ⟨w.heap.size+1,5,nO⟩=sO (Bb g.f)/\w'.cell? ⟨w.heap.size+1,6,nO⟩=sO (U ss g.s.length gc))/\
 (w'.cell? ⟨w.heap.size+1+1,0,nO⟩=sO (Bb h.n)/\w'.cell? ⟨w.heap.size+1+1,1,nO⟩=sO (Bb h.sp.n)/\w'.cell? ⟨w.heap.size+1+1,2,nO⟩=sO (.int .i64 h.sp.lo)/\w'.cell? ⟨w.heap.size+1+1,3,nO⟩=sO (.int .i64 h.sp.hi)/\w'.cell? ⟨w.heap.size+1+1,4,nO⟩=sO (Bb h.t)/\w'.cell? ⟨w.heap.size+1+1,5,nO⟩=sO (Bb h.f)/\w'.cell? ⟨w.heap.size+1+1,6,nO⟩=sO (U st h.s.length hc))/\
 (w'.cell? ⟨jb,0,nO⟩=sO (Bb J.n)/\w'.cell? ⟨jb,1,nO⟩=sO (.int .i64 J.lo)/\w'.cell? ⟨jb,2,nO⟩=sO (.int .i64 J.hi))


abbrev gV (w:World)(b:Nat)(v0 v1 v2 v3 v4 v5 v6:Value):World:=((((((w.setCell ⟨b,0,nO⟩ v0).setCell ⟨b,1,nO⟩ v1).setCell ⟨b,2,nO⟩ v2).setCell ⟨b,3,nO⟩ v3).setCell ⟨b,4,nO⟩ v4).setCell ⟨b,5,nO⟩ v5).setCell ⟨b,6,nO⟩ v6
theorem wM (w:World)(b k:Nat)(v0 v1 v2 v3 v4 v5 v6:Value)(h:k≠b):(gV w b v0 v1 v2 v3 v4 v5 v6).heap[k]? =w.heap[k]? :=by
 unfold gV;rw[hSe _ _ _ _ h,hSe _ _ _ _ h,hSe _ _ _ _ h,hSe _ _ _ _ h,hSe _ _ _ _ h,hSe _ _ _ _ h,hSe _ _ _ _ h]
theorem ov (w:World)(b:Nat)(v0 v1 v2 v3 v4 v5 v6:Value):(gV w b v0 v1 v2 v3 v4 v5 v6).heap.size=w.heap.size:=by simp[gV]
theorem wG (w:World)(b k j:Nat)(v0 v1 v2 v3 v4 v5 v6:Value)(h:k≠b):(gV w b v0 v1 v2 v3 v4 v5 v6).cell? ⟨k,j,nO⟩=w.cell? ⟨k,j,nO⟩:=q5 (a:=⟨k,j,nO⟩) (wM w b k v0 v1 v2 v3 v4 v5 v6 h)
theorem GuAt.put7 {w:World}{b k o:Nat}{g:Gs}{ss:oA}{cap:Nat}{v0 v1 v2 v3 v4 v5 v6:Value}(hg:GuAt w k o g ss cap)(h:k≠b):GuAt (gV w b v0 v1 v2 v3 v4 v5 v6) k o g ss cap:=by
 obtain⟨⟨h0,h1,h2,h3,h4,h5,h6⟩,hz⟩:=hg;refine⟨⟨?_,?_,?_,?_,?_,?_,?_⟩,by rw[ov];exact hz⟩<;>rw[wG _ _ _ _ _ _ _ _ _ _ _ h]<;>assumption
theorem SpAt.put7 {w:World}{b k:Nat}{s:Sp}{v0 v1 v2 v3 v4 v5 v6:Value}(hg:SpAt w k s)(h:k≠b):SpAt (gV w b v0 v1 v2 v3 v4 v5 v6) k s:=by
 obtain⟨⟨h0,h1,h2⟩,hz⟩:=hg;refine⟨⟨?_,?_,?_⟩,by rw[ov];exact hz⟩<;>rw[wG _ _ _ _ _ _ _ _ _ _ _ h]<;>assumption
theorem bo {B b:Nat}{a w:World}{v0 v1 v2 v3 v4 v5 v6:Value}(h:Below B a w)(hg:B<=b):Below B a (gV w b v0 v1 v2 v3 v4 v5 v6):=((((((h.setCell iA _).setCell iA _).setCell iA _).setCell iA _).setCell iA _).setCell iA _).setCell iA _
theorem eZ {w:World}{B B' n z:Nat}{e:TypeId}{v:Value}{xs:List Value}(h:w.ownsRow B e z v n xs)(hB:B'<=B):w.ownsRow B' e z v n xs:=
 ⟨h.1,h.2.imp id λ⟨g,cap,cur,r1,r2,r3⟩=>⟨g,cap,cur,r1,aa,r3⟩⟩
theorem e8 {w:World}{B n b z:Nat}{e:TypeId}{v:Value}{xs:List Value}{v0 v1 v2 v3 v4 v5 v6:Value}(h:w.ownsRow B e z v n xs)(hb:b < B):(gV w b v0 v1 v2 v3 v4 v5 v6).ownsRow B e z v n xs:=
 ⟨h.1,h.2.imp id λ⟨g,cap,cur,r1,r2,r3,r4⟩=>⟨g,cap,cur,r1,r2,by rw[wM _ _ _ _ _ _ _ _ _ _ (by omega)];exact r3,r4⟩⟩
theorem GsAt.drew {w:World}{ls:oA}{L:List Gs}(h:GsAt w ls L):GsAt w.drew ls L:=h.call ((bR _ _).drew)

theorem tE {p:Prop}(h:p:=by
 refine(hJ.out _).mono ?_;rintro e w2 ⟨rfl,hb2⟩;have G2:=G1.call hb2;have H2:=H1.call hb2;have R2:=R1.call hb2;have I2:=I1.call hb2;have J2:=J1.call hb2;have F2:=F1.call hb2;have B2:=B1.trans (hb2.mono B1.size);clear hb2 G1 H1 R1 I1 J1 F1 B1 g0 g1 g2 g3 g4 g5 g6 gz k0 k1 k2 k3 k4 k5 k6 kz hJ;go_wp2;have G3:=G2.alloc (.cells #[.bool J.n,.int .i64 J.lo,.int .i64 J.hi] 89);have H3:=H2.alloc (.cells #[.bool J.n,.int .i64 J.lo,.int .i64 J.hi] 89);have R3:=R2.alloc (.cells #[.bool J.n,.int .i64 J.lo,.int .i64 J.hi] 89);have I3:=I2.alloc (.cells #[.bool J.n,.int .i64 J.lo,.int .i64 J.hi] 89);have J3:=J2.alloc (.cells #[.bool J.n,.int .i64 J.lo,.int .i64 J.hi] 89);have F3:=F2.alloc (.cells #[.bool J.n,.int .i64 J.lo,.int .i64 J.hi] 89);have B3:=B2.alloc B2.size (.cells #[.bool J.n,.int .i64 J.lo,.int .i64 J.hi] 89);have S3:=SpAt.new w2 J;have zj:w.heap.size+1+1+1 < w2.heap.size:=F2.2;clear G2 H2 R2 I2 J2 F2 B2;generalize w2.alloc (.cells #[.bool J.n,.int .i64 J.lo,.int .i64 J.hi] 89)=w3 at *;generalize w2.heap.size=jb at *;have KS:∀wx,GuAt wx (w.heap.size+1) 0 g ss gc->GuAt wx (w.heap.size+1+1) 0 h st hc->SpAt wx jb J->rL w jb g ss gc h st hc J wx:=λwx a b c=>⟨by simpa using a.1,by simpa using b.1,c.1⟩;unfold rL at KS;obtain⟨n,sp,t,f,sl⟩:=g;refine wp_region_held_drew (S:=rL w jb ⟨n,sp,t,f,sl⟩ ss gc h st hc J) ag (KS _ G3.drew H3.drew S3.drew) (λhHeld=> ?_);unfold rL at hHeld |-;refine vH 0 ?_ ?_;refine vH 1 ?_ ?_;refine vH 2 ?_ ?_;refine wpAnyH_take (i:=3) (v:=if n=true then undef else .pointer (some ⟨w.heap.size+1+1,0,none⟩)) rfl ag ag ag (λ_ _ _ h=>h) ?_ cl ?_
 ·cases n
  ·refine Or.inl ⟨?_,?_⟩
   ·rfl
   ·(intro w hSw;(try dsimp only at hSw);first|(go_simp;done)|(go_simp;with_reducible rfl))
  ·exact Or.inr ⟨rfl,rfl⟩
 refine sm ?_;refine wpAnyH_take (i:=4) (v:=if n=true then undef else .bool h.n) rfl ag ag ag (λ_ _ _ h=>h) ?_ cl ?_
 ·cases n
  ·refine Or.inl ⟨?_,?_⟩
   ·rfl
   ·(intro w hSw;(try dsimp only at hSw);first|(go_simp;done)|(go_simp;with_reducible rfl))
  ·exact Or.inr ⟨rfl,rfl⟩
 refine sm ?_;refine wpAnyH_take (i:=5) (v:=.bool (n||h.n)) rfl ag ag ag (λ_ _ _ h=>h) ?_ cl ?_
 ·cases n
  ·refine Or.inl ⟨?_,?_⟩
   ·rfl
   ·(intro w hSw;(try dsimp only at hSw);first|(go_simp;done)|(go_simp;with_reducible rfl))
  ·refine Or.inl ⟨?_,?_⟩
   ·rfl
   ·(intro w hSw;(try dsimp only at hSw);first|(go_simp;done)|(go_simp;with_reducible rfl))
 refine sm ?_;refine vH 6 ?_ ?_;refine vH 7 ?_ ?_;refine vH 8 ?_ ?_;refine vH 9 ?_ ?_;refine wpAnyH_take (i:=10) (v:=if t=true then undef else .pointer (some ⟨w.heap.size+1+1,4,none⟩)) rfl ag ag ag (λ_ _ _ h=>h) ?_ cl ?_
 ·cases t
  ·refine Or.inl ⟨?_,?_⟩
   ·rfl
   ·(intro w hSw;(try dsimp only at hSw);first|(go_simp;done)|(go_simp;with_reducible rfl))
  ·exact Or.inr ⟨rfl,rfl⟩
 refine sm ?_;refine wpAnyH_take (i:=11) (v:=if t=true then undef else .bool h.t) rfl ag ag ag (λ_ _ _ h=>h) ?_ cl ?_
 ·cases t
  ·refine Or.inl ⟨?_,?_⟩
   ·rfl
   ·(intro w hSw;(try dsimp only at hSw);first|(go_simp;done)|(go_simp;with_reducible rfl))
  ·exact Or.inr ⟨rfl,rfl⟩
 refine sm ?_;refine wpAnyH_take (i:=12) (v:=.bool (t||h.t)) rfl ag ag ag (λ_ _ _ h=>h) ?_ cl ?_
 ·cases t
  ·refine Or.inl ⟨?_,?_⟩
   ·rfl
   ·(intro w hSw;(try dsimp only at hSw);first|(go_simp;done)|(go_simp;with_reducible rfl))
  ·refine Or.inl ⟨?_,?_⟩
   ·rfl
   ·(intro w hSw;(try dsimp only at hSw);first|(go_simp;done)|(go_simp;with_reducible rfl))
 refine sm ?_;refine vH 13 ?_ ?_;refine vH 14 ?_ ?_;refine vH 15 ?_ ?_;refine wpAnyH_take (i:=16) (v:=if f=true then undef else .pointer (some ⟨w.heap.size+1+1,5,none⟩)) rfl ag ag ag (λ_ _ _ h=>h) ?_ cl ?_
 ·cases f
  ·refine Or.inl ⟨?_,?_⟩
   ·rfl
   ·(intro w hSw;(try dsimp only at hSw);first|(go_simp;done)|(go_simp;with_reducible rfl))
  ·exact Or.inr ⟨rfl,rfl⟩
 refine sm ?_;refine wpAnyH_take (i:=17) (v:=if f=true then undef else .bool h.f) rfl ag ag ag (λ_ _ _ h=>h) ?_ cl ?_
 ·cases f
  ·refine Or.inl ⟨?_,?_⟩
   ·rfl
   ·(intro w hSw;(try dsimp only at hSw);first|(go_simp;done)|(go_simp;with_reducible rfl))
  ·exact Or.inr ⟨rfl,rfl⟩
 refine sm ?_;refine wpAnyH_take (i:=18) (v:=.bool (f||h.f)) rfl ag ag ag (λ_ _ _ h=>h) ?_ cl ?_
 ·cases f
  ·refine Or.inl ⟨?_,?_⟩
   ·rfl
   ·(intro w hSw;(try dsimp only at hSw);first|(go_simp;done)|(go_simp;with_reducible rfl))
  ·refine Or.inl ⟨?_,?_⟩
   ·rfl
   ·(intro w hSw;(try dsimp only at hSw);first|(go_simp;done)|(go_simp;with_reducible rfl))
 refine sm ?_;refine vH 19 ?_ ?_;refine vH 20 ?_ ?_;have L3:=(GsAt.new2 w3 ⟨n,sp,t,f,sl⟩ ss gc h st hc I3 h1 h2 J3 h3 h4).drew;have G4:=G3.alloc (.cells #[.bool n,.bool sp.n,.int .i64 sp.lo,.int .i64 sp.hi,.bool t,.bool f,.slice ss sl.length gc,.bool h.n,.bool h.sp.n,.int .i64 h.sp.lo,.int .i64 h.sp.hi,.bool h.t,.bool h.f,.slice st h.s.length hc] 91);have H4:=H3.alloc (.cells #[.bool n,.bool sp.n,.int .i64 sp.lo,.int .i64 sp.hi,.bool t,.bool f,.slice ss sl.length gc,.bool h.n,.bool h.sp.n,.int .i64 h.sp.lo,.int .i64 h.sp.hi,.bool h.t,.bool h.f,.slice st h.s.length hc] 91);have R4:=R3.alloc (.cells #[.bool n,.bool sp.n,.int .i64 sp.lo,.int .i64 sp.hi,.bool t,.bool f,.slice ss sl.length gc,.bool h.n,.bool h.sp.n,.int .i64 h.sp.lo,.int .i64 h.sp.hi,.bool h.t,.bool h.f,.slice st h.s.length hc] 91);have F4:=F3.alloc (.cells #[.bool n,.bool sp.n,.int .i64 sp.lo,.int .i64 sp.hi,.bool t,.bool f,.slice ss sl.length gc,.bool h.n,.bool h.sp.n,.int .i64 h.sp.lo,.int .i64 h.sp.hi,.bool h.t,.bool h.f,.slice st h.s.length hc] 91);have S4:=S3.alloc (.cells #[.bool n,.bool sp.n,.int .i64 sp.lo,.int .i64 sp.hi,.bool t,.bool f,.slice ss sl.length gc,.bool h.n,.bool h.sp.n,.int .i64 h.sp.lo,.int .i64 h.sp.hi,.bool h.t,.bool h.f,.slice st h.s.length hc] 91);have B4:=(B3.alloc B3.size (.cells #[.bool n,.bool sp.n,.int .i64 sp.lo,.int .i64 sp.hi,.bool t,.bool f,.slice ss sl.length gc,.bool h.n,.bool h.sp.n,.int .i64 h.sp.lo,.int .i64 h.sp.hi,.bool h.t,.bool h.f,.slice st h.s.length hc] 91)).drew;refine wpAnyH_ready (rs:=[21]) ag ah ?_;refine AllReadyH.cons rfl (λK hK=> ?_) AllReadyH.nil;go_simp;refine hK.out _ _ (KS _ G4.drew H4.drew S4.drew) (λhHeld=> ?_);clear hK K;refine sm ?_;refine wpAnyH_ready (rs:=[22]) ag ah ?_;refine AllReadyH.cons rfl (λK hK=> ?_) AllReadyH.nil;go_simp;refine(AN _ [⟨n,sp,t,f,sl⟩,h] 2 _ L3 ah hlen).mono ?_;rintro e w5 ⟨v,rfl,hown,hb5⟩;have G5:=G4.drew.call hb5;have H5:=H4.drew.call hb5;have R5:=R4.drew.call hb5;have F5:=F4.drew.call hb5;have S5:=S4.drew.call hb5;have B5:bl w w5:=B4.trans (hb5.mono B4.size);have z5:w.heap.size+1+1+1 < w3.heap.size:=F3.2;simp only[World.size_drew,World.size_alloc] at hown;have O5:=hown;clear hb5 G4 H4 R4 F4 S4 B4 L3 G3 H3 R3 F3 S3 B3 I3 J3;obtain⟨vs,vc,rfl,-,-,-,hvb⟩:=IntsAt.own hown;refine hK.out _ _ (KS _ G5 H5 S5) (λhHeld=> ?_);clear hK K hown;refine sm ?_;refine vH 23 ?_ ?_;obtain⟨⟨r0,r1,r2,r3,r4,r5,r6⟩,rz⟩:=id R5;simp only[Nat.zero_add,bC] at r0 r1 r2 r3 r4 r5 r6;have fz:=F5.1;refine wpAnyH_ready (rs:=[24]) ag ah ?_;refine AllReadyH.cons rfl (λK hK=> ?_) AllReadyH.nil;go_simp;refine hK.out _ _ (KS _ (G5.put7 aa) (H5.put7 aa) (S5.put7 aa)) (λhHeld=> ?_);clear hK K;refine sm ?_;refine vH 25 ?_ ?_;refine wpAnyH_done ag ?_ _;generalize (if n=true then undef else(.pointer (some ⟨w.heap.size+1+1,0,none⟩):Value))=y0;generalize (if n=true then undef else(.bool h.n:Value))=y1;generalize (if t=true then undef else(.pointer (some ⟨w.heap.size+1+1,4,none⟩):Value))=y2;generalize (if t=true then undef else(.bool h.t:Value))=y3;generalize (if f=true then undef else(.pointer (some ⟨w.heap.size+1+1,5,none⟩):Value))=y4;generalize (if f=true then undef else(.bool h.f:Value))=y5;go_wp2;refine bodyPost_ret (v:=.tuple #[.agg #[.bool (n||h.n),.bool J.n,.int .i64 J.lo,.int .i64 J.hi,.bool (t||h.t),.bool (f||h.f),.slice vs (cA [⟨n,sp,t,f,sl⟩,h]).length vc],.int .i64 0]) (by simp[results,Tryz.results123,go_sem,r0,r1,r2,r3,r4,r5,r6]) rfl ⟨_,rfl,?_,?_⟩
 ·exact eZ (e8 O5 aa) aa
 ·exact bo B5 aa):p:=h
theorem mG {p:Prop}(h:p:=by
 have HW:=ae (λls lc w hL=>rC ls [g,h] lc w ah hL);generalize ([g,h].any aL&& ![g,h].any ap)=wr at HW |-;go_enter Tryz.func164,Tryz.ntmps164;go_wp2_with fail;refine(cc V F s c cap _ [g,h] 2 _ (C0.alloc _) L0 ah).mono ?_;rintro e w1 ⟨rfl,hb1⟩;rw[HK.out];have G1:=(G0.alloc _).call hb1;have H1:=(H0.alloc _).call hb1;have R1:=(R0.alloc _).call hb1;have F1:Fr7 w1 (w.heap.size+1+1+1):=(F0.alloc _).call hb1;have B1:bl w w1:=(B0.alloc B0.size _).trans (hb1.mono an);clear hb1 G0 H0 R0 I0 J0 F0 B0 C0 P0 L0 hcd hs ht HK;obtain⟨⟨g0,g1,g2,g3,g4,g5,g6⟩,gz⟩:=id G1;obtain⟨⟨k0,k1,k2,k3,k4,k5,k6⟩,kz⟩:=id H1;simp only[Nat.zero_add] at g0 g1 g2 g3 g4 g5 g6 k0 k1 k2 k3 k4 k5 k6;go_wp2_with fail;refine(hJ.out _).mono ?_;rintro e w2 ⟨rfl,hb2⟩;have G2:=G1.call hb2;have H2:=H1.call hb2;have R2:=R1.call hb2;have F2:=F1.call hb2;have B2:=B1.trans (hb2.mono B1.size);clear hb2 G1 H1 R1 F1 B1 g0 g1 g2 g3 g4 g5 g6 gz k0 k1 k2 k3 k4 k5 k6 kz hJ;go_wp2;have G3:=G2.alloc (.cells #[.bool J.n,.int .i64 J.lo,.int .i64 J.hi] 89);have H3:=H2.alloc (.cells #[.bool J.n,.int .i64 J.lo,.int .i64 J.hi] 89);have R3:=R2.alloc (.cells #[.bool J.n,.int .i64 J.lo,.int .i64 J.hi] 89);have F3:=F2.alloc (.cells #[.bool J.n,.int .i64 J.lo,.int .i64 J.hi] 89);have B3:=B2.alloc B2.size (.cells #[.bool J.n,.int .i64 J.lo,.int .i64 J.hi] 89);have S3:=SpAt.new w2 J;have zj:w.heap.size+1+1+1 < w2.heap.size:=F2.2;clear G2 H2 R2 F2 B2;generalize w2.alloc (.cells #[.bool J.n,.int .i64 J.lo,.int .i64 J.hi] 89)=w3 at *;generalize w2.heap.size=jb at *;have KS:∀wx,GuAt wx (w.heap.size+1) 0 g ss gc->GuAt wx (w.heap.size+1+1) 0 h st hc->SpAt wx jb J->rL w jb g ss gc h st hc J wx:=λwx a b c=>⟨by simpa using a.1,by simpa using b.1,c.1⟩;refine wp_region_held_drew (S:=rL w jb g ss gc h st hc J) ag (KS _ G3.drew H3.drew S3.drew) (λhHeld=> ?_);unfold rL at hHeld KS |-;refine vH 0 ?_ ?_;refine vH 1 ?_ ?_;refine vH 2 ?_ ?_;refine vH 3 ?_ ?_;have L3:GhAt (oU w3 g ss gc h st hc).drew (some ⟨w3.heap.size,0,none⟩) [g,h]:=(GhAt.new2 w3 g ss gc h st hc).call (Below.refl _ _).drew;have G4:=G3.alloc (.cells #[.bool g.n,.bool g.sp.n,.int .i64 g.sp.lo,.int .i64 g.sp.hi,.bool g.t,.bool g.f,.slice ss g.s.length gc,.bool h.n,.bool h.sp.n,.int .i64 h.sp.lo,.int .i64 h.sp.hi,.bool h.t,.bool h.f,.slice st h.s.length hc] 91);have H4:=H3.alloc (.cells #[.bool g.n,.bool g.sp.n,.int .i64 g.sp.lo,.int .i64 g.sp.hi,.bool g.t,.bool g.f,.slice ss g.s.length gc,.bool h.n,.bool h.sp.n,.int .i64 h.sp.lo,.int .i64 h.sp.hi,.bool h.t,.bool h.f,.slice st h.s.length hc] 91);have R4:=R3.alloc (.cells #[.bool g.n,.bool g.sp.n,.int .i64 g.sp.lo,.int .i64 g.sp.hi,.bool g.t,.bool g.f,.slice ss g.s.length gc,.bool h.n,.bool h.sp.n,.int .i64 h.sp.lo,.int .i64 h.sp.hi,.bool h.t,.bool h.f,.slice st h.s.length hc] 91);have F4:=F3.alloc (.cells #[.bool g.n,.bool g.sp.n,.int .i64 g.sp.lo,.int .i64 g.sp.hi,.bool g.t,.bool g.f,.slice ss g.s.length gc,.bool h.n,.bool h.sp.n,.int .i64 h.sp.lo,.int .i64 h.sp.hi,.bool h.t,.bool h.f,.slice st h.s.length hc] 91);have S4:=S3.alloc (.cells #[.bool g.n,.bool g.sp.n,.int .i64 g.sp.lo,.int .i64 g.sp.hi,.bool g.t,.bool g.f,.slice ss g.s.length gc,.bool h.n,.bool h.sp.n,.int .i64 h.sp.lo,.int .i64 h.sp.hi,.bool h.t,.bool h.f,.slice st h.s.length hc] 91);have B4:=(B3.alloc B3.size (.cells #[.bool g.n,.bool g.sp.n,.int .i64 g.sp.lo,.int .i64 g.sp.hi,.bool g.t,.bool g.f,.slice ss g.s.length gc,.bool h.n,.bool h.sp.n,.int .i64 h.sp.lo,.int .i64 h.sp.hi,.bool h.t,.bool h.f,.slice st h.s.length hc] 91)).drew;refine wpAnyH_ready (rs:=[4]) ag ah ?_;refine AllReadyH.cons rfl (λK hK=> ?_) AllReadyH.nil;go_simp;refine hK.out _ _ (KS _ G4.drew H4.drew S4.drew) (λhHeld=> ?_);clear hK K;refine sm ?_;refine wpAnyH_ready (rs:=[5]) ag ah ?_;refine AllReadyH.cons rfl (λK hK=> ?_) AllReadyH.nil;go_simp;refine(HW.out _ 2 _ L3).mono ?_;rintro e w5 ⟨rfl,hb5⟩;have G5:=G4.drew.call hb5;have H5:=H4.drew.call hb5;have R5:=R4.drew.call hb5;have F5:=F4.drew.call hb5;have S5:=S4.drew.call hb5;have B5:bl w w5:=B4.trans (hb5.mono B4.size);clear hb5 G4 H4 R4 F4 S4 B4 L3 G3 H3 R3 F3 S3 B3;refine hK.out _ _ (KS _ G5 H5 S5) (λhHeld=> ?_);clear hK K;refine sm ?_;obtain⟨⟨r0,r1,r2,r3,r4,r5,r6⟩,rz⟩:=id R5;simp only[Nat.zero_add,bC] at r0 r1 r2 r3 r4 r5 r6;have fz:=F5.1;refine wpAnyH_ready (rs:=[6]) ag ah ?_;refine AllReadyH.cons rfl (λK hK=> ?_) AllReadyH.nil;go_simp;refine hK.out _ _ (KS _ (G5.put7 aa) (H5.put7 aa) (S5.put7 aa)) (λhHeld=> ?_);clear hK K;refine sm ?_;refine vH 7 ?_ ?_;refine vH 8 ?_ ?_;refine wpAnyH_done ag ?_ _;go_wp2;refine bodyPost_ret (v:=.tuple #[gv ⟨false,J,false,false,[]⟩ none 0,.bool wr,.int .i64 0]) pT rfl ⟨rfl,?_⟩;exact bo B5 aa):p:=h
theorem uT (V F:Int)(s:oA)(c:lI)(cap:Nat)(g:Gs)(ss:oA)(gc:Nat)(h:Gs)(st:oA)(hc:Nat)(w:World)
  (hcd:CodeAt w s c)(hs:IntsAt w ss g.s)(h1:g.s.length<=gc)(h2:gc<=maxLen)(ht:IntsAt w st h.s)(h3:h.s.length<=hc)(h4:hc<=maxLen)(hck:aY V F c [g,h]=0)(hlen:([g,h].flatMap Gs.s).length<=1000000):
  Calls pG 123 #[pv V F s c cap,gv g ss gc,gv h st hc,.func (.func 124) #[] #[]] w λe w'=>∃v,e=Rt (Tu #[Ag #[Bb (g.n||h.n),Bb (bi g.sp h.sp).n,.int .i64 (bi g.sp h.sp).lo,.int .i64 (bi g.sp h.sp).hi,Bb (g.t||h.t),Bb (g.f||h.f),v],.int .i64 0])/\w'.ownsRow w.heap.size 3 1 v (cA [g,h]).length ((cA [g,h]).map (.int .i64))/\bl w w':=by
 obtain⟨P0,G0,H0,R0,F0⟩:=dP w V F s c cap g ss gc h st hc;have B0:=cU w V F s c cap g ss gc h st hc;have C0:CodeAt (bN w V F s c cap g ss gc h st hc) s c:=hcd.below B0 (lR _);have I0:IntsAt (bN w V F s c cap g ss gc h st hc) ss g.s:=hs.below B0 (lR _);have J0:IntsAt (bN w V F s c cap g ss gc h st hc) st h.s:=ht.below B0 (lR _);have L0:=GsAt.new2 (bN w V F s c cap g ss gc h st hc) g ss gc h st hc I0 h1 h2 J0 h3 h4;simp only[zA] at L0;have hJ0:=λw=>H8 g.sp h.sp w;rw[dS hck,show∀r,dW 0 r=r from λr=>rfl] at hJ0;have hJ:=ae hJ0;have HK:=ae hck;clear hck hJ0;generalize bi g.sp h.sp=J at hJ |-;go_enter Tryz.func123,Tryz.ntmps123;go_wp2_with fail;refine(cc V F s c cap _ [g,h] 2 _ (C0.alloc _) L0 ah).mono ?_;rintro e w1 ⟨rfl,hb1⟩;rw[HK.out];have G1:=(G0.alloc _).call hb1;have H1:=(H0.alloc _).call hb1;have R1:=(R0.alloc _).call hb1;have I1:=(I0.alloc _).call hb1;have J1:=(J0.alloc _).call hb1;have F1:Fr7 w1 (w.heap.size+1+1+1):=(F0.alloc _).call hb1;have B1:bl w w1:=(B0.alloc B0.size _).trans (hb1.mono an);clear hb1 G0 H0 R0 I0 J0 F0 B0 C0 P0 L0 hcd hs ht HK;obtain⟨⟨g0,g1,g2,g3,g4,g5,g6⟩,gz⟩:=id G1;obtain⟨⟨k0,k1,k2,k3,k4,k5,k6⟩,kz⟩:=id H1;simp only[j2] at g0 g1 g2 g3 g4 g5 g6 k0 k1 k2 k3 k4 k5 k6;go_wp2_with fail;exact tE
theorem uU (V F:Int)(s:oA)(c:lI)(cap:Nat)(g:Gs)(ss:oA)(gc:Nat)(h:Gs)(st:oA)(hc:Nat)(w:World)
  (hcd:CodeAt w s c)(hs:IntsAt w ss g.s)(h1:g.s.length<=gc)(h2:gc<=maxLen)(ht:IntsAt w st h.s)(h3:h.s.length<=hc)(h4:hc<=maxLen)(hck:aY V F c [g,h]=0)(hlen:([g,h].flatMap Gs.s).length<=1000000):
  Calls pG 123 #[pv V F s c cap,gv g ss gc,gv h st hc,.func (.func 125) #[] #[]] w λe w'=>∃v,e=Rt (Tu #[Ag #[Bb (g.n||h.n),Bb (bq g.sp h.sp).n,.int .i64 (bq g.sp h.sp).lo,.int .i64 (bq g.sp h.sp).hi,Bb (g.t||h.t),Bb (g.f||h.f),v],.int .i64 0])/\w'.ownsRow w.heap.size 3 1 v (cA [g,h]).length ((cA [g,h]).map (.int .i64))/\bl w w':=by
 obtain⟨P0,G0,H0,R0,F0⟩:=dP w V F s c cap g ss gc h st hc;have B0:=cU w V F s c cap g ss gc h st hc;have C0:CodeAt (bN w V F s c cap g ss gc h st hc) s c:=hcd.below B0 (lR _);have I0:IntsAt (bN w V F s c cap g ss gc h st hc) ss g.s:=hs.below B0 (lR _);have J0:IntsAt (bN w V F s c cap g ss gc h st hc) st h.s:=ht.below B0 (lR _);have L0:=GsAt.new2 (bN w V F s c cap g ss gc h st hc) g ss gc h st hc I0 h1 h2 J0 h3 h4;simp only[zA] at L0;have hJ0:=λw=>Eg g.sp h.sp w;rw[dS hck,show∀r,dW 0 r=r from λr=>rfl] at hJ0;have hJ:=ae hJ0;have HK:=ae hck;clear hck hJ0;generalize bq g.sp h.sp=J at hJ |-;go_enter Tryz.func123,Tryz.ntmps123;go_wp2_with fail;refine(cc V F s c cap _ [g,h] 2 _ (C0.alloc _) L0 ah).mono ?_;rintro e w1 ⟨rfl,hb1⟩;rw[HK.out];have G1:=(G0.alloc _).call hb1;have H1:=(H0.alloc _).call hb1;have R1:=(R0.alloc _).call hb1;have I1:=(I0.alloc _).call hb1;have J1:=(J0.alloc _).call hb1;have F1:Fr7 w1 (w.heap.size+1+1+1):=(F0.alloc _).call hb1;have B1:bl w w1:=(B0.alloc B0.size _).trans (hb1.mono an);clear hb1 G0 H0 R0 I0 J0 F0 B0 C0 P0 L0 hcd hs ht HK;obtain⟨⟨g0,g1,g2,g3,g4,g5,g6⟩,gz⟩:=id G1;obtain⟨⟨k0,k1,k2,k3,k4,k5,k6⟩,kz⟩:=id H1;simp only[j2] at g0 g1 g2 g3 g4 g5 g6 k0 k1 k2 k3 k4 k5 k6;go_wp2_with fail;exact tE
theorem MT (V F:Int)(s:oA)(c:lI)(cap:Nat)(g:Gs)(ss:oA)(gc:Nat)(h:Gs)(st:oA)(hc:Nat)(w:World)
  (hcd:CodeAt w s c)(hs:IntsAt w ss g.s)(h1:g.s.length<=gc)(h2:gc<=maxLen)(ht:IntsAt w st h.s)(h3:h.s.length<=hc)(h4:hc<=maxLen)(hck:aY V F c [g,h]=0):
  Calls pG 164 #[pv V F s c cap,.int .i64 5,gv g ss gc,gv h st hc] w λe w'=>e=Rt (Tu #[gv ⟨false,cn 5 g.sp h.sp,false,false,[]⟩ nO 0,Bb ([g,h].any aL&& ![g,h].any ap),.int .i64 0])/\bl w w':=by
 obtain⟨P0,G0,H0,R0,F0⟩:=dP w V F s c cap g ss gc h st hc;have B0:=cU w V F s c cap g ss gc h st hc;have C0:CodeAt (bN w V F s c cap g ss gc h st hc) s c:=hcd.below B0 (lR _);have I0:IntsAt (bN w V F s c cap g ss gc h st hc) ss g.s:=hs.below B0 (lR _);have J0:IntsAt (bN w V F s c cap g ss gc h st hc) st h.s:=ht.below B0 (lR _);have L0:=GsAt.new2 (bN w V F s c cap g ss gc h st hc) g ss gc h st hc I0 h1 h2 J0 h3 h4;simp only[zA] at L0;have hJ0:=λw=>AV 5 g.sp h.sp w;rw[show fM 5 g.sp h.sp=0 by unfold fM;rw[if_pos (dS hck),if_pos aj],show∀r,dW 0 r=r from λr=>rfl] at hJ0;have hJ:=ae hJ0;have HK:=ae hck;clear hck hJ0;generalize cn 5 g.sp h.sp=J at hJ |-;exact mG
theorem MX (V F:Int)(s:oA)(c:lI)(cap:Nat)(g:Gs)(ss:oA)(gc:Nat)(h:Gs)(st:oA)(hc:Nat)(w:World)
  (hcd:CodeAt w s c)(hs:IntsAt w ss g.s)(h1:g.s.length<=gc)(h2:gc<=maxLen)(ht:IntsAt w st h.s)(h3:h.s.length<=hc)(h4:hc<=maxLen)(hck:aY V F c [g,h]=0):
  Calls pG 164 #[pv V F s c cap,.int .i64 6,gv g ss gc,gv h st hc] w λe w'=>e=Rt (Tu #[gv ⟨false,cn 6 g.sp h.sp,false,false,[]⟩ nO 0,Bb ([g,h].any aL&& ![g,h].any ap),.int .i64 0])/\bl w w':=by
 obtain⟨P0,G0,H0,R0,F0⟩:=dP w V F s c cap g ss gc h st hc;have B0:=cU w V F s c cap g ss gc h st hc;have C0:CodeAt (bN w V F s c cap g ss gc h st hc) s c:=hcd.below B0 (lR _);have I0:IntsAt (bN w V F s c cap g ss gc h st hc) ss g.s:=hs.below B0 (lR _);have J0:IntsAt (bN w V F s c cap g ss gc h st hc) st h.s:=ht.below B0 (lR _);have L0:=GsAt.new2 (bN w V F s c cap g ss gc h st hc) g ss gc h st hc I0 h1 h2 J0 h3 h4;simp only[zA] at L0;have hJ0:=λw=>AV 6 g.sp h.sp w;rw[show fM 6 g.sp h.sp=0 by unfold fM;rw[if_pos (dS hck),if_pos aj],show∀r,dW 0 r=r from λr=>rfl] at hJ0;have hJ:=ae hJ0;have HK:=ae hck;clear hck hJ0;generalize cn 6 g.sp h.sp=J at hJ |-;exact mG
theorem MU (V F:Int)(s:oA)(c:lI)(cap:Nat)(g:Gs)(ss:oA)(gc:Nat)(h:Gs)(st:oA)(hc:Nat)(w:World)
  (hcd:CodeAt w s c)(hs:IntsAt w ss g.s)(h1:g.s.length<=gc)(h2:gc<=maxLen)(ht:IntsAt w st h.s)(h3:h.s.length<=hc)(h4:hc<=maxLen)(hck:aY V F c [g,h]=0):
  Calls pG 164 #[pv V F s c cap,.int .i64 7,gv g ss gc,gv h st hc] w λe w'=>e=Rt (Tu #[gv ⟨false,cn 7 g.sp h.sp,false,false,[]⟩ nO 0,Bb ([g,h].any aL&& ![g,h].any ap),.int .i64 0])/\bl w w':=by
 obtain⟨P0,G0,H0,R0,F0⟩:=dP w V F s c cap g ss gc h st hc;have B0:=cU w V F s c cap g ss gc h st hc;have C0:CodeAt (bN w V F s c cap g ss gc h st hc) s c:=hcd.below B0 (lR _);have I0:IntsAt (bN w V F s c cap g ss gc h st hc) ss g.s:=hs.below B0 (lR _);have J0:IntsAt (bN w V F s c cap g ss gc h st hc) st h.s:=ht.below B0 (lR _);have L0:=GsAt.new2 (bN w V F s c cap g ss gc h st hc) g ss gc h st hc I0 h1 h2 J0 h3 h4;simp only[zA] at L0;have hJ0:=λw=>AV 7 g.sp h.sp w;rw[show fM 7 g.sp h.sp=0 by unfold fM;rw[if_pos (dS hck),if_pos aj],show∀r,dW 0 r=r from λr=>rfl] at hJ0;have hJ:=ae hJ0;have HK:=ae hck;clear hck hJ0;generalize cn 7 g.sp h.sp=J at hJ |-;exact mG
theorem rU (s a b:ByteArray)(w:World)(hm:Cap w)(hs:s.size < 4294967281)(hc:Lib.cut s.data.toList [10]=(a.data.toList,b.data.toList,true)):
  Calls pG 173 #[.string s,.string ⟨#[10]⟩] w λe w'=>e=Rt (Tu #[.string a,.string b,Bb true])/\bl w w':=by
 obtain⟨m,hm⟩:=hm;refine(Tryz.strings_Cut s ⟨#[10]⟩ m w hs hm).mono ?_;rintro e w' ⟨rfl,n,rfl⟩;have hc':Lib.cut s.data.toList (⟨#[10]⟩:ByteArray).data.toList=(a.data.toList,b.data.toList,true):=hc;rw[hc'];exact⟨rfl,below_drewN (bR _ _) n⟩

def eT (i:Ins):List Value:=[.int .i64 i.k,.int .i64 i.tgt,.int .i64 i.a,.int .i64 i.b,.int .i64 i.n,.int .i64 i.g]
def gW (c:lI):List Value:=c.flatMap eT

theorem Ko (c:lI):∀k (h:k < c.length) j,j < 6->(gW c)[k * 6+j]? =(eT c[k])[j]? :=by
 induction c with
 |nil=>intro k h;simp at h
 |cons x r ih=>
  intro k h j hj;have hl:(eT x).length=6:=rfl;simp only[gW,List.flatMap_cons]
  match k,h with
  |0,_=>simp only[Nat.zero_mul,j2];rw[List.getElem?_append_left (by rw[hl];exact hj)];rfl
  |k+1,h=>
   rw[List.getElem?_append_right (by rw[hl];omega),hl,show (k+1) * 6+j - 6=k * 6+j by omega];exact ih k cj j hj

theorem wL (w:World)(xs:List Value)(t:TypeId):∀j u,xs[j]? =sO u->(w.alloc (Cc xs.toArray t)).cell? ((⟨w.heap.size,0,nO⟩:Addr).add j)=sO u:=by
 intro j u hj;have e:((⟨w.heap.size,0,nO⟩:Addr).add j)=⟨w.heap.size,j,nO⟩:=by
  cases j with
  |zero=>rfl
  |succ j=>simp[Addr.add]
 rw[e];simp[go_sem,hj]

theorem it {w:World}{B:Nat}{v:Value}{c:lI}(h:w.ownsRow B 100 6 v c.length (gW c)):∃s cap,v=U s c.length cap/\CodeAt w s c:=by
 cases c with
 |nil=>
  rcases h.2 with⟨rfl,_⟩|⟨g,cap,cur,rfl,_⟩
  ·exact⟨_,_,rfl,.inl rfl⟩
  ·exact⟨_,_,rfl,.inl rfl⟩
 |cons x r=>
  obtain⟨g,cap,rfl,hb,hlt⟩:=h.form ah;refine⟨_,_,rfl,.inr ⟨g,0,rfl,hlt,λk hk=> ?_⟩⟩;have hf:∀j,j < 6->w.cell? ⟨g,0+k * 6+j,nO⟩=(eT (x::r)[k])[j]? :=λj hj=>by
   rw[h.cellAt _ aa,show 0+k * 6+j=k * 6+j by omega];exact Ko _ k hk j hj
  exact⟨hf 0 aa,hf 1 aa,hf 2 aa,hf 3 aa,hf 4 aa,hf 5 aa⟩

theorem nF {w:World}{B B':Nat}{e:TypeId}{z:Nat}{v:Value}{n:Nat}{xs:List Value}(h:w.ownsRow B e z v n xs)(hb:B'<=B):w.ownsRow B' e z v n xs:=by
 obtain⟨h1,h2⟩:=h;refine⟨h1,?_⟩;rcases h2 with h2|⟨g,cap,cur,hv,hB,r⟩
 ·exact .inl h2
 ·exact .inr ⟨g,cap,cur,hv,lT hb hB,r⟩

theorem ShpAt.of_blocks {N:Nat}{l:List Shp}{w w':World}(h:ShpAt N l w)(hb:∀k,N<=k->k < w.heap.size->w'.heap[k]? =w.heap[k]?):ShpAt N l w':=by
 have hl:∀{k o},w.heap[k]? =sO o->k < w.heap.size:=λhk=>(j3.1 hk).1;exact⟨by rw[hb N (lR _) (hl h.map)];exact h.map,λj hj hne=>by rw[hb _ (by omega) (hl (h.parts j hj hne))];exact h.parts j hj hne⟩

def PrgAt (w:World)(B:Nat)(V F:Int)(v:Value):Prop:=
 w.cell? ⟨B,0,nO⟩=sO (.int .i64 V)/\w.cell? ⟨B,1,nO⟩=sO (.int .i64 F)/\w.cell? ⟨B,2,nO⟩=sO v/\∀j,w.frozen? ⟨B,j,nO⟩=false

theorem PrgAt.block {w w':World}{B:Nat}{V F:Int}{v:Value}(h:PrgAt w B V F v)(hb:w'.heap[B]? =w.heap[B]?):PrgAt w' B V F v:=by
 have hc:∀j,w'.cell? ⟨B,j,nO⟩=w.cell? ⟨B,j,nO⟩:=λj=>q5 (a:=⟨B,j,nO⟩) hb;have hf:∀j,w'.frozen? ⟨B,j,nO⟩=w.frozen? ⟨B,j,nO⟩:=λj=>World.frozen?_of_block (a:=⟨B,j,nO⟩) hb;obtain⟨h0,h1,h2,h3⟩:=h;exact⟨by rw[hc];exact h0,by rw[hc];exact h1,by rw[hc];exact h2,λj=>by rw[hf];exact h3 j⟩

theorem PrgAt.set {w:World}{B:Nat}{V F:Int}{v:Value}(h:PrgAt w B V F v)(u:Value):PrgAt (w.setCell ⟨B,2,nO⟩ u) B V F u:=by
 obtain⟨h0,h1,h2,h3⟩:=h;refine⟨?_,?_,?_,λj=> ?_⟩<;>simp[go_sem,h0,h1,h2,h3]

theorem AL:(Tryz.prog.info? 100).map (λi=>(i.zero,i.size,i.bytes))=sO (sO (Ag #[.int .i64 0,.int .i64 0,.int .i64 0,.int .i64 0,.int .i64 0,.int .i64 0]),6,48):=ag

theorem Ig (V F:Int)(c:lI)(s:ByteArray)(w:World)(hs:s.size<=4000)(h0:aw V F c=0)
  (hp:∀w',bl w w'->Calls pG 117 #[.string s] w' λe w''=>∃v,e=Rt (Tu #[Ag #[.int .i64 V,.int .i64 F,v],.int .i64 0])/\w''.ownsRow w'.heap.size 100 6 v c.length (gW c)/\bl w' w''):
  Calls pG 60 #[.string s] w λe w'=>∃v,e=Rt (Tu #[Ag #[.int .i64 V,.int .i64 F,v],.int .i64 0,.int .i64 0])/\w'.ownsRow w.heap.size 100 6 v c.length (gW c)/\bl w w':=by
 have n0:¬(4000:Int) < (s.size:Int):=aa;go_enter Tryz.func60,Tryz.ntmps60;have hb0:Below w.heap.size w (w.alloc (Cc #[.int .i64 0,.int .i64 0,U nO 0 0] 24)):=ai;have hP:=hp _ hb0;clear hp;go_wp2_with fail;refine hP.mono ?_;rintro e w1 ⟨v,rfl,hown,hb1⟩;obtain⟨sl,cap,rfl,hc⟩:=it hown;have HB1:bl w w1:=hb0.trans (hb1.mono ah);have hb2:Below w1.heap.size w1 (w1.alloc (Cc #[.int .i64 V,.int .i64 F,U sl c.length cap] 24)):=ai;have hC2:=d7 V F sl cap c _ (hc.below hb2 (lR _));rw[h0] at hC2;have rb:w1.heap[w.heap.size]? =sO (Cc #[.int .i64 0,.int .i64 0,U nO 0 0] 24 (0,0)):=by
  rw[hb1.block _ ah];exact(MapKept.heap_alloc _ _).1
 have z1:w.heap.size < w1.heap.size:=(j3.1 rb).1;go_wp2_with fail;refine hC2.mono ?_;rintro e w2 ⟨rfl,hb3⟩;have HB2:bl w w2:=(HB1.trans (hb2.mono HB1.size)).trans (hb3.mono an);have z2:w1.heap.size < w2.heap.size:=vR;have z3:w.heap.size < w2.heap.size:=aa;have pb:w2.heap[w1.heap.size]? =sO (Cc #[.int .i64 V,.int .i64 F,U sl c.length cap] 24 (0,0)):=by
  rw[hb3.block _ ah];exact(MapKept.heap_alloc _ _).1
 have rb2:w2.heap[w.heap.size]? =sO (Cc #[.int .i64 0,.int .i64 0,U nO 0 0] 24 (0,0)):=by
  rw[hb3.block _ an,Below.heap_alloc _ _ _ aa];exact rb
 have pc:∀j,w2.cell? ⟨w1.heap.size,j,nO⟩=(#[.int .i64 V,.int .i64 F,U sl c.length cap]:Array Value)[j]? :=λj=>by simp[z7,pb]
 have rc:∀j,w2.cell? ⟨w.heap.size,j,nO⟩=(#[.int .i64 0,.int .i64 0,U nO 0 0]:Array Value)[j]? :=λj=>by simp[z7,rb2]
 have rf:∀j,w2.frozen? ⟨w.heap.size,j,nO⟩=false:=λj=>by simp[z8,rb2]
 have p0:w2.cell? ⟨w1.heap.size,0,nO⟩=sO (.int .i64 V):=pc 0;have p1:w2.cell? ⟨w1.heap.size,1,nO⟩=sO (.int .i64 F):=pc 1;have p3:w2.cell? ⟨w1.heap.size,2,nO⟩=sO (U sl c.length cap):=pc 2;have r0:w2.cell? ⟨w.heap.size,0,nO⟩=sO (.int .i64 0):=rc 0;have r1:w2.cell? ⟨w.heap.size,1,nO⟩=sO (.int .i64 0):=rc 1;have r3:w2.cell? ⟨w.heap.size,2,nO⟩=sO (U nO 0 0):=rc 2;have hown2:w2.ownsRow (w.heap.size+1) 100 6 (U sl c.length cap) c.length (gW c):=by
  have h1:=ci (w':=w2) hown (λj hj=>by
   have hl:=(gU hown hj).1;rw[hb3.block _ an,Below.heap_alloc _ _ _ hl])
  simpa using h1
 clear pb rb rb2 pc rc hP hC2;go_wp2;refine bodyPost_ret (v:=Tu #[Ag #[.int .i64 V,.int .i64 F,U sl c.length cap],.int .i64 0,.int .i64 0]) (by simp[results,Tryz.results60,go_sem,r0,r1,r3]) rfl ⟨U sl c.length cap,rfl,?_,?_⟩
 ·have hz:=Nat.lt_succ_self w.heap.size
  exact nF (ownsRow_setCell_below (a:=⟨w.heap.size,2,nO⟩) (ownsRow_setCell_below (a:=⟨w.heap.size,1,nO⟩) (ownsRow_setCell_below (a:=⟨w.heap.size,0,nO⟩) hown2 hz (.int .i64 V)) hz (.int .i64 F)) hz (U sl c.length cap)) (Nat.le_of_lt hz)
 ·exact((HB2.setCell (lR _) _).setCell (lR _) _).setCell (lR _) _
def fZ:Ins:=⟨0,0,0,0,0,0⟩
def vd (i:Ins):Value:=Ag #[.int .i64 i.k,.int .i64 i.tgt,.int .i64 i.a,.int .i64 i.b,.int .i64 i.n,.int .i64 i.g]
def iQ:Option Ins->Value
 |some i=>Tu #[vd i,Bb true]
 |none=>Tu #[vd fZ,Bb false]

def goI (qs:List Nat)(xs:List (List UInt8))(i:Ins):Option Ins:=match oN xs with
 |none=>nO
 |some t=>sO (AF qs t i)
theorem LY (i:Ins):goI [] [] i=sO i:=rfl
theorem Km (q:Nat)(qs:List Nat)(x:List UInt8)(xs:List (List UInt8))(i:Ins):goI (q::qs) (x::xs) i=match di x with
  |none=>nO
  |some v=>goI qs xs (lC q v i):=by
 unfold goI;rw[oN];cases di x with
 |none=>rfl
 |some v=>
  cases oN xs with
  |none=>rfl
  |some t=>rfl

def XAtO (w:World)(X:Nat)(i:Ins):Prop:=
 (w.cell? ⟨X,0,nO⟩=sO (.int .i64 i.k)/\w.cell? ⟨X,1,nO⟩=sO (.int .i64 i.tgt)/\w.cell? ⟨X,2,nO⟩=sO (.int .i64 i.a)/\w.cell? ⟨X,3,nO⟩=sO (.int .i64 i.b)/\w.cell? ⟨X,4,nO⟩=sO (.int .i64 i.n)/\w.cell? ⟨X,5,nO⟩=sO (.int .i64 i.g))/\(∀j,w.frozen? ⟨X,j,nO⟩=false)/\X < w.heap.size
theorem XAtO.call {w w':World}{X:Nat}{i:Ins}(h:XAtO w X i)(hb:bl w w'):XAtO w' X i:=by
 obtain⟨⟨h0,h1,h2,h3,h4,h5⟩,hf,hz⟩:=h;exact⟨⟨by rw[hb.cell hz];exact h0,by rw[hb.cell hz];exact h1,by rw[hb.cell hz];exact h2,by rw[hb.cell hz];exact h3,by rw[hb.cell hz];exact h4,by rw[hb.cell hz];exact h5⟩,λj=>by rw[hb.frozen hz];exact hf j,lL hz hb.size⟩
theorem XAtO.at {w:World}{X q:Nat}{i:Ins}(h:XAtO w X i):∃z,w.cell? ⟨X,iE q,nO⟩=sO (.int .i64 z):=by
 obtain⟨⟨h0,h1,h2,h3,h4,h5⟩,hf,hz⟩:=h
 match q with
 |0=>exact⟨_,h1⟩
 |1=>exact⟨_,h2⟩
 |2=>exact⟨_,h3⟩
 |3=>exact⟨_,h5⟩
 |q+4=>exact⟨_,h4⟩
theorem XAtO.put {w:World}{X q:Nat}{i:Ins}(v:Int)(h:XAtO w X i):XAtO (w.setCell ⟨X,iE q,nO⟩ (.int .i64 v)) X (lC q v i):=by
 obtain⟨⟨h0,h1,h2,h3,h4,h5⟩,hf,hz⟩:=h
 match q with
 |0=>exact⟨⟨lP,mi,lS,l9,mr,lW⟩,λj=>ma,d9⟩
 |1=>exact⟨⟨lP,mi,lS,l9,mr,lW⟩,λj=>ma,d9⟩
 |2=>exact⟨⟨lP,mi,lS,l9,mr,lW⟩,λj=>ma,d9⟩
 |3=>exact⟨⟨lP,mi,lS,l9,mr,lW⟩,λj=>ma,d9⟩
 |q+4=>exact⟨⟨lP,mi,lS,l9,mr,lW⟩,λj=>ma,d9⟩

theorem wS (l:ByteArray)(w:World)(hm:Cap w)(hl:l.size<=4000):∃x ns,((x::ns).map λb:ByteArray=>b.data.toList)=cO 32 l.data.toList/\ns.length<=4000/\
  Calls pG 211 #[.string l,.string ⟨#[32]⟩] w λe w'=>e=Rt (U (sO ⟨w.heap.size,0,nO⟩) (ns.length+1) (ns.length+1))/\(∀j (hj:j < (x::ns).length),w'.cell? ⟨w.heap.size,j,nO⟩=sO (.string (x::ns)[j]))/\w.heap.size < w'.heap.size/\bl w w':=by
 have hlen:=Lib.splitB_all ⟨#[32]⟩ aj 0 _ l rfl;have hle:=Lib.countB_le ⟨#[32]⟩ aj l.size l (lR _);have hdat:=Lib.splitB_data ⟨#[32]⟩ 0 (Lib.countB l ⟨#[32]⟩) l;have hcnt:Lib.countB l ⟨#[32]⟩=Lib.count l.data.toList [32]:=by first|rfl|exact Lib.countB_eq _ _|simp[Lib.countB]
 have hk:=uy 32 l.data.toList;rw[<-hcnt] at hk;have hd2:(Lib.splitB ⟨#[32]⟩ 0 (Lib.countB l ⟨#[32]⟩) l).map (λb:ByteArray=>b.data.toList)=cO 32 l.data.toList:=hdat.trans hk;cases hx:Lib.splitB ⟨#[32]⟩ 0 (Lib.countB l ⟨#[32]⟩) l with
 |nil=>rw[hx] at hlen;simp at hlen
 |cons x ns=>
  rw[hx] at hd2 hlen;simp only[j4] at hlen;refine⟨x,ns,hd2,aa,?_⟩;refine(BO l (x::ns) w hm aa (by rw[j4];omega) hx).mono ?_;rintro e w' ⟨rfl,rfl⟩;refine⟨rfl,λj hj=> ?_,ah,ai⟩;have:=wL w ((x::ns).map Value.string) 9 j (.string (x::ns)[j]) (by rw[J9,q4 hj];rfl);cases j with
  |zero=>exact this
  |succ j=>simp[Addr.add]

theorem Cf {l:List UInt8}{x:ByteArray}{ns:List ByteArray}(h:((x::ns).map λb:ByteArray=>b.data.toList)=cO 32 l):gE l=match fB x.data.toList ns.length with
  |none=>nO
  |some k=>goI (prt k) (ns.map λb:ByteArray=>b.data.toList) ⟨k,0,0,0,0,0⟩:=by
 unfold gE goI;rw[<-h];simp only[J6,Q5];cases fB x.data.toList ns.length with
 |none=>rfl
 |some k=>rfl

theorem l8 (N:Nat)(l:ByteArray)(w:World)(hl:l.size<=4000)(hs:ShpAt N shps w)(ht:Tab w)(hm:Cap w)(hE:ErrS w):
  Calls pG 175 #[.map (sO N),.string l] w λe w'=>e=Rt (iQ (gE l.data.toList))/\bl w w':=by
 have hb1:Below w.heap.size w (w.alloc (Cc #[.int .i64 0,.int .i64 0,.int .i64 0,.int .i64 0,.int .i64 0,.int .i64 0] 100)):=ai;obtain⟨x,ns,hdat,hnl,hsp⟩:=wS l (w.alloc (Cc #[.int .i64 0,.int .i64 0,.int .i64 0,.int .i64 0,.int .i64 0,.int .i64 0] 100)) (hm.below hb1) hl;have hans:=Cf hdat;generalize gE l.data.toList=ans at hans;have Hans:=pk hans;clear hdat hl hans;simp only[zA] at hsp;go_enter Tryz.func175,Tryz.ntmps175;go_wp2_with fail;refine hsp.mono ?_;rintro e w0 ⟨rfl,hcells,hz0,hb0⟩;clear hsp;have H0:bl w w0:=hb1.trans (hb0.mono ah);have R0:XAtO w0 w.heap.size fZ:=by
  refine XAtO.call (w:=w.alloc (Cc #[.int .i64 0,.int .i64 0,.int .i64 0,.int .i64 0,.int .i64 0,.int .i64 0] 100)) ⟨⟨?_,?_,?_,?_,?_,?_⟩,λj=> ?_,?_⟩ (by simpa using hb0)<;>simp[go_sem,fZ]
 have c0:=hcells 0 ah;have zr:w.heap.size < w0.heap.size:=aa;have hb2:Below w0.heap.size w0 (w0.alloc (Cc #[U (sO ⟨w.heap.size+1,0,nO⟩) (ns.length+1) (ns.length+1)] 31)):=ai;have hfi:=Id x N w0.heap.size (w.heap.size+1) (ns.length+1) (ns.length+1) (w0.alloc (Cc #[U (sO ⟨w.heap.size+1,0,nO⟩) (ns.length+1) (ns.length+1)] 31)) aa ((hs.below H0 (lR _)).below hb2 (lR _)) aa ah an aV (by rw[hb2.cell (by simpa using hz0)];exact c0);rw[Nat.add_sub_cancel] at hfi;go_wp2_with fail;refine hfi.mono ?_;rintro e w1 ⟨he,hw1⟩;clear hfi;have H1:bl w0 w1:=hb2.trans (hw1.mono ah);have HW1:bl w w1:=H0.trans (H1.mono H0.size);have R1:XAtO w1 w.heap.size fZ:=R0.call H1;have av:w1.cell? ⟨w0.heap.size,0,nO⟩=sO (U (sO ⟨w.heap.size+1,0,nO⟩) (ns.length+1) (ns.length+1)):=by rw[hw1.cell (by simp)];simp[go_sem]
 have zv:w0.heap.size < w1.heap.size:=by have:=hw1.size;simp at this;omega
 have hcw:∀j,j < ns.length->∃y:ByteArray,(ns.map λb:ByteArray=>b.data.toList).drop j=y.data.toList::(ns.map λb:ByteArray=>b.data.toList).drop (j+1)/\w1.cell? ⟨w.heap.size+1,j+1,nO⟩=sO (.string y):=λj hj=>by
  refine⟨ns[j],?_,?_⟩
  ·rw[q7 (by simpa using hj),List.getElem_map]
  ·rw[H1.cell hz0];exact hcells (j+1) an
 clear hcells c0 hb2 hw1 R0 hb0;have zw:w.heap.size+1 < w1.heap.size:=aa;generalize w0.heap.size=P at *;generalize hk:fB x.data.toList ns.length=ko at *;cases ko with
 |none=>
  obtain rfl:ans=none:=Hans.out;clear Hans;simp only[Ex] at he;subst he;clear hcw av hk;obtain⟨⟨r0,r1,r2,r3,r4,r5⟩,rf,rz⟩:=R1;simp only[fZ] at r0 r1 r2 r3 r4 r5;go_wp2;refine bodyPost_ret (v:=iQ nO) CC rfl ⟨rfl,?_⟩;exact((((((HW1.setCell (lR _) _).setCell (lR _) _).setCell (lR _) _).setCell (lR _) _).setCell (lR _) _).setCell (lR _) _)
 |some K=>
  obtain⟨⟨hK1,hK19⟩,-,hnp⟩:=Fz hk;simp only[Ex] at he;subst he;clear hk;have hS1:=hs.below HW1 (lR _);have hbx:Below w1.heap.size w1 (w1.alloc (Cc #[.int .i64 K,.int .i64 0,.int .i64 0,.int .i64 0,.int .i64 0,.int .i64 0] 100)):=ai;obtain⟨sa,hlk,hpart⟩:=uA (hS1.below hbx (lR _)) K hK1 hK19;have hpart1:∀j,j < (prt K).length->∃q:Nat,(prt K).drop j=q::(prt K).drop (j+1)/\sa=sO ⟨N+K,0,nO⟩/\w1.cell? ⟨N+K,j,nO⟩=sO (.int .i64 q)/\N+K < w1.heap.size:=by
   intro j hj;obtain⟨sa',hlk',hp'⟩:=uA hS1 K hK1 hK19;obtain⟨h1,-,-⟩:=hpart j hj;obtain⟨-,h2,h3⟩:=hp' j hj;exact⟨(prt K)[j],q7 hj,h1,h2,h3⟩
  have X1:XAtO (w1.alloc (Cc #[.int .i64 K,.int .i64 0,.int .i64 0,.int .i64 0,.int .i64 0,.int .i64 0] 100)) w1.heap.size ⟨K,0,0,0,0,0⟩:=by
   refine⟨⟨?_,?_,?_,?_,?_,?_⟩,λj=> ?_,?_⟩<;>simp[go_sem]
  generalize aQ K=wk at *;have Hgo:Hid (goI (prt K) (ns.map λb:ByteArray=>b.data.toList) ⟨K,0,0,0,0,0⟩=ans):=Hans.out.symm;clear Hans hpart hS1 hs;rw[hnp] at hlk hpart1;have hfld:∀wx:World,(Instr.field 228 (Ag #[.string wk,U sa ns.length ns.length]) 1).run pG wx=.ok (U sa ns.length ns.length) wx:=λ_=>ag;go_wp2;go_loopw [32] (λi wr=>∃(j:Nat) (I:Ins),j<=ns.length/\i=.int .i64 j/\Hid (goI ((prt K).drop j) ((ns.map λb:ByteArray=>b.data.toList).drop j) I=ans)/\XAtO wr w1.heap.size I/\bl w1 wr) (λi _=>ns.length - (intOf i).toNat)
  case atStart=>exact⟨0,_,j0 _,rfl,Hgo,X1,hbx⟩
  case round=>
   obtain⟨j,I,hj,rfl,HG,XR,hbr⟩:=hrel;clear X1 hbx Hgo hlk hfld;have HR:bl w wr:=HW1.trans (hbr.mono HW1.size);have RR:XAtO wr w.heap.size fZ:=R1.call hbr;clear R1;by_cases hlt:j < ns.length
   ·have n0:(0:Int)<=(j:Int):=by omega
    have n1:(j:Int) < (ns.length:Int):=aa;have n2:(0:Int)<=(j:Int)+1:=aa;have n3:(j:Int)+1 < ((ns.length+1:Nat):Int):=aa;have n4:((j:Int)+1).toNat=j+1:=aa;obtain⟨q,hdq,rfl,hq,hqz⟩:=hpart1 j aa;obtain⟨y,hdy,hy⟩:=hcw j aa;have q0:wr.cell? ⟨N+K,j,nO⟩=sO (.int .i64 q):=by rw[hbr.cell hqz];exact hq
    have w0c:wr.cell? ⟨P,0,nO⟩=sO (U (sO ⟨w.heap.size+1,0,nO⟩) (ns.length+1) (ns.length+1)):=by rw[hbr.cell zv];exact av
    have w1c:wr.cell? ⟨w.heap.size+1,j+1,nO⟩=sO (.string y):=by rw[hbr.cell zw];exact hy
    have HG2:=HG.out;rw[hdq,hdy,Km] at HG2;clear HG hq hcw hpart1 av hdq hdy hy;go_wp2_with fail;refine(il y wr (ht.below HR) (hE.below HR)).mono ?_;rintro e w5 ⟨v,rfl,hv,hb5⟩;have XR5:=XR.call hb5;have RR5:=RR.call hb5;have B5:=hbr.trans (hb5.mono hbr.size);have HR5:=HR.trans (hb5.mono HR.size);clear q0 w0c w1c XR RR hb5 hbr HR;cases hn:di y.data.toList with
    |none=>
     rw[hn] at HG2;simp only at HG2;subst HG2;clear hv hn XR5;simp only[Q7];obtain⟨⟨r0,r1,r2,r3,r4,r5⟩,rf,rz⟩:=RR5;simp only[fZ] at r0 r1 r2 r3 r4 r5;go_wp2;refine bodyPost_ret (v:=iQ nO) CC rfl ⟨rfl,?_⟩;exact((((((HR5.setCell (lR _) _).setCell (lR _) _).setCell (lR _) _).setCell (lR _) _).setCell (lR _) _).setCell (lR _) _)
    |some n=>
     rw[hn] at HG2;simp only at HG2;obtain rfl:=hv n hn;have HG3:=pk HG2;clear HG2 hn hv RR5 HR5;simp only[Q7];obtain⟨z,hz⟩:=XR5.at (q:=q);have hfz:=XR5.2.1;have hzz:=XR5.2.2;have XP:=XR5.put (q:=q) v;clear XR5;go_wp2_with fail;refine(IV _ q _).mono ?_;rintro e w6 ⟨rfl,hw6⟩;have hw7:=hw6.symm;subst hw7;clear hw6;have B6:bl w1 (Q6 _ (⟨w1.heap.size,iE q,nO⟩:Addr) (.int .i64 v)):=B5.setCell (lR _) _;generalize iE q=pp at *;go_wp2;go_roundw
     case rel=>exact⟨j+1,lC q v I,aa,aJ,HG3,XP,B6⟩
     case measure=>simp[intOf];omega
   ·have hj':j=ns.length:=by omega
    subst hj';have HG2:=HG.out;rw[j8 aa,j8 ah,LY] at HG2;subst HG2;clear HG hpart1 hcw av;obtain⟨⟨r0,r1,r2,r3,r4,r5⟩,rf,rz⟩:=RR;obtain⟨⟨x0,x1,x2,x3,x4,x5⟩,xf,xz⟩:=XR;simp only[fZ] at r0 r1 r2 r3 r4 r5;go_wp2;refine bodyPost_ret (v:=iQ (sO I)) (by simp[results,Tryz.results175,go_sem,iQ,vd,r0,r1,r2,r3,r4,r5]) rfl ⟨rfl,?_⟩;exact((((((HR.setCell (lR _) _).setCell (lR _) _).setCell (lR _) _).setCell (lR _) _).setCell (lR _) _).setCell (lR _) _)
theorem Ct {l:List UInt8}{x:ByteArray}{ns:List ByteArray}(h:((x::ns).map λb:ByteArray=>b.data.toList)=cO 32 l)(hn:ns.length≠3):eX l=none:=by
 unfold eX;rw[<-h]
 match ns,hn with
 |[],_=>rfl
 |[_],_=>rfl
 |[_,_],_=>rfl
 |[_,_,_],h=>exact absurd rfl h
 |_::_::_::_::_,_=>rfl
theorem Bv {l:List UInt8}{x a b c:ByteArray}(h:(([x,a,b,c]).map λb:ByteArray=>b.data.toList)=cO 32 l):eX l=if x.data.toList=uk/\b.data.toList=pm then(match di a.data.toList with
  |none=>nO
  |some v=>match di c.data.toList with
   |none=>nO
   |some f=>sO (v,f)) else none:=by
 unfold eX;rw[<-h];rfl
theorem rX {a:ByteArray}{l:List UInt8}(h:a.data.toList=l):a=⟨l.toArray⟩:=by
 apply ByteArray.ext;apply j7.1;rw[h]

def ZAt (w:World)(b:Nat):Prop:=w.cell? ⟨b,0,nO⟩=sO (.int .i64 0)/\w.cell? ⟨b,1,nO⟩=sO (.int .i64 0)/\w.cell? ⟨b,2,nO⟩=sO (U nO 0 0)/\(∀j,w.frozen? ⟨b,j,nO⟩=false)/\b < w.heap.size
theorem ZAt.new (w:World):ZAt (w.alloc (Cc #[.int .i64 0,.int .i64 0,U nO 0 0] 24)) w.heap.size:=by
 refine⟨?_,?_,?_,λj=> ?_,?_⟩<;>simp[go_sem]
theorem ZAt.call {w w':World}{b:Nat}(h:ZAt w b)(hb:bl w w'):ZAt w' b:=by
 obtain⟨h0,h1,h2,h3,hz⟩:=h;exact⟨by rw[hb.cell hz];exact h0,by rw[hb.cell hz];exact h1,by rw[hb.cell hz];exact h2,λj=>by rw[hb.frozen hz];exact h3 j,lL hz hb.size⟩

theorem m9 {p:Prop}(h:p:=by
 go_wp2;refine bodyPost_ret (v:=.tuple #[.agg #[.int .i64 0,.int .i64 0,.slice none 0 0],.bool false]) vo rfl ⟨0,0,rfl,λ_ _ h=>aX,?_⟩;exact((HB.setCell (Nat.le_refl _) _).setCell (Nat.le_refl _) _).setCell (Nat.le_refl _) _):p:=h
theorem nQ (l:ByteArray)(w:World)(hl:l.size<=4000)(ht:Tab w)(hm:Cap w)(hE:ErrS w):
  Calls pG 174 #[.string l] w λe w'=>∃V F,e=Rt (Tu #[Ag #[.int .i64 V,.int .i64 F,U nO 0 0],Bb (eX l.data.toList).isSome])/\(∀V' F',eX l.data.toList=sO (V',F')->V=V'/\F=F')/\bl w w':=by
 have hb1:Below w.heap.size w (w.alloc (Cc #[.int .i64 0,.int .i64 0,U nO 0 0] 24)):=ai;have Z1:=ZAt.new w;obtain⟨x,ns,hdat,hnl,hsp⟩:=wS l (w.alloc (Cc #[.int .i64 0,.int .i64 0,U nO 0 0] 24)) (hm.below hb1) hl;simp only[zA] at hsp;by_cases h3:ns.length=3
 ·match ns,h3 with
  |[a,b,c],_=>
   have hh:=Bv hdat;generalize eX l.data.toList=ho at hh |-;have Hh:=pk hh;clear hh hdat hl hnl;simp only[j4,List.length_nil,j2,Nat.reduceAdd] at hsp;go_enter Tryz.func174,Tryz.ntmps174;go_wp2_with fail;refine hsp.mono ?_;rintro e w0 ⟨rfl,hcells,hz0,hb0⟩;clear hsp;have Z0:=Z1.call (by simpa using hb0);have HB:bl w w0:=hb1.trans (hb0.mono ah);have c0:w0.cell? ⟨w.heap.size+1,0,nO⟩=sO (.string x):=hcells 0 ah;have c1:w0.cell? ⟨w.heap.size+1,1,nO⟩=sO (.string a):=hcells 1 ah;have c2:w0.cell? ⟨w.heap.size+1,2,nO⟩=sO (.string b):=hcells 2 ah;have c3:w0.cell? ⟨w.heap.size+1,3,nO⟩=sO (.string c):=hcells 3 ah;clear hcells hb1 hb0 Z1;by_cases hx:x.data.toList=uk
   ·by_cases hbf:b.data.toList=pm
    ·have ex:=rX hx
     have eb:=rX hbf;simp only[uk] at ex;simp only[pm] at eb;rw[if_pos ⟨hx,hbf⟩] at Hh;subst ex eb;clear hx hbf;go_wp2_with fail;refine(il a w0 (ht.below HB) (hE.below HB)).mono ?_;rintro e w3 ⟨v,rfl,hv,hb3⟩;have Z3:=Z0.call hb3;have c4:w3.cell? ⟨w.heap.size+1,3,nO⟩=sO (.string c):=by rw[hb3.cell hz0];exact c3
     have HB3:bl w w3:=HB.trans (hb3.mono HB.size);clear Z0 c0 c1 c2 c3;have hz3:w.heap.size+1 < w3.heap.size:=lL hz0 hb3.size;clear hb3;go_wp2_with fail;refine(il c w3 (ht.below HB3) (hE.below HB3)).mono ?_;rintro e w4 ⟨f,rfl,hf,hb4⟩;obtain⟨e0,e1,e2,ef,ez⟩:=Z3.call hb4;have HB4:bl w w4:=HB3.trans (hb4.mono HB3.size);clear Z3 c4 hb4;have hres:ho.isSome=((di a.data.toList).isSome&&(di c.data.toList).isSome)/\∀V' F',ho=sO (V',F')->v=V'/\f=F':=by
      rw[Hh.out];cases e1:di a.data.toList with
      |none=>exact⟨rfl,λ_ _ h=>aX⟩
      |some v'=>
       cases e2:di c.data.toList with
       |none=>exact⟨rfl,λ_ _ h=>aX⟩
       |some f'=>exact⟨rfl,λ_ _ h=>by cases h;exact⟨hv _ e1,hf _ e2⟩⟩
     have hr2:=pk hres.2;have hr1:=pk hres.1;clear hres hv hf Hh;generalize (di a.data.toList).isSome=q1 at *;generalize (di c.data.toList).isSome=q2 at *;cases q1 with
     |true=>
      go_wp2;refine bodyPost_ret (v:=Tu #[Ag #[.int .i64 v,.int .i64 f,U nO 0 0],Bb q2]) vo rfl ⟨v,f,by rw[hr1.out];simp,hr2.out,?_⟩;exact((HB4.setCell (lR _) _).setCell (lR _) _).setCell (lR _) _
     |false=>
      go_wp2;refine bodyPost_ret (v:=Tu #[Ag #[.int .i64 v,.int .i64 f,U nO 0 0],Bb false]) vo rfl ⟨v,f,by rw[hr1.out];simp,hr2.out,?_⟩;exact((HB4.setCell (lR _) _).setCell (lR _) _).setCell (lR _) _
    ·obtain rfl:ho=none:=Hh.out.trans (if_neg (λh=>hbf h.2))
     have ex:=rX hx;simp only[uk] at ex;have hne:(b.toList==[102,105,101,108,100,115])=false:=by
      rw[beq_eq_false_iff_ne,ByteArray.toList_eq];exact hbf
     subst ex;clear Hh hx hbf;obtain⟨e0,e1,e2,ef,ez⟩:=Z0;exact m9
   ·obtain rfl:ho=none:=Hh.out.trans (if_neg (λh=>hx h.1))
    have hne:(x.toList==[118,97,114,115])=false:=by
     rw[beq_eq_false_iff_ne,ByteArray.toList_eq];exact hx
    clear Hh hx;obtain⟨e0,e1,e2,ef,ez⟩:=Z0;exact m9
 ·have hh:=Ct hdat h3
  rw[hh];have hn4:ns.length+1≠4:=aa;clear hdat hl hh h3;generalize ns.length+1=n at *;have hn5:((n:Int)!=4)=true:=an;go_enter Tryz.func174,Tryz.ntmps174;go_wp2_with fail;refine hsp.mono ?_;rintro e w0 ⟨rfl,-,hz0,hb0⟩;clear hsp;obtain⟨e0,e1,e2,ef,ez⟩:=Z1.call (by simpa using hb0);have HB:bl w w0:=hb1.trans (hb0.mono ah);clear hb1 hb0 Z1;exact m9

theorem Dj (s a b:ByteArray)(en:Bool)(w:World)(hm:Cap w)(hs:s.size < 4294967281)(hc:Lib.cut s.data.toList [10]=(a.data.toList,b.data.toList,en)):
  Calls pG 173 #[.string s,.string ⟨#[10]⟩] w λe w'=>e=Rt (Tu #[.string a,.string b,Bb en])/\bl w w':=by
 obtain⟨m,hm⟩:=hm;refine(Tryz.strings_Cut s ⟨#[10]⟩ m w hs hm).mono ?_;rintro e w' ⟨rfl,n,rfl⟩;have hc':Lib.cut s.data.toList (⟨#[10]⟩:ByteArray).data.toList=(a.data.toList,b.data.toList,en):=hc;rw[hc'];exact⟨rfl,below_drewN (bR _ _) n⟩

theorem tT {p:Prop}(h:p:=by
 go_wp2;refine bodyPost_ret (v:=.tuple #[.agg #[.int .i64 V,.int .i64 F,.slice none 0 0],.int .i64 1]) (by simp[results,Tryz.results117,go_sem,r0,r1,r2,rz,Nat.ne_of_lt rz]) rfl ⟨V,F,_,rfl,⟨_,_,_,rfl⟩,?_⟩;first|exact(((H2.setCell (Nat.le_refl _) _).setCell (Nat.le_refl _) _).setCell (Nat.le_refl _) _).alloc an _|exact(((H2.alloc H2.size _).setCell (Nat.le_refl _) _).setCell (Nat.le_refl _) _).setCell (Nat.le_refl _) _):p:=h
theorem kW (s H T:ByteArray)(en:Bool)(w:World)(ht:Tab w)(hm:Cap w)(hE:ErrS w)(hs:s.size<=4000)(hH:H.size<=4000)(hcH:Lib.cut s.data.toList [10]=(H.data.toList,T.data.toList,en))(hbad:(en&&(eX H.data.toList).isSome)=false):
  Calls pG 117 #[.string s] w λe w'=>∃V F v,e=Rt (Tu #[Ag #[.int .i64 V,.int .i64 F,v],.int .i64 1])/\(∃a l c,v=U a l c)/\bl w w':=by
 have hb0:Below w.heap.size w (w.alloc (Cc #[.int .i64 0,.int .i64 0,U nO 0 0] 24)):=ai;have Z0:=ZAt.new w;go_enter Tryz.func117,Tryz.ntmps117;go_wp2_with fail;refine(Dj s H T en _ (hm.below hb0) aa hcH).mono ?_;rintro e w1 ⟨rfl,hb1⟩;have H1:Below w.heap.size w w1:=hb0.trans (hb1.mono iC);have Z1:=Z0.call hb1;clear Z0 hb1 hcH;go_wp2_with fail;refine(nQ H w1 hH (ht.below H1) (hm.below H1) (hE.below H1)).mono ?_;rintro e w2 ⟨V,F,rfl,-,hb2⟩;have H2:bl w w2:=H1.trans (hb2.mono H1.size);obtain⟨r0,r1,r2,rf,rz⟩:=Z1.call hb2;clear Z1 hb2;generalize (eX H.data.toList).isSome=q at *;cases en with
 |false=>
  exact tT
 |true=>
  obtain rfl:q=false:=by simpa using hbad
  exact tT
theorem ui {p:Prop}(h:p:=by
 have n0:(k:Int)+2 < 5000:=aa;have hcut:=rU (T k) (L k) (T (k+1)) wr (hm.below HR) (by have:=hT k;omega) (hc k hlt)
 go_wp2_with fail;refine hcut.mono ?_;rintro e w4 ⟨rfl,hb4⟩;have H4:bl w w4:=HR.trans (hb4.mono HR.size);have hs4:ShpAt (w2.heap.size+1) shps w4:=hsh.of_blocks (λj hj hj'=>CF);go_wp2_with fail;refine(hI k hlt _ w4 hs4 (ht.below H4) (hm.below H4) (hEr.below H4)).mono ?_;rintro e w5 ⟨rfl,hb5⟩;have B5:∀j,j < wr.heap.size->w5.heap[j]? =wr.heap[j]? :=λj hj=>Cx;have S5:wr.heap.size<=w5.heap.size:=Nat.le_trans hb4.size hb5.size;obtain⟨P0,P1,P2,Pf⟩:PrgAt w5 w2.heap.size V F (.slice sl k cap):=PrgAt.block ⟨p0,p1,p2,pf⟩ (B5 _ hBr);have hB5:w2.heap.size < w5.heap.size:=aa;have hown5:=ci hown (λj hj=>B5 j (gU hown hj).1);clear hcut hs4 hsh;have hnews:∀j u,(eT (I k))[j]? =some u->((w5.alloc (.cells #[.int .i64 (I k).k,.int .i64 (I k).tgt,.int .i64 (I k).a,.int .i64 (I k).b,.int .i64 (I k).n,.int .i64 (I k).g] 100)).alloc (.cells #[.int .i64 (I k).k,.int .i64 (I k).tgt,.int .i64 (I k).a,.int .i64 (I k).b,.int .i64 (I k).n,.int .i64 (I k).g] 100)).cell? ((⟨w5.heap.size+1,0,none⟩:Addr).add j)=some u:=by
  have:=wL (w5.alloc (.cells #[.int .i64 (I k).k,.int .i64 (I k).tgt,.int .i64 (I k).a,.int .i64 (I k).b,.int .i64 (I k).n,.int .i64 (I k).g] 100)) (eT (I k)) 100;intro j u hj;have h:=this j u hj;simp only[World.size_alloc] at h;exact h
 have hG:∀w6,((w5.alloc (.cells #[.int .i64 (I k).k,.int .i64 (I k).tgt,.int .i64 (I k).a,.int .i64 (I k).b,.int .i64 (I k).n,.int .i64 (I k).g] 100)).alloc (.cells #[.int .i64 (I k).k,.int .i64 (I k).tgt,.int .i64 (I k).a,.int .i64 (I k).b,.int .i64 (I k).n,.int .i64 (I k).g] 100)).grownBy w6 (Value.slice sl k cap).ownBlock->w6.heap[w2.heap.size]? =w5.heap[w2.heap.size]? :=λw6 hgrow=>by
  rw[hgrow.block _ an (λe=>by have:=lq hown5 e.symm;omega),Below.heap_alloc _ _ _ an,Below.heap_alloc _ _ _ aa]
 have hH6:∀w6,((w5.alloc (.cells #[.int .i64 (I k).k,.int .i64 (I k).tgt,.int .i64 (I k).a,.int .i64 (I k).b,.int .i64 (I k).n,.int .i64 (I k).g] 100)).alloc (.cells #[.int .i64 (I k).k,.int .i64 (I k).tgt,.int .i64 (I k).a,.int .i64 (I k).b,.int .i64 (I k).n,.int .i64 (I k).g] 100)).grownBy w6 (Value.slice sl k cap).ownBlock->bl w2 w6:=λw6 hgrow=>
  ((((hbr.trans (hb4.mono aa)).trans (hb5.mono (by have:=hb4.size;omega))).alloc aa _).alloc an _).grown hgrow an (λj hj=>by have:=lq hown5 hj;omega)
 have hflat:gW ((List.range (k+1)).map I)=gW ((List.range k).map I)++eT (I k):=by
  rw[List.range_succ,List.map_append,gW,List.flatMap_append];simp[gW]
 have hone:∀u∈eT (I k),u.oneCell'=true:=by simp[eT,Value.oneCell']
 have hba:w3.heap.size<=((w5.alloc (.cells #[.int .i64 (I k).k,.int .i64 (I k).tgt,.int .i64 (I k).a,.int .i64 (I k).b,.int .i64 (I k).n,.int .i64 (I k).g] 100)).alloc (.cells #[.int .i64 (I k).k,.int .i64 (I k).tgt,.int .i64 (I k).a,.int .i64 (I k).b,.int .i64 (I k).n,.int .i64 (I k).g] 100)).heap.size:=an;go_wp2_with (at_builtin;refine wpList_append_own _ rfl _ _ 22 rfl w3.heap.size 100 ti (.agg #[.int .i64 0,.int .i64 0,.int .i64 0,.int .i64 0,.int .i64 0,.int .i64 0]) 6 48 Tryz.underlying22 hi hz0 hz1 hz2 rfl aj _ _ _ rfl ((hown5.alloc _).alloc _) ⟨w5.heap.size+1,0,none⟩ 1 1 (eT (I k)) rfl rfl hnews hone dg aa hba ?_;intro v' w6 hown' hgrow hnil;obtain⟨g,cap',rfl,hg,hlt'⟩:=hown'.form (Nat.succ_pos _);obtain⟨Q0,Q1,Q2,Qf⟩:PrgAt w6 w2.heap.size V F (.slice sl k cap):=PrgAt.block ⟨P0,P1,P2,Pf⟩ (hG w6 hgrow));go_roundw
 case rel=>
  refine⟨k+1,_,hlt,rfl,aJ,PrgAt.set ⟨Q0,Q1,Q2,Qf⟩ _,ownsRow_setCell_below ?_ s3 _,?_,?_,?_⟩
  ·rw[hflat];exact hown'
  ·exact(hH6 w6 hgrow).setCell (Nat.le_refl _) _
  ·have:=hgrow.size;simp at this |-;omega
  ·intro j hj hj'
   rw[Below.heap_setCell _ _ _ _ hj',hgrow.block j an (λe=>by have:=lq hown5 e.symm;omega),Below.heap_alloc _ _ _ an,Below.heap_alloc _ _ _ aa,B5 j aa];exact hsame j hj hj'
 case measure=>simp[intOf];omega):p:=h
theorem tC (n:Nat)(hn:n<=4001)(s H:ByteArray)(V F:Int)(T L:Nat->ByteArray)(I:Nat->Ins)(w:World)(ht:Tab w)(hm:Cap w)(hEr:ErrS w)(hs:s.size < 5000)(hT:∀k,(T k).size < 5000)
  (hcH:Lib.cut s.data.toList [10]=(H.data.toList,(T 0).data.toList,true))
  (hH:∀w,Tab w->Cap w->ErrS w->Calls pG 174 #[.string H] w λe w'=>e=Rt (Tu #[Ag #[.int .i64 V,.int .i64 F,U nO 0 0],Bb true])/\bl w w')
  (hc:∀k,k < n->Lib.cut (T k).data.toList [10]=((L k).data.toList,(T (k+1)).data.toList,true))(h0:∀k,k < n->(T k)≠⟨#[]⟩)(hE:T n=⟨#[]⟩)
  (hI:∀k,k < n->∀N w,ShpAt N shps w->Tab w->Cap w->ErrS w->Calls pG 175 #[.map (sO N),.string (L k)] w λe w'=>e=Rt (Tu #[Ag #[.int .i64 (I k).k,.int .i64 (I k).tgt,.int .i64 (I k).a,.int .i64 (I k).b,.int .i64 (I k).n,.int .i64 (I k).g],Bb true])/\bl w w'):
  Calls pG 117 #[.string s] w λe w'=>∃v,e=Rt (Tu #[Ag #[.int .i64 V,.int .i64 F,v],.int .i64 0])/\w'.ownsRow w.heap.size 100 6 v n (gW ((j1 n).map I))/\bl w w':=by
 obtain⟨ti,hi,hz0,hz1,hz2⟩:=info_parts AL;have hb0:Below w.heap.size w (w.alloc (Cc #[.int .i64 0,.int .i64 0,U nO 0 0] 24)):=ai;go_enter Tryz.func117,Tryz.ntmps117;go_wp2_with fail;refine(rU s H (T 0) _ (hm.below hb0) aa hcH).mono ?_;rintro e w1 ⟨rfl,hb1⟩;have H1:Below w.heap.size w w1:=hb0.trans (hb1.mono iC);go_wp2_with fail;refine(hH _ (ht.below H1) (hm.below H1) (hEr.below H1)).mono ?_;rintro e w2 ⟨rfl,hb2⟩;have H2:bl w w2:=H1.trans (hb2.mono H1.size);have r2:w2.heap[w.heap.size]? =sO (Cc #[.int .i64 0,.int .i64 0,U nO 0 0] 24 (0,0)):=by
  have s1:=hb1.size;rw[hb2.block _ (by simp at s1;omega),hb1.block _ ah];exact(MapKept.heap_alloc _ _).1
 have z2:w.heap.size < w2.heap.size:=(j3.1 r2).1;go_wp2_with fail;refine(i8 _).mono ?_;rintro e w3 ⟨rfl,hsh,hb3⟩;have q3:PrgAt w3 w2.heap.size V F (U nO 0 0):=by
  have hb:=hb3.block w2.heap.size ah;refine PrgAt.block ⟨?_,?_,?_,λj=> ?_⟩ hb<;>simp[go_sem]
 have s3:w2.heap.size < w3.heap.size:=vR;have H3:bl w2 w3:=(Below.alloc (bR _ w2) (lR _) _).trans (hb3.mono ah);simp at hsh;clear hb1 hb2;go_wp2;go_loopw [0,9] (λt l wr=>∃k v,k<=n/\t=.string (T k)/\l=.int .i64 ((k:Int)+2)/\PrgAt wr w2.heap.size V F v/\wr.ownsRow w3.heap.size 100 6 v k (gW ((j1 k).map I))/\bl w2 wr/\w3.heap.size<=wr.heap.size/\∀j,j < w3.heap.size->j≠w2.heap.size->wr.heap[j]? =w3.heap[j]?) (λ_ l _=>n+2 - (intOf l).toNat)
 case atStart=>exact⟨0,_,j0 _,rfl,rfl,q3,j6 _ _ _ _,H3,lR _,λ_ _ _=>rfl⟩
 case round=>
  obtain⟨k,v,hk,rfl,rfl,hp,hown,hbr,hsz,hsame⟩:=hrel;obtain⟨sl,cap,rfl,hcode⟩:∃sl cap,v=U sl k cap/\CodeAt wr sl ((j1 k).map I):=by
   have:=it (c:=(j1 k).map I) (by simpa using hown);simpa using this
  obtain⟨p0,p1,p2,pf⟩:=hp;have hBr:w2.heap.size < wr.heap.size:=aa;have HR:bl w wr:=H2.trans (hbr.mono aa);by_cases hlt:k < n
  ·have hne:(T k).toList.isEmpty=false:=by
    rw[ByteArray.toList_eq,z9];intro e;exact h0 k hlt (ByteArray.ext iy)
   exact ui
  ·have hk':k=n:=by omega
   subst hk';have rb:wr.heap[w.heap.size]? =sO (Cc #[.int .i64 0,.int .i64 0,U nO 0 0] 24 (0,0)):=by rw[hbr.block _ z2];exact r2
   have rc:∀j,wr.cell? ⟨w.heap.size,j,nO⟩=(#[.int .i64 0,.int .i64 0,U nO 0 0]:Array Value)[j]? :=λj=>pM;have rf:∀j,wr.frozen? ⟨w.heap.size,j,nO⟩=false:=λj=>by simp[z8,rb]
   have r0:wr.cell? ⟨w.heap.size,0,nO⟩=sO (.int .i64 0):=rc 0;have r1:wr.cell? ⟨w.heap.size,1,nO⟩=sO (.int .i64 0):=rc 1;have r3:wr.cell? ⟨w.heap.size,2,nO⟩=sO (U nO 0 0):=rc 2;have hne:(T k).toList.isEmpty=true:=by rw[hE,ByteArray.toList_eq];rfl
   have zr:w.heap.size < wr.heap.size:=aa;clear rb rc;go_wp2;refine bodyPost_ret (v:=Tu #[Ag #[.int .i64 V,.int .i64 F,U sl k cap],.int .i64 0]) (by simp[results,Tryz.results117,go_sem,r0,r1,r3]) rfl ⟨U sl k cap,rfl,?_,?_⟩
   ·have hz:w.heap.size < w3.heap.size:=by omega
    exact nF (ownsRow_setCell_below (a:=⟨w.heap.size,2,nO⟩) (ownsRow_setCell_below (a:=⟨w.heap.size,1,nO⟩) (ownsRow_setCell_below (a:=⟨w.heap.size,0,nO⟩) hown hz (.int .i64 V)) hz (.int .i64 F)) hz (U sl k cap)) (Nat.le_of_lt hz)
   ·exact((HR.setCell (lR _) _).setCell (lR _) _).setCell (lR _) _

theorem na {p:Prop}(h:p:=by
 go_wp2;refine bodyPost_ret (v:=.tuple #[.agg #[.int .i64 V,.int .i64 F,.slice sl k cap],.int .i64 ((k:Int)+2)]) (by simp[results,Tryz.results117,go_sem,r0,r1,r3,rz,Nat.ne_of_lt rz]) rfl ⟨V,F,_,rfl,⟨_,_,_,rfl⟩,?_⟩;first|exact(hfin _ H5).alloc an _|exact hfin _ (H5.alloc H5.size _)):p:=h
theorem vE (n:Nat)(hn:n<=4001)(s H:ByteArray)(V F:Int)(T L:Nat->ByteArray)(I:Nat->Ins)(w:World)(ht:Tab w)(hm:Cap w)(hEr:ErrS w)(hs:s.size < 5000)(hT:∀k,(T k).size < 5000)
  (hcH:Lib.cut s.data.toList [10]=(H.data.toList,(T 0).data.toList,true))
  (hH:∀w,Tab w->Cap w->ErrS w->Calls pG 174 #[.string H] w λe w'=>e=Rt (Tu #[Ag #[.int .i64 V,.int .i64 F,U nO 0 0],Bb true])/\bl w w')
  (hc:∀k,k < n->Lib.cut (T k).data.toList [10]=((L k).data.toList,(T (k+1)).data.toList,true))(h0:∀k,k < n->(T k)≠⟨#[]⟩)(hne0:T n≠⟨#[]⟩)(X Y:ByteArray)(en:Bool)(hX:X.size<=4000)(hcX:Lib.cut (T n).data.toList [10]=(X.data.toList,Y.data.toList,en))(hbad:(en&&(gE X.data.toList).isSome)=false)
  (hI:∀k,k < n->∀N w,ShpAt N shps w->Tab w->Cap w->ErrS w->Calls pG 175 #[.map (sO N),.string (L k)] w λe w'=>e=Rt (Tu #[Ag #[.int .i64 (I k).k,.int .i64 (I k).tgt,.int .i64 (I k).a,.int .i64 (I k).b,.int .i64 (I k).n,.int .i64 (I k).g],Bb true])/\bl w w'):
  Calls pG 117 #[.string s] w λe w'=>∃V F v,e=Rt (Tu #[Ag #[.int .i64 V,.int .i64 F,v],.int .i64 ((n:Int)+2)])/\(∃a l c,v=U a l c)/\bl w w':=by
 obtain⟨ti,hi,hz0,hz1,hz2⟩:=info_parts AL;have hb0:Below w.heap.size w (w.alloc (Cc #[.int .i64 0,.int .i64 0,U nO 0 0] 24)):=ai;go_enter Tryz.func117,Tryz.ntmps117;go_wp2_with fail;refine(rU s H (T 0) _ (hm.below hb0) aa hcH).mono ?_;rintro e w1 ⟨rfl,hb1⟩;have H1:Below w.heap.size w w1:=hb0.trans (hb1.mono iC);go_wp2_with fail;refine(hH _ (ht.below H1) (hm.below H1) (hEr.below H1)).mono ?_;rintro e w2 ⟨rfl,hb2⟩;have H2:bl w w2:=H1.trans (hb2.mono H1.size);have r2:w2.heap[w.heap.size]? =sO (Cc #[.int .i64 0,.int .i64 0,U nO 0 0] 24 (0,0)):=by
  have s1:=hb1.size;rw[hb2.block _ (by simp at s1;omega),hb1.block _ ah];exact(MapKept.heap_alloc _ _).1
 have z2:w.heap.size < w2.heap.size:=(j3.1 r2).1;go_wp2_with fail;refine(i8 _).mono ?_;rintro e w3 ⟨rfl,hsh,hb3⟩;have q3:PrgAt w3 w2.heap.size V F (U nO 0 0):=by
  have hb:=hb3.block w2.heap.size ah;refine PrgAt.block ⟨?_,?_,?_,λj=> ?_⟩ hb<;>simp[go_sem]
 have s3:w2.heap.size < w3.heap.size:=vR;have H3:bl w2 w3:=(Below.alloc (bR _ w2) (lR _) _).trans (hb3.mono ah);simp at hsh;clear hb1 hb2;go_wp2;go_loopw [0,9] (λt l wr=>∃k v,k<=n/\t=.string (T k)/\l=.int .i64 ((k:Int)+2)/\PrgAt wr w2.heap.size V F v/\wr.ownsRow w3.heap.size 100 6 v k (gW ((j1 k).map I))/\bl w2 wr/\w3.heap.size<=wr.heap.size/\∀j,j < w3.heap.size->j≠w2.heap.size->wr.heap[j]? =w3.heap[j]?) (λ_ l _=>n+2 - (intOf l).toNat)
 case atStart=>exact⟨0,_,j0 _,rfl,rfl,q3,j6 _ _ _ _,H3,lR _,λ_ _ _=>rfl⟩
 case round=>
  obtain⟨k,v,hk,rfl,rfl,hp,hown,hbr,hsz,hsame⟩:=hrel;obtain⟨sl,cap,rfl,hcode⟩:∃sl cap,v=U sl k cap/\CodeAt wr sl ((j1 k).map I):=by
   have:=it (c:=(j1 k).map I) (by simpa using hown);simpa using this
  obtain⟨p0,p1,p2,pf⟩:=hp;have hBr:w2.heap.size < wr.heap.size:=aa;have HR:bl w wr:=H2.trans (hbr.mono aa);by_cases hlt:k < n
  ·have hne:(T k).toList.isEmpty=false:=by
    rw[ByteArray.toList_eq,z9];intro e;exact h0 k hlt (ByteArray.ext iy)
   exact ui
  ·have hk':k=n:=by omega
   subst hk';have rb:wr.heap[w.heap.size]? =sO (Cc #[.int .i64 0,.int .i64 0,U nO 0 0] 24 (0,0)):=by rw[hbr.block _ z2];exact r2
   have zr:w.heap.size < wr.heap.size:=aa;have Zr:ZAt wr w.heap.size:=⟨pM,pM,pM,λj=>by simp[z8,rb],zr⟩;have hne:(T k).toList.isEmpty=false:=by
    rw[ByteArray.toList_eq,z9];intro e;exact hne0 (ByteArray.ext iy)
   clear rb;go_wp2_with fail;refine(Dj (T k) X Y en wr (hm.below HR) (by have:=hT k;omega) hcX).mono ?_;rintro e w4 ⟨rfl,hb4⟩;have H4:bl w w4:=HR.trans (hb4.mono HR.size);have hs4:ShpAt (w2.heap.size+1) shps w4:=hsh.of_blocks (λj hj hj'=>CF);go_wp2_with fail;refine(l8 _ X w4 hX hs4 (ht.below H4) (hm.below H4) (hEr.below H4)).mono ?_;rintro e w5 ⟨he5,hb5⟩;have B5:∀j,j < wr.heap.size->w5.heap[j]? =wr.heap[j]? :=λj hj=>Cx;obtain⟨P0,P1,P2,Pf⟩:PrgAt w5 w2.heap.size V F (U sl k cap):=PrgAt.block ⟨p0,p1,p2,pf⟩ (B5 _ hBr);have hB5:w2.heap.size < w5.heap.size:=by have:=hb4.size;have:=hb5.size;omega
   obtain⟨r0,r1,r3,rf,rz⟩:=(Zr.call hb4).call hb5;have H5:bl w w5:=H4.trans (hb5.mono H4.size);clear Zr hs4 hsh p0 p1 p2 pf;generalize gE X.data.toList=o at *;have hfin:∀wx,bl w wx->bl w (((wx.setCell ⟨w.heap.size,0,nO⟩ (.int .i64 V)).setCell ⟨w.heap.size,1,nO⟩ (.int .i64 F)).setCell ⟨w.heap.size,2,nO⟩ (U sl k cap)):=λwx h=>((h.setCell (lR _) _).setCell (lR _) _).setCell (lR _) _;cases o with
   |none=>
    simp only[iQ,vd,fZ] at he5;subst he5;cases en with
    |false=>
     exact na
    |true=>
     exact na
   |some i=>
    obtain rfl:en=false:=by simpa using hbad
    simp only[iQ,vd] at he5;subst he5;exact na
def bh (s:ByteArray):(Int×Int×lI)×Int×Int:=
 if 4000 < s.size then((0,0,[]),0,2) else match kG s.data.toList with
  |.error k=>((0,0,[]),k,1)
  |.ok (V,F,c)=>if aw V F c=0 then((V,F,c),0,0) else((0,0,[]),0,aw V F c)

theorem lH (a:ByteArray)(l:List UInt8)(h:a.data.toList=l):a.size=l.length:=by rw[<-h,fk]

theorem KV {H:ByteArray}{V F:Int}(hl:H.size<=4000)(h:eX H.data.toList=sO (V,F)):∀w,Tab w->Cap w->ErrS w->Calls pG 174 #[.string H] w λe w'=>e=Rt (Tu #[Ag #[.int .i64 V,.int .i64 F,U nO 0 0],Bb true])/\bl w w':=by
 intro w ht hm hE;refine(nQ H w hl ht hm hE).mono ?_;rintro e w' ⟨V',F',rfl,h2,hb⟩;obtain⟨rfl,rfl⟩:=h2 _ _ h;rw[h];exact⟨rfl,hb⟩
theorem KU {L:ByteArray}{i:Ins}(hl:L.size<=4000)(h:gE L.data.toList=sO i):∀N w,ShpAt N shps w->Tab w->Cap w->ErrS w->Calls pG 175 #[.map (sO N),.string L] w λe w'=>e=Rt (Tu #[Ag #[.int .i64 i.k,.int .i64 i.tgt,.int .i64 i.a,.int .i64 i.b,.int .i64 i.n,.int .i64 i.g],Bb true])/\bl w w':=by
 intro N w hs ht hm hE;refine(l8 N L w hl hs ht hm hE).mono ?_;rintro e w' ⟨rfl,hb⟩;rw[h];exact⟨rfl,hb⟩

theorem s9 {p:Prop}(h:p:=by
 intro k;rw[lH _ _ (dJ _ _)];by_cases hk:k < (y::r).length
 ·rw[mY hk]
  exact Nat.le_trans (ni 10 _ _ (List.mem_cons_of_mem _ (List.getElem_mem hk))) hall
 ·rw[List.getD,List.getElem?_eq_none aa];simp):p:=h
theorem re (s:ByteArray)(V F:Int)(c:lI)(w:World)(hs:s.size<=4000)(ht:Tab w)(hm:Cap w)(hE:ErrS w)(h:kG s.data.toList=.ok (V,F,c)):
  Calls pG 117 #[.string s] w λe w'=>∃v,e=Rt (Tu #[Ag #[.int .i64 V,.int .i64 F,v],.int .i64 0])/\w'.ownsRow w.heap.size 100 6 v c.length (gW c)/\bl w w':=by
 have hg:=rK 10 s.data.toList;have hfree:=lD 10 s.data.toList;have hcl:=mC 10 s.data.toList;rw[fk] at hcl;unfold kG at h;split at h
 ·rename_i x y r hc
  rw[hc] at hg hfree hcl;simp only[j4] at hcl;have hall:(fK 10 (x::y::r)).length<=4000:=by rw[hg,fk];exact hs
  split at h
  ·cases h
  ·rename_i V' F' hh
   split at h
   ·cases h
   ·rename_i c' hcc
    cases h;obtain⟨h1,h2,h3⟩:=CX hcc;have hxl:(lnB (x::y::r) 0).size<=4000:=by
     rw[lH _ _ (dJ _ _)];exact lT (ni 10 _ _ ah) hall
    have hll:∀k,(lnB (y::r) k).size<=4000:=by
     exact s9
    have htl:∀k,(txB (y::r) k).size<=4000:=by
     intro k;rw[lH _ _ (eR _ _)];refine lT (oO 10 _ _) (lT ?_ hall);rw[gX];simp;omega
    have hfy:∀z∈y::r,(10:UInt8)∉z:=λz hz=>hfree z (x6 _ hz);have hmain:=tC c.length (by simp only[j4] at h1;omega) s (lnB (x::y::r) 0) V F (txB (y::r)) (lnB (y::r)) (λk=>c.getD k fZ) w ht hm hE aa (λk=>by have:=htl k;omega)
     (by
      have:=De 10 x (fK 10 (y::r)) (hfree x ah);rw[<-gX,hg] at this;rw[this,dJ,eR];rfl)
     (KV hxl (by rw[dJ];exact hh))
     (λk hk=>sM aa hfy)
     (λk hk=>DS aa)
     (by
      apply ByteArray.ext;apply j7.1;rw[Gn aa];exact h2)
     (λk hk=>KU (hll k) (by rw[dJ,h3 k hk];simp[x7,q4 hk]))
    have hmap:(j1 c.length).map (λk=>c.getD k fZ)=c:=by
     apply List.ext_getElem
     ·simp
     ·intro k hk1 hk2
      simp[x7,q4 hk2]
    rw[hmap] at hmain;exact hmain
 ·cases h

theorem BH (s:ByteArray)(k:Nat)(w:World)(hs:s.size<=4000)(ht:Tab w)(hm:Cap w)(hE:ErrS w)(h:kG s.data.toList=.error k):
  Calls pG 117 #[.string s] w λe w'=>∃V F v,e=Rt (Tu #[Ag #[.int .i64 V,.int .i64 F,v],.int .i64 k])/\k≠0/\(∃a l c,v=U a l c)/\bl w w':=by
 have hg:=rK 10 s.data.toList;have hfree:=lD 10 s.data.toList;have hcl:=mC 10 s.data.toList;rw[fk] at hcl;obtain⟨x,r,hc⟩:=iP 10 s.data.toList;rw[hc] at hg hfree hcl;have hall:(fK 10 (x::r)).length<=4000:=by rw[hg,fk];exact hs
 have hxl:(lnB (x::r) 0).size<=4000:=by
  rw[lH _ _ (dJ _ _)];exact lT (ni 10 _ _ ah) hall
 unfold kG at h;rw[hc] at h;cases r with
 |nil=>
  cases h;have hcut:=CM (ls:=[x]) (k:=0) rfl hfree;rw[eR,Q8,hg] at hcut;refine(kW s (lnB [x] 0) ⟨#[]⟩ false w ht hm hE hs hxl hcut rfl).mono ?_;rintro e w' ⟨V,F,v,rfl,hv,hb⟩;exact⟨V,F,v,rfl,aa,hv,hb⟩
 |cons y r=>
  simp only[j4] at hcl;have hcut:=sM (ls:=x::y::r) (k:=0) ah hfree;rw[eR,Q8,hg] at hcut;simp only at h;cases hh:eX x with
  |none=>
   rw[hh] at h;cases h;refine(kW s (lnB (x::y::r) 0) (txB (x::y::r) 1) true w ht hm hE hs hxl hcut (by rw[dJ];show (true&&(eX x).isSome)=false;rw[hh];rfl)).mono ?_;rintro e w' ⟨V,F,v,rfl,hv,hb⟩;exact⟨V,F,v,rfl,aa,hv,hb⟩
  |some vf=>
   obtain⟨V,F⟩:=vf;rw[hh] at h;simp only at h;cases hcc:ip 2 (y::r) with
   |ok c=>rw[hcc] at h;cases h
   |error e=>
    rw[hcc] at h;cases h;obtain⟨n,h1,h2,h3,h4⟩:=Av ah hcc;subst h1;have hll:∀k,(lnB (y::r) k).size<=4000:=by
     exact s9
    have htl:∀k,(txB (y::r) k).size<=4000:=by
     intro k;rw[lH _ _ (eR _ _)];refine lT (oO 10 _ _) (lT ?_ hall);rw[gX];simp;omega
    have hfy:∀z∈y::r,(10:UInt8)∉z:=λz hz=>hfree z (x6 _ hz);have hend:txB (y::r) n≠⟨#[]⟩/\∃(Y:ByteArray) (en:Bool),Lib.cut (txB (y::r) n).data.toList [10]=((lnB (y::r) n).data.toList,Y.data.toList,en)/\(en&&(gE (lnB (y::r) n).data.toList).isSome)=false:=by
     rcases h4 with⟨h5,h6⟩|⟨h5,h6⟩
     ·refine⟨λe=>h6 ?_,_,_,CM h5 hfy,rfl⟩
      rw[<-Gn h5,e]
     ·refine⟨DS h5,_,_,sM h5 hfy,?_⟩
      rw[dJ,h6];rfl
    obtain⟨he1,Y,en,he2,he3⟩:=hend;refine(vE n (by simp only[j4] at h2;omega) s (lnB (x::y::r) 0) V F (txB (y::r)) (lnB (y::r)) (λk=>(gE ((y::r).getD k [])).getD fZ) w ht hm hE aa (λk=>by have:=htl k;omega)
     (by rw[hcut];rfl)
     (KV hxl (by rw[dJ];exact hh))
     (λk hk=>sM aa hfy)
     (λk hk=>DS aa)
     he1 (lnB (y::r) n) Y en (hll n) he2 he3
     (λk hk=>KU (hll k) (by obtain⟨i,hi⟩:=h3 k hk;rw[dJ,hi];rfl))).mono ?_
    rintro e w' ⟨V',F',v,rfl,hv,hb⟩;refine⟨V',F',v,?_,aa,hv,hb⟩;rw[show ((2+n:Nat):Int)=(n:Int)+2 by omega]

theorem Gl (s:ByteArray)(w:World)(ht:Tab w)(hm:Cap w)(hE:ErrS w):
  Calls pG 60 #[.string s] w λe w'=>∃v,e=Rt (Tu #[Ag #[.int .i64 (bh s).1.1,.int .i64 (bh s).1.2.1,v],.int .i64 (bh s).2.1,.int .i64 (bh s).2.2])/\w'.ownsRow w.heap.size 100 6 v (bh s).1.2.2.length (gW (bh s).1.2.2)/\bl w w':=by
 have hb0:Below w.heap.size w (w.alloc (Cc #[.int .i64 0,.int .i64 0,U nO 0 0] 24)):=ai;have Z0:=ZAt.new w;by_cases hs:4000 < s.size
 ·have hp:bh s=((0,0,[]),0,2):=by unfold bh;rw[if_pos hs]
  rw[hp];have n0:(4000:Int) < (s.size:Int):=aa;clear hp Z0 hb0;go_enter Tryz.func60,Tryz.ntmps60;go_wp2;refine bodyPost_ret (v:=Tu #[Ag #[.int .i64 0,.int .i64 0,U nO 0 0],.int .i64 0,.int .i64 2]) (by simp[results,Tryz.results60,go_sem]) rfl ⟨_,rfl,j6 _ _ _ _,?_⟩;go_grown
 ·have hs':s.size<=4000:=by omega
  have n0:¬(4000:Int) < (s.size:Int):=aa;cases hr:kG s.data.toList with
  |error k=>
   have hp:bh s=((0,0,[]),(k:Int),1):=by unfold bh;rw[if_neg hs,hr]
   rw[hp];have hL:=BH s k _ hs' (ht.below hb0) (hm.below hb0) (hE.below hb0) hr;clear hp hr;go_enter Tryz.func60,Tryz.ntmps60;go_wp2_with fail;refine hL.mono ?_;rintro e w1 ⟨V,F,v,rfl,hk0,⟨a,l,c,rfl⟩,hb1⟩;have HB1:bl w w1:=hb0.trans (hb1.mono ah);obtain⟨e0,e1,e2,ef,ez⟩:=Z0.call hb1;have hk1:((k:Int)!=0)=true:=an;clear hL hk0 Z0 hb0 hb1;go_wp2;refine bodyPost_ret (v:=Tu #[Ag #[.int .i64 0,.int .i64 0,U nO 0 0],.int .i64 (k:Int),.int .i64 1]) CG rfl ⟨_,rfl,j6 _ _ _ _,?_⟩;first|exact(((HB1.setCell (lR _) _).setCell (lR _) _).setCell (lR _) _)|exact(((HB1.setCell (lR _) _).setCell (lR _) _).setCell (lR _) _).alloc an _
  |ok p=>
   obtain⟨V,F,c⟩:=p;by_cases h0:aw V F c=0
   ·have hp:bh s=((V,F,c),0,0):=by unfold bh;rw[if_neg hs,hr];simp only;rw[if_pos h0]
    rw[hp];exact Ig V F c s w hs' h0 (λw' hb=>re s V F c w' hs' (ht.below hb) (hm.below hb) (hE.below hb) hr)
   ·have hp:bh s=((0,0,[]),0,aw V F c):=by unfold bh;rw[if_neg hs,hr];simp only;rw[if_neg h0]
    rw[hp];have hL:=re s V F c _ hs' (ht.below hb0) (hm.below hb0) (hE.below hb0) hr;clear hp hr;go_enter Tryz.func60,Tryz.ntmps60;go_wp2_with fail;refine hL.mono ?_;rintro e w1 ⟨v,rfl,hown,hb1⟩;obtain⟨sl,cap,rfl,hc⟩:=it hown;have HB1:bl w w1:=hb0.trans (hb1.mono ah);have Z1:=Z0.call hb1;have hb2:Below w1.heap.size w1 (w1.alloc (Cc #[.int .i64 V,.int .i64 F,U sl c.length cap] 24)):=ai;have hC2:=d7 V F sl cap c _ (hc.below hb2 (lR _));clear hL Z0 hb0 hb1 hown hc;go_wp2_with fail;refine hC2.mono ?_;rintro e w2 ⟨rfl,hb3⟩;have HB2:bl w w2:=(HB1.trans (hb2.mono HB1.size)).trans (hb3.mono (by simp;have:=HB1.size;omega))
    obtain⟨e0,e1,e2,ef,ez⟩:=(Z1.call hb2).call hb3;have hk1:(aw V F c !=0)=true:=iw;clear hC2 Z1 hb2 hb3 HB1 h0;go_wp2;refine bodyPost_ret (v:=Tu #[Ag #[.int .i64 0,.int .i64 0,U nO 0 0],.int .i64 0,.int .i64 (aw V F c)]) CG rfl ⟨_,rfl,j6 _ _ _ _,?_⟩;first|exact(((HB2.setCell (lR _) _).setCell (lR _) _).setCell (lR _) _)|exact(((HB2.setCell (lR _) _).setCell (lR _) _).setCell (lR _) _).alloc an _
end
end Go.Proofs.YtmapdpcfanecdabGreatDoor
