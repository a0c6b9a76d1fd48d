import Derived.Test.YtmapdpcfanecdabGreatDoorU06
import Derived.Test.YtmapdpcfanecdabGreatDoorU07
import Derived.Test.YtmapdpcfanecdabGreatDoorU08
import Derived.MapKept
import Derived.Test.YtmapdpcfanecdabGreatDoorU10
import Derived.Test.YtmapdpcfanecdabGreatDoorU11
import Derived.Test.YtmapdpcfanecdabGreatDoorU12
import Derived.Deep.RegionHeldLaw
open Go.Ending renaming returned→Rt
open Go.Obj renaming cells→Cc
open Go.Proofs.Tryz renaming prog→pG
open Go.RowKit.Below renaming refl→bR
open Go.Value renaming agg→Ag,bool→Bb,slice→U,tuple→Tu
open Go.World renaming cell?_drew→j0
open List renaming getElem_append_left→j1
open Nat renaming le_refl→lR
open Option renaming none→nO,some→sO
set_option linter.unusedSimpArgs false
set_option linter.unusedVariables false
set_option maxHeartbeats 8000000
set_option maxRecDepth 100000
namespace Go.Proofs.YtmapdpcfanecdabGreatDoor
section
open Go.RowKit
theorem Aq (V F:Int)(s:oA)(len cap:Nat)(i:Ins)(w:World)(hV:1<=V)(hV':V<=8)(hF:0<=F)(hF':F<=3)(hL:len<=60):
  Calls pG 58 #[Ag #[.int .i64 V,.int .i64 F,U s len cap],Ag #[.int .i64 i.k,.int .i64 i.tgt,.int .i64 i.a,.int .i64 i.b,.int .i64 i.n,.int .i64 i.g]] w λe w'=>e=Rt (.int .i64 (bk V F len i))/\bl w w':=by
 obtain⟨k,tto,a,b,n,g⟩:=i;by_cases h:btw k 1 19=true
 ·rcases om h with rfl|rfl|rfl|rfl|rfl|rfl|rfl|rfl|rfl|rfl|rfl|rfl|rfl|rfl|rfl|rfl|rfl|rfl|rfl
  ·exact Fh V F s len cap tto a b n g w hV hV' hF hF' hL
  ·exact Eo V F s len cap tto a b n g w hV hV' hF hF' hL
  ·exact EH V F s len cap tto a b n g w hV hV' hF hF' hL
  ·exact Eb V F s len cap tto a b n g w hV hV' hF hF' hL
  ·exact Et V F s len cap tto a b n g w hV hV' hF hF' hL
  ·exact DT V F s len cap tto a b n g w hV hV' hF hF' hL
  ·exact EE V F s len cap tto a b n g w hV hV' hF hF' hL
  ·exact EM V F s len cap tto a b n g w hV hV' hF hF' hL
  ·exact EK V F s len cap tto a b n g w hV hV' hF hF' hL
  ·exact Bp V F s len cap tto a b n g w hV hV' hF hF' hL
  ·exact BG V F s len cap tto a b n g w hV hV' hF hF' hL
  ·exact Bn V F s len cap tto a b n g w hV hV' hF hF' hL
  ·exact Cm V F s len cap tto a b n g w hV hV' hF hF' hL
  ·exact Bs V F s len cap tto a b n g w hV hV' hF hF' hL
  ·exact Bo V F s len cap tto a b n g w hV hV' hF hF' hL
  ·exact BM V F s len cap tto a b n g w hV hV' hF hF' hL
  ·exact Bg V F s len cap tto a b n g w hV hV' hF hF' hL
  ·exact BV V F s len cap tto a b n g w hV hV' hF hF' hL
  ·exact Cg V F s len cap tto a b n g w hV hV' hF hF' hL
 ·exact Bi V F s len cap k tto a b n g w hV hV' hF hF' hL cj

theorem uN {V F L:Int}{c:lI}{k:Nat}(h:k < c.length):eI V F L (c.drop k)=if bk V F L c[k]=0 then eI V F L (c.drop (k+1)) else bk V F L c[k]:=by
 rw[List.drop_eq_getElem_cons h];rfl

theorem p8 (V F:Int)(b off cap:Nat)(c:lI)(w:World)(hV:1<=V)(hV':V<=8)(hF:0<=F)(hF':F<=3)(hL:c.length<=60)(hb:b < w.heap.size)(hc:∀k (h:k < c.length),InsAt w b (off+k * 6) c[k]):
  Calls pG 22 #[Ag #[.int .i64 V,.int .i64 F,U (sO ⟨b,off,nO⟩) c.length cap]] w λe w'=>e=Rt (.int .i64 (eI V F c.length c))/\bl w w':=by
 have t1:btw V 1 8=true:=fw hV hV';have t2:btw F 0 3=true:=fw hF hF';go_enter Tryz.func22,Tryz.ntmps22;go_wp2_with (go_at_call 57;refine(dB _ _ _ _).mono ?_;rintro e w' ⟨rfl,rfl⟩);go_loopw [3] (λi wr=>∃k:Nat,k<=c.length/\i=.int .i64 k/\Below (w.heap.size+1) (w.alloc (Cc #[.int .i64 V,.int .i64 F,U (sO ⟨b,off,nO⟩) c.length cap] 24)) wr/\Hid (eI V F c.length (c.drop k)=eI V F c.length c)) (λi _=>c.length - (intOf i).toNat)
 case atStart=>exact⟨0,Nat.zero_le _,rfl,bR _ _,rfl⟩
 case round=>
  obtain⟨k,hk,rfl,hbr,HR⟩:=hrel;have q0:wr.cell? ⟨w.heap.size,0,nO⟩=sO (.int .i64 V):=vW;have q1:wr.cell? ⟨w.heap.size,1,nO⟩=sO (.int .i64 F):=vW;have q2:wr.cell? ⟨w.heap.size,2,nO⟩=sO (U (sO ⟨b,off,nO⟩) c.length cap):=vW;have s1:w.heap.size < wr.heap.size:=by have:=hbr.size;simp at this;omega
  have s2:b < wr.heap.size:=aa;by_cases hlt:k < c.length
  ·have hi:InsAt wr b (off+k * 6) c[k]:=((hc k hlt).below (Below.alloc (bR w.heap.size w) (lR _) _) hb).below hbr aa
   obtain⟨i0,i1,i2,i3,i4,i5⟩:=hi;have n0:(0:Int)<=(k:Int):=aa;have n1:(k:Int) < (c.length:Int):=aa;go_wp2;go_region_held3 (λw'=>w'.cell? ⟨w.heap.size,0,nO⟩=sO (.int .i64 V)/\w'.cell? ⟨w.heap.size,1,nO⟩=sO (.int .i64 F)/\w'.cell? ⟨w.heap.size,2,nO⟩=sO (U (sO ⟨b,off,nO⟩) c.length cap)
    /\w'.cell? ⟨b,off+k * 6,nO⟩=sO (.int .i64 c[k].k)/\w'.cell? ⟨b,off+k * 6+1,nO⟩=sO (.int .i64 c[k].tgt)/\w'.cell? ⟨b,off+k * 6+2,nO⟩=sO (.int .i64 c[k].a)/\w'.cell? ⟨b,off+k * 6+3,nO⟩=sO (.int .i64 c[k].b)/\w'.cell? ⟨b,off+k * 6+4,nO⟩=sO (.int .i64 c[k].n)/\w'.cell? ⟨b,off+k * 6+5,nO⟩=sO (.int .i64 c[k].g))
    (first|(simp only[j0,q0,q1,q2,i0,i1,i2,i3,i4,i5,and_self];done)|(simp only[hc1 _ _ (show _ < wr.drew.heap.size from s1),hc1 _ _ (show b < wr.drew.heap.size from s2),j0,q0,q1,q2,i0,i1,i2,i3,i4,i5,and_self];done))
    ((go_at_call 58;refine(Aq V F _ _ _ c[k] _ hV hV' hF hF' hL).mono ?_;rintro e w1 ⟨rfl,hb1⟩;obtain⟨hc1,hf1⟩:=yK hb1))
   clear hc1 hf1;have HB:Below (w.heap.size+1) (w.alloc (Cc #[.int .i64 V,.int .i64 F,U (sO ⟨b,off,nO⟩) c.length cap] 24)) w1:=hbr.drew.trans (Below.mono hb1 (show w.heap.size+1<=wr.heap.size by omega));have HS:=uN (V:=V) (F:=F) (L:=c.length) hlt;by_cases hz:bk V F c.length c[k]=0
   ·rw[hz]
    go_wp2;go_roundw
    case rel=>exact⟨k+1,aa,aJ,HB,by have:=HR.out;rw[HS,if_pos hz] at this;exact this⟩
    case measure=>simp[intOf];omega
   ·rw[if_neg hz] at HS
    have hz':(bk V F c.length c[k]!=0)=true:=d9;go_wp2;go_ret;exact⟨bP (by have:=HR.out;rw[HS] at this;exact this),(Below.alloc (bR _ _) (lR _) _).trans (HB.mono aa)⟩
  ·go_wp2
   go_ret;exact⟨bP Di,(Below.alloc (bR _ _) (lR _) _).trans (hbr.mono aa)⟩

theorem so (V F:Int)(s:oA)(cap:Nat)(w:World)(hV:1<=V)(hV':V<=8)(hF:0<=F)(hF':F<=3):
  Calls pG 22 #[Ag #[.int .i64 V,.int .i64 F,U s 0 cap]] w λe w'=>e=Rt (.int .i64 0)/\bl w w':=by
 have t1:btw V 1 8=true:=fw hV hV';have t2:btw F 0 3=true:=fw hF hF';go_enter Tryz.func22,Tryz.ntmps22;go_wp2_with (go_at_call 57;refine(dB _ _ _ _).mono ?_;rintro e w' ⟨rfl,rfl⟩)
 go_rounds 1
 go_ret;exact⟨rfl,ai⟩

theorem mS {p:Prop}(h:p:=by
 go_enter Tryz.func22,Tryz.ntmps22;go_wp2_with (go_at_call 57;refine(dB _ _ _ _).mono ?_;rintro e w' ⟨rfl,rfl⟩);go_ret;exact⟨rfl,ai⟩):p:=h
theorem p5 (V F:Int)(s:oA)(len cap:Nat)(w:World)(hV:1<=V)(hV':V<=8)(hF:0<=F)(hF':F<=3)(hl:60 < len):
  Calls pG 22 #[Ag #[.int .i64 V,.int .i64 F,U s len cap]] w λe w'=>e=Rt (.int .i64 2)/\bl w w':=by
 have t1:btw V 1 8=true:=fw hV hV';have t2:btw F 0 3=true:=fw hF hF';have t3:(60:Int) < (len:Int):=aa;exact mS

theorem pY (V F:Int)(s:oA)(len cap:Nat)(w:World)(t1:btw V 1 8=false):
  Calls pG 22 #[Ag #[.int .i64 V,.int .i64 F,U s len cap]] w λe w'=>e=Rt (.int .i64 3)/\bl w w':=by
 exact mS

theorem nR (V F:Int)(s:oA)(len cap:Nat)(w:World)(t1:btw V 1 8=true)(t2:btw F 0 3=false):
  Calls pG 22 #[Ag #[.int .i64 V,.int .i64 F,U s len cap]] w λe w'=>e=Rt (.int .i64 3)/\bl w w':=by
 exact mS

theorem sh (V F:Int)(s:oA)(cap:Nat)(c:lI)(w:World)(h:CodeAt w s c):
  Calls pG 22 #[Ag #[.int .i64 V,.int .i64 F,U s c.length cap]] w λe w'=>e=Rt (.int .i64 (aw V F c))/\bl w w':=by
 unfold aw;cases t1:btw V 1 8 with
 |false=>simpa using pY V F s c.length cap w t1
 |true=>
  cases t2:btw F 0 3 with
  |false=>simpa using nR V F s c.length cap w t1 t2
  |true=>
   have ⟨hV,hV'⟩:1<=V/\V<=8:=by simpa[btw] using t1
   have ⟨hF,hF'⟩:0<=F/\F<=3:=by simpa[btw] using t2
   by_cases hl:60 < c.length
   ·simpa[hl] using p5 V F s c.length cap w hV hV' hF hF' hl
   ·rcases h with rfl|⟨b,off,rfl,hb,hc⟩
    ·simpa[eI] using so V F s cap w hV hV' hF hF'
    ·simpa[hl] using p8 V F b off cap c w hV hV' hF hF' aa hb hc
abbrev Shp:=Int×ByteArray×List Int

def oC (ps:List Int):Array Value:=(ps.map λp=>Value.int .i64 p).toArray
def uM (N:Nat)(j:Nat)(s:Shp):Value:=Ag #[.string s.2.1,if s.2.2=[] then U nO 0 0 else U (sO ⟨N+1+j,0,nO⟩) s.2.2.length s.2.2.length]
def nw (N:Nat)(j:Nat)(s:Shp):MapEntry:=⟨.int .i64 s.1,uM N j s,j⟩
def cI (N:Nat):Nat->List Shp->List MapEntry
 |_,[]=>[]
 |j,s::r=>nw N j s::cI N (j+1) r

structure ShpAt (N:Nat) (l:List Shp) (w:World):Prop where
 map:w.heap[N]? =sO (.map (cI N 0 l).toArray l.length)
 parts:∀j (h:j < l.length),l[j].2.2≠[]->w.heap[N+1+j]? =sO (Cc (oC l[j].2.2) 225)

theorem p7 (N:Nat)(l:List Shp)(s:Shp):∀j,cI N j (l++[s])=cI N j l++[nw N (j+l.length) s]:=by
 induction l with
 |nil=>intro j;rfl
 |cons x r ih=>intro j;simp only[List.cons_append,cI,ih (j+1),List.length_cons,Nat.add_assoc,Nat.add_comm 1]

theorem rD (N:Nat)(k:Int)(l:List Shp):∀i j,(∀s∈l,s.1≠k)->Instr.findNow (.int .i64) (.int .i64 k) (cI N j l) i=sO none:=by
 induction l with
 |nil=>intro i j _;rfl
 |cons x r ih=>
  intro i j h;have hx:(k==x.1)=false:=by simpa using λe=>h x (by simp) e.symm
  simp only[cI,Instr.findNow,nw,Instr.sameNow,if_true,hx];exact ih (i+1) (j+1) (λs hs=>h s (by simp[hs]))

theorem ba {P:Program}{N:Nat}{l:List Shp}{wx w:World}{ops:Array Oper}{rest:List Oper}{o:Oper}{a:Act}{Q:Exit->Act->World->Prop}{B:Nat}{w0:World}
  (hg:o.guard=nO)(m x v:Operand)(t kt et:TypeId)(hop:o.op=Op.insert t m x v)(ht:P.underlying t=sO (.map kt et))(hk:P.underlying kt=sO (.int .i64))(k:Int)(wd:ByteArray)(ps:List Int)
  (hm:a.eval m=.map (sO N))(hx:a.eval x=.int .i64 k)(hv:a.eval v=uM N l.length (k,wd,ps))(hw:w=if ps=[] then wx else wx.alloc (Cc (oC ps) 225))
  (hs:ShpAt N l wx)(hsz:wx.heap.size=N+1+l.length)(hbel:Below B w0 wx)(hB:B<=N)(hnew:∀s∈l,s.1≠k)
  (hK:∀w',ShpAt N (l++[(k,wd,ps)]) w'->w'.heap.size=w.heap.size->Below B w0 w'->wpList P ops Q rest (a.put o.dst undef) w'):
  wpList P ops Q (o::rest) a w:=by
 refine wpList_plain hg λK' hK'=> ?_;have hbw:Below B w0 w:=by
  rw[hw];split
  ·exact hbel
  ·exact hbel.alloc aa _
 have hsame:∀i,i < wx.heap.size->w.heap[i]? =wx.heap[i]? :=by
  intro i hi;rw[hw];split
  ·rfl
  ·exact Below.heap_alloc _ _ _ hi
 have hmap:w.heap[N]? =sO (.map (cI N 0 l).toArray l.length):=by rw[hsame N (by omega)];exact hs.map
 have hf:=rD N k l 0 0 hnew;have hc:(Instr.checkKey false 10000 kt (.int .i64 k)).run P w=.ok () w:=MapKept.run_checkKey (k:=.int .i64 k) hk rfl false 9999;have hpush:(cI N 0 l).toArray.push ⟨.int .i64 k,uM N l.length (k,wd,ps),l.length⟩=(cI N 0 (l++[(k,wd,ps)])).toArray:=by
  simp[p7,nw]
 obtain⟨E,hE⟩:∃E,E=(cI N 0 (l++[(k,wd,ps)])).toArray:=⟨_,rfl⟩;rw[<-hE] at hpush;obtain⟨w2,hw2⟩:∃w2,w2={w with heap:=w.heap.setIfInBounds N (.map E (l.length+1))}:=⟨_,rfl⟩;have hrun:(Instr.mapUpdate t (.map (sO N)) (.int .i64 k) (uM N l.length (k,wd,ps))).run P w=.ok () w2:=by
  simp only[Instr.mapUpdate,Sem.run_bind,run_underlying ht,MapKept.run_getObj_map hmap,hc,MapKept.run_findKey hk hf,hpush,MapKept.run_setObj_map _ hmap,Result.andThen,hw2]
 have hset:=MapKept.heap_set (o':=.map E (l.length+1)) hmap;have h2:w2.heap=w.heap.setIfInBounds N (.map E (l.length+1)):=by rw[hw2]
 unfold Oper.wp;simp[execOp,hop,hm,hx,hv,hrun,Result.andThen];refine hK' _ _ (hK _ ⟨?_,?_⟩ (by rw[h2];simp) ?_)
 ·rw[h2,hset.1,hE];simp
 ·intro j hj hne
  rw[h2,hset.2 (N+1+j) aa];by_cases hjl:j < l.length
  ·rw[j1 hjl] at hne
   simp only[j1 hjl];rw[hsame _ aa];exact hs.parts j hjl hne
  ·have hjl':j=l.length:=by simp at hj;omega
   subst hjl';simp only[List.getElem_append_right (lR _),Nat.sub_self,List.getElem_cons_zero] at hne |-;rw[hw,if_neg hne,<-hsz];exact(MapKept.heap_alloc wx _).1
 ·exact hbw.trans ⟨by rw[hw2],by rw[hw2],by rw[hw2],by rw[h2];simp,λi hi=>by rw[h2];exact hset.2 i (by omega)⟩

def shps:List Shp:=[(1,aQ 1,[0,4]),(2,aQ 2,[0,5]),(3,aQ 3,[0]),(4,aQ 4,[0,1]),(5,aQ 5,[0,1,2]),(6,aQ 6,[0,1,2]),(7,aQ 7,[0,1,2]),(8,aQ 8,[0,1,2]),(9,aQ 9,[0,1,2]),(10,aQ 10,[0,1]),
 (11,aQ 11,[0]),(12,aQ 12,[0,1,7]),(13,aQ 13,[1,7,2]),(14,aQ 14,[0,6]),(15,aQ 15,[1,3]),(16,aQ 16,[3]),(17,aQ 17,[1]),(18,aQ 18,[1]),(19,aQ 19,[])]

theorem i8 (w:World):
  Calls pG 127 #[] w λe w'=>e=Rt (.map (sO w.heap.size))/\ShpAt w.heap.size shps w'/\bl w w':=by
 have hmm:= @run_makeMap pG;have hs0:ShpAt w.heap.size (shps.take 0) (w.alloc (.map #[] 0)):=⟨by simpa[cI] using(MapKept.heap_alloc w (.map #[] 0)).1,λj h=>absurd h ah⟩;have hz0:(w.alloc (.map #[] 0)).heap.size=w.heap.size+1:=ah;have hb0:bl w (w.alloc (.map #[] 0)):=(bR _ _).alloc (lR _) _;go_enter Tryz.func127,Tryz.ntmps127;go_wp2_with (first
  |(refine ba (N:=w.heap.size) (l:=shps.take 0) (wx:=(w.alloc (.map #[] 0))) (w0:=w) (B:=w.heap.size) rfl _ _ _ 179 3 228 rfl Tryz.underlying179 Tryz.underlying3 1 (aQ 1) [0,4] rfl rfl rfl rfl hs0 hz0 hb0 (lR _) aj ?_;intro w1 hs1 hz1 hb1;replace hs1:ShpAt w.heap.size (shps.take 1) w1:=hs1;replace hz1:w1.heap.size=w.heap.size+2:=by simpa[hz0] using hz1)
  |(refine ba (N:=w.heap.size) (l:=shps.take 1) (wx:=w1) (w0:=w) (B:=w.heap.size) rfl _ _ _ 179 3 228 rfl Tryz.underlying179 Tryz.underlying3 2 (aQ 2) [0,5] rfl rfl rfl rfl hs1 hz1 hb1 (lR _) aj ?_;intro w2 hs2 hz2 hb2;replace hs2:ShpAt w.heap.size (shps.take 2) w2:=hs2;replace hz2:w2.heap.size=w.heap.size+3:=by simpa[hz1] using hz2)
  |(refine ba (N:=w.heap.size) (l:=shps.take 2) (wx:=w2) (w0:=w) (B:=w.heap.size) rfl _ _ _ 179 3 228 rfl Tryz.underlying179 Tryz.underlying3 3 (aQ 3) [0] rfl rfl rfl rfl hs2 hz2 hb2 (lR _) aj ?_;intro w3 hs3 hz3 hb3;replace hs3:ShpAt w.heap.size (shps.take 3) w3:=hs3;replace hz3:w3.heap.size=w.heap.size+4:=by simpa[hz2] using hz3)
  |(refine ba (N:=w.heap.size) (l:=shps.take 3) (wx:=w3) (w0:=w) (B:=w.heap.size) rfl _ _ _ 179 3 228 rfl Tryz.underlying179 Tryz.underlying3 4 (aQ 4) [0,1] rfl rfl rfl rfl hs3 hz3 hb3 (lR _) aj ?_;intro w4 hs4 hz4 hb4;replace hs4:ShpAt w.heap.size (shps.take 4) w4:=hs4;replace hz4:w4.heap.size=w.heap.size+5:=by simpa[hz3] using hz4)
  |(refine ba (N:=w.heap.size) (l:=shps.take 4) (wx:=w4) (w0:=w) (B:=w.heap.size) rfl _ _ _ 179 3 228 rfl Tryz.underlying179 Tryz.underlying3 5 (aQ 5) [0,1,2] rfl rfl rfl rfl hs4 hz4 hb4 (lR _) aj ?_;intro w5 hs5 hz5 hb5;replace hs5:ShpAt w.heap.size (shps.take 5) w5:=hs5;replace hz5:w5.heap.size=w.heap.size+6:=by simpa[hz4] using hz5)
  |(refine ba (N:=w.heap.size) (l:=shps.take 5) (wx:=w5) (w0:=w) (B:=w.heap.size) rfl _ _ _ 179 3 228 rfl Tryz.underlying179 Tryz.underlying3 6 (aQ 6) [0,1,2] rfl rfl rfl rfl hs5 hz5 hb5 (lR _) aj ?_;intro w6 hs6 hz6 hb6;replace hs6:ShpAt w.heap.size (shps.take 6) w6:=hs6;replace hz6:w6.heap.size=w.heap.size+7:=by simpa[hz5] using hz6)
  |(refine ba (N:=w.heap.size) (l:=shps.take 6) (wx:=w6) (w0:=w) (B:=w.heap.size) rfl _ _ _ 179 3 228 rfl Tryz.underlying179 Tryz.underlying3 7 (aQ 7) [0,1,2] rfl rfl rfl rfl hs6 hz6 hb6 (lR _) aj ?_;intro w7 hs7 hz7 hb7;replace hs7:ShpAt w.heap.size (shps.take 7) w7:=hs7;replace hz7:w7.heap.size=w.heap.size+8:=by simpa[hz6] using hz7)
  |(refine ba (N:=w.heap.size) (l:=shps.take 7) (wx:=w7) (w0:=w) (B:=w.heap.size) rfl _ _ _ 179 3 228 rfl Tryz.underlying179 Tryz.underlying3 8 (aQ 8) [0,1,2] rfl rfl rfl rfl hs7 hz7 hb7 (lR _) aj ?_;intro w8 hs8 hz8 hb8;replace hs8:ShpAt w.heap.size (shps.take 8) w8:=hs8;replace hz8:w8.heap.size=w.heap.size+9:=by simpa[hz7] using hz8)
  |(refine ba (N:=w.heap.size) (l:=shps.take 8) (wx:=w8) (w0:=w) (B:=w.heap.size) rfl _ _ _ 179 3 228 rfl Tryz.underlying179 Tryz.underlying3 9 (aQ 9) [0,1,2] rfl rfl rfl rfl hs8 hz8 hb8 (lR _) aj ?_;intro w9 hs9 hz9 hb9;replace hs9:ShpAt w.heap.size (shps.take 9) w9:=hs9;replace hz9:w9.heap.size=w.heap.size+10:=by simpa[hz8] using hz9)
  |(refine ba (N:=w.heap.size) (l:=shps.take 9) (wx:=w9) (w0:=w) (B:=w.heap.size) rfl _ _ _ 179 3 228 rfl Tryz.underlying179 Tryz.underlying3 10 (aQ 10) [0,1] rfl rfl rfl rfl hs9 hz9 hb9 (lR _) aj ?_;intro w10 hs10 hz10 hb10;replace hs10:ShpAt w.heap.size (shps.take 10) w10:=hs10;replace hz10:w10.heap.size=w.heap.size+11:=by simpa[hz9] using hz10)
  |(refine ba (N:=w.heap.size) (l:=shps.take 10) (wx:=w10) (w0:=w) (B:=w.heap.size) rfl _ _ _ 179 3 228 rfl Tryz.underlying179 Tryz.underlying3 11 (aQ 11) [0] rfl rfl rfl rfl hs10 hz10 hb10 (lR _) aj ?_;intro w11 hs11 hz11 hb11;replace hs11:ShpAt w.heap.size (shps.take 11) w11:=hs11;replace hz11:w11.heap.size=w.heap.size+12:=by simpa[hz10] using hz11)
  |(refine ba (N:=w.heap.size) (l:=shps.take 11) (wx:=w11) (w0:=w) (B:=w.heap.size) rfl _ _ _ 179 3 228 rfl Tryz.underlying179 Tryz.underlying3 12 (aQ 12) [0,1,7] rfl rfl rfl rfl hs11 hz11 hb11 (lR _) aj ?_;intro w12 hs12 hz12 hb12;replace hs12:ShpAt w.heap.size (shps.take 12) w12:=hs12;replace hz12:w12.heap.size=w.heap.size+13:=by simpa[hz11] using hz12)
  |(refine ba (N:=w.heap.size) (l:=shps.take 12) (wx:=w12) (w0:=w) (B:=w.heap.size) rfl _ _ _ 179 3 228 rfl Tryz.underlying179 Tryz.underlying3 13 (aQ 13) [1,7,2] rfl rfl rfl rfl hs12 hz12 hb12 (lR _) aj ?_;intro w13 hs13 hz13 hb13;replace hs13:ShpAt w.heap.size (shps.take 13) w13:=hs13;replace hz13:w13.heap.size=w.heap.size+14:=by simpa[hz12] using hz13)
  |(refine ba (N:=w.heap.size) (l:=shps.take 13) (wx:=w13) (w0:=w) (B:=w.heap.size) rfl _ _ _ 179 3 228 rfl Tryz.underlying179 Tryz.underlying3 14 (aQ 14) [0,6] rfl rfl rfl rfl hs13 hz13 hb13 (lR _) aj ?_;intro w14 hs14 hz14 hb14;replace hs14:ShpAt w.heap.size (shps.take 14) w14:=hs14;replace hz14:w14.heap.size=w.heap.size+15:=by simpa[hz13] using hz14)
  |(refine ba (N:=w.heap.size) (l:=shps.take 14) (wx:=w14) (w0:=w) (B:=w.heap.size) rfl _ _ _ 179 3 228 rfl Tryz.underlying179 Tryz.underlying3 15 (aQ 15) [1,3] rfl rfl rfl rfl hs14 hz14 hb14 (lR _) aj ?_;intro w15 hs15 hz15 hb15;replace hs15:ShpAt w.heap.size (shps.take 15) w15:=hs15;replace hz15:w15.heap.size=w.heap.size+16:=by simpa[hz14] using hz15)
  |(refine ba (N:=w.heap.size) (l:=shps.take 15) (wx:=w15) (w0:=w) (B:=w.heap.size) rfl _ _ _ 179 3 228 rfl Tryz.underlying179 Tryz.underlying3 16 (aQ 16) [3] rfl rfl rfl rfl hs15 hz15 hb15 (lR _) aj ?_;intro w16 hs16 hz16 hb16;replace hs16:ShpAt w.heap.size (shps.take 16) w16:=hs16;replace hz16:w16.heap.size=w.heap.size+17:=by simpa[hz15] using hz16)
  |(refine ba (N:=w.heap.size) (l:=shps.take 16) (wx:=w16) (w0:=w) (B:=w.heap.size) rfl _ _ _ 179 3 228 rfl Tryz.underlying179 Tryz.underlying3 17 (aQ 17) [1] rfl rfl rfl rfl hs16 hz16 hb16 (lR _) aj ?_;intro w17 hs17 hz17 hb17;replace hs17:ShpAt w.heap.size (shps.take 17) w17:=hs17;replace hz17:w17.heap.size=w.heap.size+18:=by simpa[hz16] using hz17)
  |(refine ba (N:=w.heap.size) (l:=shps.take 17) (wx:=w17) (w0:=w) (B:=w.heap.size) rfl _ _ _ 179 3 228 rfl Tryz.underlying179 Tryz.underlying3 18 (aQ 18) [1] rfl rfl rfl rfl hs17 hz17 hb17 (lR _) aj ?_;intro w18 hs18 hz18 hb18;replace hs18:ShpAt w.heap.size (shps.take 18) w18:=hs18;replace hz18:w18.heap.size=w.heap.size+19:=by simpa[hz17] using hz18)
  |(refine ba (N:=w.heap.size) (l:=shps.take 18) (wx:=w18) (w0:=w) (B:=w.heap.size) rfl _ _ _ 179 3 228 rfl Tryz.underlying179 Tryz.underlying3 19 (aQ 19) [] rfl rfl rfl rfl hs18 hz18 hb18 (lR _) aj ?_;intro w19 hs19 hz19 hb19;replace hs19:ShpAt w.heap.size (shps.take 19) w19:=hs19;replace hz19:w19.heap.size=w.heap.size+19:=by simpa[hz18] using hz19))
 go_ret;exact⟨rfl,hs19,hb19⟩

theorem ShpAt.below {B N:Nat}{l:List Shp}{w w':World}(h:ShpAt N l w)(hb:Below B w w')(hB:w.heap.size<=B):ShpAt N l w':=by
 have lt:∀{i:Nat} {o:Obj},w.heap[i]? =sO o->i < w.heap.size:=λh=>(Array.getElem?_eq_some_iff.1 h).1;exact⟨by rw[hb.block _ (by have:=lt h.map;omega)];exact h.map,λj hj hne=>by rw[hb.block _ (by have:=lt (h.parts j hj hne);omega)];exact h.parts j hj hne⟩

theorem Kg {P:Program}{N:Nat}{w:World}{es:Array MapEntry}{clock:Nat}(t kt et:TypeId)(ht:P.underlying t=sO (.map kt et))(hk:P.underlying kt=sO (.int .i64))(hmap:w.heap[N]? =sO (.map es clock))
  (k:Int)(i:Nat)(v:Value)(hf:Instr.findNow (.int .i64) (.int .i64 k) es.toList 0=sO (sO (i,v))):(Instr.lookup t (.map (sO N)) (.int .i64 k) true).run P w=.ok (Tu #[v,Bb true]) w:=by
 have hc:∀e,(Instr.checkKey e 10000 kt (.int .i64 k)).run P w=.ok () w:=λe=>MapKept.run_checkKey (k:=.int .i64 k) hk rfl e 9999;simp[Instr.lookup,run_underlying ht,MapKept.run_getObj_map hmap,hc,MapKept.run_findKey hk hf,Result.andThen]

theorem yc {P:Program}{N:Nat}{w:World}{es:Array MapEntry}{clock:Nat}(t kt et:TypeId)(ht:P.underlying t=sO (.map kt et))(hk:P.underlying kt=sO (.int .i64))(hmap:w.heap[N]? =sO (.map es clock))
  (z:Value)(hz:(zeroValue et).run P w=.ok z w)(k:Int)(hf:Instr.findNow (.int .i64) (.int .i64 k) es.toList 0=sO nO):(Instr.lookup t (.map (sO N)) (.int .i64 k) true).run P w=.ok (Tu #[z,Bb false]) w:=by
 have hc:∀e,(Instr.checkKey e 10000 kt (.int .i64 k)).run P w=.ok () w:=λe=>MapKept.run_checkKey (k:=.int .i64 k) hk rfl e 9999;simp[Instr.lookup,run_underlying ht,MapKept.run_getObj_map hmap,hc,MapKept.run_findKey hk hf,hz,Result.andThen]

theorem Hu (w:World):(zeroValue 228).run pG w=.ok (Ag #[.string ⟨#[]⟩,U nO 0 0]) w:=ag

theorem Me {N:Nat}{w:World}(h:ShpAt N shps w)(k:Int)(hk:btw k 1 19=false):(Instr.lookup 179 (.map (sO N)) (.int .i64 k) true).run pG w=.ok (Tu #[Ag #[.string ⟨#[]⟩,U nO 0 0],Bb false]) w:=by
 refine yc _ 3 228 Tryz.underlying179 Tryz.underlying3 h.map _ (Hu w) k (rD N k shps 0 0 ?_);have:¬(1<=k/\k<=19):=by simpa[btw] using hk
 intro s hs;simp only[shps,List.mem_cons,List.not_mem_nil,or_false] at hs;rcases hs with rfl|rfl|rfl|rfl|rfl|rfl|rfl|rfl|rfl|rfl|rfl|rfl|rfl|rfl|rfl|rfl|rfl|rfl|rfl<;>simp only<;>omega

theorem cS {N:Nat}{w:World}(h:ShpAt N shps w)(k:Int)(i:Nat)(v:Value)(hf:Instr.findNow (.int .i64) (.int .i64 k) (cI N 0 shps) 0=sO (sO (i,v))):(Instr.lookup 179 (.map (sO N)) (.int .i64 k) true).run pG w=.ok (Tu #[v,Bb true]) w:=
 Kg _ 3 228 Tryz.underlying179 Tryz.underlying3 h.map k i v hf
theorem mE {x:Int}(h1: -9223372036854775808<=x)(h2:x < 9223372036854775808):wrap64 x=x:=by unfold wrap64;omega

theorem Gb {a b:Int}(ha:bd a)(hb:bd b): -4611686018427387904<=a * b/\a * b<=4611686018427387904:=by
 have h1:a.natAbs<=2147483648:=by unfold bd at ha;omega
 have h2:b.natAbs<=2147483648:=by unfold bd at hb;omega
 have h3:(a * b).natAbs<=4611686018427387904:=by rw[Int.natAbs_mul];exact Nat.mul_le_mul h1 h2
 omega

theorem fR {a b:Int}(ha:bd a)(hb:bd b):wrap64 (a+b)=a+b:=by
 unfold bd at ha hb;exact mE aa aa
theorem fW {a b:Int}(ha:bd a)(hb:bd b):wrap64 (a - b)=a - b:=by
 unfold bd at ha hb;exact mE aa aa
theorem fT {a b:Int}(ha:bd a)(hb:bd b):wrap64 (a * b)=a * b:=by
 have:=Gb ha hb;exact mE aa aa

theorem Ma (s t:Sp)(w:World)(hs:s.Ok)(ht:t.Ok):
  Calls pG 228 #[sv s,sv t,.func (.func 229) #[] #[]] w λe w'=>e=Rt (sv (cn 5 s t))/\bl w w':=by
 by_cases h:(s.n||t.n)=true
 ·have:=lE 229 s t w h
  unfold cn;rw[if_pos h];exact this
 ·have e0:cn 5 s t=fL (s.lo+t.lo) (s.lo+t.hi) (s.hi+t.lo) (s.hi+t.hi):=by unfold cn;rw[if_neg h];rfl
  rw[e0];obtain⟨n,lo,hi⟩:=s;obtain⟨n',lo',hi'⟩:=t;cases n with
  |true=>exact absurd rfl h
  |false=>
   cases n' with
   |true=>exact absurd rfl h
   |false=>exact Ea lo hi lo' hi' w (fR hs.1 ht.1) (fR hs.1 ht.2.1) (fR hs.2.1 ht.1) (fR hs.2.1 ht.2.1)

theorem LK (s t:Sp)(w:World)(hs:s.Ok)(ht:t.Ok):
  Calls pG 228 #[sv s,sv t,.func (.func 230) #[] #[]] w λe w'=>e=Rt (sv (cn 6 s t))/\bl w w':=by
 by_cases h:(s.n||t.n)=true
 ·have:=lE 230 s t w h
  unfold cn;rw[if_pos h];exact this
 ·have e0:cn 6 s t=fL (s.lo - t.lo) (s.lo - t.hi) (s.hi - t.lo) (s.hi - t.hi):=by unfold cn;rw[if_neg h];rfl
  rw[e0];obtain⟨n,lo,hi⟩:=s;obtain⟨n',lo',hi'⟩:=t;cases n with
  |true=>exact absurd rfl h
  |false=>
   cases n' with
   |true=>exact absurd rfl h
   |false=>exact Fr lo hi lo' hi' w (fW hs.1 ht.1) (fW hs.1 ht.2.1) (fW hs.2.1 ht.1) (fW hs.2.1 ht.2.1)

theorem LU (s t:Sp)(w:World)(hs:s.Ok)(ht:t.Ok):
  Calls pG 228 #[sv s,sv t,.func (.func 231) #[] #[]] w λe w'=>e=Rt (sv (cn 7 s t))/\bl w w':=by
 by_cases h:(s.n||t.n)=true
 ·have:=lE 231 s t w h
  unfold cn;rw[if_pos h];exact this
 ·have e0:cn 7 s t=fL (s.lo * t.lo) (s.lo * t.hi) (s.hi * t.lo) (s.hi * t.hi):=by unfold cn;rw[if_neg h];rfl
  rw[e0];obtain⟨n,lo,hi⟩:=s;obtain⟨n',lo',hi'⟩:=t;cases n with
  |true=>exact absurd rfl h
  |false=>
   cases n' with
   |true=>exact absurd rfl h
   |false=>exact Fd lo hi lo' hi' w (fT hs.1 ht.1) (fT hs.1 ht.2.1) (fT hs.2.1 ht.1) (fT hs.2.1 ht.2.1)

theorem Mu (k:Int)(s t:Sp)(w:World)(h:bu s t≠0):
  Calls pG 202 #[.int .i64 k,sv s,sv t] w λe w'=>e=Rt (Tu #[sv bD,.int .i64 (bu s t)])/\bl w w':=by
 obtain⟨n,lo,hi⟩:=s;obtain⟨n',lo',hi'⟩:=t;go_enter Tryz.func202,Tryz.ntmps202;go_wp2_with fail;refine(dL ⟨n,lo,hi⟩ ⟨n',lo',hi'⟩ _).mono ?_;rintro e w1 ⟨rfl,hb1⟩;obtain⟨⟨c0,c1,c2⟩,⟨d0,d1,d2⟩,⟨r0,r1,r2⟩,⟨f0,f1,f2⟩,z0,z1,z2⟩:=dR (s:=⟨n,lo,hi⟩) (t:=⟨n',lo',hi'⟩) (r:=bD) hb1 ah;have H1:bl w w1:=(dV ⟨n,lo,hi⟩ ⟨n',lo',hi'⟩ bD w).trans (hb1.mono an);simp only[bD] at r0 r1 r2;clear hb1;go_wp2;refine bodyPost_ret (v:=Tu #[sv bD,.int .i64 (bu ⟨n,lo,hi⟩ ⟨n',lo',hi'⟩)]) CN rfl ⟨rfl,?_⟩;exact((H1.setCell an _).setCell an _).setCell an _

theorem Ln (k:Int)(s t:Sp)(w:World)(h:bu s t=0)(h5:(k==5)=false)(h6:(k==6)=false)(h7:(k==7)=false):
  Calls pG 202 #[.int .i64 k,sv s,sv t] w λe w'=>e=Rt (Tu #[sv bD,.int .i64 6])/\bl w w':=by
 obtain⟨n,lo,hi⟩:=s;obtain⟨n',lo',hi'⟩:=t;go_enter Tryz.func202,Tryz.ntmps202;go_wp2_with fail;refine(dL ⟨n,lo,hi⟩ ⟨n',lo',hi'⟩ _).mono ?_;rintro e w1 ⟨rfl,hb1⟩;obtain⟨⟨c0,c1,c2⟩,⟨d0,d1,d2⟩,⟨r0,r1,r2⟩,⟨f0,f1,f2⟩,z0,z1,z2⟩:=dR (s:=⟨n,lo,hi⟩) (t:=⟨n',lo',hi'⟩) (r:=bD) hb1 ah;have H1:bl w w1:=(dV ⟨n,lo,hi⟩ ⟨n',lo',hi'⟩ bD w).trans (hb1.mono an);simp only[bD] at r0 r1 r2;clear hb1;rw[h];go_wp2;refine bodyPost_ret (v:=Tu #[sv bD,.int .i64 6]) CN rfl ⟨rfl,?_⟩;exact((H1.setCell an _).setCell an _).setCell an _

theorem mN {p:Prop}(h:p:=by
 clear hs ht;obtain⟨n,lo,hi⟩:=s;obtain⟨n',lo',hi'⟩:=t;obtain⟨rn,rlo,rhi⟩:=r;go_enter Tryz.func202,Tryz.ntmps202;go_wp2_with fail;refine(dL ⟨n,lo,hi⟩ ⟨n',lo',hi'⟩ _).mono ?_;rintro e w1 ⟨rfl,hb1⟩;obtain⟨⟨c0,c1,c2⟩,⟨d0,d1,d2⟩,⟨r0,r1,r2⟩,⟨f0,f1,f2⟩,z0,z1,z2⟩:=dR (s:=⟨n,lo,hi⟩) (t:=⟨n',lo',hi'⟩) (r:=bD) hb1 ah;have H1:bl w w1:=(dV ⟨n,lo,hi⟩ ⟨n',lo',hi'⟩ bD w).trans (hb1.mono an);simp only[bD] at r0 r1 r2;clear hb1;rw[h];go_wp2_with fail;refine(hR _).mono ?_;rintro e w2 ⟨rfl,hb2⟩;have g0:=r0;have g1:=r1;have g2:=r2;have k0:=f0;have k1:=f1;have k2:=f2
 rw[<-hb2.cell z2] at g0 g1 g2;rw[<-hb2.frozen z2] at k0 k1 k2;have H2:bl w w2:=H1.trans (hb2.mono aa);clear r0 r1 r2 f0 f1 f2 hb2 c0 c1 c2 d0 d1 d2 hR;go_wp2;refine bodyPost_ret (v:=.tuple #[sv ⟨rn,rlo,rhi⟩,.int .i64 0]) (by simp[results,Tryz.results202,go_sem,g0,g1,g2]) rfl ⟨rfl,?_⟩;exact((H2.setCell an _).setCell an _).setCell an _):p:=h
theorem My (s t:Sp)(w:World)(h:bu s t=0):
  Calls pG 202 #[.int .i64 5,sv s,sv t] w λe w'=>e=Rt (Tu #[sv (cn 5 s t),.int .i64 0])/\bl w w':=by
 obtain⟨hs,ht⟩:=ckSps_ok.1 h;have hR:=λw=>Ma s t w hs ht;generalize cn 5 s t=r at hR |-;exact mN

theorem MD (s t:Sp)(w:World)(h:bu s t=0):
  Calls pG 202 #[.int .i64 6,sv s,sv t] w λe w'=>e=Rt (Tu #[sv (cn 6 s t),.int .i64 0])/\bl w w':=by
 obtain⟨hs,ht⟩:=ckSps_ok.1 h;have hR:=λw=>LK s t w hs ht;generalize cn 6 s t=r at hR |-;exact mN

theorem Mw (s t:Sp)(w:World)(h:bu s t=0):
  Calls pG 202 #[.int .i64 7,sv s,sv t] w λe w'=>e=Rt (Tu #[sv (cn 7 s t),.int .i64 0])/\bl w w':=by
 obtain⟨hs,ht⟩:=ckSps_ok.1 h;have hR:=λw=>LU s t w hs ht;generalize cn 7 s t=r at hR |-;exact mN

def fM (k:Int)(s t:Sp):Int:=if bu s t=0 then(if k=5\/k=6\/k=7 then 0 else 6) else bu s t

theorem AV (k:Int)(s t:Sp)(w:World):
  Calls pG 202 #[.int .i64 k,sv s,sv t] w λe w'=>e=Rt (Tu #[sv (dW (fM k s t) (cn k s t)),.int .i64 (fM k s t)])/\bl w w':=by
 by_cases h:bu s t=0
 ·by_cases hk:k=5\/k=6\/k=7
  ·have e0:fM k s t=0:=by unfold fM;rw[if_pos h,if_pos hk]
   rw[e0];rcases hk with rfl|rfl|rfl
   ·exact My s t w h
   ·exact MD s t w h
   ·exact Mw s t w h
  ·have e0:fM k s t=6:=by unfold fM;rw[if_pos h,if_neg hk]
   rw[e0];exact Ln k s t w h an an an
 ·have e0:fM k s t=bu s t:=by unfold fM;rw[if_neg h]
  rw[e0];unfold dW;rw[if_neg h];exact Mu k s t w h
theorem Kl (k:Int)(s t:Sp)(w:World)(h:(s.n||t.n)=true):
  Calls pG 172 #[.int .i64 k,sv s,sv t] w λe w'=>e=Rt (sv ⟨true,0,0⟩)/\bl w w':=by
 obtain⟨n,lo,hi⟩:=s;obtain⟨n',lo',hi'⟩:=t;cases n with
 |true=>
  go_enter Tryz.func172,Tryz.ntmps172;go_wp2
  go_returns
  exact⟨rfl,ai⟩
 |false=>
  cases n' with
  |true=>
   go_enter Tryz.func172,Tryz.ntmps172;go_wp2
   go_returns
   exact⟨rfl,ai⟩
  |false=>exact absurd h ah

theorem ii {w:World}{B:Nat}{e:TypeId}{z:Nat}{v:Value}{n:Nat}{xs:List Value}(h:w.ownsRow B e z v n xs){k:Nat}(hk:v.ownBlock=sO k):B<=k:=by
 rcases h.2 with⟨rfl,_⟩|⟨g,cap,cur,rfl,hb,hg,_⟩
 ·cases hk
 ·cases hk
  exact hb

theorem Tryz.info_intS:(Tryz.prog.info? 3).map (λi=>(i.zero,i.size,i.bytes))=sO (sO (.int .i64 0),1,8):=ag

theorem Bk {P:Program}{t:TypeId}{z:Option Value}{a b:Nat}(h:(P.info? t).map (λi=>(i.zero,i.size,i.bytes))=sO (z,a,b)):∃i,P.info? t=sO i/\i.zero=z/\i.size=a/\i.bytes=b:=by
 cases hi:P.info? t with
 |none=>rw[hi] at h;cases h
 |some i=>
  rw[hi] at h;simp only[Option.map_some,Option.some.injEq,Prod.mk.injEq] at h;exact⟨i,rfl,h.1,h.2.1,h.2.2⟩

theorem Ir (a b c d:Int):dw a b c d<=dy a b c d:=by unfold dw dy;omega
theorem LX {a b c d:Int}(h:cu ⟨false,dw a b c d,dy a b c d⟩=0):fL a b c d=⟨false,dw a b c d,dy a b c d⟩:=by
 have:=ckSp_ok.1 h;exact DI this.1 this.2.1
theorem Dy {a b c d:Int}(h:cu ⟨false,dw a b c d,dy a b c d⟩≠0):fL a b c d=⟨false,-2147483648,2147483647⟩:=by
 unfold fL;refine if_neg λhc=>h (ckSp_ok.2 ⟨hc.1,hc.2,(λhn=>by cases hn),Ir a b c d⟩)

theorem mT (w:World)(v:Value)(t:TypeId):∀j u,[v][j]? =sO u->(w.alloc (Cc #[v] t)).drew.cell? ((⟨w.heap.size,0,nO⟩:Addr).add j)=sO u:=by
 intro j u hu;have hadd:(⟨w.heap.size,0,nO⟩:Addr).add j=⟨w.heap.size,j,nO⟩:=vN;rw[hadd];have:(w.alloc (Cc #[v] t)).drew.cell? ⟨w.heap.size,j,nO⟩=#[v][j]? :=aV;rw[this];simpa using hu
theorem tP {p:Prop}(h:p:=by
 go_wp2;go_loopw [7,11] (λl k wr=>∃J:Nat,J<=2/\k=.int .i64 J/\wr.ownsRow W.heap.size 3 1 l (0+J) (([a,b,c,d].take (0+J)).map (.int .i64))/\bl W wr) (λ_ k _=>2 - (intOf k).toNat)
 case atStart=>exact⟨0,aa,rfl,hown,hbr⟩
 case round=>
  obtain⟨J,hJ,rfl,hown1,hbr1⟩:=hrel;clear hown hbr;rcases (by omega:J=0\/J=1\/J=2) with rfl|rfl|rfl
  ·go_wp2
   go_region_held_law (λw'=>w'.cell? ⟨ga,0,none⟩=some (.int .i64 lo)/\w'.cell? ⟨gb,0,none⟩=some (.int .i64 lo'))
    (first|exact K00 _ hbr1.drew|exact K00 _ (hbr1.alloc hbr1.size _).drew|exact K00 _ HBn)
    (first
     |(refine step_append_lies _ rfl _ _ 34 rfl W.heap.size 3 ti (.int .i64 0) 1 8 Tryz.underlying34 hi0 hz0 hz1 hz2 rfl aj _ _ _ rfl ((hown1.alloc _).drew) ⟨wr.heap.size,0,none⟩ 1 1 [.int .i64 a] rfl rfl (mT _ _ _) (λx hx=>mf) aj dg aa g9 _ rfl ?_;intro g1 cap1 wn hownn hgrown hatn hltn;have HBn:bl W wn:=(hbr1.alloc hbr1.size _).drew.grown hgrown g9 (λj hj=>ii hown1 hj)))
   go_wp2;go_roundw
   case rel=>exact⟨1,aa,rfl,hownn,HBn⟩
   case measure=>simp[intOf]
  ·go_wp2
   go_region_held_law (λw'=>w'.cell? ⟨ga,0,none⟩=some (.int .i64 lo)/\w'.cell? ⟨gb,1,none⟩=some (.int .i64 hi'))
    (first|exact K01 _ hbr1.drew|exact K01 _ (hbr1.alloc hbr1.size _).drew|exact K01 _ HBn)
    (first
     |(refine step_append_lies _ rfl _ _ 34 rfl W.heap.size 3 ti (.int .i64 0) 1 8 Tryz.underlying34 hi0 hz0 hz1 hz2 rfl aj _ _ _ rfl ((hown1.alloc _).drew) ⟨wr.heap.size,0,none⟩ 1 1 [.int .i64 b] rfl rfl (mT _ _ _) (λx hx=>mf) aj dg aa g9 _ rfl ?_;intro g1 cap1 wn hownn hgrown hatn hltn;have HBn:bl W wn:=(hbr1.alloc hbr1.size _).drew.grown hgrown g9 (λj hj=>ii hown1 hj)))
   go_wp2;go_roundw
   case rel=>exact⟨2,aa,rfl,hownn,HBn⟩
   case measure=>simp[intOf]
  ·go_wp2
   go_roundw
   case rel=>exact⟨1,aa,rfl,hown1,hbr1⟩
   case measure=>simp[intOf]):p:=h
theorem ut {p:Prop}(h:p:=by
 go_wp2;go_loopw [7,11] (λl k wr=>∃J:Nat,J<=2/\k=.int .i64 J/\wr.ownsRow W.heap.size 3 1 l (2+J) (([a,b,c,d].take (2+J)).map (.int .i64))/\bl W wr) (λ_ k _=>2 - (intOf k).toNat)
 case atStart=>exact⟨0,aa,rfl,hown,hbr⟩
 case round=>
  obtain⟨J,hJ,rfl,hown1,hbr1⟩:=hrel;clear hown hbr;rcases (by omega:J=0\/J=1\/J=2) with rfl|rfl|rfl
  ·go_wp2
   go_region_held_law (λw'=>w'.cell? ⟨ga,1,none⟩=some (.int .i64 hi)/\w'.cell? ⟨gb,0,none⟩=some (.int .i64 lo'))
    (first|exact K10 _ hbr1.drew|exact K10 _ (hbr1.alloc hbr1.size _).drew|exact K10 _ HBn)
    (first
     |(refine step_append_lies _ rfl _ _ 34 rfl W.heap.size 3 ti (.int .i64 0) 1 8 Tryz.underlying34 hi0 hz0 hz1 hz2 rfl aj _ _ _ rfl ((hown1.alloc _).drew) ⟨wr.heap.size,0,none⟩ 1 1 [.int .i64 c] rfl rfl (mT _ _ _) (λx hx=>mf) aj dg aa g9 _ rfl ?_;intro g1 cap1 wn hownn hgrown hatn hltn;have HBn:bl W wn:=(hbr1.alloc hbr1.size _).drew.grown hgrown g9 (λj hj=>ii hown1 hj)))
   go_wp2;go_roundw
   case rel=>exact⟨1,aa,rfl,hownn,HBn⟩
   case measure=>simp[intOf]
  ·go_wp2
   go_region_held_law (λw'=>w'.cell? ⟨ga,1,none⟩=some (.int .i64 hi)/\w'.cell? ⟨gb,1,none⟩=some (.int .i64 hi'))
    (first|exact K11 _ hbr1.drew|exact K11 _ (hbr1.alloc hbr1.size _).drew|exact K11 _ HBn)
    (first
     |(refine step_append_lies _ rfl _ _ 34 rfl W.heap.size 3 ti (.int .i64 0) 1 8 Tryz.underlying34 hi0 hz0 hz1 hz2 rfl aj _ _ _ rfl ((hown1.alloc _).drew) ⟨wr.heap.size,0,none⟩ 1 1 [.int .i64 d] rfl rfl (mT _ _ _) (λx hx=>mf) aj dg aa g9 _ rfl ?_;intro g1 cap1 wn hownn hgrown hatn hltn;have HBn:bl W wn:=(hbr1.alloc hbr1.size _).drew.grown hgrown g9 (λj hj=>ii hown1 hj)))
   go_wp2;go_roundw
   case rel=>exact⟨2,aa,rfl,hownn,HBn⟩
   case measure=>simp[intOf]
  ·go_wp2
   go_roundw
   case rel=>exact⟨2,aa,rfl,hown1,hbr1⟩
   case measure=>simp[intOf]):p:=h
theorem sx {p:Prop}(h:p:=by
 have hH:=LX hc;generalize dw a b c d=mn at *;generalize dy a b c d=mx at *;go_wp2;refine bodyPost_ret (v:=sv ⟨false,mn,mx⟩) vI rfl ⟨by rw[hH],?_⟩;exact((H5.setCell an _).setCell an _).setCell an _):p:=h
theorem tM {p:Prop}(h:p:=by
 intro wx hb;rw[hb.cell ah,hb.cell ah,hb.cell ah,hb.frozen ah,hb.frozen ah,hb.frozen ah];simp[go_sem]):p:=h
theorem mH {p:Prop}(h:p:=by
 obtain⟨ti,hi0,hz0,hz1,hz2⟩:=Bk Tryz.info_intS;go_enter Tryz.func172,Tryz.ntmps172;go_wp2;go_region_held3 (λw'=>w'.cell? ⟨w.heap.size,1,none⟩=some (.int .i64 lo)/\w'.cell? ⟨w.heap.size,2,none⟩=some (.int .i64 hi)/\w'.cell? ⟨w.heap.size+1,1,none⟩=some (.int .i64 lo')/\w'.cell? ⟨w.heap.size+1,2,none⟩=some (.int .i64 hi')) (simp[go_sem])
  (fail)
 ·have HB:Below w.heap.size w ((((((w.alloc (.cells #[.bool false,.int .i64 lo,.int .i64 hi] 89)).alloc (.cells #[.bool false,.int .i64 lo',.int .i64 hi'] 89)).alloc (.cells #[.bool false,.int .i64 0,.int .i64 0] 89)).alloc (.cells #[.int .i64 lo,.int .i64 hi] 3)).alloc (.cells #[.int .i64 lo',.int .i64 hi'] 3)).drew):=by go_grown
  have f0:((((((w.alloc (.cells #[.bool false,.int .i64 lo,.int .i64 hi] 89)).alloc (.cells #[.bool false,.int .i64 lo',.int .i64 hi'] 89)).alloc (.cells #[.bool false,.int .i64 0,.int .i64 0] 89)).alloc (.cells #[.int .i64 lo,.int .i64 hi] 3)).alloc (.cells #[.int .i64 lo',.int .i64 hi'] 3)).drew).cell? ⟨w.heap.size+1+1+1,0,none⟩=some (.int .i64 lo):=aV;have f1:((((((w.alloc (.cells #[.bool false,.int .i64 lo,.int .i64 hi] 89)).alloc (.cells #[.bool false,.int .i64 lo',.int .i64 hi'] 89)).alloc (.cells #[.bool false,.int .i64 0,.int .i64 0] 89)).alloc (.cells #[.int .i64 lo,.int .i64 hi] 3)).alloc (.cells #[.int .i64 lo',.int .i64 hi'] 3)).drew).cell? ⟨w.heap.size+1+1+1,1,none⟩=some (.int .i64 hi):=aV;have f2:((((((w.alloc (.cells #[.bool false,.int .i64 lo,.int .i64 hi] 89)).alloc (.cells #[.bool false,.int .i64 lo',.int .i64 hi'] 89)).alloc (.cells #[.bool false,.int .i64 0,.int .i64 0] 89)).alloc (.cells #[.int .i64 lo,.int .i64 hi] 3)).alloc (.cells #[.int .i64 lo',.int .i64 hi'] 3)).drew).cell? ⟨w.heap.size+1+1+1+1,0,none⟩=some (.int .i64 lo'):=aV;have f3:((((((w.alloc (.cells #[.bool false,.int .i64 lo,.int .i64 hi] 89)).alloc (.cells #[.bool false,.int .i64 lo',.int .i64 hi'] 89)).alloc (.cells #[.bool false,.int .i64 0,.int .i64 0] 89)).alloc (.cells #[.int .i64 lo,.int .i64 hi] 3)).alloc (.cells #[.int .i64 lo',.int .i64 hi'] 3)).drew).cell? ⟨w.heap.size+1+1+1+1,1,none⟩=some (.int .i64 hi'):=aV;have zz:((((((w.alloc (.cells #[.bool false,.int .i64 lo,.int .i64 hi] 89)).alloc (.cells #[.bool false,.int .i64 lo',.int .i64 hi'] 89)).alloc (.cells #[.bool false,.int .i64 0,.int .i64 0] 89)).alloc (.cells #[.int .i64 lo,.int .i64 hi] 3)).alloc (.cells #[.int .i64 lo',.int .i64 hi'] 3)).drew).heap.size=w.heap.size+5:=ah;have za:w.heap.size+1+1+1 < ((((((w.alloc (.cells #[.bool false,.int .i64 lo,.int .i64 hi] 89)).alloc (.cells #[.bool false,.int .i64 lo',.int .i64 hi'] 89)).alloc (.cells #[.bool false,.int .i64 0,.int .i64 0] 89)).alloc (.cells #[.int .i64 lo,.int .i64 hi] 3)).alloc (.cells #[.int .i64 lo',.int .i64 hi'] 3)).drew).heap.size:=ah;have zb:w.heap.size+1+1+1+1 < ((((((w.alloc (.cells #[.bool false,.int .i64 lo,.int .i64 hi] 89)).alloc (.cells #[.bool false,.int .i64 lo',.int .i64 hi'] 89)).alloc (.cells #[.bool false,.int .i64 0,.int .i64 0] 89)).alloc (.cells #[.int .i64 lo,.int .i64 hi] 3)).alloc (.cells #[.int .i64 lo',.int .i64 hi'] 3)).drew).heap.size:=ah;have KR:∀wx,Below ((((((w.alloc (.cells #[.bool false,.int .i64 lo,.int .i64 hi] 89)).alloc (.cells #[.bool false,.int .i64 lo',.int .i64 hi'] 89)).alloc (.cells #[.bool false,.int .i64 0,.int .i64 0] 89)).alloc (.cells #[.int .i64 lo,.int .i64 hi] 3)).alloc (.cells #[.int .i64 lo',.int .i64 hi'] 3)).drew).heap.size ((((((w.alloc (.cells #[.bool false,.int .i64 lo,.int .i64 hi] 89)).alloc (.cells #[.bool false,.int .i64 lo',.int .i64 hi'] 89)).alloc (.cells #[.bool false,.int .i64 0,.int .i64 0] 89)).alloc (.cells #[.int .i64 lo,.int .i64 hi] 3)).alloc (.cells #[.int .i64 lo',.int .i64 hi'] 3)).drew) wx->wx.cell? ⟨w.heap.size+1+1,0,none⟩=some (.bool false)/\wx.cell? ⟨w.heap.size+1+1,1,none⟩=some (.int .i64 0)/\wx.cell? ⟨w.heap.size+1+1,2,none⟩=some (.int .i64 0)/\wx.frozen? ⟨w.heap.size+1+1,0,none⟩=false/\wx.frozen? ⟨w.heap.size+1+1,1,none⟩=false/\wx.frozen? ⟨w.heap.size+1+1,2,none⟩=false:=by
   exact tM
  generalize ((((((w.alloc (.cells #[.bool false,.int .i64 lo,.int .i64 hi] 89)).alloc (.cells #[.bool false,.int .i64 lo',.int .i64 hi'] 89)).alloc (.cells #[.bool false,.int .i64 0,.int .i64 0] 89)).alloc (.cells #[.int .i64 lo,.int .i64 hi] 3)).alloc (.cells #[.int .i64 lo',.int .i64 hi'] 3)).drew)=W at HB f0 f1 f2 f3 zz za zb KR |-;generalize w.heap.size+1+1+1+1=gb at f2 f3 zb |-;generalize w.heap.size+1+1+1=ga at f0 f1 za |-;have K:∀wx,bl W wx->wx.cell? ⟨ga,0,none⟩=some (.int .i64 lo)/\wx.cell? ⟨ga,1,none⟩=some (.int .i64 hi)/\wx.cell? ⟨gb,0,none⟩=some (.int .i64 lo')/\wx.cell? ⟨gb,1,none⟩=some (.int .i64 hi'):=by
   intro wx hb;rw[hb.cell za,hb.cell za,hb.cell zb,hb.cell zb];exact⟨f0,f1,f2,f3⟩
  have K00:=λwx hb=>(show _/\_ from⟨(K wx hb).1,(K wx hb).2.2.1⟩);have K01:=λwx hb=>(show _/\_ from⟨(K wx hb).1,(K wx hb).2.2.2⟩);have K10:=λwx hb=>(show _/\_ from⟨(K wx hb).2.1,(K wx hb).2.2.1⟩);have K11:=λwx hb=>(show _/\_ from⟨(K wx hb).2.1,(K wx hb).2.2.2⟩);clear K f0 f1 f2 f3;go_wp2;go_loopw [7,10] (λl i wr=>∃I:Nat,I<=2/\i=.int .i64 I/\wr.ownsRow W.heap.size 3 1 l (2 * I) (([a,b,c,d].take (2 * I)).map (.int .i64))/\bl W wr) (λ_ i _=>2 - (intOf i).toNat)
  case atStart=>exact⟨0,aa,rfl,⟨ah,.inl ⟨rfl,ah⟩⟩,Below.refl _ _⟩
  case round=>
   obtain⟨I,hI,rfl,hown,hbr⟩:=hrel;rcases (by omega:I=0\/I=1\/I=2) with rfl|rfl|rfl
   ·rw[show ((0:Nat):Int)=0 from rfl]
    exact tP
   ·rw[show ((1:Nat):Int)=1 from rfl]
    exact ut
   ·clear K00 K01 K10 K11
    rw[show 2 * 2=4 from rfl] at hown;obtain⟨g,cap,rfl,hg1,hg2⟩:=hown.form aa;have q0:=hown.cellAt 0 aa;have q1:=hown.cellAt 1 aa;have q2:=hown.cellAt 2 aa;have q3:=hown.cellAt 3 aa;simp only[List.take,List.map,List.getElem?_cons_zero,List.getElem?_cons_succ] at q0 q1 q2 q3;clear hown;clear h1 h2 h3 h4;go_wp2_with (first
     |(go_at_call 207;refine(Gp _ _ a b c d _ q0 q1 q2 q3).mono ?_;rintro e w' ⟨rfl,rfl⟩)
     |(go_at_call 208;refine(KW _ _ a b c d _ q0 q1 q2 q3).mono ?_;rintro e w' ⟨rfl,rfl⟩)
     |(go_at_call 209;fail))
    refine(nK ⟨false,dw a b c d,dy a b c d⟩ _).mono ?_;rintro e w5 ⟨rfl,hb5⟩;have HB5:bl W w5:=(hbr.alloc hbr.size _).trans (hb5.mono (by simp;have:=hbr.size;omega))
    have H5:bl w w5:=HB.trans (HB5.mono aa);obtain⟨r0,r1,r2,k0,k1,k2⟩:=KR w5 HB5;obtain⟨o0,o1,o2⟩:=rO hb5 ah;have y1:w'.heap.size < w5.heap.size:=by have:=hb5.size;simp at this;omega
    have y2:w.heap.size+1+1 < w'.heap.size:=by have:=hbr.size;omega
    clear KR hb5 HB5 hbr HB q0 q1 q2 q3;by_cases hc:cu ⟨false,dw a b c d,dy a b c d⟩=0
    ·rw[hc]
     exact sx
    ·have hH:=Dy hc
     generalize cu ⟨false,dw a b c d,dy a b c d⟩=ck at *;generalize dw a b c d=mn at *;generalize dy a b c d=mx at *;go_wp2;refine bodyPost_ret (v:=sv ⟨false,-2147483648,2147483647⟩) vI rfl ⟨by rw[hH],?_⟩;exact((H5.setCell an _).setCell an _).setCell an _
 ·have HB:Below w.heap.size w ((((((w.alloc (.cells #[.bool false,.int .i64 lo,.int .i64 hi] 89)).alloc (.cells #[.bool false,.int .i64 lo',.int .i64 hi'] 89)).alloc (.cells #[.bool false,.int .i64 0,.int .i64 0] 89)).alloc (.cells #[.int .i64 lo',.int .i64 hi'] 3)).alloc (.cells #[.int .i64 lo,.int .i64 hi] 3)).drew):=by go_grown
  have f0:((((((w.alloc (.cells #[.bool false,.int .i64 lo,.int .i64 hi] 89)).alloc (.cells #[.bool false,.int .i64 lo',.int .i64 hi'] 89)).alloc (.cells #[.bool false,.int .i64 0,.int .i64 0] 89)).alloc (.cells #[.int .i64 lo',.int .i64 hi'] 3)).alloc (.cells #[.int .i64 lo,.int .i64 hi] 3)).drew).cell? ⟨w.heap.size+1+1+1+1,0,none⟩=some (.int .i64 lo):=aV;have f1:((((((w.alloc (.cells #[.bool false,.int .i64 lo,.int .i64 hi] 89)).alloc (.cells #[.bool false,.int .i64 lo',.int .i64 hi'] 89)).alloc (.cells #[.bool false,.int .i64 0,.int .i64 0] 89)).alloc (.cells #[.int .i64 lo',.int .i64 hi'] 3)).alloc (.cells #[.int .i64 lo,.int .i64 hi] 3)).drew).cell? ⟨w.heap.size+1+1+1+1,1,none⟩=some (.int .i64 hi):=aV;have f2:((((((w.alloc (.cells #[.bool false,.int .i64 lo,.int .i64 hi] 89)).alloc (.cells #[.bool false,.int .i64 lo',.int .i64 hi'] 89)).alloc (.cells #[.bool false,.int .i64 0,.int .i64 0] 89)).alloc (.cells #[.int .i64 lo',.int .i64 hi'] 3)).alloc (.cells #[.int .i64 lo,.int .i64 hi] 3)).drew).cell? ⟨w.heap.size+1+1+1,0,none⟩=some (.int .i64 lo'):=aV;have f3:((((((w.alloc (.cells #[.bool false,.int .i64 lo,.int .i64 hi] 89)).alloc (.cells #[.bool false,.int .i64 lo',.int .i64 hi'] 89)).alloc (.cells #[.bool false,.int .i64 0,.int .i64 0] 89)).alloc (.cells #[.int .i64 lo',.int .i64 hi'] 3)).alloc (.cells #[.int .i64 lo,.int .i64 hi] 3)).drew).cell? ⟨w.heap.size+1+1+1,1,none⟩=some (.int .i64 hi'):=aV;have zz:((((((w.alloc (.cells #[.bool false,.int .i64 lo,.int .i64 hi] 89)).alloc (.cells #[.bool false,.int .i64 lo',.int .i64 hi'] 89)).alloc (.cells #[.bool false,.int .i64 0,.int .i64 0] 89)).alloc (.cells #[.int .i64 lo',.int .i64 hi'] 3)).alloc (.cells #[.int .i64 lo,.int .i64 hi] 3)).drew).heap.size=w.heap.size+5:=ah;have za:w.heap.size+1+1+1+1 < ((((((w.alloc (.cells #[.bool false,.int .i64 lo,.int .i64 hi] 89)).alloc (.cells #[.bool false,.int .i64 lo',.int .i64 hi'] 89)).alloc (.cells #[.bool false,.int .i64 0,.int .i64 0] 89)).alloc (.cells #[.int .i64 lo',.int .i64 hi'] 3)).alloc (.cells #[.int .i64 lo,.int .i64 hi] 3)).drew).heap.size:=ah;have zb:w.heap.size+1+1+1 < ((((((w.alloc (.cells #[.bool false,.int .i64 lo,.int .i64 hi] 89)).alloc (.cells #[.bool false,.int .i64 lo',.int .i64 hi'] 89)).alloc (.cells #[.bool false,.int .i64 0,.int .i64 0] 89)).alloc (.cells #[.int .i64 lo',.int .i64 hi'] 3)).alloc (.cells #[.int .i64 lo,.int .i64 hi] 3)).drew).heap.size:=ah;have KR:∀wx,Below ((((((w.alloc (.cells #[.bool false,.int .i64 lo,.int .i64 hi] 89)).alloc (.cells #[.bool false,.int .i64 lo',.int .i64 hi'] 89)).alloc (.cells #[.bool false,.int .i64 0,.int .i64 0] 89)).alloc (.cells #[.int .i64 lo',.int .i64 hi'] 3)).alloc (.cells #[.int .i64 lo,.int .i64 hi] 3)).drew).heap.size ((((((w.alloc (.cells #[.bool false,.int .i64 lo,.int .i64 hi] 89)).alloc (.cells #[.bool false,.int .i64 lo',.int .i64 hi'] 89)).alloc (.cells #[.bool false,.int .i64 0,.int .i64 0] 89)).alloc (.cells #[.int .i64 lo',.int .i64 hi'] 3)).alloc (.cells #[.int .i64 lo,.int .i64 hi] 3)).drew) wx->wx.cell? ⟨w.heap.size+1+1,0,none⟩=some (.bool false)/\wx.cell? ⟨w.heap.size+1+1,1,none⟩=some (.int .i64 0)/\wx.cell? ⟨w.heap.size+1+1,2,none⟩=some (.int .i64 0)/\wx.frozen? ⟨w.heap.size+1+1,0,none⟩=false/\wx.frozen? ⟨w.heap.size+1+1,1,none⟩=false/\wx.frozen? ⟨w.heap.size+1+1,2,none⟩=false:=by
   exact tM
  generalize ((((((w.alloc (.cells #[.bool false,.int .i64 lo,.int .i64 hi] 89)).alloc (.cells #[.bool false,.int .i64 lo',.int .i64 hi'] 89)).alloc (.cells #[.bool false,.int .i64 0,.int .i64 0] 89)).alloc (.cells #[.int .i64 lo',.int .i64 hi'] 3)).alloc (.cells #[.int .i64 lo,.int .i64 hi] 3)).drew)=W at HB f0 f1 f2 f3 zz za zb KR |-;generalize w.heap.size+1+1+1+1=ga at f0 f1 za |-;generalize w.heap.size+1+1+1=gb at f2 f3 zb |-;have K:∀wx,bl W wx->wx.cell? ⟨ga,0,none⟩=some (.int .i64 lo)/\wx.cell? ⟨ga,1,none⟩=some (.int .i64 hi)/\wx.cell? ⟨gb,0,none⟩=some (.int .i64 lo')/\wx.cell? ⟨gb,1,none⟩=some (.int .i64 hi'):=by
   intro wx hb;rw[hb.cell za,hb.cell za,hb.cell zb,hb.cell zb];exact⟨f0,f1,f2,f3⟩
  have K00:=λwx hb=>(show _/\_ from⟨(K wx hb).1,(K wx hb).2.2.1⟩);have K01:=λwx hb=>(show _/\_ from⟨(K wx hb).1,(K wx hb).2.2.2⟩);have K10:=λwx hb=>(show _/\_ from⟨(K wx hb).2.1,(K wx hb).2.2.1⟩);have K11:=λwx hb=>(show _/\_ from⟨(K wx hb).2.1,(K wx hb).2.2.2⟩);clear K f0 f1 f2 f3;go_wp2;go_loopw [7,10] (λl i wr=>∃I:Nat,I<=2/\i=.int .i64 I/\wr.ownsRow W.heap.size 3 1 l (2 * I) (([a,b,c,d].take (2 * I)).map (.int .i64))/\bl W wr) (λ_ i _=>2 - (intOf i).toNat)
  case atStart=>exact⟨0,aa,rfl,⟨ah,.inl ⟨rfl,ah⟩⟩,Below.refl _ _⟩
  case round=>
   obtain⟨I,hI,rfl,hown,hbr⟩:=hrel;rcases (by omega:I=0\/I=1\/I=2) with rfl|rfl|rfl
   ·rw[show ((0:Nat):Int)=0 from rfl]
    exact tP
   ·rw[show ((1:Nat):Int)=1 from rfl]
    exact ut
   ·clear K00 K01 K10 K11
    rw[show 2 * 2=4 from rfl] at hown;obtain⟨g,cap,rfl,hg1,hg2⟩:=hown.form aa;have q0:=hown.cellAt 0 aa;have q1:=hown.cellAt 1 aa;have q2:=hown.cellAt 2 aa;have q3:=hown.cellAt 3 aa;simp only[List.take,List.map,List.getElem?_cons_zero,List.getElem?_cons_succ] at q0 q1 q2 q3;clear hown;clear h1 h2 h3 h4;go_wp2_with (first
     |(go_at_call 207;refine(Gp _ _ a b c d _ q0 q1 q2 q3).mono ?_;rintro e w' ⟨rfl,rfl⟩)
     |(go_at_call 208;refine(KW _ _ a b c d _ q0 q1 q2 q3).mono ?_;rintro e w' ⟨rfl,rfl⟩)
     |(go_at_call 209;fail))
    refine(nK ⟨false,dw a b c d,dy a b c d⟩ _).mono ?_;rintro e w5 ⟨rfl,hb5⟩;have HB5:bl W w5:=(hbr.alloc hbr.size _).trans (hb5.mono (by simp;have:=hbr.size;omega))
    have H5:bl w w5:=HB.trans (HB5.mono aa);obtain⟨r0,r1,r2,k0,k1,k2⟩:=KR w5 HB5;obtain⟨o0,o1,o2⟩:=rO hb5 ah;have y1:w'.heap.size < w5.heap.size:=by have:=hb5.size;simp at this;omega
    have y2:w.heap.size+1+1 < w'.heap.size:=by have:=hbr.size;omega
    clear KR hb5 HB5 hbr HB q0 q1 q2 q3;by_cases hc:cu ⟨false,dw a b c d,dy a b c d⟩=0
    ·rw[hc]
     exact sx
    ·have hH:=Dy hc
     generalize cu ⟨false,dw a b c d,dy a b c d⟩=ck at *;generalize dw a b c d=mn at *;generalize dy a b c d=mx at *;go_wp2;refine bodyPost_ret (v:=sv ⟨false,-2147483648,2147483647⟩) vI rfl ⟨by rw[hH],?_⟩;exact((H5.setCell an _).setCell an _).setCell an _):p:=h
end
end Go.Proofs.YtmapdpcfanecdabGreatDoor
