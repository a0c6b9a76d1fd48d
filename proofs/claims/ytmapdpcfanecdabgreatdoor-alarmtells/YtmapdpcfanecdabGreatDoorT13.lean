import Derived.Test.YtmapdpcfanecdabGreatDoorT05
import Derived.Test.YtmapdpcfanecdabGreatDoorT06
import Derived.MapKept
import Derived.Test.YtmapdpcfanecdabGreatDoorT08
import Derived.Deep.RegionHeldLaw
import Derived.Test.YtmapdpcfanecdabGreatDoorT12
open Go.Ending renaming returned→Rt
open Go.IntKind renaming i64→j0
open Go.Obj renaming cells→Cc
open Go.Proofs.Tryz renaming prog→pG
open Go.RowKit.Below renaming refl→bR
open Go.Value renaming agg→Ag,bool→Bb,slice→U,tuple→Tu
open Go.World renaming cell?_drew→j3,size_alloc→zA
open List renaming getElem_append_left→j4
open Nat renaming le_refl→lR,zero_add→j2
open Option renaming none→nO,some→sO
set_option linter.unusedSimpArgs false
set_option linter.unusedVariables false
set_option maxHeartbeats 16000000
set_option maxRecDepth 100000
namespace Go.Proofs.YtmapdpcfanecdabGreatDoor
section
open Go.RowKit
theorem yW (V F:Int)(s:oA)(len cap:Nat)(i:Ins)(w:World)(hV:1<=V)(hV':V<=8)(hF:0<=F)(hF':F<=3)(hL:len<=60):
  Calls pG 58 #[Ag #[.int .i64 V,.int .i64 F,U s len cap],Ag #[.int .i64 i.k,.int .i64 i.tgt,.int .i64 i.a,.int .i64 i.b,.int .i64 i.n,.int .i64 i.g]] w λe w'=>e=Rt (.int .i64 (bk V F len i))/\bl w w':=by
 obtain⟨k,tto,a,b,n,g⟩:=i;by_cases h:btw k 1 19=true
 ·rcases oF h with rfl|rfl|rfl|rfl|rfl|rfl|rfl|rfl|rfl|rfl|rfl|rfl|rfl|rfl|rfl|rfl|rfl|rfl|rfl
  ·exact Eg V F s len cap tto a b n g w hV hV' hF hF' hL
  ·exact Fg V F s len cap tto a b n g w hV hV' hF hF' hL
  ·exact Fh V F s len cap tto a b n g w hV hV' hF hF' hL
  ·exact Fb V F s len cap tto a b n g w hV hV' hF hF' hL
  ·exact DI V F s len cap tto a b n g w hV hV' hF hF' hL
  ·exact Fk V F s len cap tto a b n g w hV hV' hF hF' hL
  ·exact Fu V F s len cap tto a b n g w hV hV' hF hF' hL
  ·exact Eu V F s len cap tto a b n g w hV hV' hF hF' hL
  ·exact Fz V F s len cap tto a b n g w hV hV' hF hF' hL
  ·exact Bw V F s len cap tto a b n g w hV hV' hF hF' hL
  ·exact Bg V F s len cap tto a b n g w hV hV' hF hF' hL
  ·exact Ci V F s len cap tto a b n g w hV hV' hF hF' hL
  ·exact Bm V F s len cap tto a b n g w hV hV' hF hF' hL
  ·exact Cb V F s len cap tto a b n g w hV hV' hF hF' hL
  ·exact Cd V F s len cap tto a b n g w hV hV' hF hF' hL
  ·exact BJ V F s len cap tto a b n g w hV hV' hF hF' hL
  ·exact Br V F s len cap tto a b n g w hV hV' hF hF' hL
  ·exact AY V F s len cap tto a b n g w hV hV' hF hF' hL
  ·exact Bt V F s len cap tto a b n g w hV hV' hF hF' hL
 ·exact Bs V F s len cap k tto a b n g w hV hV' hF hF' hL cl

theorem sk {V F L:Int}{c:List Ins}{k:Nat}(h:k < c.length):eI V F L (c.drop k)=if bk V F L c[k]=0 then eI V F L (c.drop (k+1)) else bk V F L c[k]:=by
 rw[List.drop_eq_getElem_cons h];rfl

theorem pU (V F:Int)(b off cap:Nat)(c:List Ins)(w:World)(hV:1<=V)(hV':V<=8)(hF:0<=F)(hF':F<=3)(hL:c.length<=60)(hb:b < w.heap.size)(hc:∀k (h:k < c.length),InsAt w b (off+k * 6) c[k]):
  Calls pG 22 #[Ag #[.int .i64 V,.int .i64 F,U (sO ⟨b,off,nO⟩) c.length cap]] w λe w'=>e=Rt (.int .i64 (eI V F c.length c))/\bl w w':=by
 have t1:btw V 1 8=true:=fi hV hV';have t2:btw F 0 3=true:=fi hF hF';go_enter Tryz.func22,Tryz.ntmps22;go_wp2_with (go_at_call 57;refine(dB _ _ _ _).mono ?_;rintro e w' ⟨rfl,rfl⟩);go_loopw [3] (λi wr=>∃k:Nat,k<=c.length/\i=.int .i64 k/\Below (w.heap.size+1) (w.alloc (Cc #[.int .i64 V,.int .i64 F,U (sO ⟨b,off,nO⟩) c.length cap] 24)) wr/\Hid (eI V F c.length (c.drop k)=eI V F c.length c)) (λi _=>c.length - (intOf i).toNat)
 case atStart=>exact⟨0,Nat.zero_le _,rfl,bR _ _,rfl⟩
 case round=>
  obtain⟨k,hk,rfl,hbr,HR⟩:=hrel;have q0:wr.cell? ⟨w.heap.size,0,nO⟩=sO (.int .i64 V):=vo;have q1:wr.cell? ⟨w.heap.size,1,nO⟩=sO (.int .i64 F):=vo;have q2:wr.cell? ⟨w.heap.size,2,nO⟩=sO (U (sO ⟨b,off,nO⟩) c.length cap):=vo;have s1:w.heap.size < wr.heap.size:=by have:=hbr.size;simp at this;omega
  have s2:b < wr.heap.size:=aa;by_cases hlt:k < c.length
  ·have hi:InsAt wr b (off+k * 6) c[k]:=((hc k hlt).below (Below.alloc (bR w.heap.size w) (lR _) _) hb).below hbr aa
   obtain⟨i0,i1,i2,i3,i4,i5⟩:=hi;have n0:(0:Int)<=(k:Int):=aa;have n1:(k:Int) < (c.length:Int):=aa;go_wp2;go_region_held3 (λw'=>w'.cell? ⟨w.heap.size,0,nO⟩=sO (.int .i64 V)/\w'.cell? ⟨w.heap.size,1,nO⟩=sO (.int .i64 F)/\w'.cell? ⟨w.heap.size,2,nO⟩=sO (U (sO ⟨b,off,nO⟩) c.length cap)
    /\w'.cell? ⟨b,off+k * 6,nO⟩=sO (.int .i64 c[k].k)/\w'.cell? ⟨b,off+k * 6+1,nO⟩=sO (.int .i64 c[k].tgt)/\w'.cell? ⟨b,off+k * 6+2,nO⟩=sO (.int .i64 c[k].a)/\w'.cell? ⟨b,off+k * 6+3,nO⟩=sO (.int .i64 c[k].b)/\w'.cell? ⟨b,off+k * 6+4,nO⟩=sO (.int .i64 c[k].n)/\w'.cell? ⟨b,off+k * 6+5,nO⟩=sO (.int .i64 c[k].g))
    (first|(simp only[j3,q0,q1,q2,i0,i1,i2,i3,i4,i5,and_self];done)|(simp only[hc1 _ _ (show _ < wr.drew.heap.size from s1),hc1 _ _ (show b < wr.drew.heap.size from s2),j3,q0,q1,q2,i0,i1,i2,i3,i4,i5,and_self];done))
    ((go_at_call 58;refine(yW V F _ _ _ c[k] _ hV hV' hF hF' hL).mono ?_;rintro e w1 ⟨rfl,hb1⟩;obtain⟨hc1,hf1⟩:=yD hb1))
   clear hc1 hf1;have HB:Below (w.heap.size+1) (w.alloc (Cc #[.int .i64 V,.int .i64 F,U (sO ⟨b,off,nO⟩) c.length cap] 24)) w1:=hbr.drew.trans (Below.mono hb1 (show w.heap.size+1<=wr.heap.size by omega));have HS:=sk (V:=V) (F:=F) (L:=c.length) hlt;by_cases hz:bk V F c.length c[k]=0
   ·rw[hz]
    go_wp2;go_roundw
    case rel=>exact⟨k+1,aa,aJ,HB,by have:=HR.out;rw[HS,if_pos hz] at this;exact this⟩
    case measure=>simp[intOf];omega
   ·rw[if_neg hz] at HS
    have hz':(bk V F c.length c[k]!=0)=true:=d7;go_wp2;go_ret;exact⟨bP (by have:=HR.out;rw[HS] at this;exact this),(Below.alloc (bR _ _) (lR _) _).trans (HB.mono aa)⟩
  ·go_wp2
   go_ret;exact⟨bP Dg,(Below.alloc (bR _ _) (lR _) _).trans (hbr.mono aa)⟩

theorem rN (V F:Int)(s:oA)(cap:Nat)(w:World)(hV:1<=V)(hV':V<=8)(hF:0<=F)(hF':F<=3):
  Calls pG 22 #[Ag #[.int .i64 V,.int .i64 F,U s 0 cap]] w λe w'=>e=Rt (.int .i64 0)/\bl w w':=by
 have t1:btw V 1 8=true:=fi hV hV';have t2:btw F 0 3=true:=fi hF hF';go_enter Tryz.func22,Tryz.ntmps22;go_wp2_with (go_at_call 57;refine(dB _ _ _ _).mono ?_;rintro e w' ⟨rfl,rfl⟩)
 go_rounds 1
 go_ret;exact⟨rfl,ai⟩

theorem mv {p:Prop}(h:p:=by
 go_enter Tryz.func22,Tryz.ntmps22;go_wp2_with (go_at_call 57;refine(dB _ _ _ _).mono ?_;rintro e w' ⟨rfl,rfl⟩);go_ret;exact⟨rfl,ai⟩):p:=h
theorem pV (V F:Int)(s:oA)(len cap:Nat)(w:World)(hV:1<=V)(hV':V<=8)(hF:0<=F)(hF':F<=3)(hl:60 < len):
  Calls pG 22 #[Ag #[.int .i64 V,.int .i64 F,U s len cap]] w λe w'=>e=Rt (.int .i64 2)/\bl w w':=by
 have t1:btw V 1 8=true:=fi hV hV';have t2:btw F 0 3=true:=fi hF hF';have t3:(60:Int) < (len:Int):=aa;exact mv

theorem pX (V F:Int)(s:oA)(len cap:Nat)(w:World)(t1:btw V 1 8=false):
  Calls pG 22 #[Ag #[.int .i64 V,.int .i64 F,U s len cap]] w λe w'=>e=Rt (.int .i64 3)/\bl w w':=by
 exact mv

theorem nI (V F:Int)(s:oA)(len cap:Nat)(w:World)(t1:btw V 1 8=true)(t2:btw F 0 3=false):
  Calls pG 22 #[Ag #[.int .i64 V,.int .i64 F,U s len cap]] w λe w'=>e=Rt (.int .i64 3)/\bl w w':=by
 exact mv

theorem rS (V F:Int)(s:oA)(cap:Nat)(c:List Ins)(w:World)(h:CodeAt w s c):
  Calls pG 22 #[Ag #[.int .i64 V,.int .i64 F,U s c.length cap]] w λe w'=>e=Rt (.int .i64 (aw V F c))/\bl w w':=by
 unfold aw;cases t1:btw V 1 8 with
 |false=>simpa using pX V F s c.length cap w t1
 |true=>
  cases t2:btw F 0 3 with
  |false=>simpa using nI V F s c.length cap w t1 t2
  |true=>
   have ⟨hV,hV'⟩:1<=V/\V<=8:=by simpa[btw] using t1
   have ⟨hF,hF'⟩:0<=F/\F<=3:=by simpa[btw] using t2
   by_cases hl:60 < c.length
   ·simpa[hl] using pV V F s c.length cap w hV hV' hF hF' hl
   ·rcases h with rfl|⟨b,off,rfl,hb,hc⟩
    ·simpa[eI] using rN V F s cap w hV hV' hF hF'
    ·simpa[hl] using pU V F b off cap c w hV hV' hF hF' aa hb hc
abbrev Shp:=Int×ByteArray×List Int

def ov (ps:List Int):Array Value:=(ps.map λp=>Value.int .i64 p).toArray
def tr (N:Nat)(j:Nat)(s:Shp):Value:=Ag #[.string s.2.1,if s.2.2=[] then U nO 0 0 else U (sO ⟨N+1+j,0,nO⟩) s.2.2.length s.2.2.length]
def my (N:Nat)(j:Nat)(s:Shp):MapEntry:=⟨.int .i64 s.1,tr N j s,j⟩
def cJ (N:Nat):Nat->List Shp->List MapEntry
 |_,[]=>[]
 |j,s::r=>my N j s::cJ N (j+1) r

structure ShpAt (N:Nat) (l:List Shp) (w:World):Prop where
 map:w.heap[N]? =sO (.map (cJ N 0 l).toArray l.length)
 parts:∀j (h:j < l.length),l[j].2.2≠[]->w.heap[N+1+j]? =sO (Cc (ov l[j].2.2) 225)

theorem pW (N:Nat)(l:List Shp)(s:Shp):∀j,cJ N j (l++[s])=cJ N j l++[my N (j+l.length) s]:=by
 induction l with
 |nil=>intro j;rfl
 |cons x r ih=>intro j;simp only[List.cons_append,cJ,ih (j+1),List.length_cons,Nat.add_assoc,Nat.add_comm 1]

theorem rh (N:Nat)(k:Int)(l:List Shp):∀i j,(∀s∈l,s.1≠k)->Instr.findNow (.int .i64) (.int .i64 k) (cJ N j l) i=sO none:=by
 induction l with
 |nil=>intro i j _;rfl
 |cons x r ih=>
  intro i j h;have hx:(k==x.1)=false:=by simpa using λe=>h x (by simp) e.symm
  simp only[cJ,Instr.findNow,my,Instr.sameNow,if_true,hx];exact ih (i+1) (j+1) (λs hs=>h s (by simp[hs]))

theorem bh {P:Program}{N:Nat}{l:List Shp}{wx w:World}{ops:Array Oper}{rest:List Oper}{o:Oper}{a:Act}{Q:Exit->Act->World->Prop}{B:Nat}{w0:World}
  (hg:o.guard=nO)(m x v:Operand)(t kt et:TypeId)(hop:o.op=Op.insert t m x v)(ht:P.underlying t=sO (.map kt et))(hk:P.underlying kt=sO (.int .i64))(k:Int)(wd:ByteArray)(ps:List Int)
  (hm:a.eval m=.map (sO N))(hx:a.eval x=.int .i64 k)(hv:a.eval v=tr N l.length (k,wd,ps))(hw:w=if ps=[] then wx else wx.alloc (Cc (ov ps) 225))
  (hs:ShpAt N l wx)(hsz:wx.heap.size=N+1+l.length)(hbel:Below B w0 wx)(hB:B<=N)(hnew:∀s∈l,s.1≠k)
  (hK:∀w',ShpAt N (l++[(k,wd,ps)]) w'->w'.heap.size=w.heap.size->Below B w0 w'->wpList P ops Q rest (a.put o.dst undef) w'):
  wpList P ops Q (o::rest) a w:=by
 refine wpList_plain hg λK' hK'=> ?_;have hbw:Below B w0 w:=by
  rw[hw];split
  ·exact hbel
  ·exact hbel.alloc aa _
 have hsame:∀i,i < wx.heap.size->w.heap[i]? =wx.heap[i]? :=by
  intro i hi;rw[hw];split
  ·rfl
  ·exact Below.heap_alloc _ _ _ hi
 have hmap:w.heap[N]? =sO (.map (cJ N 0 l).toArray l.length):=by rw[hsame N (by omega)];exact hs.map
 have hf:=rh N k l 0 0 hnew;have hc:(Instr.checkKey false 10000 kt (.int .i64 k)).run P w=.ok () w:=MapKept.run_checkKey (k:=.int .i64 k) hk rfl false 9999;have hpush:(cJ N 0 l).toArray.push ⟨.int .i64 k,tr N l.length (k,wd,ps),l.length⟩=(cJ N 0 (l++[(k,wd,ps)])).toArray:=by
  simp[pW,my]
 obtain⟨E,hE⟩:∃E,E=(cJ N 0 (l++[(k,wd,ps)])).toArray:=⟨_,rfl⟩;rw[<-hE] at hpush;obtain⟨w2,hw2⟩:∃w2,w2={w with heap:=w.heap.setIfInBounds N (.map E (l.length+1))}:=⟨_,rfl⟩;have hrun:(Instr.mapUpdate t (.map (sO N)) (.int .i64 k) (tr N l.length (k,wd,ps))).run P w=.ok () w2:=by
  simp only[Instr.mapUpdate,Sem.run_bind,run_underlying ht,MapKept.run_getObj_map hmap,hc,MapKept.run_findKey hk hf,hpush,MapKept.run_setObj_map _ hmap,Result.andThen,hw2]
 have hset:=MapKept.heap_set (o':=.map E (l.length+1)) hmap;have h2:w2.heap=w.heap.setIfInBounds N (.map E (l.length+1)):=by rw[hw2]
 unfold Oper.wp;simp[execOp,hop,hm,hx,hv,hrun,Result.andThen];refine hK' _ _ (hK _ ⟨?_,?_⟩ (by rw[h2];simp) ?_)
 ·rw[h2,hset.1,hE];simp
 ·intro j hj hne
  rw[h2,hset.2 (N+1+j) aa];by_cases hjl:j < l.length
  ·rw[j4 hjl] at hne
   simp only[j4 hjl];rw[hsame _ aa];exact hs.parts j hjl hne
  ·have hjl':j=l.length:=by simp at hj;omega
   subst hjl';simp only[List.getElem_append_right (lR _),Nat.sub_self,List.getElem_cons_zero] at hne |-;rw[hw,if_neg hne,<-hsz];exact(MapKept.heap_alloc wx _).1
 ·exact hbw.trans ⟨by rw[hw2],by rw[hw2],by rw[hw2],by rw[h2];simp,λi hi=>by rw[h2];exact hset.2 i (by omega)⟩

def shps:List Shp:=[(1,aQ 1,[0,4]),(2,aQ 2,[0,5]),(3,aQ 3,[0]),(4,aQ 4,[0,1]),(5,aQ 5,[0,1,2]),(6,aQ 6,[0,1,2]),(7,aQ 7,[0,1,2]),(8,aQ 8,[0,1,2]),(9,aQ 9,[0,1,2]),(10,aQ 10,[0,1]),
 (11,aQ 11,[0]),(12,aQ 12,[0,1,7]),(13,aQ 13,[1,7,2]),(14,aQ 14,[0,6]),(15,aQ 15,[1,3]),(16,aQ 16,[3]),(17,aQ 17,[1]),(18,aQ 18,[1]),(19,aQ 19,[])]

theorem kj (w:World):
  Calls pG 127 #[] w λe w'=>e=Rt (.map (sO w.heap.size))/\ShpAt w.heap.size shps w'/\bl w w':=by
 have hmm:= @run_makeMap pG;have hs0:ShpAt w.heap.size (shps.take 0) (w.alloc (.map #[] 0)):=⟨by simpa[cJ] using(MapKept.heap_alloc w (.map #[] 0)).1,λj h=>absurd h ah⟩;have hz0:(w.alloc (.map #[] 0)).heap.size=w.heap.size+1:=ah;have hb0:bl w (w.alloc (.map #[] 0)):=(bR _ _).alloc (lR _) _;go_enter Tryz.func127,Tryz.ntmps127;go_wp2_with (first
  |(refine bh (N:=w.heap.size) (l:=shps.take 0) (wx:=(w.alloc (.map #[] 0))) (w0:=w) (B:=w.heap.size) rfl _ _ _ 179 3 228 rfl Tryz.underlying179 Tryz.underlying3 1 (aQ 1) [0,4] rfl rfl rfl rfl hs0 hz0 hb0 (lR _) aj ?_;intro w1 hs1 hz1 hb1;replace hs1:ShpAt w.heap.size (shps.take 1) w1:=hs1;replace hz1:w1.heap.size=w.heap.size+2:=by simpa[hz0] using hz1)
  |(refine bh (N:=w.heap.size) (l:=shps.take 1) (wx:=w1) (w0:=w) (B:=w.heap.size) rfl _ _ _ 179 3 228 rfl Tryz.underlying179 Tryz.underlying3 2 (aQ 2) [0,5] rfl rfl rfl rfl hs1 hz1 hb1 (lR _) aj ?_;intro w2 hs2 hz2 hb2;replace hs2:ShpAt w.heap.size (shps.take 2) w2:=hs2;replace hz2:w2.heap.size=w.heap.size+3:=by simpa[hz1] using hz2)
  |(refine bh (N:=w.heap.size) (l:=shps.take 2) (wx:=w2) (w0:=w) (B:=w.heap.size) rfl _ _ _ 179 3 228 rfl Tryz.underlying179 Tryz.underlying3 3 (aQ 3) [0] rfl rfl rfl rfl hs2 hz2 hb2 (lR _) aj ?_;intro w3 hs3 hz3 hb3;replace hs3:ShpAt w.heap.size (shps.take 3) w3:=hs3;replace hz3:w3.heap.size=w.heap.size+4:=by simpa[hz2] using hz3)
  |(refine bh (N:=w.heap.size) (l:=shps.take 3) (wx:=w3) (w0:=w) (B:=w.heap.size) rfl _ _ _ 179 3 228 rfl Tryz.underlying179 Tryz.underlying3 4 (aQ 4) [0,1] rfl rfl rfl rfl hs3 hz3 hb3 (lR _) aj ?_;intro w4 hs4 hz4 hb4;replace hs4:ShpAt w.heap.size (shps.take 4) w4:=hs4;replace hz4:w4.heap.size=w.heap.size+5:=by simpa[hz3] using hz4)
  |(refine bh (N:=w.heap.size) (l:=shps.take 4) (wx:=w4) (w0:=w) (B:=w.heap.size) rfl _ _ _ 179 3 228 rfl Tryz.underlying179 Tryz.underlying3 5 (aQ 5) [0,1,2] rfl rfl rfl rfl hs4 hz4 hb4 (lR _) aj ?_;intro w5 hs5 hz5 hb5;replace hs5:ShpAt w.heap.size (shps.take 5) w5:=hs5;replace hz5:w5.heap.size=w.heap.size+6:=by simpa[hz4] using hz5)
  |(refine bh (N:=w.heap.size) (l:=shps.take 5) (wx:=w5) (w0:=w) (B:=w.heap.size) rfl _ _ _ 179 3 228 rfl Tryz.underlying179 Tryz.underlying3 6 (aQ 6) [0,1,2] rfl rfl rfl rfl hs5 hz5 hb5 (lR _) aj ?_;intro w6 hs6 hz6 hb6;replace hs6:ShpAt w.heap.size (shps.take 6) w6:=hs6;replace hz6:w6.heap.size=w.heap.size+7:=by simpa[hz5] using hz6)
  |(refine bh (N:=w.heap.size) (l:=shps.take 6) (wx:=w6) (w0:=w) (B:=w.heap.size) rfl _ _ _ 179 3 228 rfl Tryz.underlying179 Tryz.underlying3 7 (aQ 7) [0,1,2] rfl rfl rfl rfl hs6 hz6 hb6 (lR _) aj ?_;intro w7 hs7 hz7 hb7;replace hs7:ShpAt w.heap.size (shps.take 7) w7:=hs7;replace hz7:w7.heap.size=w.heap.size+8:=by simpa[hz6] using hz7)
  |(refine bh (N:=w.heap.size) (l:=shps.take 7) (wx:=w7) (w0:=w) (B:=w.heap.size) rfl _ _ _ 179 3 228 rfl Tryz.underlying179 Tryz.underlying3 8 (aQ 8) [0,1,2] rfl rfl rfl rfl hs7 hz7 hb7 (lR _) aj ?_;intro w8 hs8 hz8 hb8;replace hs8:ShpAt w.heap.size (shps.take 8) w8:=hs8;replace hz8:w8.heap.size=w.heap.size+9:=by simpa[hz7] using hz8)
  |(refine bh (N:=w.heap.size) (l:=shps.take 8) (wx:=w8) (w0:=w) (B:=w.heap.size) rfl _ _ _ 179 3 228 rfl Tryz.underlying179 Tryz.underlying3 9 (aQ 9) [0,1,2] rfl rfl rfl rfl hs8 hz8 hb8 (lR _) aj ?_;intro w9 hs9 hz9 hb9;replace hs9:ShpAt w.heap.size (shps.take 9) w9:=hs9;replace hz9:w9.heap.size=w.heap.size+10:=by simpa[hz8] using hz9)
  |(refine bh (N:=w.heap.size) (l:=shps.take 9) (wx:=w9) (w0:=w) (B:=w.heap.size) rfl _ _ _ 179 3 228 rfl Tryz.underlying179 Tryz.underlying3 10 (aQ 10) [0,1] rfl rfl rfl rfl hs9 hz9 hb9 (lR _) aj ?_;intro w10 hs10 hz10 hb10;replace hs10:ShpAt w.heap.size (shps.take 10) w10:=hs10;replace hz10:w10.heap.size=w.heap.size+11:=by simpa[hz9] using hz10)
  |(refine bh (N:=w.heap.size) (l:=shps.take 10) (wx:=w10) (w0:=w) (B:=w.heap.size) rfl _ _ _ 179 3 228 rfl Tryz.underlying179 Tryz.underlying3 11 (aQ 11) [0] rfl rfl rfl rfl hs10 hz10 hb10 (lR _) aj ?_;intro w11 hs11 hz11 hb11;replace hs11:ShpAt w.heap.size (shps.take 11) w11:=hs11;replace hz11:w11.heap.size=w.heap.size+12:=by simpa[hz10] using hz11)
  |(refine bh (N:=w.heap.size) (l:=shps.take 11) (wx:=w11) (w0:=w) (B:=w.heap.size) rfl _ _ _ 179 3 228 rfl Tryz.underlying179 Tryz.underlying3 12 (aQ 12) [0,1,7] rfl rfl rfl rfl hs11 hz11 hb11 (lR _) aj ?_;intro w12 hs12 hz12 hb12;replace hs12:ShpAt w.heap.size (shps.take 12) w12:=hs12;replace hz12:w12.heap.size=w.heap.size+13:=by simpa[hz11] using hz12)
  |(refine bh (N:=w.heap.size) (l:=shps.take 12) (wx:=w12) (w0:=w) (B:=w.heap.size) rfl _ _ _ 179 3 228 rfl Tryz.underlying179 Tryz.underlying3 13 (aQ 13) [1,7,2] rfl rfl rfl rfl hs12 hz12 hb12 (lR _) aj ?_;intro w13 hs13 hz13 hb13;replace hs13:ShpAt w.heap.size (shps.take 13) w13:=hs13;replace hz13:w13.heap.size=w.heap.size+14:=by simpa[hz12] using hz13)
  |(refine bh (N:=w.heap.size) (l:=shps.take 13) (wx:=w13) (w0:=w) (B:=w.heap.size) rfl _ _ _ 179 3 228 rfl Tryz.underlying179 Tryz.underlying3 14 (aQ 14) [0,6] rfl rfl rfl rfl hs13 hz13 hb13 (lR _) aj ?_;intro w14 hs14 hz14 hb14;replace hs14:ShpAt w.heap.size (shps.take 14) w14:=hs14;replace hz14:w14.heap.size=w.heap.size+15:=by simpa[hz13] using hz14)
  |(refine bh (N:=w.heap.size) (l:=shps.take 14) (wx:=w14) (w0:=w) (B:=w.heap.size) rfl _ _ _ 179 3 228 rfl Tryz.underlying179 Tryz.underlying3 15 (aQ 15) [1,3] rfl rfl rfl rfl hs14 hz14 hb14 (lR _) aj ?_;intro w15 hs15 hz15 hb15;replace hs15:ShpAt w.heap.size (shps.take 15) w15:=hs15;replace hz15:w15.heap.size=w.heap.size+16:=by simpa[hz14] using hz15)
  |(refine bh (N:=w.heap.size) (l:=shps.take 15) (wx:=w15) (w0:=w) (B:=w.heap.size) rfl _ _ _ 179 3 228 rfl Tryz.underlying179 Tryz.underlying3 16 (aQ 16) [3] rfl rfl rfl rfl hs15 hz15 hb15 (lR _) aj ?_;intro w16 hs16 hz16 hb16;replace hs16:ShpAt w.heap.size (shps.take 16) w16:=hs16;replace hz16:w16.heap.size=w.heap.size+17:=by simpa[hz15] using hz16)
  |(refine bh (N:=w.heap.size) (l:=shps.take 16) (wx:=w16) (w0:=w) (B:=w.heap.size) rfl _ _ _ 179 3 228 rfl Tryz.underlying179 Tryz.underlying3 17 (aQ 17) [1] rfl rfl rfl rfl hs16 hz16 hb16 (lR _) aj ?_;intro w17 hs17 hz17 hb17;replace hs17:ShpAt w.heap.size (shps.take 17) w17:=hs17;replace hz17:w17.heap.size=w.heap.size+18:=by simpa[hz16] using hz17)
  |(refine bh (N:=w.heap.size) (l:=shps.take 17) (wx:=w17) (w0:=w) (B:=w.heap.size) rfl _ _ _ 179 3 228 rfl Tryz.underlying179 Tryz.underlying3 18 (aQ 18) [1] rfl rfl rfl rfl hs17 hz17 hb17 (lR _) aj ?_;intro w18 hs18 hz18 hb18;replace hs18:ShpAt w.heap.size (shps.take 18) w18:=hs18;replace hz18:w18.heap.size=w.heap.size+19:=by simpa[hz17] using hz18)
  |(refine bh (N:=w.heap.size) (l:=shps.take 18) (wx:=w18) (w0:=w) (B:=w.heap.size) rfl _ _ _ 179 3 228 rfl Tryz.underlying179 Tryz.underlying3 19 (aQ 19) [] rfl rfl rfl rfl hs18 hz18 hb18 (lR _) aj ?_;intro w19 hs19 hz19 hb19;replace hs19:ShpAt w.heap.size (shps.take 19) w19:=hs19;replace hz19:w19.heap.size=w.heap.size+19:=by simpa[hz18] using hz19))
 go_ret;exact⟨rfl,hs19,hb19⟩

theorem ShpAt.below {B N:Nat}{l:List Shp}{w w':World}(h:ShpAt N l w)(hb:Below B w w')(hB:w.heap.size<=B):ShpAt N l w':=by
 have lt:∀{i:Nat} {o:Obj},w.heap[i]? =sO o->i < w.heap.size:=λh=>(Array.getElem?_eq_some_iff.1 h).1;exact⟨by rw[hb.block _ (by have:=lt h.map;omega)];exact h.map,λj hj hne=>by rw[hb.block _ (by have:=lt (h.parts j hj hne);omega)];exact h.parts j hj hne⟩

theorem Ip {P:Program}{N:Nat}{w:World}{es:Array MapEntry}{clock:Nat}(t kt et:TypeId)(ht:P.underlying t=sO (.map kt et))(hk:P.underlying kt=sO (.int .i64))(hmap:w.heap[N]? =sO (.map es clock))
  (k:Int)(i:Nat)(v:Value)(hf:Instr.findNow (.int .i64) (.int .i64 k) es.toList 0=sO (sO (i,v))):(Instr.lookup t (.map (sO N)) (.int .i64 k) true).run P w=.ok (Tu #[v,Bb true]) w:=by
 have hc:∀e,(Instr.checkKey e 10000 kt (.int .i64 k)).run P w=.ok () w:=λe=>MapKept.run_checkKey (k:=.int .i64 k) hk rfl e 9999;simp[Instr.lookup,run_underlying ht,MapKept.run_getObj_map hmap,hc,MapKept.run_findKey hk hf,Result.andThen]

theorem ye {P:Program}{N:Nat}{w:World}{es:Array MapEntry}{clock:Nat}(t kt et:TypeId)(ht:P.underlying t=sO (.map kt et))(hk:P.underlying kt=sO (.int .i64))(hmap:w.heap[N]? =sO (.map es clock))
  (z:Value)(hz:(zeroValue et).run P w=.ok z w)(k:Int)(hf:Instr.findNow (.int .i64) (.int .i64 k) es.toList 0=sO nO):(Instr.lookup t (.map (sO N)) (.int .i64 k) true).run P w=.ok (Tu #[z,Bb false]) w:=by
 have hc:∀e,(Instr.checkKey e 10000 kt (.int .i64 k)).run P w=.ok () w:=λe=>MapKept.run_checkKey (k:=.int .i64 k) hk rfl e 9999;simp[Instr.lookup,run_underlying ht,MapKept.run_getObj_map hmap,hc,MapKept.run_findKey hk hf,hz,Result.andThen]

theorem GG (w:World):(zeroValue 228).run pG w=.ok (Ag #[.string ⟨#[]⟩,U nO 0 0]) w:=ag

theorem KZ {N:Nat}{w:World}(h:ShpAt N shps w)(k:Int)(hk:btw k 1 19=false):(Instr.lookup 179 (.map (sO N)) (.int .i64 k) true).run pG w=.ok (Tu #[Ag #[.string ⟨#[]⟩,U nO 0 0],Bb false]) w:=by
 refine ye _ 3 228 Tryz.underlying179 Tryz.underlying3 h.map _ (GG w) k (rh N k shps 0 0 ?_);have:¬(1<=k/\k<=19):=by simpa[btw] using hk
 intro s hs;simp only[shps,List.mem_cons,List.not_mem_nil,or_false] at hs;rcases hs with rfl|rfl|rfl|rfl|rfl|rfl|rfl|rfl|rfl|rfl|rfl|rfl|rfl|rfl|rfl|rfl|rfl|rfl|rfl<;>simp only<;>omega

theorem cV {N:Nat}{w:World}(h:ShpAt N shps w)(k:Int)(i:Nat)(v:Value)(hf:Instr.findNow (.int .i64) (.int .i64 k) (cJ N 0 shps) 0=sO (sO (i,v))):(Instr.lookup 179 (.map (sO N)) (.int .i64 k) true).run pG w=.ok (Tu #[v,Bb true]) w:=
 Ip _ 3 228 Tryz.underlying179 Tryz.underlying3 h.map k i v hf
def lo (q:Int):Int:=if q=4 then -2147483648 else 0
def hi (V F L q:Int):Int:=if q=4 then 2147483647 else if q=5 then 1 else if q=6 then 1000000 else if q=7 then F - 1 else if q=3 then L else V - 1
def er (q:Int):Int:=if q=4\/q=5\/q=6 then 3 else 5

theorem Ej (V F:Int)(s:oA)(len cap:Nat)(q:Int)(w:World)(_hV:1<=V)(_hV':V<=8)(_hF:0<=F)(_hF':F<=3)(_hL:len<=60)(hq:0<=q/\q<=7):
  Calls pG 186 #[Ag #[.int .i64 V,.int .i64 F,U s len cap],.int .i64 q] w λe w'=>e=Rt (Tu #[.int .i64 (lo q),.int .i64 (hi V F len q),.int .i64 (er q)])/\bl w w':=by
 have:q=0\/q=1\/q=2\/q=3\/q=4\/q=5\/q=6\/q=7:=aa;rcases this with rfl|rfl|rfl|rfl|rfl|rfl|rfl|rfl;all_goals
  go_enter Tryz.func186,Tryz.ntmps186;go_wp2;try (go_quiet (fail);go_wp2)
  go_ret3
  exact⟨rfl,by first|(go_grown;done)|exact below_drewN (by go_grown) _⟩
theorem aq {N:Nat}{w:World}(h:ShpAt N shps w)(j i:Nat)(hj:j < shps.length)(hne:shps[j].2.2≠[])(v:Value)(hv:(ov shps[j].2.2)[i]? =sO v):w.cell? ⟨N+1+j,i,nO⟩=sO v/\N+1+j < w.heap.size:=by
 have hb:=h.parts j hj hne;exact⟨by simp[World.cell?,hb,hv],(Array.getElem?_eq_some_iff.1 hb).1⟩
theorem du {p:Prop}(h:p:=by
 have l0:lo 0=0:=rfl;have m0:hi V F len 0=V - 1:=rfl;have e0:er 0=5:=rfl;have l1:lo 1=0:=rfl;have m1:hi V F len 1=V - 1:=rfl;have e1:er 1=5:=rfl;have l2:lo 2=0:=rfl;have m2:hi V F len 2=V - 1:=rfl;have e2:er 2=5:=rfl;have l3:lo 3=0:=rfl;have m3:hi V F len 3=(len:Int):=rfl;have e3:er 3=5:=rfl;have l4:lo 4= -2147483648:=rfl;have m4:hi V F len 4=2147483647:=rfl;have e4:er 4=3:=rfl;have l5:lo 5=0:=rfl;have m5:hi V F len 5=1:=rfl;have e5:er 5=3:=rfl;have l6:lo 6=0:=rfl;have m6:hi V F len 6=1000000:=rfl;have e6:er 6=3:=rfl;have l7:lo 7=0:=rfl;have m7:hi V F len 7=F - 1:=rfl;have e7:er 7=5:=rfl;have z1:=Nat.lt_add_right 1 hz;have z2:=Nat.lt_add_right 1 z1;have z3:=Nat.lt_add_right 1 z2;have z4:=Nat.lt_add_right 1 z3;have x3:¬_:=Nat.ne_of_lt z3;go_enter Tryz.func128,Tryz.ntmps128;go_wp2;refine wp_loop_rounds 4 ?_;iterate 4 (try any_goals (rw[rounds_succ];go_wp2_with (first|(go_at_call 186;refine(Ej V F _ _ _ _ _ hV hV' hF hF' hL ?hq).mono ?_;(case hq=>decide);rintro e w1 ⟨rfl,hb1⟩;obtain⟨hc1,hf1⟩:=yD hb1;have hz1:w.heap.size+3 < w1.heap.size:=kI;have hz2:w.heap.size < w1.heap.size:=aa;have hz3:w.heap.size+1 < w1.heap.size:=aa;have hz4:w.heap.size+1+1 < w1.heap.size:=aa;have hz5:w.heap.size+1+1+1 < w1.heap.size:=aa;have hz6:=Nat.lt_trans hz hz2;have HB:Below w.heap.size w w1:=Below.trans ai (hb1.mono ix))|go_in)))
 all_goals go_ret
 all_goals refine⟨bP ?_,ai⟩
 all_goals clear hl
 all_goals (try clear p0)
 all_goals (try clear p1)
 all_goals (try clear p2)
 all_goals simp[bk,nTo,nA,nB,nN,nG,btw]
 all_goals omega):p:=h
def Tab (w:World):Prop:=Lib.TabIs pG w "internal/strconv.uint64pow10" .u64 Lib.pow10Tab
theorem Fj:∃g,Tryz.prog.globalNamed "internal/strconv.uint64pow10" =sO g:=by
 have h:(Tryz.prog.globalNamed "internal/strconv.uint64pow10").isSome=true:=ag;exact Option.isSome_iff_exists.1 h
theorem Tab.below {w w':World}(h:Tab w)(hb:bl w w'):Tab w':=by
 obtain⟨g,hg⟩:=Fj;have hc:=h.cell hg 0 aj;exact var?_below hb hg (World.block_lt_of_cell? w _ hc) h

theorem mL (n:Int)(w:World)(h:lw n)(ht:Tab w):
  Calls pG 118 #[.int .i64 n] w λe w'=>e=Rt (.string (gN n))/\bl w w':=by
 refine(Tryz.strconv_Itoa n h.1 h.2 w ht).mono ?_;rintro e w' ⟨rfl,k,os,rfl⟩;exact⟨rfl,⟨rfl,rfl,rfl,by simp[Sort.grow],λi hi=>by simp[Sort.grow,Array.getElem?_append,World.drewN,hi]⟩⟩
theorem Al {P:Program}{N:Nat}{w:World}{es:Array MapEntry}{clock:Nat}(t kt et:TypeId)(ht:P.underlying t=sO (.map kt et))(hk:P.underlying kt=sO (.int .i64))(hmap:w.heap[N]? =sO (.map es clock))
  (k:Int)(i:Nat)(v:Value)(hf:Instr.findNow (.int .i64) (.int .i64 k) es.toList 0=sO (sO (i,v))):(Instr.lookup t (.map (sO N)) (.int .i64 k) false).run P w=.ok v w:=by
 have hc:∀e,(Instr.checkKey e 10000 kt (.int .i64 k)).run P w=.ok () w:=λe=>MapKept.run_checkKey (k:=.int .i64 k) hk rfl e 9999;simp[Instr.lookup,run_underlying ht,MapKept.run_getObj_map hmap,hc,MapKept.run_findKey hk hf,Result.andThen]

theorem bn {N:Nat}{w:World}(h:ShpAt N shps w)(k:Int)(i:Nat)(v:Value)(hf:Instr.findNow (.int .i64) (.int .i64 k) (cJ N 0 shps) 0=sO (sO (i,v))):(Instr.lookup 179 (.map (sO N)) (.int .i64 k) false).run pG w=.ok v w:=
 Al _ 3 228 Tryz.underlying179 Tryz.underlying3 h.map k i v hf
theorem AO (V F:Int)(s:oA)(len cap N:Nat)(tto a b n g:Int)(w:World)(hV:1<=V)(hV':V<=8)(hF:0<=F)(hF':F<=3)(hL:len<=60)(hs:ShpAt N shps w):
  Calls pG 128 #[Ag #[.int .i64 V,.int .i64 F,U s len cap],.map (sO N),Ag #[.int .i64 1,.int .i64 tto,.int .i64 a,.int .i64 b,.int .i64 n,.int .i64 g]] w λe w'=>e=Rt (.int .i64 (bk V F len ⟨1,tto,a,b,n,g⟩))/\bl w w':=by
 have hb0:Below w.heap.size w ((w.alloc (Cc #[.int .i64 V,.int .i64 F,U s len cap] 24)).alloc (Cc #[.int .i64 1,.int .i64 tto,.int .i64 a,.int .i64 b,.int .i64 n,.int .i64 g] 100)):=ai;have hl:(Instr.lookup 179 (.map (sO N)) (.int .i64 1) true).run pG _=.ok (Tu #[Ag #[.string (aQ 1),U (sO ⟨N+1,0,nO⟩) 2 2],Bb true]) _:=cV (hs.below hb0 (lR _)) 1 0 _ rfl;have hz:N+1 < w.heap.size:=(aq hs 0 0 aj aj (.int .i64 0) rfl).2;have p0:w.cell? ⟨N+1,0,nO⟩=sO (.int .i64 0):=(aq hs 0 0 aj aj (.int .i64 0) rfl).1;have p1:w.cell? ⟨N+1,1,nO⟩=sO (.int .i64 4):=(aq hs 0 1 aj aj (.int .i64 4) rfl).1;clear hb0 hs;exact du

theorem AB (V F:Int)(s:oA)(len cap N:Nat)(tto a b n g:Int)(w:World)(hV:1<=V)(hV':V<=8)(hF:0<=F)(hF':F<=3)(hL:len<=60)(hs:ShpAt N shps w):
  Calls pG 128 #[Ag #[.int .i64 V,.int .i64 F,U s len cap],.map (sO N),Ag #[.int .i64 2,.int .i64 tto,.int .i64 a,.int .i64 b,.int .i64 n,.int .i64 g]] w λe w'=>e=Rt (.int .i64 (bk V F len ⟨2,tto,a,b,n,g⟩))/\bl w w':=by
 have hb0:Below w.heap.size w ((w.alloc (Cc #[.int .i64 V,.int .i64 F,U s len cap] 24)).alloc (Cc #[.int .i64 2,.int .i64 tto,.int .i64 a,.int .i64 b,.int .i64 n,.int .i64 g] 100)):=ai;have hl:(Instr.lookup 179 (.map (sO N)) (.int .i64 2) true).run pG _=.ok (Tu #[Ag #[.string (aQ 2),U (sO ⟨N+2,0,nO⟩) 2 2],Bb true]) _:=cV (hs.below hb0 (lR _)) 2 1 _ rfl;have hz:N+2 < w.heap.size:=(aq hs 1 0 aj aj (.int .i64 0) rfl).2;have p0:w.cell? ⟨N+2,0,nO⟩=sO (.int .i64 0):=(aq hs 1 0 aj aj (.int .i64 0) rfl).1;have p1:w.cell? ⟨N+2,1,nO⟩=sO (.int .i64 5):=(aq hs 1 1 aj aj (.int .i64 5) rfl).1;clear hb0 hs;exact du

theorem yR (V F:Int)(s:oA)(len cap N:Nat)(tto a b n g:Int)(w:World)(hV:1<=V)(hV':V<=8)(hF:0<=F)(hF':F<=3)(hL:len<=60)(hs:ShpAt N shps w):
  Calls pG 128 #[Ag #[.int .i64 V,.int .i64 F,U s len cap],.map (sO N),Ag #[.int .i64 3,.int .i64 tto,.int .i64 a,.int .i64 b,.int .i64 n,.int .i64 g]] w λe w'=>e=Rt (.int .i64 (bk V F len ⟨3,tto,a,b,n,g⟩))/\bl w w':=by
 have hb0:Below w.heap.size w ((w.alloc (Cc #[.int .i64 V,.int .i64 F,U s len cap] 24)).alloc (Cc #[.int .i64 3,.int .i64 tto,.int .i64 a,.int .i64 b,.int .i64 n,.int .i64 g] 100)):=ai;have hl:(Instr.lookup 179 (.map (sO N)) (.int .i64 3) true).run pG _=.ok (Tu #[Ag #[.string (aQ 3),U (sO ⟨N+3,0,nO⟩) 1 1],Bb true]) _:=cV (hs.below hb0 (lR _)) 3 2 _ rfl;have hz:N+3 < w.heap.size:=(aq hs 2 0 aj aj (.int .i64 0) rfl).2;have p0:w.cell? ⟨N+3,0,nO⟩=sO (.int .i64 0):=(aq hs 2 0 aj aj (.int .i64 0) rfl).1;clear hb0 hs;exact du

theorem Ad (V F:Int)(s:oA)(len cap N:Nat)(tto a b n g:Int)(w:World)(hV:1<=V)(hV':V<=8)(hF:0<=F)(hF':F<=3)(hL:len<=60)(hs:ShpAt N shps w):
  Calls pG 128 #[Ag #[.int .i64 V,.int .i64 F,U s len cap],.map (sO N),Ag #[.int .i64 4,.int .i64 tto,.int .i64 a,.int .i64 b,.int .i64 n,.int .i64 g]] w λe w'=>e=Rt (.int .i64 (bk V F len ⟨4,tto,a,b,n,g⟩))/\bl w w':=by
 have hb0:Below w.heap.size w ((w.alloc (Cc #[.int .i64 V,.int .i64 F,U s len cap] 24)).alloc (Cc #[.int .i64 4,.int .i64 tto,.int .i64 a,.int .i64 b,.int .i64 n,.int .i64 g] 100)):=ai;have hl:(Instr.lookup 179 (.map (sO N)) (.int .i64 4) true).run pG _=.ok (Tu #[Ag #[.string (aQ 4),U (sO ⟨N+4,0,nO⟩) 2 2],Bb true]) _:=cV (hs.below hb0 (lR _)) 4 3 _ rfl;have hz:N+4 < w.heap.size:=(aq hs 3 0 aj aj (.int .i64 0) rfl).2;have p0:w.cell? ⟨N+4,0,nO⟩=sO (.int .i64 0):=(aq hs 3 0 aj aj (.int .i64 0) rfl).1;have p1:w.cell? ⟨N+4,1,nO⟩=sO (.int .i64 1):=(aq hs 3 1 aj aj (.int .i64 1) rfl).1;clear hb0 hs;exact du

theorem yi (V F:Int)(s:oA)(len cap N:Nat)(tto a b n g:Int)(w:World)(_hV:1<=V)(_hV':V<=8)(_hF:0<=F)(_hF':F<=3)(_hL:len<=60)(hs:ShpAt N shps w):
  Calls pG 128 #[Ag #[.int .i64 V,.int .i64 F,U s len cap],.map (sO N),Ag #[.int .i64 19,.int .i64 tto,.int .i64 a,.int .i64 b,.int .i64 n,.int .i64 g]] w λe w'=>e=Rt (.int .i64 (bk V F len ⟨19,tto,a,b,n,g⟩))/\bl w w':=by
 have hb0:Below w.heap.size w ((w.alloc (Cc #[.int .i64 V,.int .i64 F,U s len cap] 24)).alloc (Cc #[.int .i64 19,.int .i64 tto,.int .i64 a,.int .i64 b,.int .i64 n,.int .i64 g] 100)):=ai;have hl:(Instr.lookup 179 (.map (sO N)) (.int .i64 19) true).run pG _=.ok (Tu #[Ag #[.string (aQ 19),U nO 0 0],Bb true]) _:=cV (hs.below hb0 (lR _)) 19 18 _ rfl;clear hb0 hs;go_enter Tryz.func128,Tryz.ntmps128;go_wp2;refine wp_loop_rounds 1 ?_;rw[rounds_succ];go_wp2;all_goals go_ret
 all_goals refine⟨bP ?_,ai⟩
 all_goals clear hl
 all_goals simp[bk,nTo,nA,nB,nN,nG,btw]
 all_goals omega

theorem wO (V F:Int)(s:oA)(len cap N:Nat)(k tto a b n g:Int)(w:World)(_hV:1<=V)(_hV':V<=8)(_hF:0<=F)(_hF':F<=3)(_hL:len<=60)(hs:ShpAt N shps w)(hk:btw k 1 19=false):
  Calls pG 128 #[Ag #[.int .i64 V,.int .i64 F,U s len cap],.map (sO N),Ag #[.int .i64 k,.int .i64 tto,.int .i64 a,.int .i64 b,.int .i64 n,.int .i64 g]] w λe w'=>e=Rt (.int .i64 (bk V F len ⟨k,tto,a,b,n,g⟩))/\bl w w':=by
 have hb0:Below w.heap.size w ((w.alloc (Cc #[.int .i64 V,.int .i64 F,U s len cap] 24)).alloc (Cc #[.int .i64 k,.int .i64 tto,.int .i64 a,.int .i64 b,.int .i64 n,.int .i64 g] 100)):=ai;have hl:=KZ (hs.below hb0 (lR _)) k hk;have hr:bk V F len ⟨k,tto,a,b,n,g⟩=6:=by simp[bk,hk]
 clear hb0 hs;go_enter Tryz.func128,Tryz.ntmps128;go_wp2;go_ret;exact⟨bP hr.symm,ai⟩

theorem ya (V F:Int)(s:oA)(len cap N:Nat)(tto a b n g:Int)(w:World)(hV:1<=V)(hV':V<=8)(hF:0<=F)(hF':F<=3)(hL:len<=60)(hs:ShpAt N shps w):
  Calls pG 128 #[Ag #[.int .i64 V,.int .i64 F,U s len cap],.map (sO N),Ag #[.int .i64 11,.int .i64 tto,.int .i64 a,.int .i64 b,.int .i64 n,.int .i64 g]] w λe w'=>e=Rt (.int .i64 (bk V F len ⟨11,tto,a,b,n,g⟩))/\bl w w':=by
 have hb0:Below w.heap.size w ((w.alloc (Cc #[.int .i64 V,.int .i64 F,U s len cap] 24)).alloc (Cc #[.int .i64 11,.int .i64 tto,.int .i64 a,.int .i64 b,.int .i64 n,.int .i64 g] 100)):=ai;have hl:(Instr.lookup 179 (.map (sO N)) (.int .i64 11) true).run pG _=.ok (Tu #[Ag #[.string (aQ 11),U (sO ⟨N+11,0,nO⟩) 1 1],Bb true]) _:=cV (hs.below hb0 (lR _)) 11 10 _ rfl;have hz:N+11 < w.heap.size:=(aq hs 10 0 aj aj (.int .i64 0) rfl).2;have p0:w.cell? ⟨N+11,0,nO⟩=sO (.int .i64 0):=(aq hs 10 0 aj aj (.int .i64 0) rfl).1;clear hb0 hs;exact du
theorem yF (V F:Int)(s:oA)(len cap N:Nat)(tto a b n g:Int)(w:World)(hV:1<=V)(hV':V<=8)(hF:0<=F)(hF':F<=3)(hL:len<=60)(hs:ShpAt N shps w):
  Calls pG 128 #[Ag #[.int .i64 V,.int .i64 F,U s len cap],.map (sO N),Ag #[.int .i64 5,.int .i64 tto,.int .i64 a,.int .i64 b,.int .i64 n,.int .i64 g]] w λe w'=>e=Rt (.int .i64 (bk V F len ⟨5,tto,a,b,n,g⟩))/\bl w w':=by
 have hb0:Below w.heap.size w ((w.alloc (Cc #[.int .i64 V,.int .i64 F,U s len cap] 24)).alloc (Cc #[.int .i64 5,.int .i64 tto,.int .i64 a,.int .i64 b,.int .i64 n,.int .i64 g] 100)):=ai;have hl:(Instr.lookup 179 (.map (sO N)) (.int .i64 5) true).run pG _=.ok (Tu #[Ag #[.string (aQ 5),U (sO ⟨N+5,0,nO⟩) 3 3],Bb true]) _:=cV (hs.below hb0 (lR _)) 5 4 _ rfl;have hz:N+5 < w.heap.size:=(aq hs 4 0 aj aj (.int .i64 0) rfl).2;have p0:w.cell? ⟨N+5,0,nO⟩=sO (.int .i64 0):=(aq hs 4 0 aj aj (.int .i64 0) rfl).1;have p1:w.cell? ⟨N+5,1,nO⟩=sO (.int .i64 1):=(aq hs 4 1 aj aj (.int .i64 1) rfl).1;have p2:w.cell? ⟨N+5,2,nO⟩=sO (.int .i64 2):=(aq hs 4 2 aj aj (.int .i64 2) rfl).1;clear hb0 hs;exact du

theorem yV (V F:Int)(s:oA)(len cap N:Nat)(tto a b n g:Int)(w:World)(hV:1<=V)(hV':V<=8)(hF:0<=F)(hF':F<=3)(hL:len<=60)(hs:ShpAt N shps w):
  Calls pG 128 #[Ag #[.int .i64 V,.int .i64 F,U s len cap],.map (sO N),Ag #[.int .i64 6,.int .i64 tto,.int .i64 a,.int .i64 b,.int .i64 n,.int .i64 g]] w λe w'=>e=Rt (.int .i64 (bk V F len ⟨6,tto,a,b,n,g⟩))/\bl w w':=by
 have hb0:Below w.heap.size w ((w.alloc (Cc #[.int .i64 V,.int .i64 F,U s len cap] 24)).alloc (Cc #[.int .i64 6,.int .i64 tto,.int .i64 a,.int .i64 b,.int .i64 n,.int .i64 g] 100)):=ai;have hl:(Instr.lookup 179 (.map (sO N)) (.int .i64 6) true).run pG _=.ok (Tu #[Ag #[.string (aQ 6),U (sO ⟨N+6,0,nO⟩) 3 3],Bb true]) _:=cV (hs.below hb0 (lR _)) 6 5 _ rfl;have hz:N+6 < w.heap.size:=(aq hs 5 0 aj aj (.int .i64 0) rfl).2;have p0:w.cell? ⟨N+6,0,nO⟩=sO (.int .i64 0):=(aq hs 5 0 aj aj (.int .i64 0) rfl).1;have p1:w.cell? ⟨N+6,1,nO⟩=sO (.int .i64 1):=(aq hs 5 1 aj aj (.int .i64 1) rfl).1;have p2:w.cell? ⟨N+6,2,nO⟩=sO (.int .i64 2):=(aq hs 5 2 aj aj (.int .i64 2) rfl).1;clear hb0 hs;exact du

theorem yY (V F:Int)(s:oA)(len cap N:Nat)(tto a b n g:Int)(w:World)(hV:1<=V)(hV':V<=8)(hF:0<=F)(hF':F<=3)(hL:len<=60)(hs:ShpAt N shps w):
  Calls pG 128 #[Ag #[.int .i64 V,.int .i64 F,U s len cap],.map (sO N),Ag #[.int .i64 7,.int .i64 tto,.int .i64 a,.int .i64 b,.int .i64 n,.int .i64 g]] w λe w'=>e=Rt (.int .i64 (bk V F len ⟨7,tto,a,b,n,g⟩))/\bl w w':=by
 have hb0:Below w.heap.size w ((w.alloc (Cc #[.int .i64 V,.int .i64 F,U s len cap] 24)).alloc (Cc #[.int .i64 7,.int .i64 tto,.int .i64 a,.int .i64 b,.int .i64 n,.int .i64 g] 100)):=ai;have hl:(Instr.lookup 179 (.map (sO N)) (.int .i64 7) true).run pG _=.ok (Tu #[Ag #[.string (aQ 7),U (sO ⟨N+7,0,nO⟩) 3 3],Bb true]) _:=cV (hs.below hb0 (lR _)) 7 6 _ rfl;have hz:N+7 < w.heap.size:=(aq hs 6 0 aj aj (.int .i64 0) rfl).2;have p0:w.cell? ⟨N+7,0,nO⟩=sO (.int .i64 0):=(aq hs 6 0 aj aj (.int .i64 0) rfl).1;have p1:w.cell? ⟨N+7,1,nO⟩=sO (.int .i64 1):=(aq hs 6 1 aj aj (.int .i64 1) rfl).1;have p2:w.cell? ⟨N+7,2,nO⟩=sO (.int .i64 2):=(aq hs 6 2 aj aj (.int .i64 2) rfl).1;clear hb0 hs;exact du

theorem yh (V F:Int)(s:oA)(len cap N:Nat)(tto a b n g:Int)(w:World)(hV:1<=V)(hV':V<=8)(hF:0<=F)(hF':F<=3)(hL:len<=60)(hs:ShpAt N shps w):
  Calls pG 128 #[Ag #[.int .i64 V,.int .i64 F,U s len cap],.map (sO N),Ag #[.int .i64 16,.int .i64 tto,.int .i64 a,.int .i64 b,.int .i64 n,.int .i64 g]] w λe w'=>e=Rt (.int .i64 (bk V F len ⟨16,tto,a,b,n,g⟩))/\bl w w':=by
 have hb0:Below w.heap.size w ((w.alloc (Cc #[.int .i64 V,.int .i64 F,U s len cap] 24)).alloc (Cc #[.int .i64 16,.int .i64 tto,.int .i64 a,.int .i64 b,.int .i64 n,.int .i64 g] 100)):=ai;have hl:(Instr.lookup 179 (.map (sO N)) (.int .i64 16) true).run pG _=.ok (Tu #[Ag #[.string (aQ 16),U (sO ⟨N+16,0,nO⟩) 1 1],Bb true]) _:=cV (hs.below hb0 (lR _)) 16 15 _ rfl;have hz:N+16 < w.heap.size:=(aq hs 15 0 aj aj (.int .i64 3) rfl).2;have p0:w.cell? ⟨N+16,0,nO⟩=sO (.int .i64 3):=(aq hs 15 0 aj aj (.int .i64 3) rfl).1;clear hb0 hs;exact du

theorem yj (V F:Int)(s:oA)(len cap N:Nat)(tto a b n g:Int)(w:World)(hV:1<=V)(hV':V<=8)(hF:0<=F)(hF':F<=3)(hL:len<=60)(hs:ShpAt N shps w):
  Calls pG 128 #[Ag #[.int .i64 V,.int .i64 F,U s len cap],.map (sO N),Ag #[.int .i64 17,.int .i64 tto,.int .i64 a,.int .i64 b,.int .i64 n,.int .i64 g]] w λe w'=>e=Rt (.int .i64 (bk V F len ⟨17,tto,a,b,n,g⟩))/\bl w w':=by
 have hb0:Below w.heap.size w ((w.alloc (Cc #[.int .i64 V,.int .i64 F,U s len cap] 24)).alloc (Cc #[.int .i64 17,.int .i64 tto,.int .i64 a,.int .i64 b,.int .i64 n,.int .i64 g] 100)):=ai;have hl:(Instr.lookup 179 (.map (sO N)) (.int .i64 17) true).run pG _=.ok (Tu #[Ag #[.string (aQ 17),U (sO ⟨N+17,0,nO⟩) 1 1],Bb true]) _:=cV (hs.below hb0 (lR _)) 17 16 _ rfl;have hz:N+17 < w.heap.size:=(aq hs 16 0 aj aj (.int .i64 1) rfl).2;have p0:w.cell? ⟨N+17,0,nO⟩=sO (.int .i64 1):=(aq hs 16 0 aj aj (.int .i64 1) rfl).1;clear hb0 hs;exact du
theorem Az (V F:Int)(s:oA)(len cap N:Nat)(tto a b n g:Int)(w:World)(hV:1<=V)(hV':V<=8)(hF:0<=F)(hF':F<=3)(hL:len<=60)(hs:ShpAt N shps w):
  Calls pG 128 #[Ag #[.int .i64 V,.int .i64 F,U s len cap],.map (sO N),Ag #[.int .i64 8,.int .i64 tto,.int .i64 a,.int .i64 b,.int .i64 n,.int .i64 g]] w λe w'=>e=Rt (.int .i64 (bk V F len ⟨8,tto,a,b,n,g⟩))/\bl w w':=by
 have hb0:Below w.heap.size w ((w.alloc (Cc #[.int .i64 V,.int .i64 F,U s len cap] 24)).alloc (Cc #[.int .i64 8,.int .i64 tto,.int .i64 a,.int .i64 b,.int .i64 n,.int .i64 g] 100)):=ai;have hl:(Instr.lookup 179 (.map (sO N)) (.int .i64 8) true).run pG _=.ok (Tu #[Ag #[.string (aQ 8),U (sO ⟨N+8,0,nO⟩) 3 3],Bb true]) _:=cV (hs.below hb0 (lR _)) 8 7 _ rfl;have hz:N+8 < w.heap.size:=(aq hs 7 0 aj aj (.int .i64 0) rfl).2;have p0:w.cell? ⟨N+8,0,nO⟩=sO (.int .i64 0):=(aq hs 7 0 aj aj (.int .i64 0) rfl).1;have p1:w.cell? ⟨N+8,1,nO⟩=sO (.int .i64 1):=(aq hs 7 1 aj aj (.int .i64 1) rfl).1;have p2:w.cell? ⟨N+8,2,nO⟩=sO (.int .i64 2):=(aq hs 7 2 aj aj (.int .i64 2) rfl).1;clear hb0 hs;exact du

theorem Av (V F:Int)(s:oA)(len cap N:Nat)(tto a b n g:Int)(w:World)(hV:1<=V)(hV':V<=8)(hF:0<=F)(hF':F<=3)(hL:len<=60)(hs:ShpAt N shps w):
  Calls pG 128 #[Ag #[.int .i64 V,.int .i64 F,U s len cap],.map (sO N),Ag #[.int .i64 9,.int .i64 tto,.int .i64 a,.int .i64 b,.int .i64 n,.int .i64 g]] w λe w'=>e=Rt (.int .i64 (bk V F len ⟨9,tto,a,b,n,g⟩))/\bl w w':=by
 have hb0:Below w.heap.size w ((w.alloc (Cc #[.int .i64 V,.int .i64 F,U s len cap] 24)).alloc (Cc #[.int .i64 9,.int .i64 tto,.int .i64 a,.int .i64 b,.int .i64 n,.int .i64 g] 100)):=ai;have hl:(Instr.lookup 179 (.map (sO N)) (.int .i64 9) true).run pG _=.ok (Tu #[Ag #[.string (aQ 9),U (sO ⟨N+9,0,nO⟩) 3 3],Bb true]) _:=cV (hs.below hb0 (lR _)) 9 8 _ rfl;have hz:N+9 < w.heap.size:=(aq hs 8 0 aj aj (.int .i64 0) rfl).2;have p0:w.cell? ⟨N+9,0,nO⟩=sO (.int .i64 0):=(aq hs 8 0 aj aj (.int .i64 0) rfl).1;have p1:w.cell? ⟨N+9,1,nO⟩=sO (.int .i64 1):=(aq hs 8 1 aj aj (.int .i64 1) rfl).1;have p2:w.cell? ⟨N+9,2,nO⟩=sO (.int .i64 2):=(aq hs 8 2 aj aj (.int .i64 2) rfl).1;clear hb0 hs;exact du

theorem yd (V F:Int)(s:oA)(len cap N:Nat)(tto a b n g:Int)(w:World)(hV:1<=V)(hV':V<=8)(hF:0<=F)(hF':F<=3)(hL:len<=60)(hs:ShpAt N shps w):
  Calls pG 128 #[Ag #[.int .i64 V,.int .i64 F,U s len cap],.map (sO N),Ag #[.int .i64 10,.int .i64 tto,.int .i64 a,.int .i64 b,.int .i64 n,.int .i64 g]] w λe w'=>e=Rt (.int .i64 (bk V F len ⟨10,tto,a,b,n,g⟩))/\bl w w':=by
 have hb0:Below w.heap.size w ((w.alloc (Cc #[.int .i64 V,.int .i64 F,U s len cap] 24)).alloc (Cc #[.int .i64 10,.int .i64 tto,.int .i64 a,.int .i64 b,.int .i64 n,.int .i64 g] 100)):=ai;have hl:(Instr.lookup 179 (.map (sO N)) (.int .i64 10) true).run pG _=.ok (Tu #[Ag #[.string (aQ 10),U (sO ⟨N+10,0,nO⟩) 2 2],Bb true]) _:=cV (hs.below hb0 (lR _)) 10 9 _ rfl;have hz:N+10 < w.heap.size:=(aq hs 9 0 aj aj (.int .i64 0) rfl).2;have p0:w.cell? ⟨N+10,0,nO⟩=sO (.int .i64 0):=(aq hs 9 0 aj aj (.int .i64 0) rfl).1;have p1:w.cell? ⟨N+10,1,nO⟩=sO (.int .i64 1):=(aq hs 9 1 aj aj (.int .i64 1) rfl).1;clear hb0 hs;exact du

theorem yk (V F:Int)(s:oA)(len cap N:Nat)(tto a b n g:Int)(w:World)(hV:1<=V)(hV':V<=8)(hF:0<=F)(hF':F<=3)(hL:len<=60)(hs:ShpAt N shps w):
  Calls pG 128 #[Ag #[.int .i64 V,.int .i64 F,U s len cap],.map (sO N),Ag #[.int .i64 15,.int .i64 tto,.int .i64 a,.int .i64 b,.int .i64 n,.int .i64 g]] w λe w'=>e=Rt (.int .i64 (bk V F len ⟨15,tto,a,b,n,g⟩))/\bl w w':=by
 have hb0:Below w.heap.size w ((w.alloc (Cc #[.int .i64 V,.int .i64 F,U s len cap] 24)).alloc (Cc #[.int .i64 15,.int .i64 tto,.int .i64 a,.int .i64 b,.int .i64 n,.int .i64 g] 100)):=ai;have hl:(Instr.lookup 179 (.map (sO N)) (.int .i64 15) true).run pG _=.ok (Tu #[Ag #[.string (aQ 15),U (sO ⟨N+15,0,nO⟩) 2 2],Bb true]) _:=cV (hs.below hb0 (lR _)) 15 14 _ rfl;have hz:N+15 < w.heap.size:=(aq hs 14 0 aj aj (.int .i64 1) rfl).2;have p0:w.cell? ⟨N+15,0,nO⟩=sO (.int .i64 1):=(aq hs 14 0 aj aj (.int .i64 1) rfl).1;have p1:w.cell? ⟨N+15,1,nO⟩=sO (.int .i64 3):=(aq hs 14 1 aj aj (.int .i64 3) rfl).1;clear hb0 hs;exact du

theorem yc (V F:Int)(s:oA)(len cap N:Nat)(tto a b n g:Int)(w:World)(hV:1<=V)(hV':V<=8)(hF:0<=F)(hF':F<=3)(hL:len<=60)(hs:ShpAt N shps w):
  Calls pG 128 #[Ag #[.int .i64 V,.int .i64 F,U s len cap],.map (sO N),Ag #[.int .i64 18,.int .i64 tto,.int .i64 a,.int .i64 b,.int .i64 n,.int .i64 g]] w λe w'=>e=Rt (.int .i64 (bk V F len ⟨18,tto,a,b,n,g⟩))/\bl w w':=by
 have hb0:Below w.heap.size w ((w.alloc (Cc #[.int .i64 V,.int .i64 F,U s len cap] 24)).alloc (Cc #[.int .i64 18,.int .i64 tto,.int .i64 a,.int .i64 b,.int .i64 n,.int .i64 g] 100)):=ai;have hl:(Instr.lookup 179 (.map (sO N)) (.int .i64 18) true).run pG _=.ok (Tu #[Ag #[.string (aQ 18),U (sO ⟨N+18,0,nO⟩) 1 1],Bb true]) _:=cV (hs.below hb0 (lR _)) 18 17 _ rfl;have hz:N+18 < w.heap.size:=(aq hs 17 0 aj aj (.int .i64 1) rfl).2;have p0:w.cell? ⟨N+18,0,nO⟩=sO (.int .i64 1):=(aq hs 17 0 aj aj (.int .i64 1) rfl).1;clear hb0 hs;exact du
theorem wV (V F:Int)(s:oA)(len cap N:Nat)(tto a b n g:Int)(w:World)(hV:1<=V)(hV':V<=8)(hF:0<=F)(hF':F<=3)(hL:len<=60)(hs:ShpAt N shps w):
  Calls pG 128 #[Ag #[.int .i64 V,.int .i64 F,U s len cap],.map (sO N),Ag #[.int .i64 12,.int .i64 tto,.int .i64 a,.int .i64 b,.int .i64 n,.int .i64 g]] w λe w'=>e=Rt (.int .i64 (bk V F len ⟨12,tto,a,b,n,g⟩))/\bl w w':=by
 have hb0:Below w.heap.size w ((w.alloc (Cc #[.int .i64 V,.int .i64 F,U s len cap] 24)).alloc (Cc #[.int .i64 12,.int .i64 tto,.int .i64 a,.int .i64 b,.int .i64 n,.int .i64 g] 100)):=ai;have hl:(Instr.lookup 179 (.map (sO N)) (.int .i64 12) true).run pG _=.ok (Tu #[Ag #[.string (aQ 12),U (sO ⟨N+12,0,nO⟩) 3 3],Bb true]) _:=cV (hs.below hb0 (lR _)) 12 11 _ rfl;have hz:N+12 < w.heap.size:=(aq hs 11 0 aj aj (.int .i64 0) rfl).2;have p0:w.cell? ⟨N+12,0,nO⟩=sO (.int .i64 0):=(aq hs 11 0 aj aj (.int .i64 0) rfl).1;have p1:w.cell? ⟨N+12,1,nO⟩=sO (.int .i64 1):=(aq hs 11 1 aj aj (.int .i64 1) rfl).1;have p2:w.cell? ⟨N+12,2,nO⟩=sO (.int .i64 7):=(aq hs 11 2 aj aj (.int .i64 7) rfl).1;clear hb0 hs;exact du

theorem wP (V F:Int)(s:oA)(len cap N:Nat)(tto a b n g:Int)(w:World)(hV:1<=V)(hV':V<=8)(hF:0<=F)(hF':F<=3)(hL:len<=60)(hs:ShpAt N shps w):
  Calls pG 128 #[Ag #[.int .i64 V,.int .i64 F,U s len cap],.map (sO N),Ag #[.int .i64 13,.int .i64 tto,.int .i64 a,.int .i64 b,.int .i64 n,.int .i64 g]] w λe w'=>e=Rt (.int .i64 (bk V F len ⟨13,tto,a,b,n,g⟩))/\bl w w':=by
 have hb0:Below w.heap.size w ((w.alloc (Cc #[.int .i64 V,.int .i64 F,U s len cap] 24)).alloc (Cc #[.int .i64 13,.int .i64 tto,.int .i64 a,.int .i64 b,.int .i64 n,.int .i64 g] 100)):=ai;have hl:(Instr.lookup 179 (.map (sO N)) (.int .i64 13) true).run pG _=.ok (Tu #[Ag #[.string (aQ 13),U (sO ⟨N+13,0,nO⟩) 3 3],Bb true]) _:=cV (hs.below hb0 (lR _)) 13 12 _ rfl;have hz:N+13 < w.heap.size:=(aq hs 12 0 aj aj (.int .i64 1) rfl).2;have p0:w.cell? ⟨N+13,0,nO⟩=sO (.int .i64 1):=(aq hs 12 0 aj aj (.int .i64 1) rfl).1;have p1:w.cell? ⟨N+13,1,nO⟩=sO (.int .i64 7):=(aq hs 12 1 aj aj (.int .i64 7) rfl).1;have p2:w.cell? ⟨N+13,2,nO⟩=sO (.int .i64 2):=(aq hs 12 2 aj aj (.int .i64 2) rfl).1;clear hb0 hs;exact du

theorem yg (V F:Int)(s:oA)(len cap N:Nat)(tto a b n g:Int)(w:World)(hV:1<=V)(hV':V<=8)(hF:0<=F)(hF':F<=3)(hL:len<=60)(hs:ShpAt N shps w):
  Calls pG 128 #[Ag #[.int .i64 V,.int .i64 F,U s len cap],.map (sO N),Ag #[.int .i64 14,.int .i64 tto,.int .i64 a,.int .i64 b,.int .i64 n,.int .i64 g]] w λe w'=>e=Rt (.int .i64 (bk V F len ⟨14,tto,a,b,n,g⟩))/\bl w w':=by
 have hb0:Below w.heap.size w ((w.alloc (Cc #[.int .i64 V,.int .i64 F,U s len cap] 24)).alloc (Cc #[.int .i64 14,.int .i64 tto,.int .i64 a,.int .i64 b,.int .i64 n,.int .i64 g] 100)):=ai;have hl:(Instr.lookup 179 (.map (sO N)) (.int .i64 14) true).run pG _=.ok (Tu #[Ag #[.string (aQ 14),U (sO ⟨N+14,0,nO⟩) 2 2],Bb true]) _:=cV (hs.below hb0 (lR _)) 14 13 _ rfl;have hz:N+14 < w.heap.size:=(aq hs 13 0 aj aj (.int .i64 0) rfl).2;have p0:w.cell? ⟨N+14,0,nO⟩=sO (.int .i64 0):=(aq hs 13 0 aj aj (.int .i64 0) rfl).1;have p1:w.cell? ⟨N+14,1,nO⟩=sO (.int .i64 6):=(aq hs 13 1 aj aj (.int .i64 6) rfl).1;clear hb0 hs;exact du
theorem ni {x:Int}(h1: -9223372036854775808<=x)(h2:x < 9223372036854775808):wrap64 x=x:=by unfold wrap64;omega

theorem FZ {a b:Int}(ha:ba a)(hb:ba b): -4611686018427387904<=a * b/\a * b<=4611686018427387904:=by
 have h1:a.natAbs<=2147483648:=by unfold ba at ha;omega
 have h2:b.natAbs<=2147483648:=by unfold ba at hb;omega
 have h3:(a * b).natAbs<=4611686018427387904:=by rw[Int.natAbs_mul];exact Nat.mul_le_mul h1 h2
 omega

theorem fV {a b:Int}(ha:ba a)(hb:ba b):wrap64 (a+b)=a+b:=by
 unfold ba at ha hb;exact ni aa aa
theorem fR {a b:Int}(ha:ba a)(hb:ba b):wrap64 (a - b)=a - b:=by
 unfold ba at ha hb;exact ni aa aa
theorem fP {a b:Int}(ha:ba a)(hb:ba b):wrap64 (a * b)=a * b:=by
 have:=FZ ha hb;exact ni aa aa

theorem K7 (s t:Sp)(w:World)(hs:s.Ok)(ht:t.Ok):
  Calls pG 228 #[sv s,sv t,.func (.func 229) #[] #[]] w λe w'=>e=Rt (sv (cn 5 s t))/\bl w w':=by
 by_cases h:(s.n||t.n)=true
 ·have:=lq 229 s t w h
  unfold cn;rw[if_pos h];exact this
 ·have e0:cn 5 s t=fI (s.lo+t.lo) (s.lo+t.hi) (s.hi+t.lo) (s.hi+t.hi):=by unfold cn;rw[if_neg h];rfl
  rw[e0];obtain⟨n,lo,hi⟩:=s;obtain⟨n',lo',hi'⟩:=t;cases n with
  |true=>exact absurd rfl h
  |false=>
   cases n' with
   |true=>exact absurd rfl h
   |false=>exact El lo hi lo' hi' w (fV hs.1 ht.1) (fV hs.1 ht.2.1) (fV hs.2.1 ht.1) (fV hs.2.1 ht.2.1)

theorem KQ (s t:Sp)(w:World)(hs:s.Ok)(ht:t.Ok):
  Calls pG 228 #[sv s,sv t,.func (.func 230) #[] #[]] w λe w'=>e=Rt (sv (cn 6 s t))/\bl w w':=by
 by_cases h:(s.n||t.n)=true
 ·have:=lq 230 s t w h
  unfold cn;rw[if_pos h];exact this
 ·have e0:cn 6 s t=fI (s.lo - t.lo) (s.lo - t.hi) (s.hi - t.lo) (s.hi - t.hi):=by unfold cn;rw[if_neg h];rfl
  rw[e0];obtain⟨n,lo,hi⟩:=s;obtain⟨n',lo',hi'⟩:=t;cases n with
  |true=>exact absurd rfl h
  |false=>
   cases n' with
   |true=>exact absurd rfl h
   |false=>exact Ea lo hi lo' hi' w (fR hs.1 ht.1) (fR hs.1 ht.2.1) (fR hs.2.1 ht.1) (fR hs.2.1 ht.2.1)

theorem LS (s t:Sp)(w:World)(hs:s.Ok)(ht:t.Ok):
  Calls pG 228 #[sv s,sv t,.func (.func 231) #[] #[]] w λe w'=>e=Rt (sv (cn 7 s t))/\bl w w':=by
 by_cases h:(s.n||t.n)=true
 ·have:=lq 231 s t w h
  unfold cn;rw[if_pos h];exact this
 ·have e0:cn 7 s t=fI (s.lo * t.lo) (s.lo * t.hi) (s.hi * t.lo) (s.hi * t.hi):=by unfold cn;rw[if_neg h];rfl
  rw[e0];obtain⟨n,lo,hi⟩:=s;obtain⟨n',lo',hi'⟩:=t;cases n with
  |true=>exact absurd rfl h
  |false=>
   cases n' with
   |true=>exact absurd rfl h
   |false=>exact Er lo hi lo' hi' w (fP hs.1 ht.1) (fP hs.1 ht.2.1) (fP hs.2.1 ht.1) (fP hs.2.1 ht.2.1)

theorem Mj (k:Int)(s t:Sp)(w:World)(h:bu s t≠0):
  Calls pG 202 #[.int .i64 k,sv s,sv t] w λe w'=>e=Rt (Tu #[sv bD,.int .i64 (bu s t)])/\bl w w':=by
 obtain⟨n,lo,hi⟩:=s;obtain⟨n',lo',hi'⟩:=t;go_enter Tryz.func202,Tryz.ntmps202;go_wp2_with (go_at_call 219;fail);refine(dK ⟨n,lo,hi⟩ ⟨n',lo',hi'⟩ _).mono ?_;rintro e w1 ⟨rfl,hb1⟩;obtain⟨⟨c0,c1,c2⟩,⟨d0,d1,d2⟩,⟨r0,r1,r2⟩,⟨f0,f1,f2⟩,z0,z1,z2⟩:=dS (s:=⟨n,lo,hi⟩) (t:=⟨n',lo',hi'⟩) (r:=bD) hb1 ah;have H1:bl w w1:=(dQ ⟨n,lo,hi⟩ ⟨n',lo',hi'⟩ bD w).trans (hb1.mono an);simp only[bD] at r0 r1 r2;clear hb1;go_wp2;refine bodyPost_ret (v:=Tu #[sv bD,.int .i64 (bu ⟨n,lo,hi⟩ ⟨n',lo',hi'⟩)]) Cs rfl ⟨rfl,?_⟩;exact((H1.setCell an _).setCell an _).setCell an _

theorem Lb (k:Int)(s t:Sp)(w:World)(h:bu s t=0)(h5:(k==5)=false)(h6:(k==6)=false)(h7:(k==7)=false):
  Calls pG 202 #[.int .i64 k,sv s,sv t] w λe w'=>e=Rt (Tu #[sv bD,.int .i64 6])/\bl w w':=by
 obtain⟨n,lo,hi⟩:=s;obtain⟨n',lo',hi'⟩:=t;go_enter Tryz.func202,Tryz.ntmps202;go_wp2_with (go_at_call 219;fail);refine(dK ⟨n,lo,hi⟩ ⟨n',lo',hi'⟩ _).mono ?_;rintro e w1 ⟨rfl,hb1⟩;obtain⟨⟨c0,c1,c2⟩,⟨d0,d1,d2⟩,⟨r0,r1,r2⟩,⟨f0,f1,f2⟩,z0,z1,z2⟩:=dS (s:=⟨n,lo,hi⟩) (t:=⟨n',lo',hi'⟩) (r:=bD) hb1 ah;have H1:bl w w1:=(dQ ⟨n,lo,hi⟩ ⟨n',lo',hi'⟩ bD w).trans (hb1.mono an);simp only[bD] at r0 r1 r2;clear hb1;rw[h];go_wp2;refine bodyPost_ret (v:=Tu #[sv bD,.int .i64 6]) Cs rfl ⟨rfl,?_⟩;exact((H1.setCell an _).setCell an _).setCell an _

theorem mK {p:Prop}(h:p:=by
 clear hs ht;obtain⟨n,lo,hi⟩:=s;obtain⟨n',lo',hi'⟩:=t;obtain⟨rn,rlo,rhi⟩:=r;go_enter Tryz.func202,Tryz.ntmps202;go_wp2_with (go_at_call 219;fail);refine(dK ⟨n,lo,hi⟩ ⟨n',lo',hi'⟩ _).mono ?_;rintro e w1 ⟨rfl,hb1⟩;obtain⟨⟨c0,c1,c2⟩,⟨d0,d1,d2⟩,⟨r0,r1,r2⟩,⟨f0,f1,f2⟩,z0,z1,z2⟩:=dS (s:=⟨n,lo,hi⟩) (t:=⟨n',lo',hi'⟩) (r:=bD) hb1 ah;have H1:bl w w1:=(dQ ⟨n,lo,hi⟩ ⟨n',lo',hi'⟩ bD w).trans (hb1.mono an);simp only[bD] at r0 r1 r2;clear hb1;rw[h];go_wp2_with (go_at_call 228;fail);refine(hR _).mono ?_;rintro e w2 ⟨rfl,hb2⟩;have g0:=r0;have g1:=r1;have g2:=r2;have k0:=f0;have k1:=f1;have k2:=f2
 rw[<-hb2.cell z2] at g0 g1 g2;rw[<-hb2.frozen z2] at k0 k1 k2;have H2:bl w w2:=H1.trans (hb2.mono aa);clear r0 r1 r2 f0 f1 f2 hb2 c0 c1 c2 d0 d1 d2 hR;go_wp2;refine bodyPost_ret (v:=.tuple #[sv ⟨rn,rlo,rhi⟩,.int .i64 0]) (by simp[results,Tryz.results202,go_sem,g0,g1,g2]) rfl ⟨rfl,?_⟩;exact((H2.setCell an _).setCell an _).setCell an _):p:=h
theorem MC (s t:Sp)(w:World)(h:bu s t=0):
  Calls pG 202 #[.int .i64 5,sv s,sv t] w λe w'=>e=Rt (Tu #[sv (cn 5 s t),.int .i64 0])/\bl w w':=by
 obtain⟨hs,ht⟩:=ckSps_ok.1 h;have hR:=λw=>K7 s t w hs ht;generalize cn 5 s t=r at hR |-;exact mK

theorem My (s t:Sp)(w:World)(h:bu s t=0):
  Calls pG 202 #[.int .i64 6,sv s,sv t] w λe w'=>e=Rt (Tu #[sv (cn 6 s t),.int .i64 0])/\bl w w':=by
 obtain⟨hs,ht⟩:=ckSps_ok.1 h;have hR:=λw=>KQ s t w hs ht;generalize cn 6 s t=r at hR |-;exact mK

theorem MD (s t:Sp)(w:World)(h:bu s t=0):
  Calls pG 202 #[.int .i64 7,sv s,sv t] w λe w'=>e=Rt (Tu #[sv (cn 7 s t),.int .i64 0])/\bl w w':=by
 obtain⟨hs,ht⟩:=ckSps_ok.1 h;have hR:=λw=>LS s t w hs ht;generalize cn 7 s t=r at hR |-;exact mK

def fK (k:Int)(s t:Sp):Int:=if bu s t=0 then(if k=5\/k=6\/k=7 then 0 else 6) else bu s t

theorem Aw (k:Int)(s t:Sp)(w:World):
  Calls pG 202 #[.int .i64 k,sv s,sv t] w λe w'=>e=Rt (Tu #[sv (dW (fK k s t) (cn k s t)),.int .i64 (fK k s t)])/\bl w w':=by
 by_cases h:bu s t=0
 ·by_cases hk:k=5\/k=6\/k=7
  ·have e0:fK k s t=0:=by unfold fK;rw[if_pos h,if_pos hk]
   rw[e0];rcases hk with rfl|rfl|rfl
   ·exact MC s t w h
   ·exact My s t w h
   ·exact MD s t w h
  ·have e0:fK k s t=6:=by unfold fK;rw[if_pos h,if_neg hk]
   rw[e0];exact Lb k s t w h an an an
 ·have e0:fK k s t=bu s t:=by unfold fK;rw[if_neg h]
  rw[e0];unfold dW;rw[if_neg h];exact Mj k s t w h
theorem IL (k:Int)(s t:Sp)(w:World)(h:(s.n||t.n)=true):
  Calls pG 172 #[.int .i64 k,sv s,sv t] w λe w'=>e=Rt (sv ⟨true,0,0⟩)/\bl w w':=by
 obtain⟨n,lo,hi⟩:=s;obtain⟨n',lo',hi'⟩:=t;cases n with
 |true=>
  go_enter Tryz.func172,Tryz.ntmps172;go_wp2
  go_returns
  exact⟨rfl,ai⟩
 |false=>
  cases n' with
  |true=>
   go_enter Tryz.func172,Tryz.ntmps172;go_wp2
   go_returns
   exact⟨rfl,ai⟩
  |false=>exact absurd h ah

theorem ie {w:World}{B:Nat}{e:TypeId}{z:Nat}{v:Value}{n:Nat}{xs:List Value}(h:w.ownsRow B e z v n xs){k:Nat}(hk:v.ownBlock=sO k):B<=k:=by
 rcases h.2 with⟨rfl,_⟩|⟨g,cap,cur,rfl,hb,hg,_⟩
 ·cases hk
 ·cases hk
  exact hb

theorem Tryz.info_intS:(Tryz.prog.info? 3).map (λi=>(i.zero,i.size,i.bytes))=sO (sO (.int .i64 0),1,8):=ag

theorem BU {P:Program}{t:TypeId}{z:Option Value}{a b:Nat}(h:(P.info? t).map (λi=>(i.zero,i.size,i.bytes))=sO (z,a,b)):∃i,P.info? t=sO i/\i.zero=z/\i.size=a/\i.bytes=b:=by
 cases hi:P.info? t with
 |none=>rw[hi] at h;cases h
 |some i=>
  rw[hi] at h;simp only[Option.map_some,Option.some.injEq,Prod.mk.injEq] at h;exact⟨i,rfl,h.1,h.2.1,h.2.2⟩

theorem Hz (a b c d:Int):dx a b c d<=dw a b c d:=by unfold dx dw;omega
theorem LI {a b c d:Int}(h:cu ⟨false,dx a b c d,dw a b c d⟩=0):fI a b c d=⟨false,dx a b c d,dw a b c d⟩:=by
 have:=ckSp_ok.1 h;exact Cx this.1 this.2.1
theorem DB {a b c d:Int}(h:cu ⟨false,dx a b c d,dw a b c d⟩≠0):fI a b c d=⟨false,-2147483648,2147483647⟩:=by
 unfold fI;refine if_neg λhc=>h (ckSp_ok.2 ⟨hc.1,hc.2,(λhn=>by cases hn),Hz a b c d⟩)

theorem nk (w:World)(v:Value)(t:TypeId):∀j u,[v][j]? =sO u->(w.alloc (Cc #[v] t)).drew.cell? ((⟨w.heap.size,0,nO⟩:Addr).add j)=sO u:=by
 intro j u hu;have hadd:(⟨w.heap.size,0,nO⟩:Addr).add j=⟨w.heap.size,j,nO⟩:=vr;rw[hadd];have:(w.alloc (Cc #[v] t)).drew.cell? ⟨w.heap.size,j,nO⟩=#[v][j]? :=aW;rw[this];simpa using hu
theorem sK {p:Prop}(h:p:=by
 go_wp2;go_loopw [7,11] (λl k wr=>∃J:Nat,J<=2/\k=.int .i64 J/\wr.ownsRow W.heap.size 3 1 l (0+J) (([a,b,c,d].take (0+J)).map (.int .i64))/\bl W wr) (λ_ k _=>2 - (intOf k).toNat)
 case atStart=>exact⟨0,aa,rfl,hown,hbr⟩
 case round=>
  obtain⟨J,hJ,rfl,hown1,hbr1⟩:=hrel;clear hown hbr;rcases (by omega:J=0\/J=1\/J=2) with rfl|rfl|rfl
  ·go_wp2
   go_region_held_law (λw'=>w'.cell? ⟨ga,0,none⟩=some (.int .i64 lo)/\w'.cell? ⟨gb,0,none⟩=some (.int .i64 lo'))
    (first|exact K00 _ hbr1.drew|exact K00 _ (hbr1.alloc hbr1.size _).drew|exact K00 _ HBn)
    (first
     |(refine step_append_lies _ rfl _ _ 34 rfl W.heap.size 3 ti (.int .i64 0) 1 8 Tryz.underlying34 hi0 hz0 hz1 hz2 rfl aj _ _ _ rfl ((hown1.alloc _).drew) ⟨wr.heap.size,0,none⟩ 1 1 [.int .i64 a] rfl rfl (nk _ _ _) (λx hx=>l9) aj dh aa gY _ rfl ?_;intro g1 cap1 wn hownn hgrown hatn hltn;have HBn:bl W wn:=(hbr1.alloc hbr1.size _).drew.grown hgrown gY (λj hj=>ie hown1 hj)))
   go_wp2;go_roundw
   case rel=>exact⟨1,aa,rfl,hownn,HBn⟩
   case measure=>simp[intOf]
  ·go_wp2
   go_region_held_law (λw'=>w'.cell? ⟨ga,0,none⟩=some (.int .i64 lo)/\w'.cell? ⟨gb,1,none⟩=some (.int .i64 hi'))
    (first|exact K01 _ hbr1.drew|exact K01 _ (hbr1.alloc hbr1.size _).drew|exact K01 _ HBn)
    (first
     |(refine step_append_lies _ rfl _ _ 34 rfl W.heap.size 3 ti (.int .i64 0) 1 8 Tryz.underlying34 hi0 hz0 hz1 hz2 rfl aj _ _ _ rfl ((hown1.alloc _).drew) ⟨wr.heap.size,0,none⟩ 1 1 [.int .i64 b] rfl rfl (nk _ _ _) (λx hx=>l9) aj dh aa gY _ rfl ?_;intro g1 cap1 wn hownn hgrown hatn hltn;have HBn:bl W wn:=(hbr1.alloc hbr1.size _).drew.grown hgrown gY (λj hj=>ie hown1 hj)))
   go_wp2;go_roundw
   case rel=>exact⟨2,aa,rfl,hownn,HBn⟩
   case measure=>simp[intOf]
  ·go_wp2
   go_roundw
   case rel=>exact⟨1,aa,rfl,hown1,hbr1⟩
   case measure=>simp[intOf]):p:=h
theorem ut {p:Prop}(h:p:=by
 go_wp2;go_loopw [7,11] (λl k wr=>∃J:Nat,J<=2/\k=.int .i64 J/\wr.ownsRow W.heap.size 3 1 l (2+J) (([a,b,c,d].take (2+J)).map (.int .i64))/\bl W wr) (λ_ k _=>2 - (intOf k).toNat)
 case atStart=>exact⟨0,aa,rfl,hown,hbr⟩
 case round=>
  obtain⟨J,hJ,rfl,hown1,hbr1⟩:=hrel;clear hown hbr;rcases (by omega:J=0\/J=1\/J=2) with rfl|rfl|rfl
  ·go_wp2
   go_region_held_law (λw'=>w'.cell? ⟨ga,1,none⟩=some (.int .i64 hi)/\w'.cell? ⟨gb,0,none⟩=some (.int .i64 lo'))
    (first|exact K10 _ hbr1.drew|exact K10 _ (hbr1.alloc hbr1.size _).drew|exact K10 _ HBn)
    (first
     |(refine step_append_lies _ rfl _ _ 34 rfl W.heap.size 3 ti (.int .i64 0) 1 8 Tryz.underlying34 hi0 hz0 hz1 hz2 rfl aj _ _ _ rfl ((hown1.alloc _).drew) ⟨wr.heap.size,0,none⟩ 1 1 [.int .i64 c] rfl rfl (nk _ _ _) (λx hx=>l9) aj dh aa gY _ rfl ?_;intro g1 cap1 wn hownn hgrown hatn hltn;have HBn:bl W wn:=(hbr1.alloc hbr1.size _).drew.grown hgrown gY (λj hj=>ie hown1 hj)))
   go_wp2;go_roundw
   case rel=>exact⟨1,aa,rfl,hownn,HBn⟩
   case measure=>simp[intOf]
  ·go_wp2
   go_region_held_law (λw'=>w'.cell? ⟨ga,1,none⟩=some (.int .i64 hi)/\w'.cell? ⟨gb,1,none⟩=some (.int .i64 hi'))
    (first|exact K11 _ hbr1.drew|exact K11 _ (hbr1.alloc hbr1.size _).drew|exact K11 _ HBn)
    (first
     |(refine step_append_lies _ rfl _ _ 34 rfl W.heap.size 3 ti (.int .i64 0) 1 8 Tryz.underlying34 hi0 hz0 hz1 hz2 rfl aj _ _ _ rfl ((hown1.alloc _).drew) ⟨wr.heap.size,0,none⟩ 1 1 [.int .i64 d] rfl rfl (nk _ _ _) (λx hx=>l9) aj dh aa gY _ rfl ?_;intro g1 cap1 wn hownn hgrown hatn hltn;have HBn:bl W wn:=(hbr1.alloc hbr1.size _).drew.grown hgrown gY (λj hj=>ie hown1 hj)))
   go_wp2;go_roundw
   case rel=>exact⟨2,aa,rfl,hownn,HBn⟩
   case measure=>simp[intOf]
  ·go_wp2
   go_roundw
   case rel=>exact⟨2,aa,rfl,hown1,hbr1⟩
   case measure=>simp[intOf]):p:=h
theorem tG {p:Prop}(h:p:=by
 have hH:=LI hc;generalize dx a b c d=mn at *;generalize dw a b c d=mx at *;go_wp2;refine bodyPost_ret (v:=sv ⟨false,mn,mx⟩) uJ rfl ⟨by rw[hH],?_⟩;exact((H5.setCell an _).setCell an _).setCell an _):p:=h
theorem tP {p:Prop}(h:p:=by
 intro wx hb;rw[hb.cell ah,hb.cell ah,hb.cell ah,hb.frozen ah,hb.frozen ah,hb.frozen ah];simp[go_sem]):p:=h
theorem mR {p:Prop}(h:p:=by
 obtain⟨ti,hi0,hz0,hz1,hz2⟩:=BU Tryz.info_intS;go_enter Tryz.func172,Tryz.ntmps172;go_wp2;go_region_held3 (λw'=>w'.cell? ⟨w.heap.size,1,none⟩=some (.int .i64 lo)/\w'.cell? ⟨w.heap.size,2,none⟩=some (.int .i64 hi)/\w'.cell? ⟨w.heap.size+1,1,none⟩=some (.int .i64 lo')/\w'.cell? ⟨w.heap.size+1,2,none⟩=some (.int .i64 hi')) (simp[go_sem])
  (fail)
 ·have HB:Below w.heap.size w ((((((w.alloc (.cells #[.bool false,.int .i64 lo,.int .i64 hi] 89)).alloc (.cells #[.bool false,.int .i64 lo',.int .i64 hi'] 89)).alloc (.cells #[.bool false,.int .i64 0,.int .i64 0] 89)).alloc (.cells #[.int .i64 lo,.int .i64 hi] 3)).alloc (.cells #[.int .i64 lo',.int .i64 hi'] 3)).drew):=by go_grown
  have f0:((((((w.alloc (.cells #[.bool false,.int .i64 lo,.int .i64 hi] 89)).alloc (.cells #[.bool false,.int .i64 lo',.int .i64 hi'] 89)).alloc (.cells #[.bool false,.int .i64 0,.int .i64 0] 89)).alloc (.cells #[.int .i64 lo,.int .i64 hi] 3)).alloc (.cells #[.int .i64 lo',.int .i64 hi'] 3)).drew).cell? ⟨w.heap.size+1+1+1,0,none⟩=some (.int .i64 lo):=aW;have f1:((((((w.alloc (.cells #[.bool false,.int .i64 lo,.int .i64 hi] 89)).alloc (.cells #[.bool false,.int .i64 lo',.int .i64 hi'] 89)).alloc (.cells #[.bool false,.int .i64 0,.int .i64 0] 89)).alloc (.cells #[.int .i64 lo,.int .i64 hi] 3)).alloc (.cells #[.int .i64 lo',.int .i64 hi'] 3)).drew).cell? ⟨w.heap.size+1+1+1,1,none⟩=some (.int .i64 hi):=aW;have f2:((((((w.alloc (.cells #[.bool false,.int .i64 lo,.int .i64 hi] 89)).alloc (.cells #[.bool false,.int .i64 lo',.int .i64 hi'] 89)).alloc (.cells #[.bool false,.int .i64 0,.int .i64 0] 89)).alloc (.cells #[.int .i64 lo,.int .i64 hi] 3)).alloc (.cells #[.int .i64 lo',.int .i64 hi'] 3)).drew).cell? ⟨w.heap.size+1+1+1+1,0,none⟩=some (.int .i64 lo'):=aW;have f3:((((((w.alloc (.cells #[.bool false,.int .i64 lo,.int .i64 hi] 89)).alloc (.cells #[.bool false,.int .i64 lo',.int .i64 hi'] 89)).alloc (.cells #[.bool false,.int .i64 0,.int .i64 0] 89)).alloc (.cells #[.int .i64 lo,.int .i64 hi] 3)).alloc (.cells #[.int .i64 lo',.int .i64 hi'] 3)).drew).cell? ⟨w.heap.size+1+1+1+1,1,none⟩=some (.int .i64 hi'):=aW;have zz:((((((w.alloc (.cells #[.bool false,.int .i64 lo,.int .i64 hi] 89)).alloc (.cells #[.bool false,.int .i64 lo',.int .i64 hi'] 89)).alloc (.cells #[.bool false,.int .i64 0,.int .i64 0] 89)).alloc (.cells #[.int .i64 lo,.int .i64 hi] 3)).alloc (.cells #[.int .i64 lo',.int .i64 hi'] 3)).drew).heap.size=w.heap.size+5:=ah;have za:w.heap.size+1+1+1 < ((((((w.alloc (.cells #[.bool false,.int .i64 lo,.int .i64 hi] 89)).alloc (.cells #[.bool false,.int .i64 lo',.int .i64 hi'] 89)).alloc (.cells #[.bool false,.int .i64 0,.int .i64 0] 89)).alloc (.cells #[.int .i64 lo,.int .i64 hi] 3)).alloc (.cells #[.int .i64 lo',.int .i64 hi'] 3)).drew).heap.size:=ah;have zb:w.heap.size+1+1+1+1 < ((((((w.alloc (.cells #[.bool false,.int .i64 lo,.int .i64 hi] 89)).alloc (.cells #[.bool false,.int .i64 lo',.int .i64 hi'] 89)).alloc (.cells #[.bool false,.int .i64 0,.int .i64 0] 89)).alloc (.cells #[.int .i64 lo,.int .i64 hi] 3)).alloc (.cells #[.int .i64 lo',.int .i64 hi'] 3)).drew).heap.size:=ah;have KR:∀wx,Below ((((((w.alloc (.cells #[.bool false,.int .i64 lo,.int .i64 hi] 89)).alloc (.cells #[.bool false,.int .i64 lo',.int .i64 hi'] 89)).alloc (.cells #[.bool false,.int .i64 0,.int .i64 0] 89)).alloc (.cells #[.int .i64 lo,.int .i64 hi] 3)).alloc (.cells #[.int .i64 lo',.int .i64 hi'] 3)).drew).heap.size ((((((w.alloc (.cells #[.bool false,.int .i64 lo,.int .i64 hi] 89)).alloc (.cells #[.bool false,.int .i64 lo',.int .i64 hi'] 89)).alloc (.cells #[.bool false,.int .i64 0,.int .i64 0] 89)).alloc (.cells #[.int .i64 lo,.int .i64 hi] 3)).alloc (.cells #[.int .i64 lo',.int .i64 hi'] 3)).drew) wx->wx.cell? ⟨w.heap.size+1+1,0,none⟩=some (.bool false)/\wx.cell? ⟨w.heap.size+1+1,1,none⟩=some (.int .i64 0)/\wx.cell? ⟨w.heap.size+1+1,2,none⟩=some (.int .i64 0)/\wx.frozen? ⟨w.heap.size+1+1,0,none⟩=false/\wx.frozen? ⟨w.heap.size+1+1,1,none⟩=false/\wx.frozen? ⟨w.heap.size+1+1,2,none⟩=false:=by
   exact tP
  generalize ((((((w.alloc (.cells #[.bool false,.int .i64 lo,.int .i64 hi] 89)).alloc (.cells #[.bool false,.int .i64 lo',.int .i64 hi'] 89)).alloc (.cells #[.bool false,.int .i64 0,.int .i64 0] 89)).alloc (.cells #[.int .i64 lo,.int .i64 hi] 3)).alloc (.cells #[.int .i64 lo',.int .i64 hi'] 3)).drew)=W at HB f0 f1 f2 f3 zz za zb KR |-;generalize w.heap.size+1+1+1+1=gb at f2 f3 zb |-;generalize w.heap.size+1+1+1=ga at f0 f1 za |-;have K:∀wx,bl W wx->wx.cell? ⟨ga,0,none⟩=some (.int .i64 lo)/\wx.cell? ⟨ga,1,none⟩=some (.int .i64 hi)/\wx.cell? ⟨gb,0,none⟩=some (.int .i64 lo')/\wx.cell? ⟨gb,1,none⟩=some (.int .i64 hi'):=by
   intro wx hb;rw[hb.cell za,hb.cell za,hb.cell zb,hb.cell zb];exact⟨f0,f1,f2,f3⟩
  have K00:=λwx hb=>(show _/\_ from⟨(K wx hb).1,(K wx hb).2.2.1⟩);have K01:=λwx hb=>(show _/\_ from⟨(K wx hb).1,(K wx hb).2.2.2⟩);have K10:=λwx hb=>(show _/\_ from⟨(K wx hb).2.1,(K wx hb).2.2.1⟩);have K11:=λwx hb=>(show _/\_ from⟨(K wx hb).2.1,(K wx hb).2.2.2⟩);clear K f0 f1 f2 f3;go_wp2;go_loopw [7,10] (λl i wr=>∃I:Nat,I<=2/\i=.int .i64 I/\wr.ownsRow W.heap.size 3 1 l (2 * I) (([a,b,c,d].take (2 * I)).map (.int .i64))/\bl W wr) (λ_ i _=>2 - (intOf i).toNat)
  case atStart=>exact⟨0,aa,rfl,⟨ah,.inl ⟨rfl,ah⟩⟩,Below.refl _ _⟩
  case round=>
   obtain⟨I,hI,rfl,hown,hbr⟩:=hrel;rcases (by omega:I=0\/I=1\/I=2) with rfl|rfl|rfl
   ·rw[show ((0:Nat):Int)=0 from rfl]
    exact sK
   ·rw[show ((1:Nat):Int)=1 from rfl]
    exact ut
   ·clear K00 K01 K10 K11
    rw[show 2 * 2=4 from rfl] at hown;obtain⟨g,cap,rfl,hg1,hg2⟩:=hown.form aa;have q0:=hown.cellAt 0 aa;have q1:=hown.cellAt 1 aa;have q2:=hown.cellAt 2 aa;have q3:=hown.cellAt 3 aa;simp only[List.take,List.map,List.getElem?_cons_zero,List.getElem?_cons_succ] at q0 q1 q2 q3;clear hown;clear h1 h2 h3 h4;go_wp2_with (first
     |(go_at_call 207;refine(Gp _ _ a b c d _ q0 q1 q2 q3).mono ?_;rintro e w' ⟨rfl,rfl⟩)
     |(go_at_call 208;refine(KI _ _ a b c d _ q0 q1 q2 q3).mono ?_;rintro e w' ⟨rfl,rfl⟩)
     |(go_at_call 209;fail))
    refine(nu ⟨false,dx a b c d,dw a b c d⟩ _).mono ?_;rintro e w5 ⟨rfl,hb5⟩;have HB5:bl W w5:=(hbr.alloc hbr.size _).trans (hb5.mono (by simp;have:=hbr.size;omega))
    have H5:bl w w5:=HB.trans (HB5.mono aa);obtain⟨r0,r1,r2,k0,k1,k2⟩:=KR w5 HB5;obtain⟨o0,o1,o2⟩:=rF hb5 ah;have y1:w'.heap.size < w5.heap.size:=by have:=hb5.size;simp at this;omega
    have y2:w.heap.size+1+1 < w'.heap.size:=by have:=hbr.size;omega
    clear KR hb5 HB5 hbr HB q0 q1 q2 q3;by_cases hc:cu ⟨false,dx a b c d,dw a b c d⟩=0
    ·rw[hc]
     exact tG
    ·have hH:=DB hc
     generalize cu ⟨false,dx a b c d,dw a b c d⟩=ck at *;generalize dx a b c d=mn at *;generalize dw a b c d=mx at *;go_wp2;refine bodyPost_ret (v:=sv ⟨false,-2147483648,2147483647⟩) uJ rfl ⟨by rw[hH],?_⟩;exact((H5.setCell an _).setCell an _).setCell an _
 ·have HB:Below w.heap.size w ((((((w.alloc (.cells #[.bool false,.int .i64 lo,.int .i64 hi] 89)).alloc (.cells #[.bool false,.int .i64 lo',.int .i64 hi'] 89)).alloc (.cells #[.bool false,.int .i64 0,.int .i64 0] 89)).alloc (.cells #[.int .i64 lo',.int .i64 hi'] 3)).alloc (.cells #[.int .i64 lo,.int .i64 hi] 3)).drew):=by go_grown
  have f0:((((((w.alloc (.cells #[.bool false,.int .i64 lo,.int .i64 hi] 89)).alloc (.cells #[.bool false,.int .i64 lo',.int .i64 hi'] 89)).alloc (.cells #[.bool false,.int .i64 0,.int .i64 0] 89)).alloc (.cells #[.int .i64 lo',.int .i64 hi'] 3)).alloc (.cells #[.int .i64 lo,.int .i64 hi] 3)).drew).cell? ⟨w.heap.size+1+1+1+1,0,none⟩=some (.int .i64 lo):=aW;have f1:((((((w.alloc (.cells #[.bool false,.int .i64 lo,.int .i64 hi] 89)).alloc (.cells #[.bool false,.int .i64 lo',.int .i64 hi'] 89)).alloc (.cells #[.bool false,.int .i64 0,.int .i64 0] 89)).alloc (.cells #[.int .i64 lo',.int .i64 hi'] 3)).alloc (.cells #[.int .i64 lo,.int .i64 hi] 3)).drew).cell? ⟨w.heap.size+1+1+1+1,1,none⟩=some (.int .i64 hi):=aW;have f2:((((((w.alloc (.cells #[.bool false,.int .i64 lo,.int .i64 hi] 89)).alloc (.cells #[.bool false,.int .i64 lo',.int .i64 hi'] 89)).alloc (.cells #[.bool false,.int .i64 0,.int .i64 0] 89)).alloc (.cells #[.int .i64 lo',.int .i64 hi'] 3)).alloc (.cells #[.int .i64 lo,.int .i64 hi] 3)).drew).cell? ⟨w.heap.size+1+1+1,0,none⟩=some (.int .i64 lo'):=aW;have f3:((((((w.alloc (.cells #[.bool false,.int .i64 lo,.int .i64 hi] 89)).alloc (.cells #[.bool false,.int .i64 lo',.int .i64 hi'] 89)).alloc (.cells #[.bool false,.int .i64 0,.int .i64 0] 89)).alloc (.cells #[.int .i64 lo',.int .i64 hi'] 3)).alloc (.cells #[.int .i64 lo,.int .i64 hi] 3)).drew).cell? ⟨w.heap.size+1+1+1,1,none⟩=some (.int .i64 hi'):=aW;have zz:((((((w.alloc (.cells #[.bool false,.int .i64 lo,.int .i64 hi] 89)).alloc (.cells #[.bool false,.int .i64 lo',.int .i64 hi'] 89)).alloc (.cells #[.bool false,.int .i64 0,.int .i64 0] 89)).alloc (.cells #[.int .i64 lo',.int .i64 hi'] 3)).alloc (.cells #[.int .i64 lo,.int .i64 hi] 3)).drew).heap.size=w.heap.size+5:=ah;have za:w.heap.size+1+1+1+1 < ((((((w.alloc (.cells #[.bool false,.int .i64 lo,.int .i64 hi] 89)).alloc (.cells #[.bool false,.int .i64 lo',.int .i64 hi'] 89)).alloc (.cells #[.bool false,.int .i64 0,.int .i64 0] 89)).alloc (.cells #[.int .i64 lo',.int .i64 hi'] 3)).alloc (.cells #[.int .i64 lo,.int .i64 hi] 3)).drew).heap.size:=ah;have zb:w.heap.size+1+1+1 < ((((((w.alloc (.cells #[.bool false,.int .i64 lo,.int .i64 hi] 89)).alloc (.cells #[.bool false,.int .i64 lo',.int .i64 hi'] 89)).alloc (.cells #[.bool false,.int .i64 0,.int .i64 0] 89)).alloc (.cells #[.int .i64 lo',.int .i64 hi'] 3)).alloc (.cells #[.int .i64 lo,.int .i64 hi] 3)).drew).heap.size:=ah;have KR:∀wx,Below ((((((w.alloc (.cells #[.bool false,.int .i64 lo,.int .i64 hi] 89)).alloc (.cells #[.bool false,.int .i64 lo',.int .i64 hi'] 89)).alloc (.cells #[.bool false,.int .i64 0,.int .i64 0] 89)).alloc (.cells #[.int .i64 lo',.int .i64 hi'] 3)).alloc (.cells #[.int .i64 lo,.int .i64 hi] 3)).drew).heap.size ((((((w.alloc (.cells #[.bool false,.int .i64 lo,.int .i64 hi] 89)).alloc (.cells #[.bool false,.int .i64 lo',.int .i64 hi'] 89)).alloc (.cells #[.bool false,.int .i64 0,.int .i64 0] 89)).alloc (.cells #[.int .i64 lo',.int .i64 hi'] 3)).alloc (.cells #[.int .i64 lo,.int .i64 hi] 3)).drew) wx->wx.cell? ⟨w.heap.size+1+1,0,none⟩=some (.bool false)/\wx.cell? ⟨w.heap.size+1+1,1,none⟩=some (.int .i64 0)/\wx.cell? ⟨w.heap.size+1+1,2,none⟩=some (.int .i64 0)/\wx.frozen? ⟨w.heap.size+1+1,0,none⟩=false/\wx.frozen? ⟨w.heap.size+1+1,1,none⟩=false/\wx.frozen? ⟨w.heap.size+1+1,2,none⟩=false:=by
   exact tP
  generalize ((((((w.alloc (.cells #[.bool false,.int .i64 lo,.int .i64 hi] 89)).alloc (.cells #[.bool false,.int .i64 lo',.int .i64 hi'] 89)).alloc (.cells #[.bool false,.int .i64 0,.int .i64 0] 89)).alloc (.cells #[.int .i64 lo',.int .i64 hi'] 3)).alloc (.cells #[.int .i64 lo,.int .i64 hi] 3)).drew)=W at HB f0 f1 f2 f3 zz za zb KR |-;generalize w.heap.size+1+1+1+1=ga at f0 f1 za |-;generalize w.heap.size+1+1+1=gb at f2 f3 zb |-;have K:∀wx,bl W wx->wx.cell? ⟨ga,0,none⟩=some (.int .i64 lo)/\wx.cell? ⟨ga,1,none⟩=some (.int .i64 hi)/\wx.cell? ⟨gb,0,none⟩=some (.int .i64 lo')/\wx.cell? ⟨gb,1,none⟩=some (.int .i64 hi'):=by
   intro wx hb;rw[hb.cell za,hb.cell za,hb.cell zb,hb.cell zb];exact⟨f0,f1,f2,f3⟩
  have K00:=λwx hb=>(show _/\_ from⟨(K wx hb).1,(K wx hb).2.2.1⟩);have K01:=λwx hb=>(show _/\_ from⟨(K wx hb).1,(K wx hb).2.2.2⟩);have K10:=λwx hb=>(show _/\_ from⟨(K wx hb).2.1,(K wx hb).2.2.1⟩);have K11:=λwx hb=>(show _/\_ from⟨(K wx hb).2.1,(K wx hb).2.2.2⟩);clear K f0 f1 f2 f3;go_wp2;go_loopw [7,10] (λl i wr=>∃I:Nat,I<=2/\i=.int .i64 I/\wr.ownsRow W.heap.size 3 1 l (2 * I) (([a,b,c,d].take (2 * I)).map (.int .i64))/\bl W wr) (λ_ i _=>2 - (intOf i).toNat)
  case atStart=>exact⟨0,aa,rfl,⟨ah,.inl ⟨rfl,ah⟩⟩,Below.refl _ _⟩
  case round=>
   obtain⟨I,hI,rfl,hown,hbr⟩:=hrel;rcases (by omega:I=0\/I=1\/I=2) with rfl|rfl|rfl
   ·rw[show ((0:Nat):Int)=0 from rfl]
    exact sK
   ·rw[show ((1:Nat):Int)=1 from rfl]
    exact ut
   ·clear K00 K01 K10 K11
    rw[show 2 * 2=4 from rfl] at hown;obtain⟨g,cap,rfl,hg1,hg2⟩:=hown.form aa;have q0:=hown.cellAt 0 aa;have q1:=hown.cellAt 1 aa;have q2:=hown.cellAt 2 aa;have q3:=hown.cellAt 3 aa;simp only[List.take,List.map,List.getElem?_cons_zero,List.getElem?_cons_succ] at q0 q1 q2 q3;clear hown;clear h1 h2 h3 h4;go_wp2_with (first
     |(go_at_call 207;refine(Gp _ _ a b c d _ q0 q1 q2 q3).mono ?_;rintro e w' ⟨rfl,rfl⟩)
     |(go_at_call 208;refine(KI _ _ a b c d _ q0 q1 q2 q3).mono ?_;rintro e w' ⟨rfl,rfl⟩)
     |(go_at_call 209;fail))
    refine(nu ⟨false,dx a b c d,dw a b c d⟩ _).mono ?_;rintro e w5 ⟨rfl,hb5⟩;have HB5:bl W w5:=(hbr.alloc hbr.size _).trans (hb5.mono (by simp;have:=hbr.size;omega))
    have H5:bl w w5:=HB.trans (HB5.mono aa);obtain⟨r0,r1,r2,k0,k1,k2⟩:=KR w5 HB5;obtain⟨o0,o1,o2⟩:=rF hb5 ah;have y1:w'.heap.size < w5.heap.size:=by have:=hb5.size;simp at this;omega
    have y2:w.heap.size+1+1 < w'.heap.size:=by have:=hbr.size;omega
    clear KR hb5 HB5 hbr HB q0 q1 q2 q3;by_cases hc:cu ⟨false,dx a b c d,dw a b c d⟩=0
    ·rw[hc]
     exact tG
    ·have hH:=DB hc
     generalize cu ⟨false,dx a b c d,dw a b c d⟩=ck at *;generalize dx a b c d=mn at *;generalize dw a b c d=mx at *;go_wp2;refine bodyPost_ret (v:=sv ⟨false,-2147483648,2147483647⟩) uJ rfl ⟨by rw[hH],?_⟩;exact((H5.setCell an _).setCell an _).setCell an _):p:=h
theorem Fd (lo hi lo' hi' a b c d:Int)(w:World)(h1:j0.wrap (lo+lo')=a)(h2:j0.wrap (lo+hi')=b)(h3:j0.wrap (hi+lo')=c)(h4:j0.wrap (hi+hi')=d):
  Calls pG 172 #[.int .i64 5,sv ⟨false,lo,hi⟩,sv ⟨false,lo',hi'⟩] w λe w'=>e=Rt (sv (fI a b c d))/\bl w w':=mR
theorem Eh (lo hi lo' hi' a b c d:Int)(w:World)(h1:j0.wrap (lo - lo')=a)(h2:j0.wrap (lo - hi')=b)(h3:j0.wrap (hi - lo')=c)(h4:j0.wrap (hi - hi')=d):
  Calls pG 172 #[.int .i64 6,sv ⟨false,lo,hi⟩,sv ⟨false,lo',hi'⟩] w λe w'=>e=Rt (sv (fI a b c d))/\bl w w':=mR
theorem EE (lo hi lo' hi' a b c d:Int)(w:World)(h1:j0.wrap (lo * lo')=a)(h2:j0.wrap (lo * hi')=b)(h3:j0.wrap (hi * lo')=c)(h4:j0.wrap (hi * hi')=d):
  Calls pG 172 #[.int .i64 7,sv ⟨false,lo,hi⟩,sv ⟨false,lo',hi'⟩] w λe w'=>e=Rt (sv (fI a b c d))/\bl w w':=mR
theorem eQ (a b:Bool):(a=true/\b=true)\/a=false\/(a=true/\b=false):=by cases a<;>cases b<;>simp

theorem Gr (g:Gs)(ss:oA)(gc:Nat)(h:Gs)(st:oA)(hc:Nat)(w:World)(hn:[g,h].any ap=true):
  Calls pG 206 #[gv g ss gc,gv h st hc] w λe w'=>e=Rt (Tu #[Bb false,Bb false])/\bl w w':=by
 have B0:Below w.heap.size w ((w.alloc (Cc #[Bb g.n,Bb g.sp.n,.int .i64 g.sp.lo,.int .i64 g.sp.hi,Bb g.t,Bb g.f,U ss g.s.length gc] 91)).alloc (Cc #[Bb h.n,Bb h.sp.n,.int .i64 h.sp.lo,.int .i64 h.sp.hi,Bb h.t,Bb h.f,U st h.s.length hc] 91)):=ai;have G0:=(GuAt.new w g ss gc).alloc (Cc #[Bb h.n,Bb h.sp.n,.int .i64 h.sp.lo,.int .i64 h.sp.hi,Bb h.t,Bb h.f,U st h.s.length hc] 91);have H0:=GuAt.new (w.alloc (Cc #[Bb g.n,Bb g.sp.n,.int .i64 g.sp.lo,.int .i64 g.sp.hi,Bb g.t,Bb g.f,U ss g.s.length gc] 91)) h st hc;rw[zA] at H0;have L0:=GhAt.new2 ((w.alloc (Cc #[Bb g.n,Bb g.sp.n,.int .i64 g.sp.lo,.int .i64 g.sp.hi,Bb g.t,Bb g.f,U ss g.s.length gc] 91)).alloc (Cc #[Bb h.n,Bb h.sp.n,.int .i64 h.sp.lo,.int .i64 h.sp.hi,Bb h.t,Bb h.f,U st h.s.length hc] 91)) g ss gc h st hc;simp only[zA] at L0;have HN:=ae (λlc wx hL=>iI (sO ⟨w.heap.size+1+1,0,nO⟩) [g,h] lc wx ah hL);rw[hn] at HN;clear hn;go_enter Tryz.func206,Tryz.ntmps206;go_wp2_with (go_at_call 233;fail);refine(HN.out 2 _ L0).mono ?_;rintro e w1 ⟨rfl,hb1⟩;go_wp2
 go_ret2
 exact⟨rfl,(B0.alloc B0.size _).trans (hb1.mono an)⟩

theorem eH {p:Prop}(h:p:=by
 rintro e w4 ⟨rfl,hb4⟩;have G4:=G3.call hb4;have H4:=H3.call hb4;have B4:=B3.trans (hb4.mono B3.size);clear hb4 G3 H3 B3 I3 J3 G2 H2 g0 g1 g2 g3 g4 g5 g6 gz k0 k1 k2 k3 k4 k5 k6 kz;obtain⟨⟨g0,g1,g2,g3,g4,g5,g6⟩,gz⟩:=id G4;obtain⟨⟨k0,k1,k2,k3,k4,k5,k6⟩,kz⟩:=id H4;simp only[Nat.zero_add] at g0 g1 g2 g3 g4 g5 g6 k0 k1 k2 k3 k4 k5 k6;generalize hA':(sl.any λx=>h'.contains x)=al at *;have HAL:=ae hA';clear hA';go_wp2_with (go_at_call 235;fail);refine(HA.out _).mono ?_;rintro e w9 ⟨rfl,hb9⟩;go_wp2
 go_ret2
 exact⟨gG g9 rfl,B4.trans (hb9.mono B4.size)⟩):p:=h
theorem dM {p:Prop}(h:p:=by
 refine(HA.out _).mono ?_;rintro e w9 ⟨rfl,hb9⟩;go_wp2
 go_ret2
 exact⟨gG g9 rfl,B3.trans (hb9.mono B3.size)⟩):p:=h
theorem Gt (g:Gs)(ss:oA)(gc:Nat)(h:Gs)(st:oA)(hc:Nat)(w:World)(hs:IntsAt w ss g.s)(hgl:g.s.length<=9223372036854775807)(ht:IntsAt w st h.s)(hlt:h.s.length<=9223372036854775807)(hsp:bu g.sp h.sp=0)(hn:[g,h].any ap=false):
  Calls pG 206 #[gv g ss gc,gv h st hc] w λe w'=>e=Rt (Tu #[Bb ((g.n&&h.n)||(!(aF g.sp h.sp).n||((g.t&&h.t)||((g.f&&h.f)||g.s.any λx=>h.s.contains x)))),Bb (!cN g h)])/\bl w w':=by
 have B0:Below w.heap.size w ((w.alloc (Cc #[Bb g.n,Bb g.sp.n,.int .i64 g.sp.lo,.int .i64 g.sp.hi,Bb g.t,Bb g.f,U ss g.s.length gc] 91)).alloc (Cc #[Bb h.n,Bb h.sp.n,.int .i64 h.sp.lo,.int .i64 h.sp.hi,Bb h.t,Bb h.f,U st h.s.length hc] 91)):=ai;have G0:=(GuAt.new w g ss gc).alloc (Cc #[Bb h.n,Bb h.sp.n,.int .i64 h.sp.lo,.int .i64 h.sp.hi,Bb h.t,Bb h.f,U st h.s.length hc] 91);have H0:=GuAt.new (w.alloc (Cc #[Bb g.n,Bb g.sp.n,.int .i64 g.sp.lo,.int .i64 g.sp.hi,Bb g.t,Bb g.f,U ss g.s.length gc] 91)) h st hc;rw[zA] at H0;have L0:=GhAt.new2 ((w.alloc (Cc #[Bb g.n,Bb g.sp.n,.int .i64 g.sp.lo,.int .i64 g.sp.hi,Bb g.t,Bb g.f,U ss g.s.length gc] 91)).alloc (Cc #[Bb h.n,Bb h.sp.n,.int .i64 h.sp.lo,.int .i64 h.sp.hi,Bb h.t,Bb h.f,U st h.s.length hc] 91)) g ss gc h st hc;simp only[zA] at L0;have HN:=ae (λlc wx hL=>iI (sO ⟨w.heap.size+1+1,0,nO⟩) [g,h] lc wx ah hL);rw[hn] at HN;have hM:=λw=>iU g.sp h.sp w;rw[hsp,show∀r,dW 0 r=r from λr=>rfl] at hM;have HM:=ae hM;clear hn hsp hM;have HA:=ae (λw=>Cg g ss gc h st hc w);have HY:Hid (((g.n&&h.n)||(!(aF g.sp h.sp).n||((g.t&&h.t)||((g.f&&h.f)||g.s.any λx=>h.s.contains x))))=((g.n&&h.n)||(!(aF g.sp h.sp).n||((g.t&&h.t)||((g.f&&h.f)||g.s.any λx=>h.s.contains x))))):=rfl;generalize hy:((g.n&&h.n)||(!(aF g.sp h.sp).n||((g.t&&h.t)||((g.f&&h.f)||g.s.any λx=>h.s.contains x))))=yy;have HY:=ae hy.symm;clear hy;generalize aF g.sp h.sp=M at HM HY;generalize cN g h=ak at HA |-;have I0:=hs.below B0 (lR _);have J0:=ht.below B0 (lR _);clear hs ht;go_enter Tryz.func206,Tryz.ntmps206;go_wp2_with (go_at_call 233;fail);refine(HN.out 2 _ L0).mono ?_;rintro e w1 ⟨rfl,hb1⟩;have G1:=(G0.alloc _).call hb1;have H1:=(H0.alloc _).call hb1;have I1:=(I0.alloc _).call hb1;have J1:=(J0.alloc _).call hb1;have B1:bl w w1:=(B0.alloc B0.size _).trans (hb1.mono an);clear hb1 G0 H0 I0 J0 B0 L0 HN;obtain⟨⟨g0,g1,g2,g3,g4,g5,g6⟩,gz⟩:=id G1;obtain⟨⟨k0,k1,k2,k3,k4,k5,k6⟩,kz⟩:=id H1;simp only[j2] at g0 g1 g2 g3 g4 g5 g6 k0 k1 k2 k3 k4 k5 k6;go_wp2_with (go_at_call 159;fail);refine(HM.out _).mono ?_;rintro e w2 ⟨rfl,hb2⟩;have G3:=(G1.call hb2).alloc (Cc #[Bb M.n,.int .i64 M.lo,.int .i64 M.hi] 89);have H3:=(H1.call hb2).alloc (Cc #[Bb M.n,.int .i64 M.lo,.int .i64 M.hi] 89);have I3:=(I1.call hb2).alloc (Cc #[Bb M.n,.int .i64 M.lo,.int .i64 M.hi] 89);have J3:=(J1.call hb2).alloc (Cc #[Bb M.n,.int .i64 M.lo,.int .i64 M.hi] 89);have B2:=B1.trans (hb2.mono B1.size);have B3:=B2.alloc B2.size (Cc #[Bb M.n,.int .i64 M.lo,.int .i64 M.hi] 89);have G2:=G1.call hb2;have H2:=H1.call hb2;clear hb2 G1 H1 I1 J1 B1 B2 g0 g1 g2 g3 g4 g5 g6 gz k0 k1 k2 k3 k4 k5 k6 kz HM;obtain⟨⟨g0,g1,g2,g3,g4,g5,g6⟩,gz⟩:=id G2;obtain⟨⟨k0,k1,k2,k3,k4,k5,k6⟩,kz⟩:=id H2;simp only[j2] at g0 g1 g2 g3 g4 g5 g6 k0 k1 k2 k3 k4 k5 k6;obtain⟨n,sp,t,f,sl⟩:=g;obtain⟨n',sp',t',f',h'⟩:=h;obtain⟨mn,ml,mh⟩:=M;simp only at hgl hlt;have HY:=HY;rcases eQ n n' with⟨rfl,rfl⟩|rfl|⟨rfl,rfl⟩
 ·go_wp2_with (go_at_call 235;fail)
  exact dM
 ·cases mn with
  |false=>
   go_wp2_with (go_at_call 235;fail);exact dM
  |true=>
   rcases eQ t t' with⟨rfl,rfl⟩|rfl|⟨rfl,rfl⟩
   ·go_wp2_with (go_at_call 235;fail)
    exact dM
   ·rcases eQ f f' with⟨rfl,rfl⟩|rfl|⟨rfl,rfl⟩
    ·go_wp2_with (go_at_call 235;fail)
     exact dM
    ·go_wp2_with (go_at_call 200;fail)
     refine(cq (w.heap.size+1) (λx=>h'.contains x) ss gc sl _ hgl I3 λx wx hbx=>eP x _ ⟨n',sp',t',f',h'⟩ st hc wx (H3.call hbx) (J3.call hbx) dn).mono ?_;exact eH
    ·go_wp2_with (go_at_call 200;fail)
     refine(cq (w.heap.size+1) (λx=>h'.contains x) ss gc sl _ hgl I3 λx wx hbx=>eP x _ ⟨n',sp',t',false,h'⟩ st hc wx (H3.call hbx) (J3.call hbx) dn).mono ?_;exact eH
   ·rcases eQ f f' with⟨rfl,rfl⟩|rfl|⟨rfl,rfl⟩
    ·go_wp2_with (go_at_call 235;fail)
     exact dM
    ·go_wp2_with (go_at_call 200;fail)
     refine(cq (w.heap.size+1) (λx=>h'.contains x) ss gc sl _ hgl I3 λx wx hbx=>eP x _ ⟨n',sp',false,f',h'⟩ st hc wx (H3.call hbx) (J3.call hbx) dn).mono ?_;exact eH
    ·go_wp2_with (go_at_call 200;fail)
     refine(cq (w.heap.size+1) (λx=>h'.contains x) ss gc sl _ hgl I3 λx wx hbx=>eP x _ ⟨n',sp',false,false,h'⟩ st hc wx (H3.call hbx) (J3.call hbx) dn).mono ?_;exact eH
 ·cases mn with
  |false=>
   go_wp2_with (go_at_call 235;fail);exact dM
  |true=>
   rcases eQ t t' with⟨rfl,rfl⟩|rfl|⟨rfl,rfl⟩
   ·go_wp2_with (go_at_call 235;fail)
    exact dM
   ·rcases eQ f f' with⟨rfl,rfl⟩|rfl|⟨rfl,rfl⟩
    ·go_wp2_with (go_at_call 235;fail)
     exact dM
    ·go_wp2_with (go_at_call 200;fail)
     refine(cq (w.heap.size+1) (λx=>h'.contains x) ss gc sl _ hgl I3 λx wx hbx=>eP x _ ⟨false,sp',t',f',h'⟩ st hc wx (H3.call hbx) (J3.call hbx) dn).mono ?_;exact eH
    ·go_wp2_with (go_at_call 200;fail)
     refine(cq (w.heap.size+1) (λx=>h'.contains x) ss gc sl _ hgl I3 λx wx hbx=>eP x _ ⟨false,sp',t',false,h'⟩ st hc wx (H3.call hbx) (J3.call hbx) dn).mono ?_;exact eH
   ·rcases eQ f f' with⟨rfl,rfl⟩|rfl|⟨rfl,rfl⟩
    ·go_wp2_with (go_at_call 235;fail)
     exact dM
    ·go_wp2_with (go_at_call 200;fail)
     refine(cq (w.heap.size+1) (λx=>h'.contains x) ss gc sl _ hgl I3 λx wx hbx=>eP x _ ⟨false,sp',false,f',h'⟩ st hc wx (H3.call hbx) (J3.call hbx) dn).mono ?_;exact eH
    ·go_wp2_with (go_at_call 200;fail)
     refine(cq (w.heap.size+1) (λx=>h'.contains x) ss gc sl _ hgl I3 λx wx hbx=>eP x _ ⟨false,sp',false,false,h'⟩ st hc wx (H3.call hbx) (J3.call hbx) dn).mono ?_;exact eH
end
end Go.Proofs.YtmapdpcfanecdabGreatDoor
