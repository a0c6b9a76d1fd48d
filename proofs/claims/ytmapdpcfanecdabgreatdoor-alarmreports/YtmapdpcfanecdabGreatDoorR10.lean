import Derived.Test.YtmapdpcfanecdabGreatDoorR06
import Derived.Test.YtmapdpcfanecdabGreatDoorR05
import Derived.MapKept
import Derived.Deep.RegionHeldLaw
open Go.Ending renaming returned→Rt
open Go.IntKind renaming i64→j0
open Go.Obj renaming cells→Cc
open Go.Proofs.Tryz renaming prog→pG
open Go.RowKit.Below renaming refl→bR
open Go.Value renaming agg→Ag,bool→Bb,slice→U,tuple→Tu
open Go.World renaming cell?_drew→j8,size_alloc→zA
open List renaming drop_eq_getElem_cons→j6,eq_nil_of_length_eq_zero→q7,getElem_append_left→j9,length→j5,map_append→j3,take_of_length_le→j4
open Nat renaming le_refl→lR,pow_le_pow_right→q8,zero_add→j1,zero_le→j7
open Option renaming none→nO,some→q4,some→sO
open Go.Proofs.Tryz
set_option linter.unusedSimpArgs false
set_option linter.unusedVariables false
set_option maxHeartbeats 16000000
set_option maxRecDepth 100000
namespace Go.Proofs.YtmapdpcfanecdabGreatDoor
section
open Go.RowKit
theorem Kn (V F:Int)(s:oA)(len cap:Nat)(i:Ins)(w:World)(hV:1<=V)(hV':V<=8)(hF:0<=F)(hF':F<=3)(hL:len<=60):
  Calls pG 58 #[Ag #[.int .i64 V,.int .i64 F,U s len cap],Ag #[.int .i64 i.k,.int .i64 i.tgt,.int .i64 i.a,.int .i64 i.b,.int .i64 i.n,.int .i64 i.g]] w λe w'=>e=Rt (.int .i64 (bn V F len i))/\bl w w':=by
 obtain⟨k,tto,a,b,n,g⟩:=i;by_cases h:btw k 1 19=true
 ·rcases tO h with rfl|rfl|rfl|rfl|rfl|rfl|rfl|rfl|rfl|rfl|rfl|rfl|rfl|rfl|rfl|rfl|rfl|rfl|rfl
  ·exact Pe V F s len cap tto a b n g w hV hV' hF hF' hL
  ·exact OV V F s len cap tto a b n g w hV hV' hF hF' hL
  ·exact NW V F s len cap tto a b n g w hV hV' hF hF' hL
  ·exact Nz V F s len cap tto a b n g w hV hV' hF hF' hL
  ·exact Po V F s len cap tto a b n g w hV hV' hF hF' hL
  ·exact Pl V F s len cap tto a b n g w hV hV' hF hF' hL
  ·exact NP V F s len cap tto a b n g w hV hV' hF hF' hL
  ·exact Ps V F s len cap tto a b n g w hV hV' hF hF' hL
  ·exact NC V F s len cap tto a b n g w hV hV' hF hF' hL
  ·exact Lk V F s len cap tto a b n g w hV hV' hF hF' hL
  ·exact Lw V F s len cap tto a b n g w hV hV' hF hF' hL
  ·exact LP V F s len cap tto a b n g w hV hV' hF hF' hL
  ·exact LN V F s len cap tto a b n g w hV hV' hF hF' hL
  ·exact Ln V F s len cap tto a b n g w hV hV' hF hF' hL
  ·exact LC V F s len cap tto a b n g w hV hV' hF hF' hL
  ·exact Lq V F s len cap tto a b n g w hV hV' hF hF' hL
  ·exact Lg V F s len cap tto a b n g w hV hV' hF hF' hL
  ·exact Lt V F s len cap tto a b n g w hV hV' hF hF' hL
  ·exact LG V F s len cap tto a b n g w hV hV' hF hF' hL
 ·exact Li V F s len cap k tto a b n g w hV hV' hF hF' hL cq

theorem Db {V F L:Int}{c:lI}{k:Nat}(h:k < c.length):fQ V F L (c.drop k)=if bn V F L c[k]=0 then fQ V F L (c.drop (k+1)) else bn V F L c[k]:=by
 rw[j6 h];rfl

theorem vk (V F:Int)(b off cap:Nat)(c:lI)(w:World)(hV:1<=V)(hV':V<=8)(hF:0<=F)(hF':F<=3)(hL:c.length<=60)(hb:b < w.heap.size)(hc:∀k (h:k < c.length),InsAt w b (off+k * 6) c[k]):
  Calls pG 22 #[Ag #[.int .i64 V,.int .i64 F,U (sO ⟨b,off,nO⟩) c.length cap]] w λe w'=>e=Rt (.int .i64 (fQ V F c.length c))/\bl w w':=by
 have t1:=pW;have t2:=rB;go_enter func22,ntmps22;go_wp2_with (go_at_call 57;refine(eC _ _ _ _).mono ?_;rintro e w' ⟨rfl,rfl⟩);go_loopw [3] (λi wr=>∃k:Nat,k<=c.length/\i=.int .i64 k/\Below (w.heap.size+1) (w.alloc (Cc #[.int .i64 V,.int .i64 F,U (sO ⟨b,off,nO⟩) c.length cap] 24)) wr/\Hid (fQ V F c.length (c.drop k)=fQ V F c.length c)) (λi _=>c.length - (intOf i).toNat)
 case atStart=>exact⟨0,j7 _,rfl,bR _ _,rfl⟩
 case round=>
  obtain⟨k,hk,rfl,hbr,HR⟩:=hrel;have q0:wr.cell? ⟨w.heap.size,0,nO⟩=sO (.int .i64 V):=Eh;have q1:wr.cell? ⟨w.heap.size,1,nO⟩=sO (.int .i64 F):=Eh;have q2:wr.cell? ⟨w.heap.size,2,nO⟩=sO (U (sO ⟨b,off,nO⟩) c.length cap):=Eh;have s1:w.heap.size < wr.heap.size:=by have:=hbr.size;simp at this;omega
  have s2:b < wr.heap.size:=aa;by_cases hlt:k < c.length
  ·have hi:InsAt wr b (off+k * 6) c[k]:=((hc k hlt).below (Below.alloc (bR w.heap.size w) (lR _) _) hb).below hbr aa
   obtain⟨i0,i1,i2,i3,i4,i5⟩:=hi;have n0:=bA;have n1:=gF;go_wp2;go_region_held3 (λw'=>w'.cell? ⟨w.heap.size,0,nO⟩=sO (.int .i64 V)/\w'.cell? ⟨w.heap.size,1,nO⟩=sO (.int .i64 F)/\w'.cell? ⟨w.heap.size,2,nO⟩=sO (U (sO ⟨b,off,nO⟩) c.length cap)
    /\w'.cell? ⟨b,off+k * 6,nO⟩=sO (.int .i64 c[k].k)/\w'.cell? ⟨b,off+k * 6+1,nO⟩=sO (.int .i64 c[k].tgt)/\w'.cell? ⟨b,off+k * 6+2,nO⟩=sO (.int .i64 c[k].a)/\w'.cell? ⟨b,off+k * 6+3,nO⟩=sO (.int .i64 c[k].b)/\w'.cell? ⟨b,off+k * 6+4,nO⟩=sO (.int .i64 c[k].n)/\w'.cell? ⟨b,off+k * 6+5,nO⟩=sO (.int .i64 c[k].g))
    (first|(simp only[j8,q0,q1,q2,i0,i1,i2,i3,i4,i5,and_self];done)|(simp only[hc1 _ _ (show _ < wr.drew.heap.size from s1),hc1 _ _ (show b < wr.drew.heap.size from s2),j8,q0,q1,q2,i0,i1,i2,i3,i4,i5,and_self];done))
    ((go_at_call 58;refine(Kn V F _ _ _ c[k] _ hV hV' hF hF' hL).mono ?_;rintro e w1 ⟨rfl,hb1⟩;obtain⟨hc1,hf1⟩:=FI hb1))
   clear hc1 hf1;have HB:Below (w.heap.size+1) (w.alloc (Cc #[.int .i64 V,.int .i64 F,U (sO ⟨b,off,nO⟩) c.length cap] 24)) w1:=hbr.drew.trans (Below.mono hb1 (show w.heap.size+1<=wr.heap.size by omega));have HS:=Db (V:=V) (F:=F) (L:=c.length) hlt;by_cases hz:bn V F c.length c[k]=0
   ·rw[hz]
    go_wp2;go_roundw
    case rel=>exact⟨k+1,aa,aF,HB,by have:=HR.out;rw[HS,if_pos hz] at this;exact this⟩
    case measure=>exact aK
   ·rw[if_neg hz] at HS
    have hz':(bn V F c.length c[k]!=0)=true:=fr;go_wp2;go_ret;exact⟨bQ (by have:=HR.out;rw[HS] at this;exact this),(Below.alloc (bR _ _) (lR _) _).trans (HB.mono aa)⟩
  ·go_wp2
   go_ret;exact⟨bQ Mw,(Below.alloc (bR _ _) (lR _) _).trans (hbr.mono aa)⟩

theorem wZ (V F:Int)(s:oA)(cap:Nat)(w:World)(hV:1<=V)(hV':V<=8)(hF:0<=F)(hF':F<=3):
  Calls pG 22 #[Ag #[.int .i64 V,.int .i64 F,U s 0 cap]] w λe w'=>e=Rt (.int .i64 0)/\bl w w':=by
 have t1:=pW;have t2:=rB;go_enter func22,ntmps22;go_wp2_with (go_at_call 57;refine(eC _ _ _ _).mono ?_;rintro e w' ⟨rfl,rfl⟩)
 go_rounds 1
 go_ret;exact cZ

theorem pd {p:Prop}(h:p:=by
 go_enter func22,ntmps22;go_wp2_with (go_at_call 57;refine(eC _ _ _ _).mono ?_;rintro e w' ⟨rfl,rfl⟩);go_ret;exact⟨rfl,am⟩):p:=h
theorem vr (V F:Int)(s:oA)(len cap:Nat)(w:World)(hV:1<=V)(hV':V<=8)(hF:0<=F)(hF':F<=3)(hl:60 < len):
  Calls pG 22 #[Ag #[.int .i64 V,.int .i64 F,U s len cap]] w λe w'=>e=Rt (.int .i64 2)/\bl w w':=by
 have t1:=pW;have t2:=rB;have t3:(60:Int) < (len:Int):=aa;exact pd

theorem vp (V F:Int)(s:oA)(len cap:Nat)(w:World)(t1:btw V 1 8=false):
  Calls pG 22 #[Ag #[.int .i64 V,.int .i64 F,U s len cap]] w λe w'=>e=Rt (.int .i64 3)/\bl w w':=by
 exact pd

theorem s9 (V F:Int)(s:oA)(len cap:Nat)(w:World)(t1:btw V 1 8=true)(t2:btw F 0 3=false):
  Calls pG 22 #[Ag #[.int .i64 V,.int .i64 F,U s len cap]] w λe w'=>e=Rt (.int .i64 3)/\bl w w':=by
 exact pd

theorem wF (V F:Int)(s:oA)(cap:Nat)(c:lI)(w:World)(h:CodeAt w s c):
  Calls pG 22 #[Ag #[.int .i64 V,.int .i64 F,U s c.length cap]] w λe w'=>e=Rt (.int .i64 (au V F c))/\bl w w':=by
 unfold au;cases t1:btw V 1 8 with
 |false=>simpa using vp V F s c.length cap w t1
 |true=>
  cases t2:btw F 0 3 with
  |false=>simpa using s9 V F s c.length cap w t1 t2
  |true=>
   have ⟨hV,hV'⟩:1<=V/\V<=8:=by simpa[btw] using t1
   have ⟨hF,hF'⟩:0<=F/\F<=3:=by simpa[btw] using t2
   by_cases hl:60 < c.length
   ·simpa[hl] using vr V F s c.length cap w hV hV' hF hF' hl
   ·rcases h with rfl|⟨b,off,rfl,hb,hc⟩
    ·simpa[fQ] using wZ V F s cap w hV hV' hF hF'
    ·simpa[hl] using vk V F b off cap c w hV hV' hF hF' aa hb hc
abbrev Shp:=Int×ByteArray×List Int

def tj (ps:List Int):Array Value:=(ps.map λp=>Value.int .i64 p).toArray
def Da (N:Nat)(j:Nat)(s:Shp):Value:=Ag #[.string s.2.1,if s.2.2=[] then U nO 0 0 else U (sO ⟨N+1+j,0,nO⟩) s.2.2.length s.2.2.length]
def pO (N:Nat)(j:Nat)(s:Shp):MapEntry:=⟨.int .i64 s.1,Da N j s,j⟩
def cT (N:Nat):Nat->List Shp->List MapEntry
 |_,[]=>[]
 |j,s::r=>pO N j s::cT N (j+1) r

structure ShpAt (N:Nat) (l:List Shp) (w:World):Prop where
 map:w.heap[N]? =sO (.map (cT N 0 l).toArray l.length)
 parts:∀j (h:j < l.length),l[j].2.2≠[]->w.heap[N+1+j]? =sO (Cc (tj l[j].2.2) 225)

theorem vo (N:Nat)(l:List Shp)(s:Shp):∀j,cT N j (l++[s])=cT N j l++[pO N (j+l.length) s]:=by
 induction l with
 |nil=>intro j;rfl
 |cons x r ih=>intro j;simp only[List.cons_append,cT,ih (j+1),List.length_cons,Nat.add_assoc,Nat.add_comm 1]

theorem vV (N:Nat)(k:Int)(l:List Shp):∀i j,(∀s∈l,s.1≠k)->Instr.findNow (.int .i64) (.int .i64 k) (cT N j l) i=sO none:=by
 induction l with
 |nil=>intro i j _;rfl
 |cons x r ih=>
  intro i j h;have hx:(k==x.1)=false:=by simpa using λe=>h x (by simp) e.symm
  simp only[cT,Instr.findNow,pO,Instr.sameNow,if_true,hx];exact ih (i+1) (j+1) (λs hs=>h s (by simp[hs]))

theorem bi {P:Program}{N:Nat}{l:List Shp}{wx w:World}{ops:Array Oper}{rest:List Oper}{o:Oper}{a:Act}{Q:Exit->Act->World->Prop}{B:Nat}{w0:World}
  (hg:o.guard=nO)(m x v:Operand)(t kt et:TypeId)(hop:o.op=Op.insert t m x v)(ht:P.underlying t=sO (.map kt et))(hk:P.underlying kt=sO (.int .i64))(k:Int)(wd:ByteArray)(ps:List Int)
  (hm:a.eval m=.map (sO N))(hx:a.eval x=.int .i64 k)(hv:a.eval v=Da N l.length (k,wd,ps))(hw:w=if ps=[] then wx else wx.alloc (Cc (tj ps) 225))
  (hs:ShpAt N l wx)(hsz:wx.heap.size=N+1+l.length)(hbel:Below B w0 wx)(hB:B<=N)(hnew:∀s∈l,s.1≠k)
  (hK:∀w',ShpAt N (l++[(k,wd,ps)]) w'->w'.heap.size=w.heap.size->Below B w0 w'->wpList P ops Q rest (a.put o.dst undef) w'):
  wpList P ops Q (o::rest) a w:=by
 refine wpList_plain hg λK' hK'=> ?_;have hbw:Below B w0 w:=by
  rw[hw];split
  ·exact hbel
  ·exact hbel.alloc aa _
 have hsame:∀i,i < wx.heap.size->w.heap[i]? =wx.heap[i]? :=by
  intro i hi;rw[hw];split
  ·rfl
  ·exact Below.heap_alloc _ _ _ hi
 have hmap:w.heap[N]? =sO (.map (cT N 0 l).toArray l.length):=by rw[hsame N (by omega)];exact hs.map
 have hf:=vV N k l 0 0 hnew;have hc:(Instr.checkKey false 10000 kt (.int .i64 k)).run P w=.ok () w:=MapKept.run_checkKey (k:=.int .i64 k) hk rfl false 9999;have hpush:(cT N 0 l).toArray.push ⟨.int .i64 k,Da N l.length (k,wd,ps),l.length⟩=(cT N 0 (l++[(k,wd,ps)])).toArray:=by
  simp[vo,pO]
 obtain⟨E,hE⟩:∃E,E=(cT N 0 (l++[(k,wd,ps)])).toArray:=⟨_,rfl⟩;rw[<-hE] at hpush;obtain⟨w2,hw2⟩:∃w2,w2={w with heap:=w.heap.setIfInBounds N (.map E (l.length+1))}:=⟨_,rfl⟩;have hrun:(Instr.mapUpdate t (.map (sO N)) (.int .i64 k) (Da N l.length (k,wd,ps))).run P w=.ok () w2:=by
  simp only[Instr.mapUpdate,Sem.run_bind,run_underlying ht,MapKept.run_getObj_map hmap,hc,MapKept.run_findKey hk hf,hpush,MapKept.run_setObj_map _ hmap,Result.andThen,hw2]
 have hset:=MapKept.heap_set (o':=.map E (l.length+1)) hmap;have h2:w2.heap=w.heap.setIfInBounds N (.map E (l.length+1)):=by rw[hw2]
 unfold Oper.wp;simp[execOp,hop,hm,hx,hv,hrun,Result.andThen];refine hK' _ _ (hK _ ⟨?_,?_⟩ (by rw[h2];simp) ?_)
 ·rw[h2,hset.1,hE];simp
 ·intro j hj hne
  rw[h2,hset.2 (N+1+j) aa];by_cases hjl:j < l.length
  ·rw[j9 hjl] at hne
   simp only[j9 hjl];rw[hsame _ aa];exact hs.parts j hjl hne
  ·have hjl':j=l.length:=by simp at hj;omega
   subst hjl';simp only[List.getElem_append_right (lR _),Nat.sub_self,List.getElem_cons_zero] at hne |-;rw[hw,if_neg hne,<-hsz];exact(MapKept.heap_alloc wx _).1
 ·exact hbw.trans ⟨by rw[hw2],by rw[hw2],by rw[hw2],by rw[h2];simp,λi hi=>by rw[h2];exact hset.2 i (by omega)⟩

def shps:List Shp:=[(1,aL 1,[0,4]),(2,aL 2,[0,5]),(3,aL 3,[0]),(4,aL 4,[0,1]),(5,aL 5,[0,1,2]),(6,aL 6,[0,1,2]),(7,aL 7,[0,1,2]),(8,aL 8,[0,1,2]),(9,aL 9,[0,1,2]),(10,aL 10,[0,1]),
 (11,aL 11,[0]),(12,aL 12,[0,1,7]),(13,aL 13,[1,7,2]),(14,aL 14,[0,6]),(15,aL 15,[1,3]),(16,aL 16,[3]),(17,aL 17,[1]),(18,aL 18,[1]),(19,aL 19,[])]

theorem mv (w:World):
  Calls pG 127 #[] w λe w'=>e=Rt (.map (sO w.heap.size))/\ShpAt w.heap.size shps w'/\bl w w':=by
 have hmm:= @run_makeMap pG;have hs0:ShpAt w.heap.size (shps.take 0) (w.alloc (.map #[] 0)):=⟨by simpa[cT] using(MapKept.heap_alloc w (.map #[] 0)).1,λj h=>absurd h ah⟩;have hz0:(w.alloc (.map #[] 0)).heap.size=w.heap.size+1:=ah;have hb0:bl w (w.alloc (.map #[] 0)):=(bR _ _).alloc (lR _) _;go_enter func127,ntmps127;go_wp2_with (first
  |(refine bi (N:=w.heap.size) (l:=shps.take 0) (wx:=(w.alloc (.map #[] 0))) (w0:=w) (B:=w.heap.size) rfl _ _ _ 179 3 228 rfl underlying179 underlying3 1 (aL 1) [0,4] rfl rfl rfl rfl hs0 hz0 hb0 (lR _) ai ?_;intro w1 hs1 hz1 hb1;replace hs1:ShpAt w.heap.size (shps.take 1) w1:=hs1;replace hz1:w1.heap.size=w.heap.size+2:=by simpa[hz0] using hz1)
  |(refine bi (N:=w.heap.size) (l:=shps.take 1) (wx:=w1) (w0:=w) (B:=w.heap.size) rfl _ _ _ 179 3 228 rfl underlying179 underlying3 2 (aL 2) [0,5] rfl rfl rfl rfl hs1 hz1 hb1 (lR _) ai ?_;intro w2 hs2 hz2 hb2;replace hs2:ShpAt w.heap.size (shps.take 2) w2:=hs2;replace hz2:w2.heap.size=w.heap.size+3:=by simpa[hz1] using hz2)
  |(refine bi (N:=w.heap.size) (l:=shps.take 2) (wx:=w2) (w0:=w) (B:=w.heap.size) rfl _ _ _ 179 3 228 rfl underlying179 underlying3 3 (aL 3) [0] rfl rfl rfl rfl hs2 hz2 hb2 (lR _) ai ?_;intro w3 hs3 hz3 hb3;replace hs3:ShpAt w.heap.size (shps.take 3) w3:=hs3;replace hz3:w3.heap.size=w.heap.size+4:=by simpa[hz2] using hz3)
  |(refine bi (N:=w.heap.size) (l:=shps.take 3) (wx:=w3) (w0:=w) (B:=w.heap.size) rfl _ _ _ 179 3 228 rfl underlying179 underlying3 4 (aL 4) [0,1] rfl rfl rfl rfl hs3 hz3 hb3 (lR _) ai ?_;intro w4 hs4 hz4 hb4;replace hs4:ShpAt w.heap.size (shps.take 4) w4:=hs4;replace hz4:w4.heap.size=w.heap.size+5:=by simpa[hz3] using hz4)
  |(refine bi (N:=w.heap.size) (l:=shps.take 4) (wx:=w4) (w0:=w) (B:=w.heap.size) rfl _ _ _ 179 3 228 rfl underlying179 underlying3 5 (aL 5) [0,1,2] rfl rfl rfl rfl hs4 hz4 hb4 (lR _) ai ?_;intro w5 hs5 hz5 hb5;replace hs5:ShpAt w.heap.size (shps.take 5) w5:=hs5;replace hz5:w5.heap.size=w.heap.size+6:=by simpa[hz4] using hz5)
  |(refine bi (N:=w.heap.size) (l:=shps.take 5) (wx:=w5) (w0:=w) (B:=w.heap.size) rfl _ _ _ 179 3 228 rfl underlying179 underlying3 6 (aL 6) [0,1,2] rfl rfl rfl rfl hs5 hz5 hb5 (lR _) ai ?_;intro w6 hs6 hz6 hb6;replace hs6:ShpAt w.heap.size (shps.take 6) w6:=hs6;replace hz6:w6.heap.size=w.heap.size+7:=by simpa[hz5] using hz6)
  |(refine bi (N:=w.heap.size) (l:=shps.take 6) (wx:=w6) (w0:=w) (B:=w.heap.size) rfl _ _ _ 179 3 228 rfl underlying179 underlying3 7 (aL 7) [0,1,2] rfl rfl rfl rfl hs6 hz6 hb6 (lR _) ai ?_;intro w7 hs7 hz7 hb7;replace hs7:ShpAt w.heap.size (shps.take 7) w7:=hs7;replace hz7:w7.heap.size=w.heap.size+8:=by simpa[hz6] using hz7)
  |(refine bi (N:=w.heap.size) (l:=shps.take 7) (wx:=w7) (w0:=w) (B:=w.heap.size) rfl _ _ _ 179 3 228 rfl underlying179 underlying3 8 (aL 8) [0,1,2] rfl rfl rfl rfl hs7 hz7 hb7 (lR _) ai ?_;intro w8 hs8 hz8 hb8;replace hs8:ShpAt w.heap.size (shps.take 8) w8:=hs8;replace hz8:w8.heap.size=w.heap.size+9:=by simpa[hz7] using hz8)
  |(refine bi (N:=w.heap.size) (l:=shps.take 8) (wx:=w8) (w0:=w) (B:=w.heap.size) rfl _ _ _ 179 3 228 rfl underlying179 underlying3 9 (aL 9) [0,1,2] rfl rfl rfl rfl hs8 hz8 hb8 (lR _) ai ?_;intro w9 hs9 hz9 hb9;replace hs9:ShpAt w.heap.size (shps.take 9) w9:=hs9;replace hz9:w9.heap.size=w.heap.size+10:=by simpa[hz8] using hz9)
  |(refine bi (N:=w.heap.size) (l:=shps.take 9) (wx:=w9) (w0:=w) (B:=w.heap.size) rfl _ _ _ 179 3 228 rfl underlying179 underlying3 10 (aL 10) [0,1] rfl rfl rfl rfl hs9 hz9 hb9 (lR _) ai ?_;intro w10 hs10 hz10 hb10;replace hs10:ShpAt w.heap.size (shps.take 10) w10:=hs10;replace hz10:w10.heap.size=w.heap.size+11:=by simpa[hz9] using hz10)
  |(refine bi (N:=w.heap.size) (l:=shps.take 10) (wx:=w10) (w0:=w) (B:=w.heap.size) rfl _ _ _ 179 3 228 rfl underlying179 underlying3 11 (aL 11) [0] rfl rfl rfl rfl hs10 hz10 hb10 (lR _) ai ?_;intro w11 hs11 hz11 hb11;replace hs11:ShpAt w.heap.size (shps.take 11) w11:=hs11;replace hz11:w11.heap.size=w.heap.size+12:=by simpa[hz10] using hz11)
  |(refine bi (N:=w.heap.size) (l:=shps.take 11) (wx:=w11) (w0:=w) (B:=w.heap.size) rfl _ _ _ 179 3 228 rfl underlying179 underlying3 12 (aL 12) [0,1,7] rfl rfl rfl rfl hs11 hz11 hb11 (lR _) ai ?_;intro w12 hs12 hz12 hb12;replace hs12:ShpAt w.heap.size (shps.take 12) w12:=hs12;replace hz12:w12.heap.size=w.heap.size+13:=by simpa[hz11] using hz12)
  |(refine bi (N:=w.heap.size) (l:=shps.take 12) (wx:=w12) (w0:=w) (B:=w.heap.size) rfl _ _ _ 179 3 228 rfl underlying179 underlying3 13 (aL 13) [1,7,2] rfl rfl rfl rfl hs12 hz12 hb12 (lR _) ai ?_;intro w13 hs13 hz13 hb13;replace hs13:ShpAt w.heap.size (shps.take 13) w13:=hs13;replace hz13:w13.heap.size=w.heap.size+14:=by simpa[hz12] using hz13)
  |(refine bi (N:=w.heap.size) (l:=shps.take 13) (wx:=w13) (w0:=w) (B:=w.heap.size) rfl _ _ _ 179 3 228 rfl underlying179 underlying3 14 (aL 14) [0,6] rfl rfl rfl rfl hs13 hz13 hb13 (lR _) ai ?_;intro w14 hs14 hz14 hb14;replace hs14:ShpAt w.heap.size (shps.take 14) w14:=hs14;replace hz14:w14.heap.size=w.heap.size+15:=by simpa[hz13] using hz14)
  |(refine bi (N:=w.heap.size) (l:=shps.take 14) (wx:=w14) (w0:=w) (B:=w.heap.size) rfl _ _ _ 179 3 228 rfl underlying179 underlying3 15 (aL 15) [1,3] rfl rfl rfl rfl hs14 hz14 hb14 (lR _) ai ?_;intro w15 hs15 hz15 hb15;replace hs15:ShpAt w.heap.size (shps.take 15) w15:=hs15;replace hz15:w15.heap.size=w.heap.size+16:=by simpa[hz14] using hz15)
  |(refine bi (N:=w.heap.size) (l:=shps.take 15) (wx:=w15) (w0:=w) (B:=w.heap.size) rfl _ _ _ 179 3 228 rfl underlying179 underlying3 16 (aL 16) [3] rfl rfl rfl rfl hs15 hz15 hb15 (lR _) ai ?_;intro w16 hs16 hz16 hb16;replace hs16:ShpAt w.heap.size (shps.take 16) w16:=hs16;replace hz16:w16.heap.size=w.heap.size+17:=by simpa[hz15] using hz16)
  |(refine bi (N:=w.heap.size) (l:=shps.take 16) (wx:=w16) (w0:=w) (B:=w.heap.size) rfl _ _ _ 179 3 228 rfl underlying179 underlying3 17 (aL 17) [1] rfl rfl rfl rfl hs16 hz16 hb16 (lR _) ai ?_;intro w17 hs17 hz17 hb17;replace hs17:ShpAt w.heap.size (shps.take 17) w17:=hs17;replace hz17:w17.heap.size=w.heap.size+18:=by simpa[hz16] using hz17)
  |(refine bi (N:=w.heap.size) (l:=shps.take 17) (wx:=w17) (w0:=w) (B:=w.heap.size) rfl _ _ _ 179 3 228 rfl underlying179 underlying3 18 (aL 18) [1] rfl rfl rfl rfl hs17 hz17 hb17 (lR _) ai ?_;intro w18 hs18 hz18 hb18;replace hs18:ShpAt w.heap.size (shps.take 18) w18:=hs18;replace hz18:w18.heap.size=w.heap.size+19:=by simpa[hz17] using hz18)
  |(refine bi (N:=w.heap.size) (l:=shps.take 18) (wx:=w18) (w0:=w) (B:=w.heap.size) rfl _ _ _ 179 3 228 rfl underlying179 underlying3 19 (aL 19) [] rfl rfl rfl rfl hs18 hz18 hb18 (lR _) ai ?_;intro w19 hs19 hz19 hb19;replace hs19:ShpAt w.heap.size (shps.take 19) w19:=hs19;replace hz19:w19.heap.size=w.heap.size+19:=by simpa[hz18] using hz19))
 go_ret;exact⟨rfl,hs19,hb19⟩

theorem ShpAt.below {B N:Nat}{l:List Shp}{w w':World}(h:ShpAt N l w)(hb:Below B w w')(hB:w.heap.size<=B):ShpAt N l w':=by
 have lt:∀{i:Nat} {o:Obj},w.heap[i]? =sO o->i < w.heap.size:=λh=>(Array.getElem?_eq_some_iff.1 h).1;exact⟨by rw[hb.block _ (by have:=lt h.map;omega)];exact h.map,λj hj hne=>by rw[hb.block _ (by have:=lt (h.parts j hj hne);omega)];exact h.parts j hj hne⟩

theorem SJ {P:Program}{N:Nat}{w:World}{es:Array MapEntry}{clock:Nat}(t kt et:TypeId)(ht:P.underlying t=sO (.map kt et))(hk:P.underlying kt=sO (.int .i64))(hmap:w.heap[N]? =sO (.map es clock))
  (k:Int)(i:Nat)(v:Value)(hf:Instr.findNow (.int .i64) (.int .i64 k) es.toList 0=sO (sO (i,v))):(Instr.lookup t (.map (sO N)) (.int .i64 k) true).run P w=.ok (Tu #[v,Bb true]) w:=by
 have hc:=wS;simp[Instr.lookup,run_underlying ht,MapKept.run_getObj_map hmap,hc,MapKept.run_findKey hk hf,Result.andThen]

theorem Fy {P:Program}{N:Nat}{w:World}{es:Array MapEntry}{clock:Nat}(t kt et:TypeId)(ht:P.underlying t=sO (.map kt et))(hk:P.underlying kt=sO (.int .i64))(hmap:w.heap[N]? =sO (.map es clock))
  (z:Value)(hz:(zeroValue et).run P w=.ok z w)(k:Int)(hf:Instr.findNow (.int .i64) (.int .i64 k) es.toList 0=sO nO):(Instr.lookup t (.map (sO N)) (.int .i64 k) true).run P w=.ok (Tu #[z,Bb false]) w:=by
 have hc:=wS;simp[Instr.lookup,run_underlying ht,MapKept.run_getObj_map hmap,hc,MapKept.run_findKey hk hf,hz,Result.andThen]

theorem Sc (w:World):(zeroValue 228).run pG w=.ok (Ag #[.string ⟨#[]⟩,U nO 0 0]) w:=ae

theorem U8 {N:Nat}{w:World}(h:ShpAt N shps w)(k:Int)(hk:btw k 1 19=false):(Instr.lookup 179 (.map (sO N)) (.int .i64 k) true).run pG w=.ok (Tu #[Ag #[.string ⟨#[]⟩,U nO 0 0],Bb false]) w:=by
 refine Fy _ 3 228 underlying179 underlying3 h.map _ (Sc w) k (vV N k shps 0 0 ?_);have:¬(1<=k/\k<=19):=by simpa[btw] using hk
 intro s hs;simp only[shps,List.mem_cons,List.not_mem_nil,or_false] at hs;rcases hs with rfl|rfl|rfl|rfl|rfl|rfl|rfl|rfl|rfl|rfl|rfl|rfl|rfl|rfl|rfl|rfl|rfl|rfl|rfl<;>simp only<;>omega

theorem de {N:Nat}{w:World}(h:ShpAt N shps w)(k:Int)(i:Nat)(v:Value)(hf:Instr.findNow (.int .i64) (.int .i64 k) (cT N 0 shps) 0=sO (sO (i,v))):(Instr.lookup 179 (.map (sO N)) (.int .i64 k) true).run pG w=.ok (Tu #[v,Bb true]) w:=
 SJ _ 3 228 underlying179 underlying3 h.map k i v hf
def lo (q:Int):Int:=if q=4 then -2147483648 else 0
def hi (V F L q:Int):Int:=if q=4 then 2147483647 else if q=5 then 1 else if q=6 then 1000000 else if q=7 then F - 1 else if q=3 then L else V - 1
def er (q:Int):Int:=if q=4\/q=5\/q=6 then 3 else 5

theorem Oz (V F:Int)(s:oA)(len cap:Nat)(q:Int)(w:World)(_hV:1<=V)(_hV':V<=8)(_hF:0<=F)(_hF':F<=3)(_hL:len<=60)(hq:0<=q/\q<=7):
  Calls pG 186 #[Ag #[.int .i64 V,.int .i64 F,U s len cap],.int .i64 q] w λe w'=>e=Rt (Tu #[.int .i64 (lo q),.int .i64 (hi V F len q),.int .i64 (er q)])/\bl w w':=by
 have:q=0\/q=1\/q=2\/q=3\/q=4\/q=5\/q=6\/q=7:=aa;rcases this with rfl|rfl|rfl|rfl|rfl|rfl|rfl|rfl;all_goals
  go_enter func186,ntmps186;go_wp2;try (go_quiet (fail);go_wp2)
  go_ret3
  exact⟨rfl,by first|(go_grown;done)|exact below_drewN (by go_grown) _⟩
theorem aq {N:Nat}{w:World}(h:ShpAt N shps w)(j i:Nat)(hj:j < shps.length)(hne:shps[j].2.2≠[])(v:Value)(hv:(tj shps[j].2.2)[i]? =sO v):w.cell? ⟨N+1+j,i,nO⟩=sO v/\N+1+j < w.heap.size:=by
 have hb:=h.parts j hj hne;exact⟨by simp[World.cell?,hb,hv],(Array.getElem?_eq_some_iff.1 hb).1⟩
theorem dO {p:Prop}(h:p:=by
 have l0:lo 0=0:=rfl;have m0:hi V F len 0=V - 1:=rfl;have e0:er 0=5:=rfl;have l1:lo 1=0:=rfl;have m1:hi V F len 1=V - 1:=rfl;have e1:er 1=5:=rfl;have l2:lo 2=0:=rfl;have m2:hi V F len 2=V - 1:=rfl;have e2:er 2=5:=rfl;have l3:lo 3=0:=rfl;have m3:hi V F len 3=(len:Int):=rfl;have e3:er 3=5:=rfl;have l4:lo 4= -2147483648:=rfl;have m4:hi V F len 4=2147483647:=rfl;have e4:er 4=3:=rfl;have l5:lo 5=0:=rfl;have m5:hi V F len 5=1:=rfl;have e5:er 5=3:=rfl;have l6:lo 6=0:=rfl;have m6:hi V F len 6=1000000:=rfl;have e6:er 6=3:=rfl;have l7:lo 7=0:=rfl;have m7:hi V F len 7=F - 1:=rfl;have e7:er 7=5:=rfl;have z1:=Nat.lt_add_right 1 hz;have z2:=Nat.lt_add_right 1 z1;have z3:=Nat.lt_add_right 1 z2;have z4:=Nat.lt_add_right 1 z3;have x3:¬_:=Nat.ne_of_lt z3;go_enter func128,ntmps128;go_wp2;refine wp_loop_rounds 4 ?_;iterate 4 (try any_goals (rw[rounds_succ];go_wp2_with (first|(go_at_call 186;refine(Oz V F _ _ _ _ _ hV hV' hF hF' hL ?hq).mono ?_;(case hq=>decide);rintro e w1 ⟨rfl,hb1⟩;obtain⟨hc1,hf1⟩:=FI hb1;have hz1:w.heap.size+3 < w1.heap.size:=mH;have hz2:w.heap.size < w1.heap.size:=aa;have hz3:w.heap.size+1 < w1.heap.size:=aa;have hz4:w.heap.size+1+1 < w1.heap.size:=aa;have hz5:w.heap.size+1+1+1 < w1.heap.size:=aa;have hz6:=Nat.lt_trans hz hz2;have HB:Below w.heap.size w w1:=Below.trans am (hb1.mono oy))|go_in)))
 all_goals go_ret
 all_goals refine⟨bQ ?_,am⟩
 all_goals clear hl
 all_goals (try clear p0)
 all_goals (try clear p1)
 all_goals (try clear p2)
 all_goals simp[bn,nTo,nA,nB,nN,nG,btw]
 all_goals omega):p:=h
def Tab (w:World):Prop:=Lib.TabIs pG w "internal/strconv.uint64pow10" .u64 Lib.pow10Tab
theorem Om:∃g,Tryz.prog.globalNamed "internal/strconv.uint64pow10" =sO g:=by
 have h:(Tryz.prog.globalNamed "internal/strconv.uint64pow10").isSome=true:=ae;exact Option.isSome_iff_exists.1 h
theorem Tab.below {w w':World}(h:Tab w)(hb:bl w w'):Tab w':=by
 obtain⟨g,hg⟩:=Om;have hc:=h.cell hg 0 ai;exact var?_below hb hg (World.block_lt_of_cell? w _ hc) h

theorem rD (n:Int)(w:World)(h:kF n)(ht:Tab w):
  Calls pG 118 #[.int .i64 n] w λe w'=>e=Rt (.string (eJ n))/\bl w w':=by
 refine(Tryz.strconv_Itoa n h.1 h.2 w ht).mono ?_;rintro e w' ⟨rfl,k,os,rfl⟩;exact⟨rfl,⟨rfl,rfl,rfl,by simp[Sort.grow],λi hi=>by simp[Sort.grow,Array.getElem?_append,World.drewN,hi]⟩⟩
theorem Ud:(Tryz.prog.info? 9).map (λi=>(i.zero,i.size,i.bytes))=sO (sO (.string ⟨#[]⟩),1,16):=ae

theorem Gm {P:Program}{N:Nat}{w:World}{es:Array MapEntry}{clock:Nat}(t kt et:TypeId)(ht:P.underlying t=sO (.map kt et))(hk:P.underlying kt=sO (.int .i64))(hmap:w.heap[N]? =sO (.map es clock))
  (k:Int)(i:Nat)(v:Value)(hf:Instr.findNow (.int .i64) (.int .i64 k) es.toList 0=sO (sO (i,v))):(Instr.lookup t (.map (sO N)) (.int .i64 k) false).run P w=.ok v w:=by
 have hc:=wS;simp[Instr.lookup,run_underlying ht,MapKept.run_getObj_map hmap,hc,MapKept.run_findKey hk hf,Result.andThen]

theorem bo {N:Nat}{w:World}(h:ShpAt N shps w)(k:Int)(i:Nat)(v:Value)(hf:Instr.findNow (.int .i64) (.int .i64 k) (cT N 0 shps) 0=sO (sO (i,v))):(Instr.lookup 179 (.map (sO N)) (.int .i64 k) false).run pG w=.ok v w:=
 Gm _ 3 228 underlying179 underlying3 h.map k i v hf
theorem FZ (V F:Int)(s:oA)(len cap N:Nat)(tto a b n g:Int)(w:World)(hV:1<=V)(hV':V<=8)(hF:0<=F)(hF':F<=3)(hL:len<=60)(hs:ShpAt N shps w):
  Calls pG 128 #[Ag #[.int .i64 V,.int .i64 F,U s len cap],.map (sO N),Ag #[.int .i64 1,.int .i64 tto,.int .i64 a,.int .i64 b,.int .i64 n,.int .i64 g]] w λe w'=>e=Rt (.int .i64 (bn V F len ⟨1,tto,a,b,n,g⟩))/\bl w w':=by
 have hb0:Below w.heap.size w ((w.alloc (Cc #[.int .i64 V,.int .i64 F,U s len cap] 24)).alloc (Cc #[.int .i64 1,.int .i64 tto,.int .i64 a,.int .i64 b,.int .i64 n,.int .i64 g] 100)):=am;have hl:(Instr.lookup 179 (.map (sO N)) (.int .i64 1) true).run pG _=.ok (Tu #[Ag #[.string (aL 1),U (sO ⟨N+1,0,nO⟩) 2 2],Bb true]) _:=de (hs.below hb0 (lR _)) 1 0 _ rfl;have hz:N+1 < w.heap.size:=(aq hs 0 0 ai ai (.int .i64 0) rfl).2;have p0:w.cell? ⟨N+1,0,nO⟩=sO (.int .i64 0):=(aq hs 0 0 ai ai (.int .i64 0) rfl).1;have p1:w.cell? ⟨N+1,1,nO⟩=sO (.int .i64 4):=(aq hs 0 1 ai ai (.int .i64 4) rfl).1;clear hb0 hs;exact dO

theorem GL (V F:Int)(s:oA)(len cap N:Nat)(tto a b n g:Int)(w:World)(hV:1<=V)(hV':V<=8)(hF:0<=F)(hF':F<=3)(hL:len<=60)(hs:ShpAt N shps w):
  Calls pG 128 #[Ag #[.int .i64 V,.int .i64 F,U s len cap],.map (sO N),Ag #[.int .i64 2,.int .i64 tto,.int .i64 a,.int .i64 b,.int .i64 n,.int .i64 g]] w λe w'=>e=Rt (.int .i64 (bn V F len ⟨2,tto,a,b,n,g⟩))/\bl w w':=by
 have hb0:Below w.heap.size w ((w.alloc (Cc #[.int .i64 V,.int .i64 F,U s len cap] 24)).alloc (Cc #[.int .i64 2,.int .i64 tto,.int .i64 a,.int .i64 b,.int .i64 n,.int .i64 g] 100)):=am;have hl:(Instr.lookup 179 (.map (sO N)) (.int .i64 2) true).run pG _=.ok (Tu #[Ag #[.string (aL 2),U (sO ⟨N+2,0,nO⟩) 2 2],Bb true]) _:=de (hs.below hb0 (lR _)) 2 1 _ rfl;have hz:N+2 < w.heap.size:=(aq hs 1 0 ai ai (.int .i64 0) rfl).2;have p0:w.cell? ⟨N+2,0,nO⟩=sO (.int .i64 0):=(aq hs 1 0 ai ai (.int .i64 0) rfl).1;have p1:w.cell? ⟨N+2,1,nO⟩=sO (.int .i64 5):=(aq hs 1 1 ai ai (.int .i64 5) rfl).1;clear hb0 hs;exact dO

theorem Hg (V F:Int)(s:oA)(len cap N:Nat)(tto a b n g:Int)(w:World)(hV:1<=V)(hV':V<=8)(hF:0<=F)(hF':F<=3)(hL:len<=60)(hs:ShpAt N shps w):
  Calls pG 128 #[Ag #[.int .i64 V,.int .i64 F,U s len cap],.map (sO N),Ag #[.int .i64 3,.int .i64 tto,.int .i64 a,.int .i64 b,.int .i64 n,.int .i64 g]] w λe w'=>e=Rt (.int .i64 (bn V F len ⟨3,tto,a,b,n,g⟩))/\bl w w':=by
 have hb0:Below w.heap.size w ((w.alloc (Cc #[.int .i64 V,.int .i64 F,U s len cap] 24)).alloc (Cc #[.int .i64 3,.int .i64 tto,.int .i64 a,.int .i64 b,.int .i64 n,.int .i64 g] 100)):=am;have hl:(Instr.lookup 179 (.map (sO N)) (.int .i64 3) true).run pG _=.ok (Tu #[Ag #[.string (aL 3),U (sO ⟨N+3,0,nO⟩) 1 1],Bb true]) _:=de (hs.below hb0 (lR _)) 3 2 _ rfl;have hz:N+3 < w.heap.size:=(aq hs 2 0 ai ai (.int .i64 0) rfl).2;have p0:w.cell? ⟨N+3,0,nO⟩=sO (.int .i64 0):=(aq hs 2 0 ai ai (.int .i64 0) rfl).1;clear hb0 hs;exact dO

theorem KV (V F:Int)(s:oA)(len cap N:Nat)(tto a b n g:Int)(w:World)(hV:1<=V)(hV':V<=8)(hF:0<=F)(hF':F<=3)(hL:len<=60)(hs:ShpAt N shps w):
  Calls pG 128 #[Ag #[.int .i64 V,.int .i64 F,U s len cap],.map (sO N),Ag #[.int .i64 4,.int .i64 tto,.int .i64 a,.int .i64 b,.int .i64 n,.int .i64 g]] w λe w'=>e=Rt (.int .i64 (bn V F len ⟨4,tto,a,b,n,g⟩))/\bl w w':=by
 have hb0:Below w.heap.size w ((w.alloc (Cc #[.int .i64 V,.int .i64 F,U s len cap] 24)).alloc (Cc #[.int .i64 4,.int .i64 tto,.int .i64 a,.int .i64 b,.int .i64 n,.int .i64 g] 100)):=am;have hl:(Instr.lookup 179 (.map (sO N)) (.int .i64 4) true).run pG _=.ok (Tu #[Ag #[.string (aL 4),U (sO ⟨N+4,0,nO⟩) 2 2],Bb true]) _:=de (hs.below hb0 (lR _)) 4 3 _ rfl;have hz:N+4 < w.heap.size:=(aq hs 3 0 ai ai (.int .i64 0) rfl).2;have p0:w.cell? ⟨N+4,0,nO⟩=sO (.int .i64 0):=(aq hs 3 0 ai ai (.int .i64 0) rfl).1;have p1:w.cell? ⟨N+4,1,nO⟩=sO (.int .i64 1):=(aq hs 3 1 ai ai (.int .i64 1) rfl).1;clear hb0 hs;exact dO

theorem E6 (V F:Int)(s:oA)(len cap N:Nat)(tto a b n g:Int)(w:World)(_hV:1<=V)(_hV':V<=8)(_hF:0<=F)(_hF':F<=3)(_hL:len<=60)(hs:ShpAt N shps w):
  Calls pG 128 #[Ag #[.int .i64 V,.int .i64 F,U s len cap],.map (sO N),Ag #[.int .i64 19,.int .i64 tto,.int .i64 a,.int .i64 b,.int .i64 n,.int .i64 g]] w λe w'=>e=Rt (.int .i64 (bn V F len ⟨19,tto,a,b,n,g⟩))/\bl w w':=by
 have hb0:Below w.heap.size w ((w.alloc (Cc #[.int .i64 V,.int .i64 F,U s len cap] 24)).alloc (Cc #[.int .i64 19,.int .i64 tto,.int .i64 a,.int .i64 b,.int .i64 n,.int .i64 g] 100)):=am;have hl:(Instr.lookup 179 (.map (sO N)) (.int .i64 19) true).run pG _=.ok (Tu #[Ag #[.string (aL 19),U nO 0 0],Bb true]) _:=de (hs.below hb0 (lR _)) 19 18 _ rfl;clear hb0 hs;go_enter func128,ntmps128;go_wp2;refine wp_loop_rounds 1 ?_;rw[rounds_succ];go_wp2;all_goals go_ret
 all_goals refine⟨bQ ?_,am⟩
 all_goals clear hl
 all_goals simp[bn,nTo,nA,nB,nN,nG,btw]
 all_goals omega

theorem Fh (V F:Int)(s:oA)(len cap N:Nat)(k tto a b n g:Int)(w:World)(_hV:1<=V)(_hV':V<=8)(_hF:0<=F)(_hF':F<=3)(_hL:len<=60)(hs:ShpAt N shps w)(hk:btw k 1 19=false):
  Calls pG 128 #[Ag #[.int .i64 V,.int .i64 F,U s len cap],.map (sO N),Ag #[.int .i64 k,.int .i64 tto,.int .i64 a,.int .i64 b,.int .i64 n,.int .i64 g]] w λe w'=>e=Rt (.int .i64 (bn V F len ⟨k,tto,a,b,n,g⟩))/\bl w w':=by
 have hb0:Below w.heap.size w ((w.alloc (Cc #[.int .i64 V,.int .i64 F,U s len cap] 24)).alloc (Cc #[.int .i64 k,.int .i64 tto,.int .i64 a,.int .i64 b,.int .i64 n,.int .i64 g] 100)):=am;have hl:=U8 (hs.below hb0 (lR _)) k hk;have hr:bn V F len ⟨k,tto,a,b,n,g⟩=6:=by simp[bn,hk]
 clear hb0 hs;go_enter func128,ntmps128;go_wp2;go_ret;exact⟨bQ hr.symm,am⟩

theorem FB (V F:Int)(s:oA)(len cap N:Nat)(tto a b n g:Int)(w:World)(hV:1<=V)(hV':V<=8)(hF:0<=F)(hF':F<=3)(hL:len<=60)(hs:ShpAt N shps w):
  Calls pG 128 #[Ag #[.int .i64 V,.int .i64 F,U s len cap],.map (sO N),Ag #[.int .i64 11,.int .i64 tto,.int .i64 a,.int .i64 b,.int .i64 n,.int .i64 g]] w λe w'=>e=Rt (.int .i64 (bn V F len ⟨11,tto,a,b,n,g⟩))/\bl w w':=by
 have hb0:Below w.heap.size w ((w.alloc (Cc #[.int .i64 V,.int .i64 F,U s len cap] 24)).alloc (Cc #[.int .i64 11,.int .i64 tto,.int .i64 a,.int .i64 b,.int .i64 n,.int .i64 g] 100)):=am;have hl:(Instr.lookup 179 (.map (sO N)) (.int .i64 11) true).run pG _=.ok (Tu #[Ag #[.string (aL 11),U (sO ⟨N+11,0,nO⟩) 1 1],Bb true]) _:=de (hs.below hb0 (lR _)) 11 10 _ rfl;have hz:N+11 < w.heap.size:=(aq hs 10 0 ai ai (.int .i64 0) rfl).2;have p0:w.cell? ⟨N+11,0,nO⟩=sO (.int .i64 0):=(aq hs 10 0 ai ai (.int .i64 0) rfl).1;clear hb0 hs;exact dO
theorem KI (V F:Int)(s:oA)(len cap N:Nat)(tto a b n g:Int)(w:World)(hV:1<=V)(hV':V<=8)(hF:0<=F)(hF':F<=3)(hL:len<=60)(hs:ShpAt N shps w):
  Calls pG 128 #[Ag #[.int .i64 V,.int .i64 F,U s len cap],.map (sO N),Ag #[.int .i64 5,.int .i64 tto,.int .i64 a,.int .i64 b,.int .i64 n,.int .i64 g]] w λe w'=>e=Rt (.int .i64 (bn V F len ⟨5,tto,a,b,n,g⟩))/\bl w w':=by
 have hb0:Below w.heap.size w ((w.alloc (Cc #[.int .i64 V,.int .i64 F,U s len cap] 24)).alloc (Cc #[.int .i64 5,.int .i64 tto,.int .i64 a,.int .i64 b,.int .i64 n,.int .i64 g] 100)):=am;have hl:(Instr.lookup 179 (.map (sO N)) (.int .i64 5) true).run pG _=.ok (Tu #[Ag #[.string (aL 5),U (sO ⟨N+5,0,nO⟩) 3 3],Bb true]) _:=de (hs.below hb0 (lR _)) 5 4 _ rfl;have hz:N+5 < w.heap.size:=(aq hs 4 0 ai ai (.int .i64 0) rfl).2;have p0:w.cell? ⟨N+5,0,nO⟩=sO (.int .i64 0):=(aq hs 4 0 ai ai (.int .i64 0) rfl).1;have p1:w.cell? ⟨N+5,1,nO⟩=sO (.int .i64 1):=(aq hs 4 1 ai ai (.int .i64 1) rfl).1;have p2:w.cell? ⟨N+5,2,nO⟩=sO (.int .i64 2):=(aq hs 4 2 ai ai (.int .i64 2) rfl).1;clear hb0 hs;exact dO

theorem F8 (V F:Int)(s:oA)(len cap N:Nat)(tto a b n g:Int)(w:World)(hV:1<=V)(hV':V<=8)(hF:0<=F)(hF':F<=3)(hL:len<=60)(hs:ShpAt N shps w):
  Calls pG 128 #[Ag #[.int .i64 V,.int .i64 F,U s len cap],.map (sO N),Ag #[.int .i64 6,.int .i64 tto,.int .i64 a,.int .i64 b,.int .i64 n,.int .i64 g]] w λe w'=>e=Rt (.int .i64 (bn V F len ⟨6,tto,a,b,n,g⟩))/\bl w w':=by
 have hb0:Below w.heap.size w ((w.alloc (Cc #[.int .i64 V,.int .i64 F,U s len cap] 24)).alloc (Cc #[.int .i64 6,.int .i64 tto,.int .i64 a,.int .i64 b,.int .i64 n,.int .i64 g] 100)):=am;have hl:(Instr.lookup 179 (.map (sO N)) (.int .i64 6) true).run pG _=.ok (Tu #[Ag #[.string (aL 6),U (sO ⟨N+6,0,nO⟩) 3 3],Bb true]) _:=de (hs.below hb0 (lR _)) 6 5 _ rfl;have hz:N+6 < w.heap.size:=(aq hs 5 0 ai ai (.int .i64 0) rfl).2;have p0:w.cell? ⟨N+6,0,nO⟩=sO (.int .i64 0):=(aq hs 5 0 ai ai (.int .i64 0) rfl).1;have p1:w.cell? ⟨N+6,1,nO⟩=sO (.int .i64 1):=(aq hs 5 1 ai ai (.int .i64 1) rfl).1;have p2:w.cell? ⟨N+6,2,nO⟩=sO (.int .i64 2):=(aq hs 5 2 ai ai (.int .i64 2) rfl).1;clear hb0 hs;exact dO

theorem Hu (V F:Int)(s:oA)(len cap N:Nat)(tto a b n g:Int)(w:World)(hV:1<=V)(hV':V<=8)(hF:0<=F)(hF':F<=3)(hL:len<=60)(hs:ShpAt N shps w):
  Calls pG 128 #[Ag #[.int .i64 V,.int .i64 F,U s len cap],.map (sO N),Ag #[.int .i64 7,.int .i64 tto,.int .i64 a,.int .i64 b,.int .i64 n,.int .i64 g]] w λe w'=>e=Rt (.int .i64 (bn V F len ⟨7,tto,a,b,n,g⟩))/\bl w w':=by
 have hb0:Below w.heap.size w ((w.alloc (Cc #[.int .i64 V,.int .i64 F,U s len cap] 24)).alloc (Cc #[.int .i64 7,.int .i64 tto,.int .i64 a,.int .i64 b,.int .i64 n,.int .i64 g] 100)):=am;have hl:(Instr.lookup 179 (.map (sO N)) (.int .i64 7) true).run pG _=.ok (Tu #[Ag #[.string (aL 7),U (sO ⟨N+7,0,nO⟩) 3 3],Bb true]) _:=de (hs.below hb0 (lR _)) 7 6 _ rfl;have hz:N+7 < w.heap.size:=(aq hs 6 0 ai ai (.int .i64 0) rfl).2;have p0:w.cell? ⟨N+7,0,nO⟩=sO (.int .i64 0):=(aq hs 6 0 ai ai (.int .i64 0) rfl).1;have p1:w.cell? ⟨N+7,1,nO⟩=sO (.int .i64 1):=(aq hs 6 1 ai ai (.int .i64 1) rfl).1;have p2:w.cell? ⟨N+7,2,nO⟩=sO (.int .i64 2):=(aq hs 6 2 ai ai (.int .i64 2) rfl).1;clear hb0 hs;exact dO

theorem Fb (V F:Int)(s:oA)(len cap N:Nat)(tto a b n g:Int)(w:World)(hV:1<=V)(hV':V<=8)(hF:0<=F)(hF':F<=3)(hL:len<=60)(hs:ShpAt N shps w):
  Calls pG 128 #[Ag #[.int .i64 V,.int .i64 F,U s len cap],.map (sO N),Ag #[.int .i64 16,.int .i64 tto,.int .i64 a,.int .i64 b,.int .i64 n,.int .i64 g]] w λe w'=>e=Rt (.int .i64 (bn V F len ⟨16,tto,a,b,n,g⟩))/\bl w w':=by
 have hb0:Below w.heap.size w ((w.alloc (Cc #[.int .i64 V,.int .i64 F,U s len cap] 24)).alloc (Cc #[.int .i64 16,.int .i64 tto,.int .i64 a,.int .i64 b,.int .i64 n,.int .i64 g] 100)):=am;have hl:(Instr.lookup 179 (.map (sO N)) (.int .i64 16) true).run pG _=.ok (Tu #[Ag #[.string (aL 16),U (sO ⟨N+16,0,nO⟩) 1 1],Bb true]) _:=de (hs.below hb0 (lR _)) 16 15 _ rfl;have hz:N+16 < w.heap.size:=(aq hs 15 0 ai ai (.int .i64 3) rfl).2;have p0:w.cell? ⟨N+16,0,nO⟩=sO (.int .i64 3):=(aq hs 15 0 ai ai (.int .i64 3) rfl).1;clear hb0 hs;exact dO

theorem Fs (V F:Int)(s:oA)(len cap N:Nat)(tto a b n g:Int)(w:World)(hV:1<=V)(hV':V<=8)(hF:0<=F)(hF':F<=3)(hL:len<=60)(hs:ShpAt N shps w):
  Calls pG 128 #[Ag #[.int .i64 V,.int .i64 F,U s len cap],.map (sO N),Ag #[.int .i64 17,.int .i64 tto,.int .i64 a,.int .i64 b,.int .i64 n,.int .i64 g]] w λe w'=>e=Rt (.int .i64 (bn V F len ⟨17,tto,a,b,n,g⟩))/\bl w w':=by
 have hb0:Below w.heap.size w ((w.alloc (Cc #[.int .i64 V,.int .i64 F,U s len cap] 24)).alloc (Cc #[.int .i64 17,.int .i64 tto,.int .i64 a,.int .i64 b,.int .i64 n,.int .i64 g] 100)):=am;have hl:(Instr.lookup 179 (.map (sO N)) (.int .i64 17) true).run pG _=.ok (Tu #[Ag #[.string (aL 17),U (sO ⟨N+17,0,nO⟩) 1 1],Bb true]) _:=de (hs.below hb0 (lR _)) 17 16 _ rfl;have hz:N+17 < w.heap.size:=(aq hs 16 0 ai ai (.int .i64 1) rfl).2;have p0:w.cell? ⟨N+17,0,nO⟩=sO (.int .i64 1):=(aq hs 16 0 ai ai (.int .i64 1) rfl).1;clear hb0 hs;exact dO
theorem FU (V F:Int)(s:oA)(len cap N:Nat)(tto a b n g:Int)(w:World)(hV:1<=V)(hV':V<=8)(hF:0<=F)(hF':F<=3)(hL:len<=60)(hs:ShpAt N shps w):
  Calls pG 128 #[Ag #[.int .i64 V,.int .i64 F,U s len cap],.map (sO N),Ag #[.int .i64 8,.int .i64 tto,.int .i64 a,.int .i64 b,.int .i64 n,.int .i64 g]] w λe w'=>e=Rt (.int .i64 (bn V F len ⟨8,tto,a,b,n,g⟩))/\bl w w':=by
 have hb0:Below w.heap.size w ((w.alloc (Cc #[.int .i64 V,.int .i64 F,U s len cap] 24)).alloc (Cc #[.int .i64 8,.int .i64 tto,.int .i64 a,.int .i64 b,.int .i64 n,.int .i64 g] 100)):=am;have hl:(Instr.lookup 179 (.map (sO N)) (.int .i64 8) true).run pG _=.ok (Tu #[Ag #[.string (aL 8),U (sO ⟨N+8,0,nO⟩) 3 3],Bb true]) _:=de (hs.below hb0 (lR _)) 8 7 _ rfl;have hz:N+8 < w.heap.size:=(aq hs 7 0 ai ai (.int .i64 0) rfl).2;have p0:w.cell? ⟨N+8,0,nO⟩=sO (.int .i64 0):=(aq hs 7 0 ai ai (.int .i64 0) rfl).1;have p1:w.cell? ⟨N+8,1,nO⟩=sO (.int .i64 1):=(aq hs 7 1 ai ai (.int .i64 1) rfl).1;have p2:w.cell? ⟨N+8,2,nO⟩=sO (.int .i64 2):=(aq hs 7 2 ai ai (.int .i64 2) rfl).1;clear hb0 hs;exact dO

theorem Kx (V F:Int)(s:oA)(len cap N:Nat)(tto a b n g:Int)(w:World)(hV:1<=V)(hV':V<=8)(hF:0<=F)(hF':F<=3)(hL:len<=60)(hs:ShpAt N shps w):
  Calls pG 128 #[Ag #[.int .i64 V,.int .i64 F,U s len cap],.map (sO N),Ag #[.int .i64 9,.int .i64 tto,.int .i64 a,.int .i64 b,.int .i64 n,.int .i64 g]] w λe w'=>e=Rt (.int .i64 (bn V F len ⟨9,tto,a,b,n,g⟩))/\bl w w':=by
 have hb0:Below w.heap.size w ((w.alloc (Cc #[.int .i64 V,.int .i64 F,U s len cap] 24)).alloc (Cc #[.int .i64 9,.int .i64 tto,.int .i64 a,.int .i64 b,.int .i64 n,.int .i64 g] 100)):=am;have hl:(Instr.lookup 179 (.map (sO N)) (.int .i64 9) true).run pG _=.ok (Tu #[Ag #[.string (aL 9),U (sO ⟨N+9,0,nO⟩) 3 3],Bb true]) _:=de (hs.below hb0 (lR _)) 9 8 _ rfl;have hz:N+9 < w.heap.size:=(aq hs 8 0 ai ai (.int .i64 0) rfl).2;have p0:w.cell? ⟨N+9,0,nO⟩=sO (.int .i64 0):=(aq hs 8 0 ai ai (.int .i64 0) rfl).1;have p1:w.cell? ⟨N+9,1,nO⟩=sO (.int .i64 1):=(aq hs 8 1 ai ai (.int .i64 1) rfl).1;have p2:w.cell? ⟨N+9,2,nO⟩=sO (.int .i64 2):=(aq hs 8 2 ai ai (.int .i64 2) rfl).1;clear hb0 hs;exact dO

theorem Fc (V F:Int)(s:oA)(len cap N:Nat)(tto a b n g:Int)(w:World)(hV:1<=V)(hV':V<=8)(hF:0<=F)(hF':F<=3)(hL:len<=60)(hs:ShpAt N shps w):
  Calls pG 128 #[Ag #[.int .i64 V,.int .i64 F,U s len cap],.map (sO N),Ag #[.int .i64 10,.int .i64 tto,.int .i64 a,.int .i64 b,.int .i64 n,.int .i64 g]] w λe w'=>e=Rt (.int .i64 (bn V F len ⟨10,tto,a,b,n,g⟩))/\bl w w':=by
 have hb0:Below w.heap.size w ((w.alloc (Cc #[.int .i64 V,.int .i64 F,U s len cap] 24)).alloc (Cc #[.int .i64 10,.int .i64 tto,.int .i64 a,.int .i64 b,.int .i64 n,.int .i64 g] 100)):=am;have hl:(Instr.lookup 179 (.map (sO N)) (.int .i64 10) true).run pG _=.ok (Tu #[Ag #[.string (aL 10),U (sO ⟨N+10,0,nO⟩) 2 2],Bb true]) _:=de (hs.below hb0 (lR _)) 10 9 _ rfl;have hz:N+10 < w.heap.size:=(aq hs 9 0 ai ai (.int .i64 0) rfl).2;have p0:w.cell? ⟨N+10,0,nO⟩=sO (.int .i64 0):=(aq hs 9 0 ai ai (.int .i64 0) rfl).1;have p1:w.cell? ⟨N+10,1,nO⟩=sO (.int .i64 1):=(aq hs 9 1 ai ai (.int .i64 1) rfl).1;clear hb0 hs;exact dO

theorem Fq (V F:Int)(s:oA)(len cap N:Nat)(tto a b n g:Int)(w:World)(hV:1<=V)(hV':V<=8)(hF:0<=F)(hF':F<=3)(hL:len<=60)(hs:ShpAt N shps w):
  Calls pG 128 #[Ag #[.int .i64 V,.int .i64 F,U s len cap],.map (sO N),Ag #[.int .i64 15,.int .i64 tto,.int .i64 a,.int .i64 b,.int .i64 n,.int .i64 g]] w λe w'=>e=Rt (.int .i64 (bn V F len ⟨15,tto,a,b,n,g⟩))/\bl w w':=by
 have hb0:Below w.heap.size w ((w.alloc (Cc #[.int .i64 V,.int .i64 F,U s len cap] 24)).alloc (Cc #[.int .i64 15,.int .i64 tto,.int .i64 a,.int .i64 b,.int .i64 n,.int .i64 g] 100)):=am;have hl:(Instr.lookup 179 (.map (sO N)) (.int .i64 15) true).run pG _=.ok (Tu #[Ag #[.string (aL 15),U (sO ⟨N+15,0,nO⟩) 2 2],Bb true]) _:=de (hs.below hb0 (lR _)) 15 14 _ rfl;have hz:N+15 < w.heap.size:=(aq hs 14 0 ai ai (.int .i64 1) rfl).2;have p0:w.cell? ⟨N+15,0,nO⟩=sO (.int .i64 1):=(aq hs 14 0 ai ai (.int .i64 1) rfl).1;have p1:w.cell? ⟨N+15,1,nO⟩=sO (.int .i64 3):=(aq hs 14 1 ai ai (.int .i64 3) rfl).1;clear hb0 hs;exact dO

theorem FF (V F:Int)(s:oA)(len cap N:Nat)(tto a b n g:Int)(w:World)(hV:1<=V)(hV':V<=8)(hF:0<=F)(hF':F<=3)(hL:len<=60)(hs:ShpAt N shps w):
  Calls pG 128 #[Ag #[.int .i64 V,.int .i64 F,U s len cap],.map (sO N),Ag #[.int .i64 18,.int .i64 tto,.int .i64 a,.int .i64 b,.int .i64 n,.int .i64 g]] w λe w'=>e=Rt (.int .i64 (bn V F len ⟨18,tto,a,b,n,g⟩))/\bl w w':=by
 have hb0:Below w.heap.size w ((w.alloc (Cc #[.int .i64 V,.int .i64 F,U s len cap] 24)).alloc (Cc #[.int .i64 18,.int .i64 tto,.int .i64 a,.int .i64 b,.int .i64 n,.int .i64 g] 100)):=am;have hl:(Instr.lookup 179 (.map (sO N)) (.int .i64 18) true).run pG _=.ok (Tu #[Ag #[.string (aL 18),U (sO ⟨N+18,0,nO⟩) 1 1],Bb true]) _:=de (hs.below hb0 (lR _)) 18 17 _ rfl;have hz:N+18 < w.heap.size:=(aq hs 17 0 ai ai (.int .i64 1) rfl).2;have p0:w.cell? ⟨N+18,0,nO⟩=sO (.int .i64 1):=(aq hs 17 0 ai ai (.int .i64 1) rfl).1;clear hb0 hs;exact dO
theorem Fi (V F:Int)(s:oA)(len cap N:Nat)(tto a b n g:Int)(w:World)(hV:1<=V)(hV':V<=8)(hF:0<=F)(hF':F<=3)(hL:len<=60)(hs:ShpAt N shps w):
  Calls pG 128 #[Ag #[.int .i64 V,.int .i64 F,U s len cap],.map (sO N),Ag #[.int .i64 12,.int .i64 tto,.int .i64 a,.int .i64 b,.int .i64 n,.int .i64 g]] w λe w'=>e=Rt (.int .i64 (bn V F len ⟨12,tto,a,b,n,g⟩))/\bl w w':=by
 have hb0:Below w.heap.size w ((w.alloc (Cc #[.int .i64 V,.int .i64 F,U s len cap] 24)).alloc (Cc #[.int .i64 12,.int .i64 tto,.int .i64 a,.int .i64 b,.int .i64 n,.int .i64 g] 100)):=am;have hl:(Instr.lookup 179 (.map (sO N)) (.int .i64 12) true).run pG _=.ok (Tu #[Ag #[.string (aL 12),U (sO ⟨N+12,0,nO⟩) 3 3],Bb true]) _:=de (hs.below hb0 (lR _)) 12 11 _ rfl;have hz:N+12 < w.heap.size:=(aq hs 11 0 ai ai (.int .i64 0) rfl).2;have p0:w.cell? ⟨N+12,0,nO⟩=sO (.int .i64 0):=(aq hs 11 0 ai ai (.int .i64 0) rfl).1;have p1:w.cell? ⟨N+12,1,nO⟩=sO (.int .i64 1):=(aq hs 11 1 ai ai (.int .i64 1) rfl).1;have p2:w.cell? ⟨N+12,2,nO⟩=sO (.int .i64 7):=(aq hs 11 2 ai ai (.int .i64 7) rfl).1;clear hb0 hs;exact dO

theorem Fx (V F:Int)(s:oA)(len cap N:Nat)(tto a b n g:Int)(w:World)(hV:1<=V)(hV':V<=8)(hF:0<=F)(hF':F<=3)(hL:len<=60)(hs:ShpAt N shps w):
  Calls pG 128 #[Ag #[.int .i64 V,.int .i64 F,U s len cap],.map (sO N),Ag #[.int .i64 13,.int .i64 tto,.int .i64 a,.int .i64 b,.int .i64 n,.int .i64 g]] w λe w'=>e=Rt (.int .i64 (bn V F len ⟨13,tto,a,b,n,g⟩))/\bl w w':=by
 have hb0:Below w.heap.size w ((w.alloc (Cc #[.int .i64 V,.int .i64 F,U s len cap] 24)).alloc (Cc #[.int .i64 13,.int .i64 tto,.int .i64 a,.int .i64 b,.int .i64 n,.int .i64 g] 100)):=am;have hl:(Instr.lookup 179 (.map (sO N)) (.int .i64 13) true).run pG _=.ok (Tu #[Ag #[.string (aL 13),U (sO ⟨N+13,0,nO⟩) 3 3],Bb true]) _:=de (hs.below hb0 (lR _)) 13 12 _ rfl;have hz:N+13 < w.heap.size:=(aq hs 12 0 ai ai (.int .i64 1) rfl).2;have p0:w.cell? ⟨N+13,0,nO⟩=sO (.int .i64 1):=(aq hs 12 0 ai ai (.int .i64 1) rfl).1;have p1:w.cell? ⟨N+13,1,nO⟩=sO (.int .i64 7):=(aq hs 12 1 ai ai (.int .i64 7) rfl).1;have p2:w.cell? ⟨N+13,2,nO⟩=sO (.int .i64 2):=(aq hs 12 2 ai ai (.int .i64 2) rfl).1;clear hb0 hs;exact dO

theorem Fm (V F:Int)(s:oA)(len cap N:Nat)(tto a b n g:Int)(w:World)(hV:1<=V)(hV':V<=8)(hF:0<=F)(hF':F<=3)(hL:len<=60)(hs:ShpAt N shps w):
  Calls pG 128 #[Ag #[.int .i64 V,.int .i64 F,U s len cap],.map (sO N),Ag #[.int .i64 14,.int .i64 tto,.int .i64 a,.int .i64 b,.int .i64 n,.int .i64 g]] w λe w'=>e=Rt (.int .i64 (bn V F len ⟨14,tto,a,b,n,g⟩))/\bl w w':=by
 have hb0:Below w.heap.size w ((w.alloc (Cc #[.int .i64 V,.int .i64 F,U s len cap] 24)).alloc (Cc #[.int .i64 14,.int .i64 tto,.int .i64 a,.int .i64 b,.int .i64 n,.int .i64 g] 100)):=am;have hl:(Instr.lookup 179 (.map (sO N)) (.int .i64 14) true).run pG _=.ok (Tu #[Ag #[.string (aL 14),U (sO ⟨N+14,0,nO⟩) 2 2],Bb true]) _:=de (hs.below hb0 (lR _)) 14 13 _ rfl;have hz:N+14 < w.heap.size:=(aq hs 13 0 ai ai (.int .i64 0) rfl).2;have p0:w.cell? ⟨N+14,0,nO⟩=sO (.int .i64 0):=(aq hs 13 0 ai ai (.int .i64 0) rfl).1;have p1:w.cell? ⟨N+14,1,nO⟩=sO (.int .i64 6):=(aq hs 13 1 ai ai (.int .i64 6) rfl).1;clear hb0 hs;exact dO
theorem pY {x:Int}(h1: -9223372036854775808<=x)(h2:x < 9223372036854775808):wrap64 x=x:=by unfold wrap64;omega

theorem Ri {a b:Int}(ha:bk a)(hb:bk b): -4611686018427387904<=a * b/\a * b<=4611686018427387904:=by
 have h1:a.natAbs<=2147483648:=by unfold bk at ha;omega
 have h2:b.natAbs<=2147483648:=by unfold bk at hb;omega
 have h3:(a * b).natAbs<=4611686018427387904:=by rw[Int.natAbs_mul];exact Nat.mul_le_mul h1 h2
 omega

theorem il {a b:Int}(ha:bk a)(hb:bk b):wrap64 (a+b)=a+b:=by
 unfold bk at ha hb;exact pY aa aa
theorem ik {a b:Int}(ha:bk a)(hb:bk b):wrap64 (a - b)=a - b:=by
 unfold bk at ha hb;exact pY aa aa
theorem g8 {a b:Int}(ha:bk a)(hb:bk b):wrap64 (a * b)=a * b:=by
 have:=Ri ha hb;exact pY aa aa

theorem Vr (s t:Sp)(w:World)(hs:s.Ok)(ht:t.Ok):
  Calls pG 228 #[sv s,sv t,.func (.func 229) #[] #[]] w λe w'=>e=Rt (sv (cu 5 s t))/\bl w w':=by
 by_cases h:(s.n||t.n)=true
 ·have:=oe 229 s t w h
  unfold cu;rw[if_pos h];exact this
 ·have e0:cu 5 s t=gW (s.lo+t.lo) (s.lo+t.hi) (s.hi+t.lo) (s.hi+t.hi):=by unfold cu;rw[if_neg h];rfl
  rw[e0];obtain⟨n,lo,hi⟩:=s;obtain⟨n',lo',hi'⟩:=t;cases n with
  |true=>exact absurd rfl h
  |false=>
   cases n' with
   |true=>exact absurd rfl h
   |false=>exact NB lo hi lo' hi' w (il hs.1 ht.1) (il hs.1 ht.2.1) (il hs.2.1 ht.1) (il hs.2.1 ht.2.1)

theorem V5 (s t:Sp)(w:World)(hs:s.Ok)(ht:t.Ok):
  Calls pG 228 #[sv s,sv t,.func (.func 230) #[] #[]] w λe w'=>e=Rt (sv (cu 6 s t))/\bl w w':=by
 by_cases h:(s.n||t.n)=true
 ·have:=oe 230 s t w h
  unfold cu;rw[if_pos h];exact this
 ·have e0:cu 6 s t=gW (s.lo - t.lo) (s.lo - t.hi) (s.hi - t.lo) (s.hi - t.hi):=by unfold cu;rw[if_neg h];rfl
  rw[e0];obtain⟨n,lo,hi⟩:=s;obtain⟨n',lo',hi'⟩:=t;cases n with
  |true=>exact absurd rfl h
  |false=>
   cases n' with
   |true=>exact absurd rfl h
   |false=>exact Oa lo hi lo' hi' w (ik hs.1 ht.1) (ik hs.1 ht.2.1) (ik hs.2.1 ht.1) (ik hs.2.1 ht.2.1)

theorem Vp (s t:Sp)(w:World)(hs:s.Ok)(ht:t.Ok):
  Calls pG 228 #[sv s,sv t,.func (.func 231) #[] #[]] w λe w'=>e=Rt (sv (cu 7 s t))/\bl w w':=by
 by_cases h:(s.n||t.n)=true
 ·have:=oe 231 s t w h
  unfold cu;rw[if_pos h];exact this
 ·have e0:cu 7 s t=gW (s.lo * t.lo) (s.lo * t.hi) (s.hi * t.lo) (s.hi * t.hi):=by unfold cu;rw[if_neg h];rfl
  rw[e0];obtain⟨n,lo,hi⟩:=s;obtain⟨n',lo',hi'⟩:=t;cases n with
  |true=>exact absurd rfl h
  |false=>
   cases n' with
   |true=>exact absurd rfl h
   |false=>exact OW lo hi lo' hi' w (g8 hs.1 ht.1) (g8 hs.1 ht.2.1) (g8 hs.2.1 ht.1) (g8 hs.2.1 ht.2.1)

theorem Wq (k:Int)(s t:Sp)(w:World)(h:bx s t≠0):
  Calls pG 202 #[.int .i64 k,sv s,sv t] w λe w'=>e=Rt (Tu #[sv dh,.int .i64 (bx s t)])/\bl w w':=by
 obtain⟨n,lo,hi⟩:=s;obtain⟨n',lo',hi'⟩:=t;go_enter func202,ntmps202;go_wp2_with fail;refine(eQ ⟨n,lo,hi⟩ ⟨n',lo',hi'⟩ _).mono ?_;rintro e w1 ⟨rfl,hb1⟩;obtain⟨⟨c0,c1,c2⟩,⟨d0,d1,d2⟩,⟨r0,r1,r2⟩,⟨f0,f1,f2⟩,z0,z1,z2⟩:=fu;have H1:=fw;simp only[dh] at r0 r1 r2;clear hb1;go_wp2;refine bodyPost_ret (v:=Tu #[sv dh,.int .i64 (bx ⟨n,lo,hi⟩ ⟨n',lo',hi'⟩)]) Nh rfl ⟨rfl,?_⟩;exact wK

theorem UO (k:Int)(s t:Sp)(w:World)(h:bx s t=0)(h5:(k==5)=false)(h6:(k==6)=false)(h7:(k==7)=false):
  Calls pG 202 #[.int .i64 k,sv s,sv t] w λe w'=>e=Rt (Tu #[sv dh,.int .i64 6])/\bl w w':=by
 obtain⟨n,lo,hi⟩:=s;obtain⟨n',lo',hi'⟩:=t;go_enter func202,ntmps202;go_wp2_with fail;refine(eQ ⟨n,lo,hi⟩ ⟨n',lo',hi'⟩ _).mono ?_;rintro e w1 ⟨rfl,hb1⟩;obtain⟨⟨c0,c1,c2⟩,⟨d0,d1,d2⟩,⟨r0,r1,r2⟩,⟨f0,f1,f2⟩,z0,z1,z2⟩:=fu;have H1:=fw;simp only[dh] at r0 r1 r2;clear hb1;rw[h];go_wp2;refine bodyPost_ret (v:=Tu #[sv dh,.int .i64 6]) Nh rfl ⟨rfl,?_⟩;exact wK

theorem pu {p:Prop}(h:p:=by
 clear hs ht;obtain⟨n,lo,hi⟩:=s;obtain⟨n',lo',hi'⟩:=t;obtain⟨rn,rlo,rhi⟩:=r;go_enter func202,ntmps202;go_wp2_with fail;refine(eQ ⟨n,lo,hi⟩ ⟨n',lo',hi'⟩ _).mono ?_;rintro e w1 ⟨rfl,hb1⟩;obtain⟨⟨c0,c1,c2⟩,⟨d0,d1,d2⟩,⟨r0,r1,r2⟩,⟨f0,f1,f2⟩,z0,z1,z2⟩:=fu;have H1:=fw;simp only[dh] at r0 r1 r2;clear hb1;rw[h];go_wp2_with fail;refine(hR _).mono ?_;rintro e w2 ⟨rfl,hb2⟩;have g0:=r0;have g1:=r1;have g2:=r2;have k0:=f0;have k1:=f1;have k2:=f2
 rw[<-hb2.cell z2] at g0 g1 g2;rw[<-hb2.frozen z2] at k0 k1 k2;have H2:=sM;clear r0 r1 r2 f0 f1 f2 hb2 c0 c1 c2 d0 d1 d2 hR;go_wp2;refine bodyPost_ret (v:=.tuple #[sv ⟨rn,rlo,rhi⟩,.int .i64 0]) (by simp[results,results202,go_sem,g0,g1,g2]) rfl ⟨rfl,?_⟩;exact((H2.setCell ap _).setCell ap _).setCell ap _):p:=h
theorem Wc (s t:Sp)(w:World)(h:bx s t=0):
  Calls pG 202 #[.int .i64 5,sv s,sv t] w λe w'=>e=Rt (Tu #[sv (cu 5 s t),.int .i64 0])/\bl w w':=by
 obtain⟨hs,ht⟩:=ckSps_ok.1 h;have hR:=λw=>Vr s t w hs ht;generalize cu 5 s t=r at hR |-;exact pu

theorem Wl (s t:Sp)(w:World)(h:bx s t=0):
  Calls pG 202 #[.int .i64 6,sv s,sv t] w λe w'=>e=Rt (Tu #[sv (cu 6 s t),.int .i64 0])/\bl w w':=by
 obtain⟨hs,ht⟩:=ckSps_ok.1 h;have hR:=λw=>V5 s t w hs ht;generalize cu 6 s t=r at hR |-;exact pu

theorem Wv (s t:Sp)(w:World)(h:bx s t=0):
  Calls pG 202 #[.int .i64 7,sv s,sv t] w λe w'=>e=Rt (Tu #[sv (cu 7 s t),.int .i64 0])/\bl w w':=by
 obtain⟨hs,ht⟩:=ckSps_ok.1 h;have hR:=λw=>Vp s t w hs ht;generalize cu 7 s t=r at hR |-;exact pu

def gY (k:Int)(s t:Sp):Int:=if bx s t=0 then(if k=5\/k=6\/k=7 then 0 else 6) else bx s t

theorem Kl (k:Int)(s t:Sp)(w:World):
  Calls pG 202 #[.int .i64 k,sv s,sv t] w λe w'=>e=Rt (Tu #[sv (fJ (gY k s t) (cu k s t)),.int .i64 (gY k s t)])/\bl w w':=by
 by_cases h:bx s t=0
 ·by_cases hk:k=5\/k=6\/k=7
  ·have e0:gY k s t=0:=by unfold gY;rw[if_pos h,if_pos hk]
   rw[e0];rcases hk with rfl|rfl|rfl
   ·exact Wc s t w h
   ·exact Wl s t w h
   ·exact Wv s t w h
  ·have e0:gY k s t=6:=by unfold gY;rw[if_pos h,if_neg hk]
   rw[e0];exact UO k s t w h ap ap ap
 ·have e0:gY k s t=bx s t:=by unfold gY;rw[if_neg h]
  rw[e0];unfold fJ;rw[if_neg h];exact Wq k s t w h
theorem Ur (k:Int)(s t:Sp)(w:World)(h:(s.n||t.n)=true):
  Calls pG 172 #[.int .i64 k,sv s,sv t] w λe w'=>e=Rt (sv ⟨true,0,0⟩)/\bl w w':=by
 obtain⟨n,lo,hi⟩:=s;obtain⟨n',lo',hi'⟩:=t;cases n with
 |true=>
  go_enter func172,ntmps172;go_wp2
  go_returns
  exact cZ
 |false=>
  cases n' with
  |true=>
   go_enter func172,ntmps172;go_wp2
   go_returns
   exact cZ
  |false=>exact absurd h ah

theorem kN {w:World}{B:Nat}{e:TypeId}{z:Nat}{v:Value}{n:Nat}{xs:List Value}(h:w.ownsRow B e z v n xs){k:Nat}(hk:v.ownBlock=sO k):B<=k:=by
 rcases h.2 with⟨rfl,_⟩|⟨g,cap,cur,rfl,hb,hg,_⟩
 ·cases hk
 ·cases hk
  exact hb

theorem Tryz.info_intS:(Tryz.prog.info? 3).map (λi=>(i.zero,i.size,i.bytes))=sO (sO (.int .i64 0),1,8):=ae

theorem Ls {P:Program}{t:TypeId}{z:Option Value}{a b:Nat}(h:(P.info? t).map (λi=>(i.zero,i.size,i.bytes))=sO (z,a,b)):∃i,P.info? t=sO i/\i.zero=z/\i.size=a/\i.bytes=b:=by
 cases hi:P.info? t with
 |none=>rw[hi] at h;cases h
 |some i=>
  rw[hi] at h;simp only[Option.map_some,q4.injEq,Prod.mk.injEq] at h;exact⟨i,rfl,h.1,h.2.1,h.2.2⟩

theorem Td (a b c d:Int):dZ a b c d<=dX a b c d:=by unfold dZ dX;omega
theorem Vz {a b c d:Int}(h:cE ⟨false,dZ a b c d,dX a b c d⟩=0):gW a b c d=⟨false,dZ a b c d,dX a b c d⟩:=by
 have:=ckSp_ok.1 h;exact MT this.1 this.2.1
theorem MW {a b c d:Int}(h:cE ⟨false,dZ a b c d,dX a b c d⟩≠0):gW a b c d=⟨false,-2147483648,2147483647⟩:=by
 unfold gW;refine if_neg λhc=>h (ckSp_ok.2 ⟨hc.1,hc.2,(λhn=>by cases hn),Td a b c d⟩)

theorem po (w:World)(v:Value)(t:TypeId):∀j u,[v][j]? =sO u->(w.alloc (Cc #[v] t)).drew.cell? ((⟨w.heap.size,0,nO⟩:Addr).add j)=sO u:=by
 intro j u hu;have hadd:=Kp;rw[hadd];have:(w.alloc (Cc #[v] t)).drew.cell? ⟨w.heap.size,j,nO⟩=#[v][j]? :=aX;rw[this];simpa using hu
theorem CY {p:Prop}(h:p:=by
 go_wp2;go_loopw [7,11] (λl k wr=>∃J:Nat,J<=2/\k=.int .i64 J/\wr.ownsRow W.heap.size 3 1 l (0+J) (([a,b,c,d].take (0+J)).map (.int .i64))/\bl W wr) (λ_ k _=>2 - (intOf k).toNat)
 case atStart=>exact⟨0,aa,rfl,hown,hbr⟩
 case round=>
  obtain⟨J,hJ,rfl,hown1,hbr1⟩:=hrel;clear hown hbr;rcases (by omega:J=0\/J=1\/J=2) with rfl|rfl|rfl
  ·go_wp2
   go_region_held_law (λw'=>w'.cell? ⟨ga,0,none⟩=some (.int .i64 lo)/\w'.cell? ⟨gb,0,none⟩=some (.int .i64 lo'))
    (first|exact K00 _ hbr1.drew|exact K00 _ (hbr1.alloc hbr1.size _).drew|exact K00 _ HBn)
    (first
     |(refine step_append_lies _ rfl _ _ 34 rfl W.heap.size 3 ti (.int .i64 0) 1 8 underlying34 hi0 hz0 hz1 hz2 rfl ai _ _ _ rfl ((hown1.alloc _).drew) ⟨wr.heap.size,0,none⟩ 1 1 [.int .i64 a] rfl rfl (po _ _ _) (λx hx=>kr) ai cO aa kl _ rfl ?_;intro g1 cap1 wn hownn hgrown hatn hltn;have HBn:bl W wn:=(hbr1.alloc hbr1.size _).drew.grown hgrown kl (λj hj=>kN hown1 hj)))
   go_wp2;go_roundw
   case rel=>exact⟨1,aa,rfl,hownn,HBn⟩
   case measure=>simp[intOf]
  ·go_wp2
   go_region_held_law (λw'=>w'.cell? ⟨ga,0,none⟩=some (.int .i64 lo)/\w'.cell? ⟨gb,1,none⟩=some (.int .i64 hi'))
    (first|exact K01 _ hbr1.drew|exact K01 _ (hbr1.alloc hbr1.size _).drew|exact K01 _ HBn)
    (first
     |(refine step_append_lies _ rfl _ _ 34 rfl W.heap.size 3 ti (.int .i64 0) 1 8 underlying34 hi0 hz0 hz1 hz2 rfl ai _ _ _ rfl ((hown1.alloc _).drew) ⟨wr.heap.size,0,none⟩ 1 1 [.int .i64 b] rfl rfl (po _ _ _) (λx hx=>kr) ai cO aa kl _ rfl ?_;intro g1 cap1 wn hownn hgrown hatn hltn;have HBn:bl W wn:=(hbr1.alloc hbr1.size _).drew.grown hgrown kl (λj hj=>kN hown1 hj)))
   go_wp2;go_roundw
   case rel=>exact⟨2,aa,rfl,hownn,HBn⟩
   case measure=>simp[intOf]
  ·go_wp2
   go_roundw
   case rel=>exact⟨1,aa,rfl,hown1,hbr1⟩
   case measure=>simp[intOf]):p:=h
theorem Cj {p:Prop}(h:p:=by
 go_wp2;go_loopw [7,11] (λl k wr=>∃J:Nat,J<=2/\k=.int .i64 J/\wr.ownsRow W.heap.size 3 1 l (2+J) (([a,b,c,d].take (2+J)).map (.int .i64))/\bl W wr) (λ_ k _=>2 - (intOf k).toNat)
 case atStart=>exact⟨0,aa,rfl,hown,hbr⟩
 case round=>
  obtain⟨J,hJ,rfl,hown1,hbr1⟩:=hrel;clear hown hbr;rcases (by omega:J=0\/J=1\/J=2) with rfl|rfl|rfl
  ·go_wp2
   go_region_held_law (λw'=>w'.cell? ⟨ga,1,none⟩=some (.int .i64 hi)/\w'.cell? ⟨gb,0,none⟩=some (.int .i64 lo'))
    (first|exact K10 _ hbr1.drew|exact K10 _ (hbr1.alloc hbr1.size _).drew|exact K10 _ HBn)
    (first
     |(refine step_append_lies _ rfl _ _ 34 rfl W.heap.size 3 ti (.int .i64 0) 1 8 underlying34 hi0 hz0 hz1 hz2 rfl ai _ _ _ rfl ((hown1.alloc _).drew) ⟨wr.heap.size,0,none⟩ 1 1 [.int .i64 c] rfl rfl (po _ _ _) (λx hx=>kr) ai cO aa kl _ rfl ?_;intro g1 cap1 wn hownn hgrown hatn hltn;have HBn:bl W wn:=(hbr1.alloc hbr1.size _).drew.grown hgrown kl (λj hj=>kN hown1 hj)))
   go_wp2;go_roundw
   case rel=>exact⟨1,aa,rfl,hownn,HBn⟩
   case measure=>simp[intOf]
  ·go_wp2
   go_region_held_law (λw'=>w'.cell? ⟨ga,1,none⟩=some (.int .i64 hi)/\w'.cell? ⟨gb,1,none⟩=some (.int .i64 hi'))
    (first|exact K11 _ hbr1.drew|exact K11 _ (hbr1.alloc hbr1.size _).drew|exact K11 _ HBn)
    (first
     |(refine step_append_lies _ rfl _ _ 34 rfl W.heap.size 3 ti (.int .i64 0) 1 8 underlying34 hi0 hz0 hz1 hz2 rfl ai _ _ _ rfl ((hown1.alloc _).drew) ⟨wr.heap.size,0,none⟩ 1 1 [.int .i64 d] rfl rfl (po _ _ _) (λx hx=>kr) ai cO aa kl _ rfl ?_;intro g1 cap1 wn hownn hgrown hatn hltn;have HBn:bl W wn:=(hbr1.alloc hbr1.size _).drew.grown hgrown kl (λj hj=>kN hown1 hj)))
   go_wp2;go_roundw
   case rel=>exact⟨2,aa,rfl,hownn,HBn⟩
   case measure=>simp[intOf]
  ·go_wp2
   go_roundw
   case rel=>exact⟨2,aa,rfl,hown1,hbr1⟩
   case measure=>simp[intOf]):p:=h
theorem Dc {p:Prop}(h:p:=by
 have hH:=Vz hc;generalize dZ a b c d=mn at *;generalize dX a b c d=mx at *;go_wp2;refine bodyPost_ret (v:=sv ⟨false,mn,mx⟩) Dq rfl ⟨by rw[hH],?_⟩;exact((H5.setCell ap _).setCell ap _).setCell ap _):p:=h
theorem AI {p:Prop}(h:p:=by
 intro wx hb;rw[hb.cell ah,hb.cell ah,hb.cell ah,hb.frozen ah,hb.frozen ah,hb.frozen ah];simp[go_sem]):p:=h
theorem p4 {p:Prop}(h:p:=by
 obtain⟨ti,hi0,hz0,hz1,hz2⟩:=Ls Tryz.info_intS;go_enter func172,ntmps172;go_wp2;go_region_held3 (λw'=>w'.cell? ⟨w.heap.size,1,none⟩=some (.int .i64 lo)/\w'.cell? ⟨w.heap.size,2,none⟩=some (.int .i64 hi)/\w'.cell? ⟨w.heap.size+1,1,none⟩=some (.int .i64 lo')/\w'.cell? ⟨w.heap.size+1,2,none⟩=some (.int .i64 hi')) (simp[go_sem])
  (fail)
 ·have HB:Below w.heap.size w ((((((w.alloc (.cells #[.bool false,.int .i64 lo,.int .i64 hi] 89)).alloc (.cells #[.bool false,.int .i64 lo',.int .i64 hi'] 89)).alloc (.cells #[.bool false,.int .i64 0,.int .i64 0] 89)).alloc (.cells #[.int .i64 lo,.int .i64 hi] 3)).alloc (.cells #[.int .i64 lo',.int .i64 hi'] 3)).drew):=by go_grown
  have f0:((((((w.alloc (.cells #[.bool false,.int .i64 lo,.int .i64 hi] 89)).alloc (.cells #[.bool false,.int .i64 lo',.int .i64 hi'] 89)).alloc (.cells #[.bool false,.int .i64 0,.int .i64 0] 89)).alloc (.cells #[.int .i64 lo,.int .i64 hi] 3)).alloc (.cells #[.int .i64 lo',.int .i64 hi'] 3)).drew).cell? ⟨w.heap.size+1+1+1,0,none⟩=some (.int .i64 lo):=aX;have f1:((((((w.alloc (.cells #[.bool false,.int .i64 lo,.int .i64 hi] 89)).alloc (.cells #[.bool false,.int .i64 lo',.int .i64 hi'] 89)).alloc (.cells #[.bool false,.int .i64 0,.int .i64 0] 89)).alloc (.cells #[.int .i64 lo,.int .i64 hi] 3)).alloc (.cells #[.int .i64 lo',.int .i64 hi'] 3)).drew).cell? ⟨w.heap.size+1+1+1,1,none⟩=some (.int .i64 hi):=aX;have f2:((((((w.alloc (.cells #[.bool false,.int .i64 lo,.int .i64 hi] 89)).alloc (.cells #[.bool false,.int .i64 lo',.int .i64 hi'] 89)).alloc (.cells #[.bool false,.int .i64 0,.int .i64 0] 89)).alloc (.cells #[.int .i64 lo,.int .i64 hi] 3)).alloc (.cells #[.int .i64 lo',.int .i64 hi'] 3)).drew).cell? ⟨w.heap.size+1+1+1+1,0,none⟩=some (.int .i64 lo'):=aX;have f3:((((((w.alloc (.cells #[.bool false,.int .i64 lo,.int .i64 hi] 89)).alloc (.cells #[.bool false,.int .i64 lo',.int .i64 hi'] 89)).alloc (.cells #[.bool false,.int .i64 0,.int .i64 0] 89)).alloc (.cells #[.int .i64 lo,.int .i64 hi] 3)).alloc (.cells #[.int .i64 lo',.int .i64 hi'] 3)).drew).cell? ⟨w.heap.size+1+1+1+1,1,none⟩=some (.int .i64 hi'):=aX;have zz:((((((w.alloc (.cells #[.bool false,.int .i64 lo,.int .i64 hi] 89)).alloc (.cells #[.bool false,.int .i64 lo',.int .i64 hi'] 89)).alloc (.cells #[.bool false,.int .i64 0,.int .i64 0] 89)).alloc (.cells #[.int .i64 lo,.int .i64 hi] 3)).alloc (.cells #[.int .i64 lo',.int .i64 hi'] 3)).drew).heap.size=w.heap.size+5:=ah;have za:w.heap.size+1+1+1 < ((((((w.alloc (.cells #[.bool false,.int .i64 lo,.int .i64 hi] 89)).alloc (.cells #[.bool false,.int .i64 lo',.int .i64 hi'] 89)).alloc (.cells #[.bool false,.int .i64 0,.int .i64 0] 89)).alloc (.cells #[.int .i64 lo,.int .i64 hi] 3)).alloc (.cells #[.int .i64 lo',.int .i64 hi'] 3)).drew).heap.size:=ah;have zb:w.heap.size+1+1+1+1 < ((((((w.alloc (.cells #[.bool false,.int .i64 lo,.int .i64 hi] 89)).alloc (.cells #[.bool false,.int .i64 lo',.int .i64 hi'] 89)).alloc (.cells #[.bool false,.int .i64 0,.int .i64 0] 89)).alloc (.cells #[.int .i64 lo,.int .i64 hi] 3)).alloc (.cells #[.int .i64 lo',.int .i64 hi'] 3)).drew).heap.size:=ah;have KR:∀wx,Below ((((((w.alloc (.cells #[.bool false,.int .i64 lo,.int .i64 hi] 89)).alloc (.cells #[.bool false,.int .i64 lo',.int .i64 hi'] 89)).alloc (.cells #[.bool false,.int .i64 0,.int .i64 0] 89)).alloc (.cells #[.int .i64 lo,.int .i64 hi] 3)).alloc (.cells #[.int .i64 lo',.int .i64 hi'] 3)).drew).heap.size ((((((w.alloc (.cells #[.bool false,.int .i64 lo,.int .i64 hi] 89)).alloc (.cells #[.bool false,.int .i64 lo',.int .i64 hi'] 89)).alloc (.cells #[.bool false,.int .i64 0,.int .i64 0] 89)).alloc (.cells #[.int .i64 lo,.int .i64 hi] 3)).alloc (.cells #[.int .i64 lo',.int .i64 hi'] 3)).drew) wx->wx.cell? ⟨w.heap.size+1+1,0,none⟩=some (.bool false)/\wx.cell? ⟨w.heap.size+1+1,1,none⟩=some (.int .i64 0)/\wx.cell? ⟨w.heap.size+1+1,2,none⟩=some (.int .i64 0)/\wx.frozen? ⟨w.heap.size+1+1,0,none⟩=false/\wx.frozen? ⟨w.heap.size+1+1,1,none⟩=false/\wx.frozen? ⟨w.heap.size+1+1,2,none⟩=false:=by
   exact AI
  generalize ((((((w.alloc (.cells #[.bool false,.int .i64 lo,.int .i64 hi] 89)).alloc (.cells #[.bool false,.int .i64 lo',.int .i64 hi'] 89)).alloc (.cells #[.bool false,.int .i64 0,.int .i64 0] 89)).alloc (.cells #[.int .i64 lo,.int .i64 hi] 3)).alloc (.cells #[.int .i64 lo',.int .i64 hi'] 3)).drew)=W at HB f0 f1 f2 f3 zz za zb KR |-;generalize w.heap.size+1+1+1+1=gb at f2 f3 zb |-;generalize w.heap.size+1+1+1=ga at f0 f1 za |-;have K:∀wx,bl W wx->wx.cell? ⟨ga,0,none⟩=some (.int .i64 lo)/\wx.cell? ⟨ga,1,none⟩=some (.int .i64 hi)/\wx.cell? ⟨gb,0,none⟩=some (.int .i64 lo')/\wx.cell? ⟨gb,1,none⟩=some (.int .i64 hi'):=by
   intro wx hb;rw[hb.cell za,hb.cell za,hb.cell zb,hb.cell zb];exact⟨f0,f1,f2,f3⟩
  have K00:=λwx hb=>(show _/\_ from⟨(K wx hb).1,(K wx hb).2.2.1⟩);have K01:=λwx hb=>(show _/\_ from⟨(K wx hb).1,(K wx hb).2.2.2⟩);have K10:=λwx hb=>(show _/\_ from⟨(K wx hb).2.1,(K wx hb).2.2.1⟩);have K11:=λwx hb=>(show _/\_ from⟨(K wx hb).2.1,(K wx hb).2.2.2⟩);clear K f0 f1 f2 f3;go_wp2;go_loopw [7,10] (λl i wr=>∃I:Nat,I<=2/\i=.int .i64 I/\wr.ownsRow W.heap.size 3 1 l (2 * I) (([a,b,c,d].take (2 * I)).map (.int .i64))/\bl W wr) (λ_ i _=>2 - (intOf i).toNat)
  case atStart=>exact⟨0,aa,rfl,⟨ah,.inl ⟨rfl,ah⟩⟩,Below.refl _ _⟩
  case round=>
   obtain⟨I,hI,rfl,hown,hbr⟩:=hrel;rcases (by omega:I=0\/I=1\/I=2) with rfl|rfl|rfl
   ·rw[show ((0:Nat):Int)=0 from rfl]
    exact CY
   ·rw[show ((1:Nat):Int)=1 from rfl]
    exact Cj
   ·clear K00 K01 K10 K11
    rw[show 2 * 2=4 from rfl] at hown;obtain⟨g,cap,rfl,hg1,hg2⟩:=hown.form aa;have q0:=hown.cellAt 0 aa;have q1:=hown.cellAt 1 aa;have q2:=hown.cellAt 2 aa;have q3:=hown.cellAt 3 aa;simp only[List.take,List.map,List.getElem?_cons_zero,List.getElem?_cons_succ] at q0 q1 q2 q3;clear hown;clear h1 h2 h3 h4;go_wp2_with (first
     |(go_at_call 207;refine(RG _ _ a b c d _ q0 q1 q2 q3).mono ?_;rintro e w' ⟨rfl,rfl⟩)
     |(go_at_call 208;refine(UG _ _ a b c d _ q0 q1 q2 q3).mono ?_;rintro e w' ⟨rfl,rfl⟩)
     |(go_at_call 209;fail))
    refine(sS ⟨false,dZ a b c d,dX a b c d⟩ _).mono ?_;rintro e w5 ⟨rfl,hb5⟩;have HB5:=Hj;have H5:bl w w5:=HB.trans (HB5.mono aa);obtain⟨r0,r1,r2,k0,k1,k2⟩:=KR w5 HB5;obtain⟨o0,o1,o2⟩:=yo hb5 ah;have y1:w'.heap.size < w5.heap.size:=by have:=hb5.size;simp at this;omega
    have y2:w.heap.size+1+1 < w'.heap.size:=by have:=hbr.size;omega
    clear KR hb5 HB5 hbr HB q0 q1 q2 q3;by_cases hc:cE ⟨false,dZ a b c d,dX a b c d⟩=0
    ·rw[hc]
     exact Dc
    ·have hH:=MW hc
     generalize cE ⟨false,dZ a b c d,dX a b c d⟩=ck at *;generalize dZ a b c d=mn at *;generalize dX a b c d=mx at *;go_wp2;refine bodyPost_ret (v:=sv ⟨false,-2147483648,2147483647⟩) Dq rfl ⟨by rw[hH],?_⟩;exact((H5.setCell ap _).setCell ap _).setCell ap _
 ·have HB:Below w.heap.size w ((((((w.alloc (.cells #[.bool false,.int .i64 lo,.int .i64 hi] 89)).alloc (.cells #[.bool false,.int .i64 lo',.int .i64 hi'] 89)).alloc (.cells #[.bool false,.int .i64 0,.int .i64 0] 89)).alloc (.cells #[.int .i64 lo',.int .i64 hi'] 3)).alloc (.cells #[.int .i64 lo,.int .i64 hi] 3)).drew):=by go_grown
  have f0:((((((w.alloc (.cells #[.bool false,.int .i64 lo,.int .i64 hi] 89)).alloc (.cells #[.bool false,.int .i64 lo',.int .i64 hi'] 89)).alloc (.cells #[.bool false,.int .i64 0,.int .i64 0] 89)).alloc (.cells #[.int .i64 lo',.int .i64 hi'] 3)).alloc (.cells #[.int .i64 lo,.int .i64 hi] 3)).drew).cell? ⟨w.heap.size+1+1+1+1,0,none⟩=some (.int .i64 lo):=aX;have f1:((((((w.alloc (.cells #[.bool false,.int .i64 lo,.int .i64 hi] 89)).alloc (.cells #[.bool false,.int .i64 lo',.int .i64 hi'] 89)).alloc (.cells #[.bool false,.int .i64 0,.int .i64 0] 89)).alloc (.cells #[.int .i64 lo',.int .i64 hi'] 3)).alloc (.cells #[.int .i64 lo,.int .i64 hi] 3)).drew).cell? ⟨w.heap.size+1+1+1+1,1,none⟩=some (.int .i64 hi):=aX;have f2:((((((w.alloc (.cells #[.bool false,.int .i64 lo,.int .i64 hi] 89)).alloc (.cells #[.bool false,.int .i64 lo',.int .i64 hi'] 89)).alloc (.cells #[.bool false,.int .i64 0,.int .i64 0] 89)).alloc (.cells #[.int .i64 lo',.int .i64 hi'] 3)).alloc (.cells #[.int .i64 lo,.int .i64 hi] 3)).drew).cell? ⟨w.heap.size+1+1+1,0,none⟩=some (.int .i64 lo'):=aX;have f3:((((((w.alloc (.cells #[.bool false,.int .i64 lo,.int .i64 hi] 89)).alloc (.cells #[.bool false,.int .i64 lo',.int .i64 hi'] 89)).alloc (.cells #[.bool false,.int .i64 0,.int .i64 0] 89)).alloc (.cells #[.int .i64 lo',.int .i64 hi'] 3)).alloc (.cells #[.int .i64 lo,.int .i64 hi] 3)).drew).cell? ⟨w.heap.size+1+1+1,1,none⟩=some (.int .i64 hi'):=aX;have zz:((((((w.alloc (.cells #[.bool false,.int .i64 lo,.int .i64 hi] 89)).alloc (.cells #[.bool false,.int .i64 lo',.int .i64 hi'] 89)).alloc (.cells #[.bool false,.int .i64 0,.int .i64 0] 89)).alloc (.cells #[.int .i64 lo',.int .i64 hi'] 3)).alloc (.cells #[.int .i64 lo,.int .i64 hi] 3)).drew).heap.size=w.heap.size+5:=ah;have za:w.heap.size+1+1+1+1 < ((((((w.alloc (.cells #[.bool false,.int .i64 lo,.int .i64 hi] 89)).alloc (.cells #[.bool false,.int .i64 lo',.int .i64 hi'] 89)).alloc (.cells #[.bool false,.int .i64 0,.int .i64 0] 89)).alloc (.cells #[.int .i64 lo',.int .i64 hi'] 3)).alloc (.cells #[.int .i64 lo,.int .i64 hi] 3)).drew).heap.size:=ah;have zb:w.heap.size+1+1+1 < ((((((w.alloc (.cells #[.bool false,.int .i64 lo,.int .i64 hi] 89)).alloc (.cells #[.bool false,.int .i64 lo',.int .i64 hi'] 89)).alloc (.cells #[.bool false,.int .i64 0,.int .i64 0] 89)).alloc (.cells #[.int .i64 lo',.int .i64 hi'] 3)).alloc (.cells #[.int .i64 lo,.int .i64 hi] 3)).drew).heap.size:=ah;have KR:∀wx,Below ((((((w.alloc (.cells #[.bool false,.int .i64 lo,.int .i64 hi] 89)).alloc (.cells #[.bool false,.int .i64 lo',.int .i64 hi'] 89)).alloc (.cells #[.bool false,.int .i64 0,.int .i64 0] 89)).alloc (.cells #[.int .i64 lo',.int .i64 hi'] 3)).alloc (.cells #[.int .i64 lo,.int .i64 hi] 3)).drew).heap.size ((((((w.alloc (.cells #[.bool false,.int .i64 lo,.int .i64 hi] 89)).alloc (.cells #[.bool false,.int .i64 lo',.int .i64 hi'] 89)).alloc (.cells #[.bool false,.int .i64 0,.int .i64 0] 89)).alloc (.cells #[.int .i64 lo',.int .i64 hi'] 3)).alloc (.cells #[.int .i64 lo,.int .i64 hi] 3)).drew) wx->wx.cell? ⟨w.heap.size+1+1,0,none⟩=some (.bool false)/\wx.cell? ⟨w.heap.size+1+1,1,none⟩=some (.int .i64 0)/\wx.cell? ⟨w.heap.size+1+1,2,none⟩=some (.int .i64 0)/\wx.frozen? ⟨w.heap.size+1+1,0,none⟩=false/\wx.frozen? ⟨w.heap.size+1+1,1,none⟩=false/\wx.frozen? ⟨w.heap.size+1+1,2,none⟩=false:=by
   exact AI
  generalize ((((((w.alloc (.cells #[.bool false,.int .i64 lo,.int .i64 hi] 89)).alloc (.cells #[.bool false,.int .i64 lo',.int .i64 hi'] 89)).alloc (.cells #[.bool false,.int .i64 0,.int .i64 0] 89)).alloc (.cells #[.int .i64 lo',.int .i64 hi'] 3)).alloc (.cells #[.int .i64 lo,.int .i64 hi] 3)).drew)=W at HB f0 f1 f2 f3 zz za zb KR |-;generalize w.heap.size+1+1+1+1=ga at f0 f1 za |-;generalize w.heap.size+1+1+1=gb at f2 f3 zb |-;have K:∀wx,bl W wx->wx.cell? ⟨ga,0,none⟩=some (.int .i64 lo)/\wx.cell? ⟨ga,1,none⟩=some (.int .i64 hi)/\wx.cell? ⟨gb,0,none⟩=some (.int .i64 lo')/\wx.cell? ⟨gb,1,none⟩=some (.int .i64 hi'):=by
   intro wx hb;rw[hb.cell za,hb.cell za,hb.cell zb,hb.cell zb];exact⟨f0,f1,f2,f3⟩
  have K00:=λwx hb=>(show _/\_ from⟨(K wx hb).1,(K wx hb).2.2.1⟩);have K01:=λwx hb=>(show _/\_ from⟨(K wx hb).1,(K wx hb).2.2.2⟩);have K10:=λwx hb=>(show _/\_ from⟨(K wx hb).2.1,(K wx hb).2.2.1⟩);have K11:=λwx hb=>(show _/\_ from⟨(K wx hb).2.1,(K wx hb).2.2.2⟩);clear K f0 f1 f2 f3;go_wp2;go_loopw [7,10] (λl i wr=>∃I:Nat,I<=2/\i=.int .i64 I/\wr.ownsRow W.heap.size 3 1 l (2 * I) (([a,b,c,d].take (2 * I)).map (.int .i64))/\bl W wr) (λ_ i _=>2 - (intOf i).toNat)
  case atStart=>exact⟨0,aa,rfl,⟨ah,.inl ⟨rfl,ah⟩⟩,Below.refl _ _⟩
  case round=>
   obtain⟨I,hI,rfl,hown,hbr⟩:=hrel;rcases (by omega:I=0\/I=1\/I=2) with rfl|rfl|rfl
   ·rw[show ((0:Nat):Int)=0 from rfl]
    exact CY
   ·rw[show ((1:Nat):Int)=1 from rfl]
    exact Cj
   ·clear K00 K01 K10 K11
    rw[show 2 * 2=4 from rfl] at hown;obtain⟨g,cap,rfl,hg1,hg2⟩:=hown.form aa;have q0:=hown.cellAt 0 aa;have q1:=hown.cellAt 1 aa;have q2:=hown.cellAt 2 aa;have q3:=hown.cellAt 3 aa;simp only[List.take,List.map,List.getElem?_cons_zero,List.getElem?_cons_succ] at q0 q1 q2 q3;clear hown;clear h1 h2 h3 h4;go_wp2_with (first
     |(go_at_call 207;refine(RG _ _ a b c d _ q0 q1 q2 q3).mono ?_;rintro e w' ⟨rfl,rfl⟩)
     |(go_at_call 208;refine(UG _ _ a b c d _ q0 q1 q2 q3).mono ?_;rintro e w' ⟨rfl,rfl⟩)
     |(go_at_call 209;fail))
    refine(sS ⟨false,dZ a b c d,dX a b c d⟩ _).mono ?_;rintro e w5 ⟨rfl,hb5⟩;have HB5:=Hj;have H5:bl w w5:=HB.trans (HB5.mono aa);obtain⟨r0,r1,r2,k0,k1,k2⟩:=KR w5 HB5;obtain⟨o0,o1,o2⟩:=yo hb5 ah;have y1:w'.heap.size < w5.heap.size:=by have:=hb5.size;simp at this;omega
    have y2:w.heap.size+1+1 < w'.heap.size:=by have:=hbr.size;omega
    clear KR hb5 HB5 hbr HB q0 q1 q2 q3;by_cases hc:cE ⟨false,dZ a b c d,dX a b c d⟩=0
    ·rw[hc]
     exact Dc
    ·have hH:=MW hc
     generalize cE ⟨false,dZ a b c d,dX a b c d⟩=ck at *;generalize dZ a b c d=mn at *;generalize dX a b c d=mx at *;go_wp2;refine bodyPost_ret (v:=sv ⟨false,-2147483648,2147483647⟩) Dq rfl ⟨by rw[hH],?_⟩;exact((H5.setCell ap _).setCell ap _).setCell ap _):p:=h
theorem Pk (lo hi lo' hi' a b c d:Int)(w:World)(h1:j0.wrap (lo+lo')=a)(h2:j0.wrap (lo+hi')=b)(h3:j0.wrap (hi+lo')=c)(h4:j0.wrap (hi+hi')=d):
  Calls pG 172 #[.int .i64 5,sv ⟨false,lo,hi⟩,sv ⟨false,lo',hi'⟩] w λe w'=>e=Rt (sv (gW a b c d))/\bl w w':=p4
theorem NJ (lo hi lo' hi' a b c d:Int)(w:World)(h1:j0.wrap (lo - lo')=a)(h2:j0.wrap (lo - hi')=b)(h3:j0.wrap (hi - lo')=c)(h4:j0.wrap (hi - hi')=d):
  Calls pG 172 #[.int .i64 6,sv ⟨false,lo,hi⟩,sv ⟨false,lo',hi'⟩] w λe w'=>e=Rt (sv (gW a b c d))/\bl w w':=p4
theorem OG (lo hi lo' hi' a b c d:Int)(w:World)(h1:j0.wrap (lo * lo')=a)(h2:j0.wrap (lo * hi')=b)(h3:j0.wrap (hi * lo')=c)(h4:j0.wrap (hi * hi')=d):
  Calls pG 172 #[.int .i64 7,sv ⟨false,lo,hi⟩,sv ⟨false,lo',hi'⟩] w λe w'=>e=Rt (sv (gW a b c d))/\bl w w':=p4
theorem cU {p:Prop}(h:p:=by
 go_enter func248,ntmps248;go_wp2
 go_rounds 5
 go_ret;exact⟨bF (HT.out.symm),am⟩):p:=h
theorem mo {p:Prop}(h:p:=by
 clear HC HD HR;by_cases h1:lo=hi
 ·by_cases h2:s.length=0
  ·have HT:Hid (r=true):=by show _=_;rw[HQ.out];simp[h1,h2]
   have h2':=yZ;subst h1;clear HQ h2;exact cU
  ·have HT:Hid (r=false):=by show _=_;rw[HQ.out];simp[h2]
   have h2':=yi;subst h1;clear HQ;exact cU
 ·have HT:Hid (r=false):=by show _=_;rw[HQ.out];simp[h1]
  have h1':(lo==hi)=false:=gT;clear HQ;go_enter func248,ntmps248;go_wp2
  go_rounds 5
  go_ret;exact⟨bF (HT.out.symm),am⟩):p:=h
theorem uf (g:Gs)(ss:oA)(gc:Nat)(w:World):
  Calls pG 248 #[gv g ss gc] w λe w'=>e=Rt (Bb (fF g))/\bl w w':=by
 have HR:Hid (fF g=(decide (b2n g.n+b2n (!g.sp.n)+b2n g.t+b2n g.f=1)&&(decide (g.sp.lo=g.sp.hi)&&decide (g.s.length=0)))):=rfl;generalize fF g=r at HR |-;obtain⟨n,⟨sn,lo,hi⟩,t,f,s⟩:=g;have HC:∀m:Nat,m≠1->Hid (b2n n+b2n (!sn)+b2n t+b2n f=m)->Hid (r=false):=by
  intro m hm h;show _=_;rw[HR.out,h.out];simp[hm]
 have HD:Hid (b2n n+b2n (!sn)+b2n t+b2n f=1)->Hid (r=(decide (lo=hi)&&decide (s.length=0))):=by
  intro h;show _=_;rw[HR.out,h.out];simp
 cases n<;>cases sn<;>cases t<;>cases f
 ·have HQ:=HD rfl
  exact mo
 ·have HT:=HC 2 ai rfl
  clear HC HD HR;exact cU
 ·have HT:=HC 2 ai rfl
  clear HC HD HR;exact cU
 ·have HT:=HC 3 ai rfl
  clear HC HD HR;exact cU
 ·have HT:=HC 0 ai rfl
  clear HC HD HR;exact cU
 ·have HQ:=HD rfl
  exact mo
 ·have HQ:=HD rfl
  exact mo
 ·have HT:=HC 2 ai rfl
  clear HC HD HR;exact cU
 ·have HT:=HC 2 ai rfl
  clear HC HD HR;exact cU
 ·have HT:=HC 3 ai rfl
  clear HC HD HR;exact cU
 ·have HT:=HC 3 ai rfl
  clear HC HD HR;exact cU
 ·have HT:=HC 4 ai rfl
  clear HC HD HR;exact cU
 ·have HQ:=HD rfl
  exact mo
 ·have HT:=HC 2 ai rfl
  clear HC HD HR;exact cU
 ·have HT:=HC 2 ai rfl
  clear HC HD HR;exact cU
 ·have HT:=HC 3 ai rfl
  clear HC HD HR;exact cU

theorem Lz (g:Gs)(ss:oA)(gc:Nat)(h:Gs)(st:oA)(hc:Nat)(w:World):
  Calls pG 235 #[gv g ss gc,gv h st hc] w λe w'=>e=Rt (Bb (cX g h))/\bl w w':=by
 have HR:Hid (cX g h=(fF g&&(fF h&&(g.n==h.n&&(@decide _ (g.sp.dq h.sp)&&(g.t==h.t&&g.f==h.f)))))):=rfl;have H1:=ag (λw=>uf g ss gc w);have H2:=ag (λw=>uf h st hc w);generalize cX g h=r at HR |-;generalize fF g=s1 at HR H1;generalize fF h=s2 at HR H2;have B0:=sy;have G0:=yh;have H0:=yq;rw[zA] at H0;cases s1 with
 |false=>
  go_enter func235,ntmps235;go_wp2_with fail;refine(H1.out _).mono ?_;rintro e w1 ⟨rfl,hb1⟩;go_wp2;go_ret;exact⟨bF oJ,B0.trans (hb1.mono B0.size)⟩
 |true=>
  go_enter func235,ntmps235;go_wp2_with fail;refine(H1.out _).mono ?_;rintro e w1 ⟨rfl,hb1⟩;have G1:=G0.call hb1;have K1:=H0.call hb1;have B1:=gO;clear hb1 G0 H0 B0;obtain⟨⟨k0,k1,k2,k3,k4,k5,k6⟩,kz⟩:=id K1;simp only[j1] at k0 k1 k2 k3 k4 k5 k6;go_wp2_with fail;refine(H2.out _).mono ?_;rintro e w2 ⟨rfl,hb2⟩;have G2:=G1.call hb2;have K2:=K1.call hb2;have B2:=gH;clear hb2 G1 K1 B1 k0 k1 k2 k3 k4 k5 k6 kz;obtain⟨⟨g0,g1,g2,g3,g4,g5,g6⟩,gz⟩:=id G2;obtain⟨⟨k0,k1,k2,k3,k4,k5,k6⟩,kz⟩:=id K2;simp only[j1] at g0 g1 g2 g3 g4 g5 g6 k0 k1 k2 k3 k4 k5 k6;cases s2 with
  |false=>
   go_wp2;go_ret;exact⟨bF oJ,B2⟩
  |true=>
   rw[Uz] at HR;obtain⟨n,⟨sn,lo,hi⟩,t,f,s⟩:=g;obtain⟨n',⟨sn',lo',hi'⟩,t',f',s'⟩:=h;simp only at HR g0 g1 g2 g3 g4 g5 g6 k0 k1 k2 k3 k4 k5 k6;go_wp2;all_goals go_ret
   all_goals exact⟨bF (by rw[HR.out];simp_all),B2⟩
theorem gi (a b:Bool):(a=true/\b=true)\/a=false\/(a=true/\b=false):=by cases a<;>cases b<;>simp

theorem RS (g:Gs)(ss:oA)(gc:Nat)(h:Gs)(st:oA)(hc:Nat)(w:World)(hn:[g,h].any an=true):
  Calls pG 206 #[gv g ss gc,gv h st hc] w λe w'=>e=Rt (Tu #[Bb false,Bb false])/\bl w w':=by
 have B0:=sy;have G0:=yh;have H0:=yq;rw[zA] at H0;have L0:=KK;simp only[zA] at L0;have HN:=KH;rw[hn] at HN;clear hn;go_enter func206,ntmps206;go_wp2_with fail;refine(HN.out 2 _ L0).mono ?_;rintro e w1 ⟨rfl,hb1⟩;go_wp2
 go_ret2
 exact yT

theorem fX {p:Prop}(h:p:=by
 rintro e w4 ⟨rfl,hb4⟩;have G4:=G3.call hb4;have H4:=H3.call hb4;have B4:=li;clear hb4 G3 H3 B3 I3 J3 G2 H2 g0 g1 g2 g3 g4 g5 g6 gz k0 k1 k2 k3 k4 k5 k6 kz;obtain⟨⟨g0,g1,g2,g3,g4,g5,g6⟩,gz⟩:=id G4;obtain⟨⟨k0,k1,k2,k3,k4,k5,k6⟩,kz⟩:=id H4;simp only[Nat.zero_add] at g0 g1 g2 g3 g4 g5 g6 k0 k1 k2 k3 k4 k5 k6;generalize hA':(sl.any λx=>h'.contains x)=al at *;have HAL:=ag hA';clear hA';go_wp2_with fail;refine(HA.out _).mono ?_;rintro e w9 ⟨rfl,hb9⟩;go_wp2
 go_ret2
 exact⟨mT oF rfl,B4.trans (hb9.mono B4.size)⟩):p:=h
theorem fa {p:Prop}(h:p:=by
 refine(HA.out _).mono ?_;rintro e w9 ⟨rfl,hb9⟩;go_wp2
 go_ret2
 exact⟨mT oF rfl,B3.trans (hb9.mono B3.size)⟩):p:=h
theorem Sd (g:Gs)(ss:oA)(gc:Nat)(h:Gs)(st:oA)(hc:Nat)(w:World)(hs:IntsAt w ss g.s)(hgl:g.s.length<=9223372036854775807)(ht:IntsAt w st h.s)(hlt:h.s.length<=9223372036854775807)(hsp:bx g.sp h.sp=0)(hn:[g,h].any an=false):
  Calls pG 206 #[gv g ss gc,gv h st hc] w λe w'=>e=Rt (Tu #[Bb ((g.n&&h.n)||(!(aM g.sp h.sp).n||((g.t&&h.t)||((g.f&&h.f)||g.s.any λx=>h.s.contains x)))),Bb (!cX g h)])/\bl w w':=by
 have B0:=sy;have G0:=yh;have H0:=yq;rw[zA] at H0;have L0:=KK;simp only[zA] at L0;have HN:=KH;rw[hn] at HN;have hM:=λw=>lV g.sp h.sp w;rw[hsp,show∀r,fJ 0 r=r from λr=>rfl] at hM;have HM:=ag hM;clear hn hsp hM;have HA:=ag (λw=>Lz g ss gc h st hc w);have HY:Hid (((g.n&&h.n)||(!(aM g.sp h.sp).n||((g.t&&h.t)||((g.f&&h.f)||g.s.any λx=>h.s.contains x))))=((g.n&&h.n)||(!(aM g.sp h.sp).n||((g.t&&h.t)||((g.f&&h.f)||g.s.any λx=>h.s.contains x))))):=rfl;generalize hy:((g.n&&h.n)||(!(aM g.sp h.sp).n||((g.t&&h.t)||((g.f&&h.f)||g.s.any λx=>h.s.contains x))))=yy;have HY:=ag hy.symm;clear hy;generalize aM g.sp h.sp=M at HM HY;generalize cX g h=ak at HA |-;have I0:=hs.below B0 (lR _);have J0:=ht.below B0 (lR _);clear hs ht;go_enter func206,ntmps206;go_wp2_with fail;refine(HN.out 2 _ L0).mono ?_;rintro e w1 ⟨rfl,hb1⟩;have G1:=eT;have H1:=fE;have I1:=gh;have J1:=gd;have B1:=eX;clear hb1 G0 H0 I0 J0 B0 L0 HN;obtain⟨⟨g0,g1,g2,g3,g4,g5,g6⟩,gz⟩:=id G1;obtain⟨⟨k0,k1,k2,k3,k4,k5,k6⟩,kz⟩:=id H1;simp only[j1] at g0 g1 g2 g3 g4 g5 g6 k0 k1 k2 k3 k4 k5 k6;go_wp2_with fail;refine(HM.out _).mono ?_;rintro e w2 ⟨rfl,hb2⟩;have G3:=(G1.call hb2).alloc (Cc #[Bb M.n,.int .i64 M.lo,.int .i64 M.hi] 89);have H3:=(H1.call hb2).alloc (Cc #[Bb M.n,.int .i64 M.lo,.int .i64 M.hi] 89);have I3:=(I1.call hb2).alloc (Cc #[Bb M.n,.int .i64 M.lo,.int .i64 M.hi] 89);have J3:=(J1.call hb2).alloc (Cc #[Bb M.n,.int .i64 M.lo,.int .i64 M.hi] 89);have B2:=gH;have B3:=B2.alloc B2.size (Cc #[Bb M.n,.int .i64 M.lo,.int .i64 M.hi] 89);have G2:=G1.call hb2;have H2:=H1.call hb2;clear hb2 G1 H1 I1 J1 B1 B2 g0 g1 g2 g3 g4 g5 g6 gz k0 k1 k2 k3 k4 k5 k6 kz HM;obtain⟨⟨g0,g1,g2,g3,g4,g5,g6⟩,gz⟩:=id G2;obtain⟨⟨k0,k1,k2,k3,k4,k5,k6⟩,kz⟩:=id H2;simp only[j1] at g0 g1 g2 g3 g4 g5 g6 k0 k1 k2 k3 k4 k5 k6;obtain⟨n,sp,t,f,sl⟩:=g;obtain⟨n',sp',t',f',h'⟩:=h;obtain⟨mn,ml,mh⟩:=M;simp only at hgl hlt;have HY:=HY;rcases gi n n' with⟨rfl,rfl⟩|rfl|⟨rfl,rfl⟩
 ·go_wp2_with fail
  exact fa
 ·cases mn with
  |false=>
   go_wp2_with fail;exact fa
  |true=>
   rcases gi t t' with⟨rfl,rfl⟩|rfl|⟨rfl,rfl⟩
   ·go_wp2_with fail
    exact fa
   ·rcases gi f f' with⟨rfl,rfl⟩|rfl|⟨rfl,rfl⟩
    ·go_wp2_with fail
     exact fa
    ·go_wp2_with fail
     refine(cy (w.heap.size+1) (λx=>h'.contains x) ss gc sl _ hgl I3 λx wx hbx=>fP x _ ⟨n',sp',t',f',h'⟩ st hc wx (H3.call hbx) (J3.call hbx) dn).mono ?_;exact fX
    ·go_wp2_with fail
     refine(cy (w.heap.size+1) (λx=>h'.contains x) ss gc sl _ hgl I3 λx wx hbx=>fP x _ ⟨n',sp',t',false,h'⟩ st hc wx (H3.call hbx) (J3.call hbx) dn).mono ?_;exact fX
   ·rcases gi f f' with⟨rfl,rfl⟩|rfl|⟨rfl,rfl⟩
    ·go_wp2_with fail
     exact fa
    ·go_wp2_with fail
     refine(cy (w.heap.size+1) (λx=>h'.contains x) ss gc sl _ hgl I3 λx wx hbx=>fP x _ ⟨n',sp',false,f',h'⟩ st hc wx (H3.call hbx) (J3.call hbx) dn).mono ?_;exact fX
    ·go_wp2_with fail
     refine(cy (w.heap.size+1) (λx=>h'.contains x) ss gc sl _ hgl I3 λx wx hbx=>fP x _ ⟨n',sp',false,false,h'⟩ st hc wx (H3.call hbx) (J3.call hbx) dn).mono ?_;exact fX
 ·cases mn with
  |false=>
   go_wp2_with fail;exact fa
  |true=>
   rcases gi t t' with⟨rfl,rfl⟩|rfl|⟨rfl,rfl⟩
   ·go_wp2_with fail
    exact fa
   ·rcases gi f f' with⟨rfl,rfl⟩|rfl|⟨rfl,rfl⟩
    ·go_wp2_with fail
     exact fa
    ·go_wp2_with fail
     refine(cy (w.heap.size+1) (λx=>h'.contains x) ss gc sl _ hgl I3 λx wx hbx=>fP x _ ⟨false,sp',t',f',h'⟩ st hc wx (H3.call hbx) (J3.call hbx) dn).mono ?_;exact fX
    ·go_wp2_with fail
     refine(cy (w.heap.size+1) (λx=>h'.contains x) ss gc sl _ hgl I3 λx wx hbx=>fP x _ ⟨false,sp',t',false,h'⟩ st hc wx (H3.call hbx) (J3.call hbx) dn).mono ?_;exact fX
   ·rcases gi f f' with⟨rfl,rfl⟩|rfl|⟨rfl,rfl⟩
    ·go_wp2_with fail
     exact fa
    ·go_wp2_with fail
     refine(cy (w.heap.size+1) (λx=>h'.contains x) ss gc sl _ hgl I3 λx wx hbx=>fP x _ ⟨false,sp',false,f',h'⟩ st hc wx (H3.call hbx) (J3.call hbx) dn).mono ?_;exact fX
    ·go_wp2_with fail
     refine(cy (w.heap.size+1) (λx=>h'.contains x) ss gc sl _ hgl I3 λx wx hbx=>fP x _ ⟨false,sp',false,false,h'⟩ st hc wx (H3.call hbx) (J3.call hbx) dn).mono ?_;exact fX
theorem ci (s:ByteArray):s.data.toList.length=s.size:=My
theorem wU (s:ByteArray)(m k:Nat)(h1:m<=k):(s.extract m k).data.toList=(s.data.toList.drop m).take (k - m):=by
 rw[Lib.extract_data]
theorem Af {s:ByteArray}{k:Nat}(h:k < s.size):s.data.toList[k]? =sO s[k]:=by
 rw[Array.getElem?_toList];exact Array.getElem?_eq_getElem h
theorem Ti {s:List UInt8}{c:UInt8}{m k:Nat}(h1:m<=k)(hk:s[k]? =sO c)(hf:c∉(s.drop m).take (k - m)):bt c (s.drop m)=(s.drop m).take (k - m)::bt c (s.drop (k+1)):=by
 obtain⟨hlt,hk2⟩:=List.getElem?_eq_some_iff.1 hk;have e:s.drop m=(s.drop m).take (k - m)++c::s.drop (k+1):=by
  have h2:=(List.take_append_drop (k - m) (s.drop m)).symm;rw[List.drop_drop,show m+(k - m)=k by omega,j6 hlt,hk2] at h2;exact h2
 have h3:=BM c (s.drop (k+1)) _ hf;rw[<-e] at h3;exact h3
theorem Rl {s:List UInt8}{c x:UInt8}{m k:Nat}(h1:m<=k)(hk:s[k]? =sO x)(hx:x≠c)(hf:c∉(s.drop m).take (k - m)):c∉(s.drop m).take (k+1 - m):=by
 rw[show k+1 - m=(k - m)+1 by omega,List.take_add_one,List.getElem?_drop,show m+(k - m)=k by omega,hk];intro hm;rcases List.mem_append.1 hm with hm|hm
 ·exact hf hm
 ·simp at hm
  exact hx hm.symm

theorem Ah (s:ByteArray)(c:UInt8)(w:World)(hs:s.size<=4000):
  Calls pG 65 #[.string s,.int .u8 c.toNat] w λe w'=>∃(v:Value) (xs:List ByteArray),e=Rt v/\(xs.map λb:ByteArray=>b.data.toList)=bt c s.data.toList/\xs.length<=4001/\w'.ownsRow w.heap.size 9 1 v xs.length (xs.map .string)/\bl w w':=by
 obtain⟨ti,hi,hz0,hz1,hz2⟩:=info_parts Ud;go_enter func65,ntmps65;go_wp2;go_loopw [5,6,7] (λo f i wr=>∃(k m:Nat) (D:List ByteArray),k<=s.size/\m<=k/\D.length<=k/\i=.int .i64 k/\f=.int .i64 m/\wr.ownsRow w.heap.size 9 1 o D.length (D.map .string)/\Hid (bt c s.data.toList=(D.map λb:ByteArray=>b.data.toList)++bt c (s.data.toList.drop m))/\Hid (c∉(s.data.toList.drop m).take (k - m))/\bl w wr) (λ_ _ i _=>s.size - (intOf i).toNat)
 case atStart=>exact⟨0,0,[],j7 _,lR _,lR _,rfl,rfl,⟨rfl,.inl ⟨rfl,rfl⟩⟩,rfl,(by show c∉_;simp),bR _ _⟩
 case round=>
  obtain⟨k,m,D,hk,hm,hD,rfl,rfl,hown,HC,HF,hbr⟩:=hrel;have s1:=hbr.size;by_cases hlt:k < s.size
  ·have n0:=dk
   have n1:(k:Int) < (s.size:Int):=aa;have n2:=gj;have n3:(m:Int)<=(k:Int):=aa;have n4:(k:Int)<=(s.size:Int):=aa;have hg:=Af hlt;generalize hx:s[k]=x at *;by_cases he:x=c
   ·subst he
    have H1:Hid (bt x s.data.toList=((D++[s.extract m k]).map λb:ByteArray=>b.data.toList)++bt x (s.data.toList.drop (k+1))):=by
     show _=_;rw[HC.out,Ti hm hg HF.out,j3,List.append_assoc,<-wU s m k hm];rfl
    have H2:Hid (x∉(s.data.toList.drop (k+1)).take (k+1 - (k+1))):=by show x∉_;simp
    clear HC HF hg;have hln:(D++[s.extract m k]).length=D.length+1:=ah;go_wp2_with (at_builtin;refine wpList_append_own _ rfl _ _ 31 rfl w.heap.size 9 ti (.string ⟨#[]⟩) 1 16 underlying31 hi hz0 hz1 hz2 rfl ai _ _ _ rfl (hown.alloc _) ⟨wr.heap.size,0,nO⟩ 1 1 [.string (s.extract m k)] rfl rfl (cell_one_new _ _ _) (λx hx=>kr) cO aa ap ?_;intro v' w3 hown' hgrow3 hnil3);go_roundw
    case rel=>exact⟨k+1,k+1,D++[s.extract m k],aa,lR _,aa,aF,aF,by rw[hln,j3];exact hown',H1,H2,(hbr.alloc s1 _).grown hgrow3 ap (λj hj=>lO hown hj)⟩
    case measure=>exact aK
   ·have e1:((x.toNat:Int)==(c.toNat:Int))=false:=by
     rw[beq_eq_false_iff_ne];intro e;exact he (UInt8.toNat_inj.1 aa)
    have H2:Hid (c∉(s.data.toList.drop m).take (k+1 - m)):=Rl hm hg he HF.out;clear HF hg;go_wp2;go_roundw
    case rel=>exact⟨k+1,m,D,aa,aa,aa,aF,rfl,hown,HC,H2,hbr⟩
    case measure=>exact aK
  ·have hk':k=s.size:=by omega
   subst hk';have n2:=gj;have n3:(m:Int)<=(s.size:Int):=aa;have H1:Hid (((D++[s.extract m s.size]).map λb:ByteArray=>b.data.toList)=bt c s.data.toList):=by
    show _=_;have hF:=HF.out;rw[j4 DH] at hF;rw[HC.out,CT c _ hF,j3];congr 1;rw[List.map_cons,List.map_nil,wU s m s.size hm,j4 DH]
   clear HC HF;have hln:(D++[s.extract m s.size]).length=D.length+1:=ah;go_wp2_with (at_builtin;refine wpList_append_own _ rfl _ _ 31 rfl w.heap.size 9 ti (.string ⟨#[]⟩) 1 16 underlying31 hi hz0 hz1 hz2 rfl ai _ _ _ rfl (hown.alloc _) ⟨wr.heap.size,0,nO⟩ 1 1 [.string (s.extract m s.size)] rfl rfl (cell_one_new _ _ _) (λx hx=>kr) cO aa ap ?_;intro v' w3 hown' hgrow3 hnil3);go_ret;refine⟨_,D++[s.extract m s.size],rfl,H1.out,aa,?_,(hbr.alloc s1 _).grown hgrow3 ap (λj hj=>lO hown hj)⟩;rw[hln,j3];exact hown'
theorem cD {p:Prop}(h:p):Hid p:=h

def Wf (o:Option Int)(e:Ending):Prop:=∃v,e=Rt (Tu #[.int .i64 v,Bb o.isSome])/\∀n,o=sO n->v=n

theorem mj {p:Prop}(h:p:=by
 go_wp2
 go_ret2
 exact⟨⟨0,rfl,λn h=>aT⟩,Below.refl _ _⟩):p:=h
theorem n9 (s:ByteArray)(w:World)(hs:s.size<=4000):
  Calls pG 66 #[.string s] w λe w'=>Wf (bW s.data.toList) e/\bl w w':=by
 have hD:∃(neg:Bool) (d:ByteArray),Hid (s.data.toList=if neg=true then 45::d.data.toList else d.data.toList)/\Hid (neg=false->d.data.toList.head?≠sO 45)/\Hid (neg=true->0 < s.size/\(∀h:0 < s.size,s[0]=45)/\d=s.extract 1 s.size)/\Hid (neg=false->d=s/\∀h:0 < s.size,s[0]≠45):=by
  by_cases h0:0 < s.size
  ·have hg:=Af h0
   have hc:s.data.toList=s[0]::s.data.toList.drop 1:=by
    have hl:0 < s.data.toList.length:=by rw[ci];exact h0
    have h2:=j6 hl;rw[List.drop_zero] at h2;rw[List.getElem?_eq_getElem hl] at hg;rw[h2,q4.inj hg];rfl
   by_cases h45:s[0]=45
   ·refine⟨true,s.extract 1 s.size,?_,cD (λh=>aT),cD (λ_=>⟨h0,λ_=>h45,rfl⟩),cD (λh=>aT)⟩
    show _=_;rw[if_pos rfl,wU s 1 s.size aa,j4 DH,<-h45];exact hc
   ·refine⟨false,s,rfl,cD (λ_=> ?_),cD (λh=>aT),cD (λ_=>⟨rfl,λ_=>h45⟩)⟩
    rw[hc];simpa using h45
  ·refine⟨false,s,rfl,cD (λ_=> ?_),cD (λh=>aT),cD (λ_=>⟨rfl,λh=>absurd h h0⟩)⟩
   have:s.data.toList=[]:=q7 (by rw[ci];omega);rw[this];simp
 obtain⟨neg,d,HL,HN,HT,HF⟩:=hD;have hdl:Hid (s.size=if neg=true then d.size+1 else d.size):=by
  have:=congrArg j5 HL.out;rw[ci] at this;show _=_;rw[this];cases neg<;>simp[ci]
 generalize hans:bW s.data.toList=ans;have HA:=cD hans;clear hans;go_enter func66,ntmps66;go_upto_region 2 with fail
 go_cut [15] (λt wy=>t=Bb neg/\wy=w)
 case first=>
  cases neg with
  |true=>
   obtain⟨h0,h1,h2⟩:=HT.out rfl;have n0:(0:Int) < (s.size:Int):=aa;have h3:=h1 h0;go_wp2_with fail;go_meet;exact ii
  |false=>
   obtain⟨h2,h1⟩:=HF.out rfl;by_cases h0:0 < s.size
   ·have n0:(0:Int) < (s.size:Int):=by omega
    have h3:=h1 h0;have e1:((s[0].toNat:Int)==45)=false:=by
     rw[beq_eq_false_iff_ne];intro e;refine h3 (UInt8.toNat_inj.1 ?_);have:(45:UInt8).toNat=45:=rfl;omega
    go_wp2_with fail;go_meet;exact ii
   ·have n0:¬(0:Int) < (s.size:Int):=by omega
    go_wp2_with fail;go_meet;exact ii
 obtain⟨rfl,hwc⟩:=hcut;have hwd:=hwc.symm;subst hwd;clear hwc;go_upto_if 15 with fail
 go_cut [4] (λt wy=>t=.string d/\wy=w)
 case first=>
  cases neg with
  |true=>
   obtain⟨h0,h1,h2⟩:=HT.out rfl;have n0:(1:Int)<=(s.size:Int):=aa;go_wp2_with fail;go_meet;exact⟨by rw[h2],rfl⟩
  |false=>
   obtain⟨h2,h1⟩:=HF.out rfl;go_wp2_with fail;go_meet;exact⟨by rw[h2],rfl⟩
 obtain⟨rfl,hwc⟩:=hcut;have hwd:=hwc.symm;subst hwd;clear hwc;clear HT HF;by_cases hd0:d.size=0
 ·have he:d=⟨#[]⟩:=by
   apply ByteArray.ext;apply Array.toList_inj.1;exact q7 (by rw[ci];exact hd0)
  subst he;obtain rfl:nO=ans:=(Rr HL.out).symm.trans HA.out;exact mj
 ·have hemp:(d.toList==[])=false:=by
   rw[beq_eq_false_iff_ne,ByteArray.toList_eq];intro e;have:=congrArg j5 e;rw[ci] at this;exact hd0 (by simpa using this)
  have hemp2:d.toList.isEmpty=false:=by
   rw[ByteArray.toList_eq,List.isEmpty_eq_false_iff];intro e;have:=congrArg j5 e;rw[ci] at this;exact hd0 (by simpa using this)
  by_cases hlen:s.size<=11
  ·have n0:¬(11:Int) < (s.size:Int):=by omega
   have hd11:d.size<=11:=by
    have:=hdl.out;cases neg<;>simp at this<;>omega
   go_wp2
   go_loop [5,6] (λn i=>∃(k m:Nat),k<=d.size/\i=.int .i64 k/\n=.int .i64 m/\m < 10 ^ k/\Hid (Lib.decFrom 0 (d.data.toList.take k)=sO m)) (λ_ i=>d.size - (intOf i).toNat)
   case atStart=>exact⟨0,0,j7 _,rfl,rfl,ah,rfl⟩
   case round=>
    obtain⟨k,m,hk,rfl,rfl,hm,HDm⟩:=hrel;by_cases hlt:k < d.size
    ·have hg:=Af hlt
     have m0:=bA;have m1:(k:Int) < (d.size:Int):=aa;have hp:10 ^ k<=10 ^ 10:=q8 ai aa;have hp2:(10:Nat) ^ (k+1)=10 ^ k * 10:=Nat.pow_succ 10 k;have hpe:(10:Nat) ^ 10=10000000000:=ai;generalize hx:d[k]=x at *;by_cases c1:x.toNat < 48
     ·have e1:(x.toNat:Int) < 48:=by omega
      obtain rfl:nO=ans:=(Np HL.out HN.out hg aa).symm.trans HA.out;clear HDm hg;exact mj
     ·have e1:¬(x.toNat:Int) < 48:=by omega
      by_cases c2:57 < x.toNat
      ·have e2:(57:Int) < (x.toNat:Int):=by omega
       obtain rfl:nO=ans:=(Np HL.out HN.out hg aa).symm.trans HA.out;clear HDm hg;exact mj
      ·have e2:¬(57:Int) < (x.toNat:Int):=by omega
       have HD2:Hid (Lib.decFrom 0 (d.data.toList.take (k+1))=sO (m * 10+(x.toNat - 48))):=TF HDm.out hg aa;clear HDm hg;go_wp2
       go_round
       case rel=>exact⟨k+1,m * 10+(x.toNat - 48),aa,aF,aF,aa,HD2⟩
       case measure=>exact aK
    ·have hk':k=d.size:=by omega
     subst hk';have hp:10 ^ d.size<=10 ^ 11:=q8 ai hd11;have hpe:(10:Nat) ^ 11=100000000000:=ai;have hdec:=HDm.out;rw[j4 (by rw[ci];exact lR _)] at hdec;have hch:=Sz HL.out (λe=>hd0 (by have:=congrArg j5 e;rw[ci] at this;simpa using this)) (by rw[ci];exact hlen) hdec
     rw[HA.out] at hch;have HC:=cD hch;clear hch hdec HDm;have hv:∃v:Int,Hid (v=if neg=true then -(m:Int) else m):=⟨_,rfl⟩;obtain⟨v,HV⟩:=hv;have hfit:kF v:=by
      have:=HV.out;unfold kF;cases neg<;>simp at this<;>omega
     rw[<-HV.out] at HC;go_upto_if 53 with fail
     go_cut [5] (λt wy=>t=.int .i64 v/\wy=w)
     case first=>
      cases neg with
      |true=>
       have n1:(d.size:Int) < (s.size:Int):=by have:=hdl.out;simp at this;omega
       go_wp2_with fail;go_meet;exact⟨by rw[HV.out];simp,rfl⟩
      |false=>
       have n1:¬(d.size:Int) < (s.size:Int):=by have:=hdl.out;simp at this;omega
       go_wp2_with fail;go_meet;exact⟨by rw[HV.out];simp,rfl⟩
     obtain⟨rfl,hwc⟩:=hcut;have hwd:=hwc.symm;subst hwd;clear hwc;go_wp2_with fail;refine(nY v _ hfit).mono ?_;rintro e w1 ⟨rfl,hb1⟩;by_cases hi:Lib.itoa v=s.data.toList
     ·have hi':eJ v=s:=by
       apply ByteArray.ext;apply Array.toList_inj.1;rw[<-hi];simp[eJ]
      obtain rfl:ans=sO v:=HC.out.trans (if_pos hi);go_wp2
      go_ret2
      exact⟨⟨v,rfl,λn h=>(by cases h;rfl)⟩,hb1⟩
     ·have hne:((eJ v).toList==s.toList)=false:=by
       rw[beq_eq_false_iff_ne,ByteArray.toList_eq,ByteArray.toList_eq];intro e;apply hi;rw[<-e];simp[eJ]
      obtain rfl:ans=none:=HC.out.trans (if_neg hi);go_wp2
      go_ret2
      exact⟨⟨v,rfl,λn h=>aT⟩,hb1⟩
  ·have n0:(11:Int) < (s.size:Int):=by omega
   obtain rfl:nO=ans:=(SF (by rw[ci];exact hlen)).symm.trans HA.out;exact mj
end
end Go.Proofs.YtmapdpcfanecdabGreatDoor
