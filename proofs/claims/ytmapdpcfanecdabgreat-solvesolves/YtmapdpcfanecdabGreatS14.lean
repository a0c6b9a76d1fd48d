import Derived.Test.YtmapdpcfanecdabGreatS13
import Derived.MapKept
import Derived.Test.YtmapdpcfanecdabGreatS10
import Derived.Test.YtmapdpcfanecdabGreatS11
import Derived.Test.YtmapdpcfanecdabGreatS12
import Derived.Deep.RegionHeldLaw
open Go.Ending renaming returned→Rt
open Go.Obj renaming cells→Cc
open Go.Proofs.Tryz renaming prog→pG
open Go.RowKit.Below renaming refl→bR
open Go.Value renaming agg→Ag,bool→Bb,slice→U,tuple→Tu
open List renaming getElem_append_left→j0
open Nat renaming le_refl→lR
open Option renaming none→nO,some→sO
set_option linter.unusedSimpArgs false
set_option linter.unusedVariables false
set_option maxHeartbeats 8000000
set_option maxRecDepth 100000
namespace Go.Proofs.YtmapdpcfanecdabGreat
section
open Go.RowKit
abbrev Shp:=Int×ByteArray×List Int

def lN (ps:List Int):Array Value:=(ps.map λp=>Value.int .i64 p).toArray
def nv (N:Nat)(j:Nat)(s:Shp):Value:=Ag #[.string s.2.1,if s.2.2=[] then U nO 0 0 else U (sO ⟨N+1+j,0,nO⟩) s.2.2.length s.2.2.length]
def ki (N:Nat)(j:Nat)(s:Shp):MapEntry:=⟨.int .i64 s.1,nv N j s,j⟩
def cx (N:Nat):Nat->List Shp->List MapEntry
 |_,[]=>[]
 |j,s::r=>ki N j s::cx N (j+1) r

structure ShpAt (N:Nat) (l:List Shp) (w:World):Prop where
 map:w.heap[N]? =sO (.map (cx N 0 l).toArray l.length)
 parts:∀j (h:j < l.length),l[j].2.2≠[]->w.heap[N+1+j]? =sO (Cc (lN l[j].2.2) 150)

theorem mj (N:Nat)(l:List Shp)(s:Shp):∀j,cx N j (l++[s])=cx N j l++[ki N (j+l.length) s]:=by
 induction l with
 |nil=>intro j;rfl
 |cons x r ih=>intro j;simp only[List.cons_append,cx,ih (j+1),List.length_cons,Nat.add_assoc,Nat.add_comm 1]

theorem mu (N:Nat)(k:Int)(l:List Shp):∀i j,(∀s∈l,s.1≠k)->Instr.findNow (.int .i64) (.int .i64 k) (cx N j l) i=sO none:=by
 induction l with
 |nil=>intro i j _;rfl
 |cons x r ih=>
  intro i j h;have hx:(k==x.1)=false:=by simpa using λe=>h x (by simp) e.symm
  simp only[cx,Instr.findNow,ki,Instr.sameNow,if_true,hx];exact ih (i+1) (j+1) (λs hs=>h s (by simp[hs]))

theorem aR {P:Program}{N:Nat}{l:List Shp}{wx w:World}{ops:Array Oper}{rest:List Oper}{o:Oper}{a:Act}{Q:Exit->Act->World->Prop}{B:Nat}{w0:World}
  (hg:o.guard=nO)(m x v:Operand)(t kt et:TypeId)(hop:o.op=Op.insert t m x v)(ht:P.underlying t=sO (.map kt et))(hk:P.underlying kt=sO (.int .i64))(k:Int)(wd:ByteArray)(ps:List Int)
  (hm:a.eval m=.map (sO N))(hx:a.eval x=.int .i64 k)(hv:a.eval v=nv N l.length (k,wd,ps))(hw:w=if ps=[] then wx else wx.alloc (Cc (lN ps) 150))
  (hs:ShpAt N l wx)(hsz:wx.heap.size=N+1+l.length)(hbel:Below B w0 wx)(hB:B<=N)(hnew:∀s∈l,s.1≠k)
  (hK:∀w',ShpAt N (l++[(k,wd,ps)]) w'->w'.heap.size=w.heap.size->Below B w0 w'->wpList P ops Q rest (a.put o.dst undef) w'):
  wpList P ops Q (o::rest) a w:=by
 refine wpList_plain hg λK' hK'=> ?_;have hbw:Below B w0 w:=by
  rw[hw];split
  ·exact hbel
  ·exact hbel.alloc (by omega) _
 have hsame:∀i,i < wx.heap.size->w.heap[i]? =wx.heap[i]? :=by
  intro i hi;rw[hw];split
  ·rfl
  ·exact Below.heap_alloc _ _ _ hi
 have hmap:w.heap[N]? =sO (.map (cx N 0 l).toArray l.length):=by rw[hsame N (by omega)];exact hs.map
 have hf:=mu N k l 0 0 hnew;have hc:(Instr.checkKey false 10000 kt (.int .i64 k)).run P w=.ok () w:=MapKept.run_checkKey (k:=.int .i64 k) hk rfl false 9999;have hpush:(cx N 0 l).toArray.push ⟨.int .i64 k,nv N l.length (k,wd,ps),l.length⟩=(cx N 0 (l++[(k,wd,ps)])).toArray:=by
  simp[mj,ki]
 obtain⟨E,hE⟩:∃E,E=(cx N 0 (l++[(k,wd,ps)])).toArray:=⟨_,rfl⟩;rw[<-hE] at hpush;obtain⟨w2,hw2⟩:∃w2,w2={w with heap:=w.heap.setIfInBounds N (.map E (l.length+1))}:=⟨_,rfl⟩;have hrun:(Instr.mapUpdate t (.map (sO N)) (.int .i64 k) (nv N l.length (k,wd,ps))).run P w=.ok () w2:=by
  simp only[Instr.mapUpdate,Sem.run_bind,run_underlying ht,MapKept.run_getObj_map hmap,hc,MapKept.run_findKey hk hf,hpush,MapKept.run_setObj_map _ hmap,Result.andThen,hw2]
 have hset:=MapKept.heap_set (o':=.map E (l.length+1)) hmap;have h2:w2.heap=w.heap.setIfInBounds N (.map E (l.length+1)):=by rw[hw2]
 unfold Oper.wp;simp[execOp,hop,hm,hx,hv,hrun,Result.andThen];refine hK' _ _ (hK _ ⟨?_,?_⟩ (by rw[h2];simp) ?_)
 ·rw[h2,hset.1,hE];simp
 ·intro j hj hne
  rw[h2,hset.2 (N+1+j) (by omega)];by_cases hjl:j < l.length
  ·rw[j0 hjl] at hne
   simp only[j0 hjl];rw[hsame _ (by omega)];exact hs.parts j hjl hne
  ·have hjl':j=l.length:=by simp at hj;omega
   subst hjl';simp only[List.getElem_append_right (lR _),Nat.sub_self,List.getElem_cons_zero] at hne |-;rw[hw,if_neg hne,<-hsz];exact(MapKept.heap_alloc wx _).1
 ·exact hbw.trans ⟨by rw[hw2],by rw[hw2],by rw[hw2],by rw[h2];simp,λi hi=>by rw[h2];exact hset.2 i (by omega)⟩

def shps:List Shp:=[(1,aJ 1,[0,4]),(2,aJ 2,[0,5]),(3,aJ 3,[0]),(4,aJ 4,[0,1]),(5,aJ 5,[0,1,2]),(6,aJ 6,[0,1,2]),(7,aJ 7,[0,1,2]),(8,aJ 8,[0,1,2]),(9,aJ 9,[0,1,2]),(10,aJ 10,[0,1]),
 (11,aJ 11,[0]),(12,aJ 12,[0,1,7]),(13,aJ 13,[1,7,2]),(14,aJ 14,[0,6]),(15,aJ 15,[1,3]),(16,aJ 16,[3]),(17,aJ 17,[1]),(18,aJ 18,[1]),(19,aJ 19,[])]

theorem nW (w:World):
  Calls pG 96 #[] w λe w'=>e=Rt (.map (sO w.heap.size))/\ShpAt w.heap.size shps w'/\Below w.heap.size w w':=by
 have hmm:= @run_makeMap pG;have hs0:ShpAt w.heap.size (shps.take 0) (w.alloc (.map #[] 0)):=⟨by simpa[cx] using(MapKept.heap_alloc w (.map #[] 0)).1,λj h=>absurd h (by simp)⟩;have hz0:(w.alloc (.map #[] 0)).heap.size=w.heap.size+1:=by simp
 have hb0:Below w.heap.size w (w.alloc (.map #[] 0)):=(bR _ _).alloc (lR _) _;go_enter Tryz.func96,Tryz.ntmps96;go_wp2_with (first
  |(refine aR (N:=w.heap.size) (l:=shps.take 0) (wx:=(w.alloc (.map #[] 0))) (w0:=w) (B:=w.heap.size) rfl _ _ _ 127 3 153 rfl Tryz.underlying127 Tryz.underlying3 1 (aJ 1) [0,4] rfl rfl rfl rfl hs0 hz0 hb0 (lR _) (by decide) ?_;intro w1 hs1 hz1 hb1;replace hs1:ShpAt w.heap.size (shps.take 1) w1:=hs1;replace hz1:w1.heap.size=w.heap.size+2:=by simpa[hz0] using hz1)
  |(refine aR (N:=w.heap.size) (l:=shps.take 1) (wx:=w1) (w0:=w) (B:=w.heap.size) rfl _ _ _ 127 3 153 rfl Tryz.underlying127 Tryz.underlying3 2 (aJ 2) [0,5] rfl rfl rfl rfl hs1 hz1 hb1 (lR _) (by decide) ?_;intro w2 hs2 hz2 hb2;replace hs2:ShpAt w.heap.size (shps.take 2) w2:=hs2;replace hz2:w2.heap.size=w.heap.size+3:=by simpa[hz1] using hz2)
  |(refine aR (N:=w.heap.size) (l:=shps.take 2) (wx:=w2) (w0:=w) (B:=w.heap.size) rfl _ _ _ 127 3 153 rfl Tryz.underlying127 Tryz.underlying3 3 (aJ 3) [0] rfl rfl rfl rfl hs2 hz2 hb2 (lR _) (by decide) ?_;intro w3 hs3 hz3 hb3;replace hs3:ShpAt w.heap.size (shps.take 3) w3:=hs3;replace hz3:w3.heap.size=w.heap.size+4:=by simpa[hz2] using hz3)
  |(refine aR (N:=w.heap.size) (l:=shps.take 3) (wx:=w3) (w0:=w) (B:=w.heap.size) rfl _ _ _ 127 3 153 rfl Tryz.underlying127 Tryz.underlying3 4 (aJ 4) [0,1] rfl rfl rfl rfl hs3 hz3 hb3 (lR _) (by decide) ?_;intro w4 hs4 hz4 hb4;replace hs4:ShpAt w.heap.size (shps.take 4) w4:=hs4;replace hz4:w4.heap.size=w.heap.size+5:=by simpa[hz3] using hz4)
  |(refine aR (N:=w.heap.size) (l:=shps.take 4) (wx:=w4) (w0:=w) (B:=w.heap.size) rfl _ _ _ 127 3 153 rfl Tryz.underlying127 Tryz.underlying3 5 (aJ 5) [0,1,2] rfl rfl rfl rfl hs4 hz4 hb4 (lR _) (by decide) ?_;intro w5 hs5 hz5 hb5;replace hs5:ShpAt w.heap.size (shps.take 5) w5:=hs5;replace hz5:w5.heap.size=w.heap.size+6:=by simpa[hz4] using hz5)
  |(refine aR (N:=w.heap.size) (l:=shps.take 5) (wx:=w5) (w0:=w) (B:=w.heap.size) rfl _ _ _ 127 3 153 rfl Tryz.underlying127 Tryz.underlying3 6 (aJ 6) [0,1,2] rfl rfl rfl rfl hs5 hz5 hb5 (lR _) (by decide) ?_;intro w6 hs6 hz6 hb6;replace hs6:ShpAt w.heap.size (shps.take 6) w6:=hs6;replace hz6:w6.heap.size=w.heap.size+7:=by simpa[hz5] using hz6)
  |(refine aR (N:=w.heap.size) (l:=shps.take 6) (wx:=w6) (w0:=w) (B:=w.heap.size) rfl _ _ _ 127 3 153 rfl Tryz.underlying127 Tryz.underlying3 7 (aJ 7) [0,1,2] rfl rfl rfl rfl hs6 hz6 hb6 (lR _) (by decide) ?_;intro w7 hs7 hz7 hb7;replace hs7:ShpAt w.heap.size (shps.take 7) w7:=hs7;replace hz7:w7.heap.size=w.heap.size+8:=by simpa[hz6] using hz7)
  |(refine aR (N:=w.heap.size) (l:=shps.take 7) (wx:=w7) (w0:=w) (B:=w.heap.size) rfl _ _ _ 127 3 153 rfl Tryz.underlying127 Tryz.underlying3 8 (aJ 8) [0,1,2] rfl rfl rfl rfl hs7 hz7 hb7 (lR _) (by decide) ?_;intro w8 hs8 hz8 hb8;replace hs8:ShpAt w.heap.size (shps.take 8) w8:=hs8;replace hz8:w8.heap.size=w.heap.size+9:=by simpa[hz7] using hz8)
  |(refine aR (N:=w.heap.size) (l:=shps.take 8) (wx:=w8) (w0:=w) (B:=w.heap.size) rfl _ _ _ 127 3 153 rfl Tryz.underlying127 Tryz.underlying3 9 (aJ 9) [0,1,2] rfl rfl rfl rfl hs8 hz8 hb8 (lR _) (by decide) ?_;intro w9 hs9 hz9 hb9;replace hs9:ShpAt w.heap.size (shps.take 9) w9:=hs9;replace hz9:w9.heap.size=w.heap.size+10:=by simpa[hz8] using hz9)
  |(refine aR (N:=w.heap.size) (l:=shps.take 9) (wx:=w9) (w0:=w) (B:=w.heap.size) rfl _ _ _ 127 3 153 rfl Tryz.underlying127 Tryz.underlying3 10 (aJ 10) [0,1] rfl rfl rfl rfl hs9 hz9 hb9 (lR _) (by decide) ?_;intro w10 hs10 hz10 hb10;replace hs10:ShpAt w.heap.size (shps.take 10) w10:=hs10;replace hz10:w10.heap.size=w.heap.size+11:=by simpa[hz9] using hz10)
  |(refine aR (N:=w.heap.size) (l:=shps.take 10) (wx:=w10) (w0:=w) (B:=w.heap.size) rfl _ _ _ 127 3 153 rfl Tryz.underlying127 Tryz.underlying3 11 (aJ 11) [0] rfl rfl rfl rfl hs10 hz10 hb10 (lR _) (by decide) ?_;intro w11 hs11 hz11 hb11;replace hs11:ShpAt w.heap.size (shps.take 11) w11:=hs11;replace hz11:w11.heap.size=w.heap.size+12:=by simpa[hz10] using hz11)
  |(refine aR (N:=w.heap.size) (l:=shps.take 11) (wx:=w11) (w0:=w) (B:=w.heap.size) rfl _ _ _ 127 3 153 rfl Tryz.underlying127 Tryz.underlying3 12 (aJ 12) [0,1,7] rfl rfl rfl rfl hs11 hz11 hb11 (lR _) (by decide) ?_;intro w12 hs12 hz12 hb12;replace hs12:ShpAt w.heap.size (shps.take 12) w12:=hs12;replace hz12:w12.heap.size=w.heap.size+13:=by simpa[hz11] using hz12)
  |(refine aR (N:=w.heap.size) (l:=shps.take 12) (wx:=w12) (w0:=w) (B:=w.heap.size) rfl _ _ _ 127 3 153 rfl Tryz.underlying127 Tryz.underlying3 13 (aJ 13) [1,7,2] rfl rfl rfl rfl hs12 hz12 hb12 (lR _) (by decide) ?_;intro w13 hs13 hz13 hb13;replace hs13:ShpAt w.heap.size (shps.take 13) w13:=hs13;replace hz13:w13.heap.size=w.heap.size+14:=by simpa[hz12] using hz13)
  |(refine aR (N:=w.heap.size) (l:=shps.take 13) (wx:=w13) (w0:=w) (B:=w.heap.size) rfl _ _ _ 127 3 153 rfl Tryz.underlying127 Tryz.underlying3 14 (aJ 14) [0,6] rfl rfl rfl rfl hs13 hz13 hb13 (lR _) (by decide) ?_;intro w14 hs14 hz14 hb14;replace hs14:ShpAt w.heap.size (shps.take 14) w14:=hs14;replace hz14:w14.heap.size=w.heap.size+15:=by simpa[hz13] using hz14)
  |(refine aR (N:=w.heap.size) (l:=shps.take 14) (wx:=w14) (w0:=w) (B:=w.heap.size) rfl _ _ _ 127 3 153 rfl Tryz.underlying127 Tryz.underlying3 15 (aJ 15) [1,3] rfl rfl rfl rfl hs14 hz14 hb14 (lR _) (by decide) ?_;intro w15 hs15 hz15 hb15;replace hs15:ShpAt w.heap.size (shps.take 15) w15:=hs15;replace hz15:w15.heap.size=w.heap.size+16:=by simpa[hz14] using hz15)
  |(refine aR (N:=w.heap.size) (l:=shps.take 15) (wx:=w15) (w0:=w) (B:=w.heap.size) rfl _ _ _ 127 3 153 rfl Tryz.underlying127 Tryz.underlying3 16 (aJ 16) [3] rfl rfl rfl rfl hs15 hz15 hb15 (lR _) (by decide) ?_;intro w16 hs16 hz16 hb16;replace hs16:ShpAt w.heap.size (shps.take 16) w16:=hs16;replace hz16:w16.heap.size=w.heap.size+17:=by simpa[hz15] using hz16)
  |(refine aR (N:=w.heap.size) (l:=shps.take 16) (wx:=w16) (w0:=w) (B:=w.heap.size) rfl _ _ _ 127 3 153 rfl Tryz.underlying127 Tryz.underlying3 17 (aJ 17) [1] rfl rfl rfl rfl hs16 hz16 hb16 (lR _) (by decide) ?_;intro w17 hs17 hz17 hb17;replace hs17:ShpAt w.heap.size (shps.take 17) w17:=hs17;replace hz17:w17.heap.size=w.heap.size+18:=by simpa[hz16] using hz17)
  |(refine aR (N:=w.heap.size) (l:=shps.take 17) (wx:=w17) (w0:=w) (B:=w.heap.size) rfl _ _ _ 127 3 153 rfl Tryz.underlying127 Tryz.underlying3 18 (aJ 18) [1] rfl rfl rfl rfl hs17 hz17 hb17 (lR _) (by decide) ?_;intro w18 hs18 hz18 hb18;replace hs18:ShpAt w.heap.size (shps.take 18) w18:=hs18;replace hz18:w18.heap.size=w.heap.size+19:=by simpa[hz17] using hz18)
  |(refine aR (N:=w.heap.size) (l:=shps.take 18) (wx:=w18) (w0:=w) (B:=w.heap.size) rfl _ _ _ 127 3 153 rfl Tryz.underlying127 Tryz.underlying3 19 (aJ 19) [] rfl rfl rfl rfl hs18 hz18 hb18 (lR _) (by decide) ?_;intro w19 hs19 hz19 hb19;replace hs19:ShpAt w.heap.size (shps.take 19) w19:=hs19;replace hz19:w19.heap.size=w.heap.size+19:=by simpa[hz18] using hz19))
 go_ret;exact⟨rfl,hs19,hb19⟩

theorem ShpAt.below {B N:Nat}{l:List Shp}{w w':World}(h:ShpAt N l w)(hb:Below B w w')(hB:w.heap.size<=B):ShpAt N l w':=by
 have lt:∀{i:Nat} {o:Obj},w.heap[i]? =sO o->i < w.heap.size:=λh=>(Array.getElem?_eq_some_iff.1 h).1;exact⟨by rw[hb.block _ (by have:=lt h.map;omega)];exact h.map,λj hj hne=>by rw[hb.block _ (by have:=lt (h.parts j hj hne);omega)];exact h.parts j hj hne⟩

theorem AJ {P:Program}{N:Nat}{w:World}{es:Array MapEntry}{clock:Nat}(t kt et:TypeId)(ht:P.underlying t=sO (.map kt et))(hk:P.underlying kt=sO (.int .i64))(hmap:w.heap[N]? =sO (.map es clock))
  (k:Int)(i:Nat)(v:Value)(hf:Instr.findNow (.int .i64) (.int .i64 k) es.toList 0=sO (sO (i,v))):(Instr.lookup t (.map (sO N)) (.int .i64 k) true).run P w=.ok (Tu #[v,Bb true]) w:=by
 have hc:∀e,(Instr.checkKey e 10000 kt (.int .i64 k)).run P w=.ok () w:=λe=>MapKept.run_checkKey (k:=.int .i64 k) hk rfl e 9999;simp[Instr.lookup,run_underlying ht,MapKept.run_getObj_map hmap,hc,MapKept.run_findKey hk hf,Result.andThen]

theorem rW {P:Program}{N:Nat}{w:World}{es:Array MapEntry}{clock:Nat}(t kt et:TypeId)(ht:P.underlying t=sO (.map kt et))(hk:P.underlying kt=sO (.int .i64))(hmap:w.heap[N]? =sO (.map es clock))
  (z:Value)(hz:(zeroValue et).run P w=.ok z w)(k:Int)(hf:Instr.findNow (.int .i64) (.int .i64 k) es.toList 0=sO nO):(Instr.lookup t (.map (sO N)) (.int .i64 k) true).run P w=.ok (Tu #[z,Bb false]) w:=by
 have hc:∀e,(Instr.checkKey e 10000 kt (.int .i64 k)).run P w=.ok () w:=λe=>MapKept.run_checkKey (k:=.int .i64 k) hk rfl e 9999;simp[Instr.lookup,run_underlying ht,MapKept.run_getObj_map hmap,hc,MapKept.run_findKey hk hf,hz,Result.andThen]

theorem wW (w:World):(zeroValue 153).run pG w=.ok (Ag #[.string ⟨#[]⟩,U nO 0 0]) w:=by kernel_rfl

theorem CG {N:Nat}{w:World}(h:ShpAt N shps w)(k:Int)(hk:btw k 1 19=false):(Instr.lookup 127 (.map (sO N)) (.int .i64 k) true).run pG w=.ok (Tu #[Ag #[.string ⟨#[]⟩,U nO 0 0],Bb false]) w:=by
 refine rW _ 3 153 Tryz.underlying127 Tryz.underlying3 h.map _ (wW w) k (mu N k shps 0 0 ?_);have:¬(1<=k/\k<=19):=by simpa[btw] using hk
 intro s hs;simp only[shps,List.mem_cons,List.not_mem_nil,or_false] at hs;rcases hs with rfl|rfl|rfl|rfl|rfl|rfl|rfl|rfl|rfl|rfl|rfl|rfl|rfl|rfl|rfl|rfl|rfl|rfl|rfl<;>simp only<;>omega

theorem cC {N:Nat}{w:World}(h:ShpAt N shps w)(k:Int)(i:Nat)(v:Value)(hf:Instr.findNow (.int .i64) (.int .i64 k) (cx N 0 shps) 0=sO (sO (i,v))):(Instr.lookup 127 (.map (sO N)) (.int .i64 k) true).run pG w=.ok (Tu #[v,Bb true]) w:=
 AJ _ 3 153 Tryz.underlying127 Tryz.underlying3 h.map k i v hf
theorem kr {x:Int}(h1: -9223372036854775808<=x)(h2:x < 9223372036854775808):wrap64 x=x:=by unfold wrap64;omega

theorem Ax {a b:Int}(ha:aS a)(hb:aS b): -4611686018427387904<=a * b/\a * b<=4611686018427387904:=by
 have h1:a.natAbs<=2147483648:=by unfold aS at ha;omega
 have h2:b.natAbs<=2147483648:=by unfold aS at hb;omega
 have h3:(a * b).natAbs<=4611686018427387904:=by rw[Int.natAbs_mul];exact Nat.mul_le_mul h1 h2
 omega

theorem eH {a b:Int}(ha:aS a)(hb:aS b):wrap64 (a+b)=a+b:=by
 unfold aS at ha hb;exact kr (by omega) (by omega)
theorem eu {a b:Int}(ha:aS a)(hb:aS b):wrap64 (a - b)=a - b:=by
 unfold aS at ha hb;exact kr (by omega) (by omega)
theorem eI {a b:Int}(ha:aS a)(hb:aS b):wrap64 (a * b)=a * b:=by
 have:=Ax ha hb;exact kr (by omega) (by omega)

theorem Di (s t:Sp)(w:World)(hs:s.Ok)(ht:t.Ok):
  Calls pG 145 #[sv s,sv t,.func (.func 146) #[] #[]] w λe w'=>e=Rt (sv (bO 5 s t))/\Below w.heap.size w w':=by
 by_cases h:(s.n||t.n)=true
 ·have:=iA 146 s t w h
  unfold bO;rw[if_pos h];exact this
 ·have e0:bO 5 s t=d9 (s.lo+t.lo) (s.lo+t.hi) (s.hi+t.lo) (s.hi+t.hi):=by unfold bO;rw[if_neg h];rfl
  rw[e0];obtain⟨n,lo,hi⟩:=s;obtain⟨n',lo',hi'⟩:=t;cases n with
  |true=>exact absurd rfl h
  |false=>
   cases n' with
   |true=>exact absurd rfl h
   |false=>exact wQ lo hi lo' hi' w (eH hs.1 ht.1) (eH hs.1 ht.2.1) (eH hs.2.1 ht.1) (eH hs.2.1 ht.2.1)

theorem Ds (s t:Sp)(w:World)(hs:s.Ok)(ht:t.Ok):
  Calls pG 145 #[sv s,sv t,.func (.func 147) #[] #[]] w λe w'=>e=Rt (sv (bO 6 s t))/\Below w.heap.size w w':=by
 by_cases h:(s.n||t.n)=true
 ·have:=iA 147 s t w h
  unfold bO;rw[if_pos h];exact this
 ·have e0:bO 6 s t=d9 (s.lo - t.lo) (s.lo - t.hi) (s.hi - t.lo) (s.hi - t.hi):=by unfold bO;rw[if_neg h];rfl
  rw[e0];obtain⟨n,lo,hi⟩:=s;obtain⟨n',lo',hi'⟩:=t;cases n with
  |true=>exact absurd rfl h
  |false=>
   cases n' with
   |true=>exact absurd rfl h
   |false=>exact vU lo hi lo' hi' w (eu hs.1 ht.1) (eu hs.1 ht.2.1) (eu hs.2.1 ht.1) (eu hs.2.1 ht.2.1)

theorem CU (s t:Sp)(w:World)(hs:s.Ok)(ht:t.Ok):
  Calls pG 145 #[sv s,sv t,.func (.func 148) #[] #[]] w λe w'=>e=Rt (sv (bO 7 s t))/\Below w.heap.size w w':=by
 by_cases h:(s.n||t.n)=true
 ·have:=iA 148 s t w h
  unfold bO;rw[if_pos h];exact this
 ·have e0:bO 7 s t=d9 (s.lo * t.lo) (s.lo * t.hi) (s.hi * t.lo) (s.hi * t.hi):=by unfold bO;rw[if_neg h];rfl
  rw[e0];obtain⟨n,lo,hi⟩:=s;obtain⟨n',lo',hi'⟩:=t;cases n with
  |true=>exact absurd rfl h
  |false=>
   cases n' with
   |true=>exact absurd rfl h
   |false=>exact vm lo hi lo' hi' w (eI hs.1 ht.1) (eI hs.1 ht.2.1) (eI hs.2.1 ht.1) (eI hs.2.1 ht.2.1)

theorem DI (k:Int)(s t:Sp)(w:World)(h:bj s t≠0):
  Calls pG 120 #[.int .i64 k,sv s,sv t] w λe w'=>e=Rt (Tu #[sv bn,.int .i64 (bj s t)])/\Below w.heap.size w w':=by
 obtain⟨n,lo,hi⟩:=s;obtain⟨n',lo',hi'⟩:=t;go_enter Tryz.func120,Tryz.ntmps120;go_wp2_with (go_at_call 138;fail);refine(dg ⟨n,lo,hi⟩ ⟨n',lo',hi'⟩ _).mono ?_;rintro e w1 ⟨rfl,hb1⟩;obtain⟨⟨c0,c1,c2⟩,⟨d0,d1,d2⟩,⟨r0,r1,r2⟩,⟨f0,f1,f2⟩,z0,z1,z2⟩:=dt (s:=⟨n,lo,hi⟩) (t:=⟨n',lo',hi'⟩) (r:=bn) hb1 (by simp);have H1:Below w.heap.size w w1:=(dp ⟨n,lo,hi⟩ ⟨n',lo',hi'⟩ bn w).trans (hb1.mono (by simp;omega));simp only[bn] at r0 r1 r2;clear hb1;go_wp2;refine bodyPost_ret (v:=Tu #[sv bn,.int .i64 (bj ⟨n,lo,hi⟩ ⟨n',lo',hi'⟩)]) (by simp[results,Tryz.results120,go_sem,r0,r1,r2,bn]) rfl ⟨rfl,?_⟩;exact((H1.setCell (by simp;omega) _).setCell (by simp;omega) _).setCell (by simp;omega) _

theorem Dk (k:Int)(s t:Sp)(w:World)(h:bj s t=0)(h5:(k==5)=false)(h6:(k==6)=false)(h7:(k==7)=false):
  Calls pG 120 #[.int .i64 k,sv s,sv t] w λe w'=>e=Rt (Tu #[sv bn,.int .i64 6])/\Below w.heap.size w w':=by
 obtain⟨n,lo,hi⟩:=s;obtain⟨n',lo',hi'⟩:=t;go_enter Tryz.func120,Tryz.ntmps120;go_wp2_with (go_at_call 138;fail);refine(dg ⟨n,lo,hi⟩ ⟨n',lo',hi'⟩ _).mono ?_;rintro e w1 ⟨rfl,hb1⟩;obtain⟨⟨c0,c1,c2⟩,⟨d0,d1,d2⟩,⟨r0,r1,r2⟩,⟨f0,f1,f2⟩,z0,z1,z2⟩:=dt (s:=⟨n,lo,hi⟩) (t:=⟨n',lo',hi'⟩) (r:=bn) hb1 (by simp);have H1:Below w.heap.size w w1:=(dp ⟨n,lo,hi⟩ ⟨n',lo',hi'⟩ bn w).trans (hb1.mono (by simp;omega));simp only[bn] at r0 r1 r2;clear hb1;rw[h];go_wp2;refine bodyPost_ret (v:=Tu #[sv bn,.int .i64 6]) (by simp[results,Tryz.results120,go_sem,r0,r1,r2,bn]) rfl ⟨rfl,?_⟩;exact((H1.setCell (by simp;omega) _).setCell (by simp;omega) _).setCell (by simp;omega) _

theorem kf {p:Prop}(h:p:=by
 clear hs ht;obtain⟨n,lo,hi⟩:=s;obtain⟨n',lo',hi'⟩:=t;obtain⟨rn,rlo,rhi⟩:=r;go_enter Tryz.func120,Tryz.ntmps120;go_wp2_with (go_at_call 138;fail);refine(dg ⟨n,lo,hi⟩ ⟨n',lo',hi'⟩ _).mono ?_;rintro e w1 ⟨rfl,hb1⟩;obtain⟨⟨c0,c1,c2⟩,⟨d0,d1,d2⟩,⟨r0,r1,r2⟩,⟨f0,f1,f2⟩,z0,z1,z2⟩:=dt (s:=⟨n,lo,hi⟩) (t:=⟨n',lo',hi'⟩) (r:=bn) hb1 (by simp);have H1:Below w.heap.size w w1:=(dp ⟨n,lo,hi⟩ ⟨n',lo',hi'⟩ bn w).trans (hb1.mono (by simp;omega));simp only[bn] at r0 r1 r2;clear hb1;rw[h];go_wp2_with (go_at_call 145;fail);refine(hR _).mono ?_;rintro e w2 ⟨rfl,hb2⟩;have g0:=r0;have g1:=r1;have g2:=r2;have k0:=f0;have k1:=f1;have k2:=f2
 rw[<-hb2.cell z2] at g0 g1 g2;rw[<-hb2.frozen z2] at k0 k1 k2;have H2:Below w.heap.size w w2:=H1.trans (hb2.mono (by omega));clear r0 r1 r2 f0 f1 f2 hb2 c0 c1 c2 d0 d1 d2 hR;go_wp2;refine bodyPost_ret (v:=.tuple #[sv ⟨rn,rlo,rhi⟩,.int .i64 0]) (by simp[results,Tryz.results120,go_sem,g0,g1,g2]) rfl ⟨rfl,?_⟩;exact((H2.setCell (by simp;omega) _).setCell (by simp;omega) _).setCell (by simp;omega) _):p:=h
theorem DF (s t:Sp)(w:World)(h:bj s t=0):
  Calls pG 120 #[.int .i64 5,sv s,sv t] w λe w'=>e=Rt (Tu #[sv (bO 5 s t),.int .i64 0])/\Below w.heap.size w w':=by
 obtain⟨hs,ht⟩:=ckSps_ok.1 h;have hR:=λw=>Di s t w hs ht;generalize bO 5 s t=r at hR |-;exact kf

theorem DV (s t:Sp)(w:World)(h:bj s t=0):
  Calls pG 120 #[.int .i64 6,sv s,sv t] w λe w'=>e=Rt (Tu #[sv (bO 6 s t),.int .i64 0])/\Below w.heap.size w w':=by
 obtain⟨hs,ht⟩:=ckSps_ok.1 h;have hR:=λw=>Ds s t w hs ht;generalize bO 6 s t=r at hR |-;exact kf

theorem Ea (s t:Sp)(w:World)(h:bj s t=0):
  Calls pG 120 #[.int .i64 7,sv s,sv t] w λe w'=>e=Rt (Tu #[sv (bO 7 s t),.int .i64 0])/\Below w.heap.size w w':=by
 obtain⟨hs,ht⟩:=ckSps_ok.1 h;have hR:=λw=>CU s t w hs ht;generalize bO 7 s t=r at hR |-;exact kf

def ed (k:Int)(s t:Sp):Int:=if bj s t=0 then(if k=5\/k=6\/k=7 then 0 else 6) else bj s t

theorem sV (k:Int)(s t:Sp)(w:World):
  Calls pG 120 #[.int .i64 k,sv s,sv t] w λe w'=>e=Rt (Tu #[sv (dy (ed k s t) (bO k s t)),.int .i64 (ed k s t)])/\Below w.heap.size w w':=by
 by_cases h:bj s t=0
 ·by_cases hk:k=5\/k=6\/k=7
  ·have e0:ed k s t=0:=by unfold ed;rw[if_pos h,if_pos hk]
   rw[e0];rcases hk with rfl|rfl|rfl
   ·exact DF s t w h
   ·exact DV s t w h
   ·exact Ea s t w h
  ·have e0:ed k s t=6:=by unfold ed;rw[if_pos h,if_neg hk]
   rw[e0];exact Dk k s t w h (by simp;omega) (by simp;omega) (by simp;omega)
 ·have e0:ed k s t=bj s t:=by unfold ed;rw[if_neg h]
  rw[e0];unfold dy;rw[if_neg h];exact DI k s t w h
theorem AV (k:Int)(s t:Sp)(w:World)(h:(s.n||t.n)=true):
  Calls pG 63 #[.int .i64 k,sv s,sv t] w λe w'=>e=Rt (sv ⟨true,0,0⟩)/\Below w.heap.size w w':=by
 obtain⟨n,lo,hi⟩:=s;obtain⟨n',lo',hi'⟩:=t;cases n with
 |true=>
  go_enter Tryz.func63,Tryz.ntmps63;go_wp2
  go_returns
  exact⟨rfl,by go_grown⟩
 |false=>
  cases n' with
  |true=>
   go_enter Tryz.func63,Tryz.ntmps63;go_wp2
   go_returns
   exact⟨rfl,by go_grown⟩
  |false=>exact absurd h (by simp)

theorem fK {w:World}{B:Nat}{e:TypeId}{z:Nat}{v:Value}{n:Nat}{xs:List Value}(h:w.ownsRow B e z v n xs){k:Nat}(hk:v.ownBlock=sO k):B<=k:=by
 rcases h.2 with⟨rfl,_⟩|⟨g,cap,cur,rfl,hb,hg,_⟩
 ·cases hk
 ·cases hk
  exact hb

theorem Tryz.info_intS:(Tryz.prog.info? 3).map (λi=>(i.zero,i.size,i.bytes))=sO (sO (.int .i64 0),1,8):=by kernel_rfl

theorem ua {P:Program}{t:TypeId}{z:Option Value}{a b:Nat}(h:(P.info? t).map (λi=>(i.zero,i.size,i.bytes))=sO (z,a,b)):∃i,P.info? t=sO i/\i.zero=z/\i.size=a/\i.bytes=b:=by
 cases hi:P.info? t with
 |none=>rw[hi] at h;cases h
 |some i=>
  rw[hi] at h;simp only[Option.map_some,Option.some.injEq,Prod.mk.injEq] at h;exact⟨i,rfl,h.1,h.2.1,h.2.2⟩

theorem Bl (a b c d:Int):cT a b c d<=cU a b c d:=by unfold cT cU;omega
theorem DA {a b c d:Int}(h:bK ⟨false,cT a b c d,cU a b c d⟩=0):d9 a b c d=⟨false,cT a b c d,cU a b c d⟩:=by
 have:=ckSp_ok.1 h;exact uQ this.1 this.2.1
theorem u7 {a b c d:Int}(h:bK ⟨false,cT a b c d,cU a b c d⟩≠0):d9 a b c d=⟨false,-2147483648,2147483647⟩:=by
 unfold d9;refine if_neg λhc=>h (ckSp_ok.2 ⟨hc.1,hc.2,(λhn=>by cases hn),Bl a b c d⟩)

theorem kw (w:World)(v:Value)(t:TypeId):∀j u,[v][j]? =sO u->(w.alloc (Cc #[v] t)).drew.cell? ((⟨w.heap.size,0,nO⟩:Addr).add j)=sO u:=by
 intro j u hu;have hadd:(⟨w.heap.size,0,nO⟩:Addr).add j=⟨w.heap.size,j,nO⟩:=by unfold Addr.add;split<;>simp_all
 rw[hadd];have:(w.alloc (Cc #[v] t)).drew.cell? ⟨w.heap.size,j,nO⟩=#[v][j]? :=by simp[go_sem]
 rw[this];simpa using hu
theorem oF {p:Prop}(h:p:=by
 go_wp2;go_loopw [7,11] (λl k wr=>∃J:Nat,J<=2/\k=.int .i64 J/\wr.ownsRow W.heap.size 3 1 l (0+J) (([a,b,c,d].take (0+J)).map (.int .i64))/\Below W.heap.size W wr) (λ_ k _=>2 - (intOf k).toNat)
 case atStart=>exact⟨0,by omega,rfl,hown,hbr⟩
 case round=>
  obtain⟨J,hJ,rfl,hown1,hbr1⟩:=hrel;clear hown hbr;rcases (by omega:J=0\/J=1\/J=2) with rfl|rfl|rfl
  ·go_wp2
   go_region_held_law (λw'=>w'.cell? ⟨ga,0,none⟩=some (.int .i64 lo)/\w'.cell? ⟨gb,0,none⟩=some (.int .i64 lo'))
    (first|exact K00 _ hbr1.drew|exact K00 _ (hbr1.alloc hbr1.size _).drew|exact K00 _ HBn)
    (first
     |(refine step_append_lies _ rfl _ _ 59 rfl W.heap.size 3 ti (.int .i64 0) 1 8 Tryz.underlying59 hi0 hz0 hz1 hz2 rfl (by decide) _ _ _ rfl ((hown1.alloc _).drew) ⟨wr.heap.size,0,none⟩ 1 1 [.int .i64 a] rfl rfl (kw _ _ _) (λx hx=>by simp at hx;subst hx;rfl) (by decide) (by unfold maxLen;omega) (by omega) (by simp;have:=hbr1.size;omega) _ rfl ?_;intro g1 cap1 wn hownn hgrown hatn hltn;have HBn:Below W.heap.size W wn:=(hbr1.alloc hbr1.size _).drew.grown hgrown (by simp;have:=hbr1.size;omega) (λj hj=>fK hown1 hj)))
   go_wp2;go_roundw
   case rel=>exact⟨1,by omega,rfl,hownn,HBn⟩
   case measure=>simp[intOf]
  ·go_wp2
   go_region_held_law (λw'=>w'.cell? ⟨ga,0,none⟩=some (.int .i64 lo)/\w'.cell? ⟨gb,1,none⟩=some (.int .i64 hi'))
    (first|exact K01 _ hbr1.drew|exact K01 _ (hbr1.alloc hbr1.size _).drew|exact K01 _ HBn)
    (first
     |(refine step_append_lies _ rfl _ _ 59 rfl W.heap.size 3 ti (.int .i64 0) 1 8 Tryz.underlying59 hi0 hz0 hz1 hz2 rfl (by decide) _ _ _ rfl ((hown1.alloc _).drew) ⟨wr.heap.size,0,none⟩ 1 1 [.int .i64 b] rfl rfl (kw _ _ _) (λx hx=>by simp at hx;subst hx;rfl) (by decide) (by unfold maxLen;omega) (by omega) (by simp;have:=hbr1.size;omega) _ rfl ?_;intro g1 cap1 wn hownn hgrown hatn hltn;have HBn:Below W.heap.size W wn:=(hbr1.alloc hbr1.size _).drew.grown hgrown (by simp;have:=hbr1.size;omega) (λj hj=>fK hown1 hj)))
   go_wp2;go_roundw
   case rel=>exact⟨2,by omega,rfl,hownn,HBn⟩
   case measure=>simp[intOf]
  ·go_wp2
   go_roundw
   case rel=>exact⟨1,by omega,rfl,hown1,hbr1⟩
   case measure=>simp[intOf]):p:=h
theorem pu {p:Prop}(h:p:=by
 go_wp2;go_loopw [7,11] (λl k wr=>∃J:Nat,J<=2/\k=.int .i64 J/\wr.ownsRow W.heap.size 3 1 l (2+J) (([a,b,c,d].take (2+J)).map (.int .i64))/\Below W.heap.size W wr) (λ_ k _=>2 - (intOf k).toNat)
 case atStart=>exact⟨0,by omega,rfl,hown,hbr⟩
 case round=>
  obtain⟨J,hJ,rfl,hown1,hbr1⟩:=hrel;clear hown hbr;rcases (by omega:J=0\/J=1\/J=2) with rfl|rfl|rfl
  ·go_wp2
   go_region_held_law (λw'=>w'.cell? ⟨ga,1,none⟩=some (.int .i64 hi)/\w'.cell? ⟨gb,0,none⟩=some (.int .i64 lo'))
    (first|exact K10 _ hbr1.drew|exact K10 _ (hbr1.alloc hbr1.size _).drew|exact K10 _ HBn)
    (first
     |(refine step_append_lies _ rfl _ _ 59 rfl W.heap.size 3 ti (.int .i64 0) 1 8 Tryz.underlying59 hi0 hz0 hz1 hz2 rfl (by decide) _ _ _ rfl ((hown1.alloc _).drew) ⟨wr.heap.size,0,none⟩ 1 1 [.int .i64 c] rfl rfl (kw _ _ _) (λx hx=>by simp at hx;subst hx;rfl) (by decide) (by unfold maxLen;omega) (by omega) (by simp;have:=hbr1.size;omega) _ rfl ?_;intro g1 cap1 wn hownn hgrown hatn hltn;have HBn:Below W.heap.size W wn:=(hbr1.alloc hbr1.size _).drew.grown hgrown (by simp;have:=hbr1.size;omega) (λj hj=>fK hown1 hj)))
   go_wp2;go_roundw
   case rel=>exact⟨1,by omega,rfl,hownn,HBn⟩
   case measure=>simp[intOf]
  ·go_wp2
   go_region_held_law (λw'=>w'.cell? ⟨ga,1,none⟩=some (.int .i64 hi)/\w'.cell? ⟨gb,1,none⟩=some (.int .i64 hi'))
    (first|exact K11 _ hbr1.drew|exact K11 _ (hbr1.alloc hbr1.size _).drew|exact K11 _ HBn)
    (first
     |(refine step_append_lies _ rfl _ _ 59 rfl W.heap.size 3 ti (.int .i64 0) 1 8 Tryz.underlying59 hi0 hz0 hz1 hz2 rfl (by decide) _ _ _ rfl ((hown1.alloc _).drew) ⟨wr.heap.size,0,none⟩ 1 1 [.int .i64 d] rfl rfl (kw _ _ _) (λx hx=>by simp at hx;subst hx;rfl) (by decide) (by unfold maxLen;omega) (by omega) (by simp;have:=hbr1.size;omega) _ rfl ?_;intro g1 cap1 wn hownn hgrown hatn hltn;have HBn:Below W.heap.size W wn:=(hbr1.alloc hbr1.size _).drew.grown hgrown (by simp;have:=hbr1.size;omega) (λj hj=>fK hown1 hj)))
   go_wp2;go_roundw
   case rel=>exact⟨2,by omega,rfl,hownn,HBn⟩
   case measure=>simp[intOf]
  ·go_wp2
   go_roundw
   case rel=>exact⟨2,by omega,rfl,hown1,hbr1⟩
   case measure=>simp[intOf]):p:=h
theorem nQ {p:Prop}(h:p:=by
 have hH:=DA hc;generalize cT a b c d=mn at *;generalize cU a b c d=mx at *;go_wp2;refine bodyPost_ret (v:=sv ⟨false,mn,mx⟩) (by simp[results,Tryz.results63,go_sem,r0,r1,r2]) rfl ⟨by rw[hH],?_⟩;exact((H5.setCell (by simp;omega) _).setCell (by simp;omega) _).setCell (by simp;omega) _):p:=h
theorem oM {p:Prop}(h:p:=by
 intro wx hb;rw[hb.cell (by simp),hb.cell (by simp),hb.cell (by simp),hb.frozen (by simp),hb.frozen (by simp),hb.frozen (by simp)];simp[go_sem]):p:=h
theorem kv {p:Prop}(h:p:=by
 obtain⟨ti,hi0,hz0,hz1,hz2⟩:=ua Tryz.info_intS;go_enter Tryz.func63,Tryz.ntmps63;go_wp2
 go_region_held3 (λw'=>w'.cell? ⟨w.heap.size,1,none⟩=some (.int .i64 lo)/\w'.cell? ⟨w.heap.size,2,none⟩=some (.int .i64 hi)/\w'.cell? ⟨w.heap.size+1,1,none⟩=some (.int .i64 lo')/\w'.cell? ⟨w.heap.size+1,2,none⟩=some (.int .i64 hi')) (simp[go_sem])
  (fail)
 ·have HB:Below w.heap.size w ((((((w.alloc (.cells #[.bool false,.int .i64 lo,.int .i64 hi] 58)).alloc (.cells #[.bool false,.int .i64 lo',.int .i64 hi'] 58)).alloc (.cells #[.bool false,.int .i64 0,.int .i64 0] 58)).alloc (.cells #[.int .i64 lo,.int .i64 hi] 3)).alloc (.cells #[.int .i64 lo',.int .i64 hi'] 3)).drew):=by go_grown
  have f0:((((((w.alloc (.cells #[.bool false,.int .i64 lo,.int .i64 hi] 58)).alloc (.cells #[.bool false,.int .i64 lo',.int .i64 hi'] 58)).alloc (.cells #[.bool false,.int .i64 0,.int .i64 0] 58)).alloc (.cells #[.int .i64 lo,.int .i64 hi] 3)).alloc (.cells #[.int .i64 lo',.int .i64 hi'] 3)).drew).cell? ⟨w.heap.size+1+1+1,0,none⟩=some (.int .i64 lo):=by simp[go_sem]
  have f1:((((((w.alloc (.cells #[.bool false,.int .i64 lo,.int .i64 hi] 58)).alloc (.cells #[.bool false,.int .i64 lo',.int .i64 hi'] 58)).alloc (.cells #[.bool false,.int .i64 0,.int .i64 0] 58)).alloc (.cells #[.int .i64 lo,.int .i64 hi] 3)).alloc (.cells #[.int .i64 lo',.int .i64 hi'] 3)).drew).cell? ⟨w.heap.size+1+1+1,1,none⟩=some (.int .i64 hi):=by simp[go_sem]
  have f2:((((((w.alloc (.cells #[.bool false,.int .i64 lo,.int .i64 hi] 58)).alloc (.cells #[.bool false,.int .i64 lo',.int .i64 hi'] 58)).alloc (.cells #[.bool false,.int .i64 0,.int .i64 0] 58)).alloc (.cells #[.int .i64 lo,.int .i64 hi] 3)).alloc (.cells #[.int .i64 lo',.int .i64 hi'] 3)).drew).cell? ⟨w.heap.size+1+1+1+1,0,none⟩=some (.int .i64 lo'):=by simp[go_sem]
  have f3:((((((w.alloc (.cells #[.bool false,.int .i64 lo,.int .i64 hi] 58)).alloc (.cells #[.bool false,.int .i64 lo',.int .i64 hi'] 58)).alloc (.cells #[.bool false,.int .i64 0,.int .i64 0] 58)).alloc (.cells #[.int .i64 lo,.int .i64 hi] 3)).alloc (.cells #[.int .i64 lo',.int .i64 hi'] 3)).drew).cell? ⟨w.heap.size+1+1+1+1,1,none⟩=some (.int .i64 hi'):=by simp[go_sem]
  have zz:((((((w.alloc (.cells #[.bool false,.int .i64 lo,.int .i64 hi] 58)).alloc (.cells #[.bool false,.int .i64 lo',.int .i64 hi'] 58)).alloc (.cells #[.bool false,.int .i64 0,.int .i64 0] 58)).alloc (.cells #[.int .i64 lo,.int .i64 hi] 3)).alloc (.cells #[.int .i64 lo',.int .i64 hi'] 3)).drew).heap.size=w.heap.size+5:=by simp
  have za:w.heap.size+1+1+1 < ((((((w.alloc (.cells #[.bool false,.int .i64 lo,.int .i64 hi] 58)).alloc (.cells #[.bool false,.int .i64 lo',.int .i64 hi'] 58)).alloc (.cells #[.bool false,.int .i64 0,.int .i64 0] 58)).alloc (.cells #[.int .i64 lo,.int .i64 hi] 3)).alloc (.cells #[.int .i64 lo',.int .i64 hi'] 3)).drew).heap.size:=by simp
  have zb:w.heap.size+1+1+1+1 < ((((((w.alloc (.cells #[.bool false,.int .i64 lo,.int .i64 hi] 58)).alloc (.cells #[.bool false,.int .i64 lo',.int .i64 hi'] 58)).alloc (.cells #[.bool false,.int .i64 0,.int .i64 0] 58)).alloc (.cells #[.int .i64 lo,.int .i64 hi] 3)).alloc (.cells #[.int .i64 lo',.int .i64 hi'] 3)).drew).heap.size:=by simp
  have KR:∀wx,Below ((((((w.alloc (.cells #[.bool false,.int .i64 lo,.int .i64 hi] 58)).alloc (.cells #[.bool false,.int .i64 lo',.int .i64 hi'] 58)).alloc (.cells #[.bool false,.int .i64 0,.int .i64 0] 58)).alloc (.cells #[.int .i64 lo,.int .i64 hi] 3)).alloc (.cells #[.int .i64 lo',.int .i64 hi'] 3)).drew).heap.size ((((((w.alloc (.cells #[.bool false,.int .i64 lo,.int .i64 hi] 58)).alloc (.cells #[.bool false,.int .i64 lo',.int .i64 hi'] 58)).alloc (.cells #[.bool false,.int .i64 0,.int .i64 0] 58)).alloc (.cells #[.int .i64 lo,.int .i64 hi] 3)).alloc (.cells #[.int .i64 lo',.int .i64 hi'] 3)).drew) wx->wx.cell? ⟨w.heap.size+1+1,0,none⟩=some (.bool false)/\wx.cell? ⟨w.heap.size+1+1,1,none⟩=some (.int .i64 0)/\wx.cell? ⟨w.heap.size+1+1,2,none⟩=some (.int .i64 0)/\wx.frozen? ⟨w.heap.size+1+1,0,none⟩=false/\wx.frozen? ⟨w.heap.size+1+1,1,none⟩=false/\wx.frozen? ⟨w.heap.size+1+1,2,none⟩=false:=by
   exact oM
  generalize ((((((w.alloc (.cells #[.bool false,.int .i64 lo,.int .i64 hi] 58)).alloc (.cells #[.bool false,.int .i64 lo',.int .i64 hi'] 58)).alloc (.cells #[.bool false,.int .i64 0,.int .i64 0] 58)).alloc (.cells #[.int .i64 lo,.int .i64 hi] 3)).alloc (.cells #[.int .i64 lo',.int .i64 hi'] 3)).drew)=W at HB f0 f1 f2 f3 zz za zb KR |-;generalize w.heap.size+1+1+1+1=gb at f2 f3 zb |-;generalize w.heap.size+1+1+1=ga at f0 f1 za |-;have K:∀wx,Below W.heap.size W wx->wx.cell? ⟨ga,0,none⟩=some (.int .i64 lo)/\wx.cell? ⟨ga,1,none⟩=some (.int .i64 hi)/\wx.cell? ⟨gb,0,none⟩=some (.int .i64 lo')/\wx.cell? ⟨gb,1,none⟩=some (.int .i64 hi'):=by
   intro wx hb;rw[hb.cell za,hb.cell za,hb.cell zb,hb.cell zb];exact⟨f0,f1,f2,f3⟩
  have K00:=λwx hb=>(show _/\_ from⟨(K wx hb).1,(K wx hb).2.2.1⟩);have K01:=λwx hb=>(show _/\_ from⟨(K wx hb).1,(K wx hb).2.2.2⟩);have K10:=λwx hb=>(show _/\_ from⟨(K wx hb).2.1,(K wx hb).2.2.1⟩);have K11:=λwx hb=>(show _/\_ from⟨(K wx hb).2.1,(K wx hb).2.2.2⟩);clear K f0 f1 f2 f3;go_wp2;go_loopw [7,10] (λl i wr=>∃I:Nat,I<=2/\i=.int .i64 I/\wr.ownsRow W.heap.size 3 1 l (2 * I) (([a,b,c,d].take (2 * I)).map (.int .i64))/\Below W.heap.size W wr) (λ_ i _=>2 - (intOf i).toNat)
  case atStart=>exact⟨0,by omega,rfl,⟨by simp,.inl ⟨rfl,by simp⟩⟩,Below.refl _ _⟩
  case round=>
   obtain⟨I,hI,rfl,hown,hbr⟩:=hrel;rcases (by omega:I=0\/I=1\/I=2) with rfl|rfl|rfl
   ·rw[show ((0:Nat):Int)=0 from rfl]
    exact oF
   ·rw[show ((1:Nat):Int)=1 from rfl]
    exact pu
   ·clear K00 K01 K10 K11
    rw[show 2 * 2=4 from rfl] at hown;obtain⟨g,cap,rfl,hg1,hg2⟩:=hown.form (by omega);have q0:=hown.cellAt 0 (by omega);have q1:=hown.cellAt 1 (by omega);have q2:=hown.cellAt 2 (by omega);have q3:=hown.cellAt 3 (by omega);simp only[List.take,List.map,List.getElem?_cons_zero,List.getElem?_cons_succ] at q0 q1 q2 q3;clear hown;clear h1 h2 h3 h4;go_wp2_with (first
     |(go_at_call 94;refine(yT _ _ a b c d _ q0 q1 q2 q3).mono ?_;rintro e w' ⟨rfl,rfl⟩)
     |(go_at_call 95;refine(Cr _ _ a b c d _ q0 q1 q2 q3).mono ?_;rintro e w' ⟨rfl,rfl⟩)
     |(go_at_call 93;fail))
    refine(ge ⟨false,cT a b c d,cU a b c d⟩ _).mono ?_;rintro e w5 ⟨rfl,hb5⟩;have HB5:Below W.heap.size W w5:=(hbr.alloc hbr.size _).trans (hb5.mono (by simp;have:=hbr.size;omega))
    have H5:Below w.heap.size w w5:=HB.trans (HB5.mono (by omega));obtain⟨r0,r1,r2,k0,k1,k2⟩:=KR w5 HB5;obtain⟨o0,o1,o2⟩:=nm hb5 (by simp);have y1:w'.heap.size < w5.heap.size:=by have:=hb5.size;simp at this;omega
    have y2:w.heap.size+1+1 < w'.heap.size:=by have:=hbr.size;omega
    clear KR hb5 HB5 hbr HB q0 q1 q2 q3;by_cases hc:bK ⟨false,cT a b c d,cU a b c d⟩=0
    ·rw[hc]
     exact nQ
    ·have hH:=u7 hc
     generalize bK ⟨false,cT a b c d,cU a b c d⟩=ck at *;generalize cT a b c d=mn at *;generalize cU a b c d=mx at *;go_wp2;refine bodyPost_ret (v:=sv ⟨false,-2147483648,2147483647⟩) (by simp[results,Tryz.results63,go_sem,r0,r1,r2]) rfl ⟨by rw[hH],?_⟩;exact((H5.setCell (by simp;omega) _).setCell (by simp;omega) _).setCell (by simp;omega) _
 ·have HB:Below w.heap.size w ((((((w.alloc (.cells #[.bool false,.int .i64 lo,.int .i64 hi] 58)).alloc (.cells #[.bool false,.int .i64 lo',.int .i64 hi'] 58)).alloc (.cells #[.bool false,.int .i64 0,.int .i64 0] 58)).alloc (.cells #[.int .i64 lo',.int .i64 hi'] 3)).alloc (.cells #[.int .i64 lo,.int .i64 hi] 3)).drew):=by go_grown
  have f0:((((((w.alloc (.cells #[.bool false,.int .i64 lo,.int .i64 hi] 58)).alloc (.cells #[.bool false,.int .i64 lo',.int .i64 hi'] 58)).alloc (.cells #[.bool false,.int .i64 0,.int .i64 0] 58)).alloc (.cells #[.int .i64 lo',.int .i64 hi'] 3)).alloc (.cells #[.int .i64 lo,.int .i64 hi] 3)).drew).cell? ⟨w.heap.size+1+1+1+1,0,none⟩=some (.int .i64 lo):=by simp[go_sem]
  have f1:((((((w.alloc (.cells #[.bool false,.int .i64 lo,.int .i64 hi] 58)).alloc (.cells #[.bool false,.int .i64 lo',.int .i64 hi'] 58)).alloc (.cells #[.bool false,.int .i64 0,.int .i64 0] 58)).alloc (.cells #[.int .i64 lo',.int .i64 hi'] 3)).alloc (.cells #[.int .i64 lo,.int .i64 hi] 3)).drew).cell? ⟨w.heap.size+1+1+1+1,1,none⟩=some (.int .i64 hi):=by simp[go_sem]
  have f2:((((((w.alloc (.cells #[.bool false,.int .i64 lo,.int .i64 hi] 58)).alloc (.cells #[.bool false,.int .i64 lo',.int .i64 hi'] 58)).alloc (.cells #[.bool false,.int .i64 0,.int .i64 0] 58)).alloc (.cells #[.int .i64 lo',.int .i64 hi'] 3)).alloc (.cells #[.int .i64 lo,.int .i64 hi] 3)).drew).cell? ⟨w.heap.size+1+1+1,0,none⟩=some (.int .i64 lo'):=by simp[go_sem]
  have f3:((((((w.alloc (.cells #[.bool false,.int .i64 lo,.int .i64 hi] 58)).alloc (.cells #[.bool false,.int .i64 lo',.int .i64 hi'] 58)).alloc (.cells #[.bool false,.int .i64 0,.int .i64 0] 58)).alloc (.cells #[.int .i64 lo',.int .i64 hi'] 3)).alloc (.cells #[.int .i64 lo,.int .i64 hi] 3)).drew).cell? ⟨w.heap.size+1+1+1,1,none⟩=some (.int .i64 hi'):=by simp[go_sem]
  have zz:((((((w.alloc (.cells #[.bool false,.int .i64 lo,.int .i64 hi] 58)).alloc (.cells #[.bool false,.int .i64 lo',.int .i64 hi'] 58)).alloc (.cells #[.bool false,.int .i64 0,.int .i64 0] 58)).alloc (.cells #[.int .i64 lo',.int .i64 hi'] 3)).alloc (.cells #[.int .i64 lo,.int .i64 hi] 3)).drew).heap.size=w.heap.size+5:=by simp
  have za:w.heap.size+1+1+1+1 < ((((((w.alloc (.cells #[.bool false,.int .i64 lo,.int .i64 hi] 58)).alloc (.cells #[.bool false,.int .i64 lo',.int .i64 hi'] 58)).alloc (.cells #[.bool false,.int .i64 0,.int .i64 0] 58)).alloc (.cells #[.int .i64 lo',.int .i64 hi'] 3)).alloc (.cells #[.int .i64 lo,.int .i64 hi] 3)).drew).heap.size:=by simp
  have zb:w.heap.size+1+1+1 < ((((((w.alloc (.cells #[.bool false,.int .i64 lo,.int .i64 hi] 58)).alloc (.cells #[.bool false,.int .i64 lo',.int .i64 hi'] 58)).alloc (.cells #[.bool false,.int .i64 0,.int .i64 0] 58)).alloc (.cells #[.int .i64 lo',.int .i64 hi'] 3)).alloc (.cells #[.int .i64 lo,.int .i64 hi] 3)).drew).heap.size:=by simp
  have KR:∀wx,Below ((((((w.alloc (.cells #[.bool false,.int .i64 lo,.int .i64 hi] 58)).alloc (.cells #[.bool false,.int .i64 lo',.int .i64 hi'] 58)).alloc (.cells #[.bool false,.int .i64 0,.int .i64 0] 58)).alloc (.cells #[.int .i64 lo',.int .i64 hi'] 3)).alloc (.cells #[.int .i64 lo,.int .i64 hi] 3)).drew).heap.size ((((((w.alloc (.cells #[.bool false,.int .i64 lo,.int .i64 hi] 58)).alloc (.cells #[.bool false,.int .i64 lo',.int .i64 hi'] 58)).alloc (.cells #[.bool false,.int .i64 0,.int .i64 0] 58)).alloc (.cells #[.int .i64 lo',.int .i64 hi'] 3)).alloc (.cells #[.int .i64 lo,.int .i64 hi] 3)).drew) wx->wx.cell? ⟨w.heap.size+1+1,0,none⟩=some (.bool false)/\wx.cell? ⟨w.heap.size+1+1,1,none⟩=some (.int .i64 0)/\wx.cell? ⟨w.heap.size+1+1,2,none⟩=some (.int .i64 0)/\wx.frozen? ⟨w.heap.size+1+1,0,none⟩=false/\wx.frozen? ⟨w.heap.size+1+1,1,none⟩=false/\wx.frozen? ⟨w.heap.size+1+1,2,none⟩=false:=by
   exact oM
  generalize ((((((w.alloc (.cells #[.bool false,.int .i64 lo,.int .i64 hi] 58)).alloc (.cells #[.bool false,.int .i64 lo',.int .i64 hi'] 58)).alloc (.cells #[.bool false,.int .i64 0,.int .i64 0] 58)).alloc (.cells #[.int .i64 lo',.int .i64 hi'] 3)).alloc (.cells #[.int .i64 lo,.int .i64 hi] 3)).drew)=W at HB f0 f1 f2 f3 zz za zb KR |-;generalize w.heap.size+1+1+1+1=ga at f0 f1 za |-;generalize w.heap.size+1+1+1=gb at f2 f3 zb |-;have K:∀wx,Below W.heap.size W wx->wx.cell? ⟨ga,0,none⟩=some (.int .i64 lo)/\wx.cell? ⟨ga,1,none⟩=some (.int .i64 hi)/\wx.cell? ⟨gb,0,none⟩=some (.int .i64 lo')/\wx.cell? ⟨gb,1,none⟩=some (.int .i64 hi'):=by
   intro wx hb;rw[hb.cell za,hb.cell za,hb.cell zb,hb.cell zb];exact⟨f0,f1,f2,f3⟩
  have K00:=λwx hb=>(show _/\_ from⟨(K wx hb).1,(K wx hb).2.2.1⟩);have K01:=λwx hb=>(show _/\_ from⟨(K wx hb).1,(K wx hb).2.2.2⟩);have K10:=λwx hb=>(show _/\_ from⟨(K wx hb).2.1,(K wx hb).2.2.1⟩);have K11:=λwx hb=>(show _/\_ from⟨(K wx hb).2.1,(K wx hb).2.2.2⟩);clear K f0 f1 f2 f3;go_wp2;go_loopw [7,10] (λl i wr=>∃I:Nat,I<=2/\i=.int .i64 I/\wr.ownsRow W.heap.size 3 1 l (2 * I) (([a,b,c,d].take (2 * I)).map (.int .i64))/\Below W.heap.size W wr) (λ_ i _=>2 - (intOf i).toNat)
  case atStart=>exact⟨0,by omega,rfl,⟨by simp,.inl ⟨rfl,by simp⟩⟩,Below.refl _ _⟩
  case round=>
   obtain⟨I,hI,rfl,hown,hbr⟩:=hrel;rcases (by omega:I=0\/I=1\/I=2) with rfl|rfl|rfl
   ·rw[show ((0:Nat):Int)=0 from rfl]
    exact oF
   ·rw[show ((1:Nat):Int)=1 from rfl]
    exact pu
   ·clear K00 K01 K10 K11
    rw[show 2 * 2=4 from rfl] at hown;obtain⟨g,cap,rfl,hg1,hg2⟩:=hown.form (by omega);have q0:=hown.cellAt 0 (by omega);have q1:=hown.cellAt 1 (by omega);have q2:=hown.cellAt 2 (by omega);have q3:=hown.cellAt 3 (by omega);simp only[List.take,List.map,List.getElem?_cons_zero,List.getElem?_cons_succ] at q0 q1 q2 q3;clear hown;clear h1 h2 h3 h4;go_wp2_with (first
     |(go_at_call 94;refine(yT _ _ a b c d _ q0 q1 q2 q3).mono ?_;rintro e w' ⟨rfl,rfl⟩)
     |(go_at_call 95;refine(Cr _ _ a b c d _ q0 q1 q2 q3).mono ?_;rintro e w' ⟨rfl,rfl⟩)
     |(go_at_call 93;fail))
    refine(ge ⟨false,cT a b c d,cU a b c d⟩ _).mono ?_;rintro e w5 ⟨rfl,hb5⟩;have HB5:Below W.heap.size W w5:=(hbr.alloc hbr.size _).trans (hb5.mono (by simp;have:=hbr.size;omega))
    have H5:Below w.heap.size w w5:=HB.trans (HB5.mono (by omega));obtain⟨r0,r1,r2,k0,k1,k2⟩:=KR w5 HB5;obtain⟨o0,o1,o2⟩:=nm hb5 (by simp);have y1:w'.heap.size < w5.heap.size:=by have:=hb5.size;simp at this;omega
    have y2:w.heap.size+1+1 < w'.heap.size:=by have:=hbr.size;omega
    clear KR hb5 HB5 hbr HB q0 q1 q2 q3;by_cases hc:bK ⟨false,cT a b c d,cU a b c d⟩=0
    ·rw[hc]
     exact nQ
    ·have hH:=u7 hc
     generalize bK ⟨false,cT a b c d,cU a b c d⟩=ck at *;generalize cT a b c d=mn at *;generalize cU a b c d=mx at *;go_wp2;refine bodyPost_ret (v:=sv ⟨false,-2147483648,2147483647⟩) (by simp[results,Tryz.results63,go_sem,r0,r1,r2]) rfl ⟨by rw[hH],?_⟩;exact((H5.setCell (by simp;omega) _).setCell (by simp;omega) _).setCell (by simp;omega) _):p:=h
end
end Go.Proofs.YtmapdpcfanecdabGreat
