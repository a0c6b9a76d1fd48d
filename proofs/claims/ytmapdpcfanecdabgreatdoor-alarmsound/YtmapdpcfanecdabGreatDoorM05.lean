import Derived.Test.YtmapdpcfanecdabGreatDoorM04
import Derived.MapKept
open Go.Ending renaming returned→Rt
open Go.IntKind renaming i64→Y
open Go.Obj renaming cells→Cc
open Go.Proofs.Tryz renaming prog→pG
open Go.RowKit.Below renaming refl→bR
open Go.Value renaming agg→Ag,bool→Bb,int→I,slice→U,tuple→Tu
open List renaming getElem_append_left→j0
open Nat renaming le_refl→lR
open Option renaming none→nO,some→sO
set_option linter.unusedSimpArgs false
set_option linter.unusedVariables false
set_option maxHeartbeats 8000000
set_option maxRecDepth 100000
namespace Go.Proofs.YtmapdpcfanecdabGreatDoor
section
open Go.RowKit
abbrev Shp:=Int×ByteArray×List Int

def ob (ps:List Int):Array Value:=(ps.map λp=>Value.int .i64 p).toArray
def se (N:Nat)(j:Nat)(s:Shp):Value:=Ag #[.string s.2.1,if s.2.2=[] then U nO 0 0 else U (sO ⟨N+1+j,0,nO⟩) s.2.2.length s.2.2.length]
def mR (N:Nat)(j:Nat)(s:Shp):MapEntry:=⟨I Y s.1,se N j s,j⟩
def cI (N:Nat):Nat→List Shp→List MapEntry
 |_,[]=>[]
 |j,s::r=>mR N j s::cI N (j+1) r

structure ShpAt (N:Nat) (l:List Shp) (w:World):Prop where
 map:w.heap[N]? =sO (.map (cI N 0 l).toArray l.length)
 parts:∀j (h:j < l.length),l[j].2.2≠[]→w.heap[N+1+j]? =sO (Cc (ob l[j].2.2) 225)

theorem oV (N:Nat)(l:List Shp)(s:Shp):∀j,cI N j (l++[s])=cI N j l++[mR N (j+l.length) s]:=by
 induction l with
 |nil=>intro j;rfl
 |cons x r ih=>intro j;simp only[List.cons_append,cI,ih (j+1),List.length_cons,Nat.add_assoc,Nat.add_comm 1]

theorem o4 (N:Nat)(k:Int)(l:List Shp):∀i j,(∀s∈l,s.1≠k)→Instr.findNow (.int .i64) (I Y k) (cI N j l) i=sO none:=by
 induction l with
 |nil=>intro i j _;rfl
 |cons x r ih=>
  intro i j h
  have hx:(k==x.1)=false:=by simpa using λe=>h x (by simp) e.symm
  simp only[cI,Instr.findNow,mR,Instr.sameNow,if_true,hx]
  exact ih (i+1) (j+1) (λs hs=>h s (by simp[hs]))

theorem aY {P:Program}{N:Nat}{l:List Shp}{wx w:World}{ops:Array Oper}{rest:List Oper}{o:Oper}{a:Act}{Q:Exit→Act→World→Prop}{B:Nat}{w0:World}
  (hg:o.guard=nO)(m x v:Operand)(t kt et:TypeId)(hop:o.op=Op.insert t m x v)(ht:P.underlying t=sO (.map kt et))(hk:P.underlying kt=sO (.int .i64))(k:Int)(wd:ByteArray)(ps:List Int)
  (hm:a.eval m=.map (sO N))(hx:a.eval x=I Y k)(hv:a.eval v=se N l.length (k,wd,ps))(hw:w=if ps=[] then wx else wx.alloc (Cc (ob ps) 225))
  (hs:ShpAt N l wx)(hsz:wx.heap.size=N+1+l.length)(hbel:Below B w0 wx)(hB:B≤N)(hnew:∀s∈l,s.1≠k)
  (hK:∀w',ShpAt N (l++[(k,wd,ps)]) w'→w'.heap.size=w.heap.size→Below B w0 w'→wpList P ops Q rest (a.put o.dst undef) w'):
  wpList P ops Q (o::rest) a w:=by
 refine wpList_plain hg λK' hK'=> ?_
 have hbw:Below B w0 w:=by
  rw[hw];split
  ·exact hbel
  ·exact hbel.alloc (by omega) _
 have hsame:∀i,i < wx.heap.size→w.heap[i]? =wx.heap[i]? :=by
  intro i hi;rw[hw];split
  ·rfl
  ·exact Below.heap_alloc _ _ _ hi
 have hmap:w.heap[N]? =sO (.map (cI N 0 l).toArray l.length):=by rw[hsame N (by omega)];exact hs.map
 have hf:=o4 N k l 0 0 hnew
 have hc:(Instr.checkKey false 10000 kt (I Y k)).run P w=.ok () w:=MapKept.run_checkKey (k:=I Y k) hk rfl false 9999
 have hpush:(cI N 0 l).toArray.push ⟨I Y k,se N l.length (k,wd,ps),l.length⟩=(cI N 0 (l++[(k,wd,ps)])).toArray:=by
  simp[oV,mR]
 obtain⟨E,hE⟩:∃E,E=(cI N 0 (l++[(k,wd,ps)])).toArray:=⟨_,rfl⟩
 rw[←hE] at hpush
 obtain⟨w2,hw2⟩:∃w2,w2={w with heap:=w.heap.setIfInBounds N (.map E (l.length+1))}:=⟨_,rfl⟩
 have hrun:(Instr.mapUpdate t (.map (sO N)) (I Y k) (se N l.length (k,wd,ps))).run P w=.ok () w2:=by
  simp only[Instr.mapUpdate,Sem.run_bind,run_underlying ht,MapKept.run_getObj_map hmap,hc,MapKept.run_findKey hk hf,hpush,MapKept.run_setObj_map _ hmap,Result.andThen,hw2]
 have hset:=MapKept.heap_set (o':=.map E (l.length+1)) hmap
 have h2:w2.heap=w.heap.setIfInBounds N (.map E (l.length+1)):=by rw[hw2]
 unfold Oper.wp
 simp[execOp,hop,hm,hx,hv,hrun,Result.andThen]
 refine hK' _ _ (hK _ ⟨?_,?_⟩ (by rw[h2];simp) ?_)
 ·rw[h2,hset.1,hE];simp
 ·intro j hj hne
  rw[h2,hset.2 (N+1+j) (by omega)]
  by_cases hjl:j < l.length
  ·rw[j0 hjl] at hne
   simp only[j0 hjl]
   rw[hsame _ (by omega)]
   exact hs.parts j hjl hne
  ·have hjl':j=l.length:=by simp at hj;omega
   subst hjl'
   simp only[List.getElem_append_right (lR _),Nat.sub_self,List.getElem_cons_zero] at hne ⊢
   rw[hw,if_neg hne,←hsz]
   exact(MapKept.heap_alloc wx _).1
 ·exact hbw.trans ⟨by rw[hw2],by rw[hw2],by rw[hw2],by rw[h2];simp,λi hi=>by rw[h2];exact hset.2 i (by omega)⟩

def shps:List Shp:=[(1,bi 1,[0,4]),(2,bi 2,[0,5]),(3,bi 3,[0]),(4,bi 4,[0,1]),(5,bi 5,[0,1,2]),(6,bi 6,[0,1,2]),(7,bi 7,[0,1,2]),(8,bi 8,[0,1,2]),(9,bi 9,[0,1,2]),(10,bi 10,[0,1]),
 (11,bi 11,[0]),(12,bi 12,[0,1,7]),(13,bi 13,[1,7,2]),(14,bi 14,[0,6]),(15,bi 15,[1,3]),(16,bi 16,[3]),(17,bi 17,[1]),(18,bi 18,[1]),(19,bi 19,[])]

theorem ks (w:World):
  Calls pG 127 #[] w λe w'=>e=Rt (.map (sO w.heap.size))∧ShpAt w.heap.size shps w'∧Below w.heap.size w w':=by
 have hmm:= @run_makeMap pG
 have hs0:ShpAt w.heap.size (shps.take 0) (w.alloc (.map #[] 0)):=⟨by simpa[cI] using(MapKept.heap_alloc w (.map #[] 0)).1,λj h=>absurd h (by simp)⟩
 have hz0:(w.alloc (.map #[] 0)).heap.size=w.heap.size+1:=by simp
 have hb0:Below w.heap.size w (w.alloc (.map #[] 0)):=(bR _ _).alloc (lR _) _
 go_enter Tryz.func127,Tryz.ntmps127
 go_wp2_with (first
  |(refine aY (N:=w.heap.size) (l:=shps.take 0) (wx:=(w.alloc (.map #[] 0))) (w0:=w) (B:=w.heap.size) rfl _ _ _ 179 3 228 rfl Tryz.underlying179 Tryz.underlying3 1 (bi 1) [0,4] rfl rfl rfl rfl hs0 hz0 hb0 (lR _) (by decide) ?_;intro w1 hs1 hz1 hb1;replace hs1:ShpAt w.heap.size (shps.take 1) w1:=hs1;replace hz1:w1.heap.size=w.heap.size+2:=by simpa[hz0] using hz1)
  |(refine aY (N:=w.heap.size) (l:=shps.take 1) (wx:=w1) (w0:=w) (B:=w.heap.size) rfl _ _ _ 179 3 228 rfl Tryz.underlying179 Tryz.underlying3 2 (bi 2) [0,5] rfl rfl rfl rfl hs1 hz1 hb1 (lR _) (by decide) ?_;intro w2 hs2 hz2 hb2;replace hs2:ShpAt w.heap.size (shps.take 2) w2:=hs2;replace hz2:w2.heap.size=w.heap.size+3:=by simpa[hz1] using hz2)
  |(refine aY (N:=w.heap.size) (l:=shps.take 2) (wx:=w2) (w0:=w) (B:=w.heap.size) rfl _ _ _ 179 3 228 rfl Tryz.underlying179 Tryz.underlying3 3 (bi 3) [0] rfl rfl rfl rfl hs2 hz2 hb2 (lR _) (by decide) ?_;intro w3 hs3 hz3 hb3;replace hs3:ShpAt w.heap.size (shps.take 3) w3:=hs3;replace hz3:w3.heap.size=w.heap.size+4:=by simpa[hz2] using hz3)
  |(refine aY (N:=w.heap.size) (l:=shps.take 3) (wx:=w3) (w0:=w) (B:=w.heap.size) rfl _ _ _ 179 3 228 rfl Tryz.underlying179 Tryz.underlying3 4 (bi 4) [0,1] rfl rfl rfl rfl hs3 hz3 hb3 (lR _) (by decide) ?_;intro w4 hs4 hz4 hb4;replace hs4:ShpAt w.heap.size (shps.take 4) w4:=hs4;replace hz4:w4.heap.size=w.heap.size+5:=by simpa[hz3] using hz4)
  |(refine aY (N:=w.heap.size) (l:=shps.take 4) (wx:=w4) (w0:=w) (B:=w.heap.size) rfl _ _ _ 179 3 228 rfl Tryz.underlying179 Tryz.underlying3 5 (bi 5) [0,1,2] rfl rfl rfl rfl hs4 hz4 hb4 (lR _) (by decide) ?_;intro w5 hs5 hz5 hb5;replace hs5:ShpAt w.heap.size (shps.take 5) w5:=hs5;replace hz5:w5.heap.size=w.heap.size+6:=by simpa[hz4] using hz5)
  |(refine aY (N:=w.heap.size) (l:=shps.take 5) (wx:=w5) (w0:=w) (B:=w.heap.size) rfl _ _ _ 179 3 228 rfl Tryz.underlying179 Tryz.underlying3 6 (bi 6) [0,1,2] rfl rfl rfl rfl hs5 hz5 hb5 (lR _) (by decide) ?_;intro w6 hs6 hz6 hb6;replace hs6:ShpAt w.heap.size (shps.take 6) w6:=hs6;replace hz6:w6.heap.size=w.heap.size+7:=by simpa[hz5] using hz6)
  |(refine aY (N:=w.heap.size) (l:=shps.take 6) (wx:=w6) (w0:=w) (B:=w.heap.size) rfl _ _ _ 179 3 228 rfl Tryz.underlying179 Tryz.underlying3 7 (bi 7) [0,1,2] rfl rfl rfl rfl hs6 hz6 hb6 (lR _) (by decide) ?_;intro w7 hs7 hz7 hb7;replace hs7:ShpAt w.heap.size (shps.take 7) w7:=hs7;replace hz7:w7.heap.size=w.heap.size+8:=by simpa[hz6] using hz7)
  |(refine aY (N:=w.heap.size) (l:=shps.take 7) (wx:=w7) (w0:=w) (B:=w.heap.size) rfl _ _ _ 179 3 228 rfl Tryz.underlying179 Tryz.underlying3 8 (bi 8) [0,1,2] rfl rfl rfl rfl hs7 hz7 hb7 (lR _) (by decide) ?_;intro w8 hs8 hz8 hb8;replace hs8:ShpAt w.heap.size (shps.take 8) w8:=hs8;replace hz8:w8.heap.size=w.heap.size+9:=by simpa[hz7] using hz8)
  |(refine aY (N:=w.heap.size) (l:=shps.take 8) (wx:=w8) (w0:=w) (B:=w.heap.size) rfl _ _ _ 179 3 228 rfl Tryz.underlying179 Tryz.underlying3 9 (bi 9) [0,1,2] rfl rfl rfl rfl hs8 hz8 hb8 (lR _) (by decide) ?_;intro w9 hs9 hz9 hb9;replace hs9:ShpAt w.heap.size (shps.take 9) w9:=hs9;replace hz9:w9.heap.size=w.heap.size+10:=by simpa[hz8] using hz9)
  |(refine aY (N:=w.heap.size) (l:=shps.take 9) (wx:=w9) (w0:=w) (B:=w.heap.size) rfl _ _ _ 179 3 228 rfl Tryz.underlying179 Tryz.underlying3 10 (bi 10) [0,1] rfl rfl rfl rfl hs9 hz9 hb9 (lR _) (by decide) ?_;intro w10 hs10 hz10 hb10;replace hs10:ShpAt w.heap.size (shps.take 10) w10:=hs10;replace hz10:w10.heap.size=w.heap.size+11:=by simpa[hz9] using hz10)
  |(refine aY (N:=w.heap.size) (l:=shps.take 10) (wx:=w10) (w0:=w) (B:=w.heap.size) rfl _ _ _ 179 3 228 rfl Tryz.underlying179 Tryz.underlying3 11 (bi 11) [0] rfl rfl rfl rfl hs10 hz10 hb10 (lR _) (by decide) ?_;intro w11 hs11 hz11 hb11;replace hs11:ShpAt w.heap.size (shps.take 11) w11:=hs11;replace hz11:w11.heap.size=w.heap.size+12:=by simpa[hz10] using hz11)
  |(refine aY (N:=w.heap.size) (l:=shps.take 11) (wx:=w11) (w0:=w) (B:=w.heap.size) rfl _ _ _ 179 3 228 rfl Tryz.underlying179 Tryz.underlying3 12 (bi 12) [0,1,7] rfl rfl rfl rfl hs11 hz11 hb11 (lR _) (by decide) ?_;intro w12 hs12 hz12 hb12;replace hs12:ShpAt w.heap.size (shps.take 12) w12:=hs12;replace hz12:w12.heap.size=w.heap.size+13:=by simpa[hz11] using hz12)
  |(refine aY (N:=w.heap.size) (l:=shps.take 12) (wx:=w12) (w0:=w) (B:=w.heap.size) rfl _ _ _ 179 3 228 rfl Tryz.underlying179 Tryz.underlying3 13 (bi 13) [1,7,2] rfl rfl rfl rfl hs12 hz12 hb12 (lR _) (by decide) ?_;intro w13 hs13 hz13 hb13;replace hs13:ShpAt w.heap.size (shps.take 13) w13:=hs13;replace hz13:w13.heap.size=w.heap.size+14:=by simpa[hz12] using hz13)
  |(refine aY (N:=w.heap.size) (l:=shps.take 13) (wx:=w13) (w0:=w) (B:=w.heap.size) rfl _ _ _ 179 3 228 rfl Tryz.underlying179 Tryz.underlying3 14 (bi 14) [0,6] rfl rfl rfl rfl hs13 hz13 hb13 (lR _) (by decide) ?_;intro w14 hs14 hz14 hb14;replace hs14:ShpAt w.heap.size (shps.take 14) w14:=hs14;replace hz14:w14.heap.size=w.heap.size+15:=by simpa[hz13] using hz14)
  |(refine aY (N:=w.heap.size) (l:=shps.take 14) (wx:=w14) (w0:=w) (B:=w.heap.size) rfl _ _ _ 179 3 228 rfl Tryz.underlying179 Tryz.underlying3 15 (bi 15) [1,3] rfl rfl rfl rfl hs14 hz14 hb14 (lR _) (by decide) ?_;intro w15 hs15 hz15 hb15;replace hs15:ShpAt w.heap.size (shps.take 15) w15:=hs15;replace hz15:w15.heap.size=w.heap.size+16:=by simpa[hz14] using hz15)
  |(refine aY (N:=w.heap.size) (l:=shps.take 15) (wx:=w15) (w0:=w) (B:=w.heap.size) rfl _ _ _ 179 3 228 rfl Tryz.underlying179 Tryz.underlying3 16 (bi 16) [3] rfl rfl rfl rfl hs15 hz15 hb15 (lR _) (by decide) ?_;intro w16 hs16 hz16 hb16;replace hs16:ShpAt w.heap.size (shps.take 16) w16:=hs16;replace hz16:w16.heap.size=w.heap.size+17:=by simpa[hz15] using hz16)
  |(refine aY (N:=w.heap.size) (l:=shps.take 16) (wx:=w16) (w0:=w) (B:=w.heap.size) rfl _ _ _ 179 3 228 rfl Tryz.underlying179 Tryz.underlying3 17 (bi 17) [1] rfl rfl rfl rfl hs16 hz16 hb16 (lR _) (by decide) ?_;intro w17 hs17 hz17 hb17;replace hs17:ShpAt w.heap.size (shps.take 17) w17:=hs17;replace hz17:w17.heap.size=w.heap.size+18:=by simpa[hz16] using hz17)
  |(refine aY (N:=w.heap.size) (l:=shps.take 17) (wx:=w17) (w0:=w) (B:=w.heap.size) rfl _ _ _ 179 3 228 rfl Tryz.underlying179 Tryz.underlying3 18 (bi 18) [1] rfl rfl rfl rfl hs17 hz17 hb17 (lR _) (by decide) ?_;intro w18 hs18 hz18 hb18;replace hs18:ShpAt w.heap.size (shps.take 18) w18:=hs18;replace hz18:w18.heap.size=w.heap.size+19:=by simpa[hz17] using hz18)
  |(refine aY (N:=w.heap.size) (l:=shps.take 18) (wx:=w18) (w0:=w) (B:=w.heap.size) rfl _ _ _ 179 3 228 rfl Tryz.underlying179 Tryz.underlying3 19 (bi 19) [] rfl rfl rfl rfl hs18 hz18 hb18 (lR _) (by decide) ?_;intro w19 hs19 hz19 hb19;replace hs19:ShpAt w.heap.size (shps.take 19) w19:=hs19;replace hz19:w19.heap.size=w.heap.size+19:=by simpa[hz18] using hz19))
 go_ret
 exact⟨rfl,hs19,hb19⟩

theorem ShpAt.below {B N:Nat}{l:List Shp}{w w':World}(h:ShpAt N l w)(hb:Below B w w')(hB:w.heap.size≤B):ShpAt N l w':=by
 have lt:∀{i:Nat} {o:Obj},w.heap[i]? =sO o→i < w.heap.size:=λh=>(Array.getElem?_eq_some_iff.1 h).1
 exact⟨by rw[hb.block _ (by have:=lt h.map;omega)];exact h.map,λj hj hne=>by rw[hb.block _ (by have:=lt (h.parts j hj hne);omega)];exact h.parts j hj hne⟩

theorem Fh {P:Program}{N:Nat}{w:World}{es:Array MapEntry}{clock:Nat}(t kt et:TypeId)(ht:P.underlying t=sO (.map kt et))(hk:P.underlying kt=sO (.int .i64))(hmap:w.heap[N]? =sO (.map es clock))
  (k:Int)(i:Nat)(v:Value)(hf:Instr.findNow (.int .i64) (I Y k) es.toList 0=sO (sO (i,v))):(Instr.lookup t (.map (sO N)) (I Y k) true).run P w=.ok (Tu #[v,Bb true]) w:=by
 have hc:∀e,(Instr.checkKey e 10000 kt (I Y k)).run P w=.ok () w:=λe=>MapKept.run_checkKey (k:=I Y k) hk rfl e 9999
 simp[Instr.lookup,run_underlying ht,MapKept.run_getObj_map hmap,hc,MapKept.run_findKey hk hf,Result.andThen]

theorem vA {P:Program}{N:Nat}{w:World}{es:Array MapEntry}{clock:Nat}(t kt et:TypeId)(ht:P.underlying t=sO (.map kt et))(hk:P.underlying kt=sO (.int .i64))(hmap:w.heap[N]? =sO (.map es clock))
  (z:Value)(hz:(zeroValue et).run P w=.ok z w)(k:Int)(hf:Instr.findNow (.int .i64) (I Y k) es.toList 0=sO nO):(Instr.lookup t (.map (sO N)) (I Y k) true).run P w=.ok (Tu #[z,Bb false]) w:=by
 have hc:∀e,(Instr.checkKey e 10000 kt (I Y k)).run P w=.ok () w:=λe=>MapKept.run_checkKey (k:=I Y k) hk rfl e 9999
 simp[Instr.lookup,run_underlying ht,MapKept.run_getObj_map hmap,hc,MapKept.run_findKey hk hf,hz,Result.andThen]

theorem Dg (w:World):(zeroValue 228).run pG w=.ok (Ag #[.string ⟨#[]⟩,U nO 0 0]) w:=by kernel_rfl

theorem G9 {N:Nat}{w:World}(h:ShpAt N shps w)(k:Int)(hk:btw k 1 19=false):(Instr.lookup 179 (.map (sO N)) (I Y k) true).run pG w=.ok (Tu #[Ag #[.string ⟨#[]⟩,U nO 0 0],Bb false]) w:=by
 refine vA _ 3 228 Tryz.underlying179 Tryz.underlying3 h.map _ (Dg w) k (o4 N k shps 0 0 ?_)
 have:¬(1≤k∧k≤19):=by simpa[btw] using hk
 intro s hs
 simp only[shps,List.mem_cons,List.not_mem_nil,or_false] at hs
 rcases hs with rfl|rfl|rfl|rfl|rfl|rfl|rfl|rfl|rfl|rfl|rfl|rfl|rfl|rfl|rfl|rfl|rfl|rfl|rfl<;>simp only<;>omega

theorem cR {N:Nat}{w:World}(h:ShpAt N shps w)(k:Int)(i:Nat)(v:Value)(hf:Instr.findNow (.int .i64) (I Y k) (cI N 0 shps) 0=sO (sO (i,v))):(Instr.lookup 179 (.map (sO N)) (I Y k) true).run pG w=.ok (Tu #[v,Bb true]) w:=
 Fh _ 3 228 Tryz.underlying179 Tryz.underlying3 h.map k i v hf
end
end Go.Proofs.YtmapdpcfanecdabGreatDoor
