import Derived.Test.YtmapdpcfanecdabGreatDoorR15
import Derived.Test.YtmapdpcfanecdabGreatDoorR16
import Derived.Test.YtmapdpcfanecdabGreatDoorR17
import Derived.Test.YtmapdpcfanecdabGreatDoorR18
import Derived.Test.YtmapdpcfanecdabGreatDoorR19
import Derived.Test.YtmapdpcfanecdabGreatDoorR20
import Derived.Test.YtmapdpcfanecdabGreatDoorR21
open Go.Ending renaming returned→Rt
open Go.IntKind renaming i64→Y
open Go.Obj renaming cells→Cc
open Go.Proofs.Tryz renaming prog→pG
open Go.RowKit.Below renaming refl→bR
open Go.Value renaming agg→Ag,bool→Bb,int→I,slice→U,tuple→Tu
open Go.World renaming size_alloc→zA
open List renaming drop_eq_getElem_cons→j6,eq_nil_of_length_eq_zero→j7,length→j3,length_drop→j5,map_append→j1,take_of_length_le→j2
open Nat renaming le_refl→lR,pow_le_pow_right→j8,zero_add→j4
open Option renaming none→nO,some→sO
set_option linter.unusedSimpArgs false
set_option linter.unusedVariables false
set_option maxHeartbeats 16000000
set_option maxRecDepth 100000
namespace Go.Proofs.YtmapdpcfanecdabGreatDoor
section
open Go.RowKit
def lo (q:Int):Int:=if q=4 then -2147483648 else 0
def hi (V F L q:Int):Int:=if q=4 then 2147483647 else if q=5 then 1 else if q=6 then 1000000 else if q=7 then F - 1 else if q=3 then L else V - 1
def er (q:Int):Int:=if q=4\/q=5\/q=6 then 3 else 5

theorem CM (V F:Int)(s:oA)(len cap:Nat)(q:Int)(w:World)(_hV:1<=V)(_hV':V<=8)(_hF:0<=F)(_hF':F<=3)(_hL:len<=60)(hq:0<=q/\q<=7):
  Calls pG 186 #[Ag #[I Y V,I Y F,U s len cap],I Y q] w λe w'=>e=Rt (Tu #[I Y (lo q),I Y (hi V F len q),I Y (er q)])/\Below w.heap.size w w':=by
 have:q=0\/q=1\/q=2\/q=3\/q=4\/q=5\/q=6\/q=7:=by omega
 rcases this with rfl|rfl|rfl|rfl|rfl|rfl|rfl|rfl
 all_goals
  go_enter Tryz.func186,Tryz.ntmps186;go_wp2
  try (go_quiet (fail);go_wp2)
  go_ret3
  exact⟨rfl,by first|(go_grown;done)|exact below_drewN (by go_grown) _⟩
theorem ai {N:Nat}{w:World}(h:ShpAt N shps w)(j i:Nat)(hj:j < shps.length)(hne:shps[j].2.2≠[])(v:Value)(hv:(nE shps[j].2.2)[i]? =sO v):w.cell? ⟨N+1+j,i,nO⟩=sO v/\N+1+j < w.heap.size:=by
 have hb:=h.parts j hj hne;exact⟨by simp[World.cell?,hb,hv],(Array.getElem?_eq_some_iff.1 hb).1⟩
theorem dk {p:Prop}(h:p:=by
 have l0:lo 0=0:=rfl;have m0:hi V F len 0=V - 1:=rfl;have e0:er 0=5:=rfl;have l1:lo 1=0:=rfl;have m1:hi V F len 1=V - 1:=rfl;have e1:er 1=5:=rfl;have l2:lo 2=0:=rfl;have m2:hi V F len 2=V - 1:=rfl;have e2:er 2=5:=rfl;have l3:lo 3=0:=rfl;have m3:hi V F len 3=(len:Int):=rfl;have e3:er 3=5:=rfl;have l4:lo 4= -2147483648:=rfl;have m4:hi V F len 4=2147483647:=rfl;have e4:er 4=3:=rfl;have l5:lo 5=0:=rfl;have m5:hi V F len 5=1:=rfl;have e5:er 5=3:=rfl;have l6:lo 6=0:=rfl;have m6:hi V F len 6=1000000:=rfl;have e6:er 6=3:=rfl;have l7:lo 7=0:=rfl;have m7:hi V F len 7=F - 1:=rfl;have e7:er 7=5:=rfl;have z1:=Nat.lt_add_right 1 hz;have z2:=Nat.lt_add_right 1 z1;have z3:=Nat.lt_add_right 1 z2;have z4:=Nat.lt_add_right 1 z3;have x3:¬_:=Nat.ne_of_lt z3;go_enter Tryz.func128,Tryz.ntmps128;go_wp2;refine wp_loop_rounds 4 ?_
 iterate 4 (try any_goals (rw[rounds_succ];go_wp2_with (first|(go_at_call 186;refine(CM V F _ _ _ _ _ hV hV' hF hF' hL ?hq).mono ?_;(case hq=>decide);rintro e w1 ⟨rfl,hb1⟩;obtain⟨hc1,hf1⟩:=vi hb1;have hz1:w.heap.size+3 < w1.heap.size:=(by have:=hb1.size;simp at this;omega);have hz2:w.heap.size < w1.heap.size:=(by omega);have hz3:w.heap.size+1 < w1.heap.size:=(by omega);have hz4:w.heap.size+1+1 < w1.heap.size:=(by omega);have hz5:w.heap.size+1+1+1 < w1.heap.size:=(by omega);have hz6:=Nat.lt_trans hz hz2;have HB:Below w.heap.size w w1:=Below.trans (by go_grown) (hb1.mono (by go_size)))|go_in)))
 all_goals go_ret
 all_goals refine⟨bG ?_,by go_grown⟩
 all_goals clear hl
 all_goals (try clear p0)
 all_goals (try clear p1)
 all_goals (try clear p2)
 all_goals simp[aW,nTo,nA,nB,nN,nG,btw]
 all_goals omega):p:=h
def Tab (w:World):Prop:=Lib.TabIs pG w "internal/strconv.uint64pow10" .u64 Lib.pow10Tab
theorem Bd:∃g,Tryz.prog.globalNamed "internal/strconv.uint64pow10" =sO g:=by
 have h:(Tryz.prog.globalNamed "internal/strconv.uint64pow10").isSome=true:=by kernel_rfl
 exact Option.isSome_iff_exists.1 h
theorem Tab.below {w w':World}(h:Tab w)(hb:Below w.heap.size w w'):Tab w':=by
 obtain⟨g,hg⟩:=Bd;have hc:=h.cell hg 0 (by decide);exact var?_below hb hg (World.block_lt_of_cell? w _ hc) h

theorem lB (n:Int)(w:World)(h:gJ n)(ht:Tab w):
  Calls pG 118 #[I Y n] w λe w'=>e=Rt (.string (dI n))/\Below w.heap.size w w':=by
 refine(Tryz.strconv_Itoa n h.1 h.2 w ht).mono ?_;rintro e w' ⟨rfl,k,os,rfl⟩;exact⟨rfl,⟨rfl,rfl,rfl,by simp[Sort.grow],λi hi=>by simp[Sort.grow,Array.getElem?_append,World.drewN,hi]⟩⟩
theorem GG:(Tryz.prog.info? 9).map (λi=>(i.zero,i.size,i.bytes))=sO (sO (.string ⟨#[]⟩),1,16):=by kernel_rfl

theorem vM {P:Program}{N:Nat}{w:World}{es:Array MapEntry}{clock:Nat}(t kt et:TypeId)(ht:P.underlying t=sO (.map kt et))(hk:P.underlying kt=sO (.int .i64))(hmap:w.heap[N]? =sO (.map es clock))
  (k:Int)(i:Nat)(v:Value)(hf:Instr.findNow (.int .i64) (I Y k) es.toList 0=sO (sO (i,v))):(Instr.lookup t (.map (sO N)) (I Y k) false).run P w=.ok v w:=by
 have hc:∀e,(Instr.checkKey e 10000 kt (I Y k)).run P w=.ok () w:=λe=>MapKept.run_checkKey (k:=I Y k) hk rfl e 9999;simp[Instr.lookup,run_underlying ht,MapKept.run_getObj_map hmap,hc,MapKept.run_findKey hk hf,Result.andThen]

theorem aX {N:Nat}{w:World}(h:ShpAt N shps w)(k:Int)(i:Nat)(v:Value)(hf:Instr.findNow (.int .i64) (I Y k) (cH N 0 shps) 0=sO (sO (i,v))):(Instr.lookup 179 (.map (sO N)) (I Y k) false).run pG w=.ok v w:=
 vM _ 3 228 Tryz.underlying179 Tryz.underlying3 h.map k i v hf
theorem uQ (V F:Int)(s:oA)(len cap N:Nat)(tto a b n g:Int)(w:World)(hV:1<=V)(hV':V<=8)(hF:0<=F)(hF':F<=3)(hL:len<=60)(hs:ShpAt N shps w):
  Calls pG 128 #[Ag #[I Y V,I Y F,U s len cap],.map (sO N),Ag #[I Y 12,I Y tto,I Y a,I Y b,I Y n,I Y g]] w λe w'=>e=Rt (I Y (aW V F len ⟨12,tto,a,b,n,g⟩))/\Below w.heap.size w w':=by
 have hb0:Below w.heap.size w ((w.alloc (Cc #[I Y V,I Y F,U s len cap] 24)).alloc (Cc #[I Y 12,I Y tto,I Y a,I Y b,I Y n,I Y g] 100)):=by go_grown
 have hl:(Instr.lookup 179 (.map (sO N)) (I Y 12) true).run pG _=.ok (Tu #[Ag #[.string (aD 12),U (sO ⟨N+12,0,nO⟩) 3 3],Bb true]) _:=cR (hs.below hb0 (lR _)) 12 11 _ rfl;have hz:N+12 < w.heap.size:=(ai hs 11 0 (by decide) (by decide) (I Y 0) rfl).2;have p0:w.cell? ⟨N+12,0,nO⟩=sO (I Y 0):=(ai hs 11 0 (by decide) (by decide) (I Y 0) rfl).1;have p1:w.cell? ⟨N+12,1,nO⟩=sO (I Y 1):=(ai hs 11 1 (by decide) (by decide) (I Y 1) rfl).1;have p2:w.cell? ⟨N+12,2,nO⟩=sO (I Y 7):=(ai hs 11 2 (by decide) (by decide) (I Y 7) rfl).1;clear hb0 hs;exact dk

theorem uX (V F:Int)(s:oA)(len cap N:Nat)(tto a b n g:Int)(w:World)(hV:1<=V)(hV':V<=8)(hF:0<=F)(hF':F<=3)(hL:len<=60)(hs:ShpAt N shps w):
  Calls pG 128 #[Ag #[I Y V,I Y F,U s len cap],.map (sO N),Ag #[I Y 13,I Y tto,I Y a,I Y b,I Y n,I Y g]] w λe w'=>e=Rt (I Y (aW V F len ⟨13,tto,a,b,n,g⟩))/\Below w.heap.size w w':=by
 have hb0:Below w.heap.size w ((w.alloc (Cc #[I Y V,I Y F,U s len cap] 24)).alloc (Cc #[I Y 13,I Y tto,I Y a,I Y b,I Y n,I Y g] 100)):=by go_grown
 have hl:(Instr.lookup 179 (.map (sO N)) (I Y 13) true).run pG _=.ok (Tu #[Ag #[.string (aD 13),U (sO ⟨N+13,0,nO⟩) 3 3],Bb true]) _:=cR (hs.below hb0 (lR _)) 13 12 _ rfl;have hz:N+13 < w.heap.size:=(ai hs 12 0 (by decide) (by decide) (I Y 1) rfl).2;have p0:w.cell? ⟨N+13,0,nO⟩=sO (I Y 1):=(ai hs 12 0 (by decide) (by decide) (I Y 1) rfl).1;have p1:w.cell? ⟨N+13,1,nO⟩=sO (I Y 7):=(ai hs 12 1 (by decide) (by decide) (I Y 7) rfl).1;have p2:w.cell? ⟨N+13,2,nO⟩=sO (I Y 2):=(ai hs 12 2 (by decide) (by decide) (I Y 2) rfl).1;clear hb0 hs;exact dk

theorem uP (V F:Int)(s:oA)(len cap N:Nat)(tto a b n g:Int)(w:World)(hV:1<=V)(hV':V<=8)(hF:0<=F)(hF':F<=3)(hL:len<=60)(hs:ShpAt N shps w):
  Calls pG 128 #[Ag #[I Y V,I Y F,U s len cap],.map (sO N),Ag #[I Y 14,I Y tto,I Y a,I Y b,I Y n,I Y g]] w λe w'=>e=Rt (I Y (aW V F len ⟨14,tto,a,b,n,g⟩))/\Below w.heap.size w w':=by
 have hb0:Below w.heap.size w ((w.alloc (Cc #[I Y V,I Y F,U s len cap] 24)).alloc (Cc #[I Y 14,I Y tto,I Y a,I Y b,I Y n,I Y g] 100)):=by go_grown
 have hl:(Instr.lookup 179 (.map (sO N)) (I Y 14) true).run pG _=.ok (Tu #[Ag #[.string (aD 14),U (sO ⟨N+14,0,nO⟩) 2 2],Bb true]) _:=cR (hs.below hb0 (lR _)) 14 13 _ rfl;have hz:N+14 < w.heap.size:=(ai hs 13 0 (by decide) (by decide) (I Y 0) rfl).2;have p0:w.cell? ⟨N+14,0,nO⟩=sO (I Y 0):=(ai hs 13 0 (by decide) (by decide) (I Y 0) rfl).1;have p1:w.cell? ⟨N+14,1,nO⟩=sO (I Y 6):=(ai hs 13 1 (by decide) (by decide) (I Y 6) rfl).1;clear hb0 hs;exact dk
theorem gA {x:Int}(h:wrap64 x=x):IntKind.i64.wrap x=x:=by
 rw[IntKind.wrap_i64];unfold wrap64 at h;exact h

theorem lU (k:Int)(s t:Sp)(w:World)(hk:k=5\/k=6\/k=7)(hs:s.Ok)(ht:t.Ok):
  Calls pG 172 #[I Y k,sv s,sv t] w λe w'=>e=Rt (sv (bY k s t))/\Below w.heap.size w w':=by
 by_cases h:(s.n||t.n)=true
 ·have:=FJ k s t w h
  unfold bY;rw[if_pos h];exact this
 ·have e0:bY k s t=fE (nw k s.lo t.lo) (nw k s.lo t.hi) (nw k s.hi t.lo) (nw k s.hi t.hi):=by unfold bY;rw[if_neg h]
  rw[e0];obtain⟨n,lo,hi⟩:=s;obtain⟨n',lo',hi'⟩:=t;cases n with
  |true=>exact absurd rfl h
  |false=>
   cases n' with
   |true=>exact absurd rfl h
   |false=>
    rcases hk with rfl|rfl|rfl
    ·exact AX lo hi lo' hi' _ _ _ _ w (gA (fJ hs.1 ht.1)) (gA (fJ hs.1 ht.2.1)) (gA (fJ hs.2.1 ht.1)) (gA (fJ hs.2.1 ht.2.1))
    ·exact Cx lo hi lo' hi' _ _ _ _ w (gA (fQ hs.1 ht.1)) (gA (fQ hs.1 ht.2.1)) (gA (fQ hs.2.1 ht.1)) (gA (fQ hs.2.1 ht.2.1))
    ·exact CF lo hi lo' hi' _ _ _ _ w (gA (fO hs.1 ht.1)) (gA (fO hs.1 ht.2.1)) (gA (fO hs.2.1 ht.1)) (gA (fO hs.2.1 ht.2.1))

theorem vT (s t:Sp)(w:World):
  Calls pG 167 #[sv s,sv t,Bb false] w λe w'=>e=Rt (sv (aU s t))/\Below w.heap.size w w':=by
 by_cases h:(s.n||t.n)=true
 ·exact rI s t false w h
 ·obtain⟨n,lo,hi⟩:=s
  obtain⟨n',lo',hi'⟩:=t;cases n with
  |true=>exact absurd rfl h
  |false=>
   cases n' with
   |true=>exact absurd rfl h
   |false=>exact Cu lo hi lo' hi' w

theorem vU (s t:Sp)(w:World):
  Calls pG 167 #[sv s,sv t,Bb true] w λe w'=>e=Rt (sv (aY s t))/\Below w.heap.size w w':=by
 by_cases h:(s.n||t.n)=true
 ·have e0:aY s t=aU s t:=by
   unfold aY aU;obtain⟨n,lo,hi⟩:=s;obtain⟨n',lo',hi'⟩:=t;cases n with
   |true=>rfl
   |false=>
    cases n' with
    |true=>rfl
    |false=>exact absurd h (by simp)
  rw[e0];exact rI s t true w h
 ·obtain⟨n,lo,hi⟩:=s
  obtain⟨n',lo',hi'⟩:=t;cases n with
  |true=>exact absurd rfl h
  |false=>
   cases n' with
   |true=>exact absurd rfl h
   |false=>exact BH lo hi lo' hi' w
theorem eT (a b:Bool):(a=true/\b=true)\/a=false\/(a=true/\b=false):=by cases a<;>cases b<;>simp

theorem CO (g:Gs)(ss:oA)(gc:Nat)(h:Gs)(st:oA)(hc:Nat)(w:World)(hn:[g,h].any ag=true):
  Calls pG 206 #[gv g ss gc,gv h st hc] w λe w'=>e=Rt (Tu #[Bb false,Bb false])/\Below w.heap.size w w':=by
 have B0:Below w.heap.size w ((w.alloc (Cc #[Bb g.n,Bb g.sp.n,I Y g.sp.lo,I Y g.sp.hi,Bb g.t,Bb g.f,U ss g.s.length gc] 91)).alloc (Cc #[Bb h.n,Bb h.sp.n,I Y h.sp.lo,I Y h.sp.hi,Bb h.t,Bb h.f,U st h.s.length hc] 91)):=by go_grown
 have G0:=(GuAt.new w g ss gc).alloc (Cc #[Bb h.n,Bb h.sp.n,I Y h.sp.lo,I Y h.sp.hi,Bb h.t,Bb h.f,U st h.s.length hc] 91);have H0:=GuAt.new (w.alloc (Cc #[Bb g.n,Bb g.sp.n,I Y g.sp.lo,I Y g.sp.hi,Bb g.t,Bb g.f,U ss g.s.length gc] 91)) h st hc;rw[zA] at H0;have L0:=GhAt.new2 ((w.alloc (Cc #[Bb g.n,Bb g.sp.n,I Y g.sp.lo,I Y g.sp.hi,Bb g.t,Bb g.f,U ss g.s.length gc] 91)).alloc (Cc #[Bb h.n,Bb h.sp.n,I Y h.sp.lo,I Y h.sp.hi,Bb h.t,Bb h.f,U st h.s.length hc] 91)) g ss gc h st hc;simp only[zA] at L0;have HN:=aa (λlc wx hL=>hU (sO ⟨w.heap.size+1+1,0,nO⟩) [g,h] lc wx (by simp) hL);rw[hn] at HN;clear hn;go_enter Tryz.func206,Tryz.ntmps206;go_wp2_with (go_at_call 233;fail);refine(HN.out 2 _ L0).mono ?_;rintro e w1 ⟨rfl,hb1⟩;go_wp2
 go_ret2
 exact⟨rfl,(B0.alloc B0.size _).trans (hb1.mono (by simp;omega))⟩

theorem eH {p:Prop}(h:p:=by
 rintro e w4 ⟨rfl,hb4⟩;have G4:=G3.call hb4;have H4:=H3.call hb4;have B4:=B3.trans (hb4.mono B3.size);clear hb4 G3 H3 B3 I3 J3 G2 H2 g0 g1 g2 g3 g4 g5 g6 gz k0 k1 k2 k3 k4 k5 k6 kz;obtain⟨⟨g0,g1,g2,g3,g4,g5,g6⟩,gz⟩:=id G4;obtain⟨⟨k0,k1,k2,k3,k4,k5,k6⟩,kz⟩:=id H4;simp only[Nat.zero_add] at g0 g1 g2 g3 g4 g5 g6 k0 k1 k2 k3 k4 k5 k6;generalize hA':(sl.any λx=>h'.contains x)=al at *;have HAL:=aa hA';clear hA';go_wp2_with (go_at_call 235;fail);refine(HA.out _).mono ?_;rintro e w9 ⟨rfl,hb9⟩;go_wp2
 go_ret2
 exact⟨gr (by rw[HY.out];simp_all) rfl,B4.trans (hb9.mono B4.size)⟩):p:=h
theorem dR {p:Prop}(h:p:=by
 refine(HA.out _).mono ?_;rintro e w9 ⟨rfl,hb9⟩;go_wp2
 go_ret2
 exact⟨gr (by rw[HY.out];simp_all) rfl,B3.trans (hb9.mono B3.size)⟩):p:=h
theorem Dd (g:Gs)(ss:oA)(gc:Nat)(h:Gs)(st:oA)(hc:Nat)(w:World)(hs:IntsAt w ss g.s)(hgl:g.s.length<=9223372036854775807)(ht:IntsAt w st h.s)(hlt:h.s.length<=9223372036854775807)(hsp:bl g.sp h.sp=0)(hn:[g,h].any ag=false):
  Calls pG 206 #[gv g ss gc,gv h st hc] w λe w'=>e=Rt (Tu #[Bb ((g.n&&h.n)||(!(au g.sp h.sp).n||((g.t&&h.t)||((g.f&&h.f)||g.s.any λx=>h.s.contains x)))),Bb (!cL g h)])/\Below w.heap.size w w':=by
 have B0:Below w.heap.size w ((w.alloc (Cc #[Bb g.n,Bb g.sp.n,I Y g.sp.lo,I Y g.sp.hi,Bb g.t,Bb g.f,U ss g.s.length gc] 91)).alloc (Cc #[Bb h.n,Bb h.sp.n,I Y h.sp.lo,I Y h.sp.hi,Bb h.t,Bb h.f,U st h.s.length hc] 91)):=by go_grown
 have G0:=(GuAt.new w g ss gc).alloc (Cc #[Bb h.n,Bb h.sp.n,I Y h.sp.lo,I Y h.sp.hi,Bb h.t,Bb h.f,U st h.s.length hc] 91);have H0:=GuAt.new (w.alloc (Cc #[Bb g.n,Bb g.sp.n,I Y g.sp.lo,I Y g.sp.hi,Bb g.t,Bb g.f,U ss g.s.length gc] 91)) h st hc;rw[zA] at H0;have L0:=GhAt.new2 ((w.alloc (Cc #[Bb g.n,Bb g.sp.n,I Y g.sp.lo,I Y g.sp.hi,Bb g.t,Bb g.f,U ss g.s.length gc] 91)).alloc (Cc #[Bb h.n,Bb h.sp.n,I Y h.sp.lo,I Y h.sp.hi,Bb h.t,Bb h.f,U st h.s.length hc] 91)) g ss gc h st hc;simp only[zA] at L0;have HN:=aa (λlc wx hL=>hU (sO ⟨w.heap.size+1+1,0,nO⟩) [g,h] lc wx (by simp) hL);rw[hn] at HN;have hM:=λw=>ix g.sp h.sp w;rw[hsp,show∀r,d8 0 r=r from λr=>rfl] at hM;have HM:=aa hM;clear hn hsp hM;have HA:=aa (λw=>yk g ss gc h st hc w);have HY:Hid (((g.n&&h.n)||(!(au g.sp h.sp).n||((g.t&&h.t)||((g.f&&h.f)||g.s.any λx=>h.s.contains x))))=((g.n&&h.n)||(!(au g.sp h.sp).n||((g.t&&h.t)||((g.f&&h.f)||g.s.any λx=>h.s.contains x))))):=rfl;generalize hy:((g.n&&h.n)||(!(au g.sp h.sp).n||((g.t&&h.t)||((g.f&&h.f)||g.s.any λx=>h.s.contains x))))=yy;have HY:=aa hy.symm;clear hy;generalize au g.sp h.sp=M at HM HY;generalize cL g h=ak at HA |-;have I0:=hs.below B0 (lR _);have J0:=ht.below B0 (lR _);clear hs ht;go_enter Tryz.func206,Tryz.ntmps206;go_wp2_with (go_at_call 233;fail);refine(HN.out 2 _ L0).mono ?_;rintro e w1 ⟨rfl,hb1⟩;have G1:=(G0.alloc _).call hb1;have H1:=(H0.alloc _).call hb1;have I1:=(I0.alloc _).call hb1;have J1:=(J0.alloc _).call hb1;have B1:Below w.heap.size w w1:=(B0.alloc B0.size _).trans (hb1.mono (by simp;omega));clear hb1 G0 H0 I0 J0 B0 L0 HN;obtain⟨⟨g0,g1,g2,g3,g4,g5,g6⟩,gz⟩:=id G1;obtain⟨⟨k0,k1,k2,k3,k4,k5,k6⟩,kz⟩:=id H1;simp only[j4] at g0 g1 g2 g3 g4 g5 g6 k0 k1 k2 k3 k4 k5 k6;go_wp2_with (go_at_call 159;fail);refine(HM.out _).mono ?_;rintro e w2 ⟨rfl,hb2⟩;have G3:=(G1.call hb2).alloc (Cc #[Bb M.n,I Y M.lo,I Y M.hi] 89);have H3:=(H1.call hb2).alloc (Cc #[Bb M.n,I Y M.lo,I Y M.hi] 89);have I3:=(I1.call hb2).alloc (Cc #[Bb M.n,I Y M.lo,I Y M.hi] 89);have J3:=(J1.call hb2).alloc (Cc #[Bb M.n,I Y M.lo,I Y M.hi] 89);have B2:=B1.trans (hb2.mono B1.size);have B3:=B2.alloc B2.size (Cc #[Bb M.n,I Y M.lo,I Y M.hi] 89);have G2:=G1.call hb2;have H2:=H1.call hb2;clear hb2 G1 H1 I1 J1 B1 B2 g0 g1 g2 g3 g4 g5 g6 gz k0 k1 k2 k3 k4 k5 k6 kz HM;obtain⟨⟨g0,g1,g2,g3,g4,g5,g6⟩,gz⟩:=id G2;obtain⟨⟨k0,k1,k2,k3,k4,k5,k6⟩,kz⟩:=id H2;simp only[j4] at g0 g1 g2 g3 g4 g5 g6 k0 k1 k2 k3 k4 k5 k6;obtain⟨n,sp,t,f,sl⟩:=g;obtain⟨n',sp',t',f',h'⟩:=h;obtain⟨mn,ml,mh⟩:=M;simp only at hgl hlt;have HY:=HY;rcases eT n n' with⟨rfl,rfl⟩|rfl|⟨rfl,rfl⟩
 ·go_wp2_with (go_at_call 235;fail)
  exact dR
 ·cases mn with
  |false=>
   go_wp2_with (go_at_call 235;fail);exact dR
  |true=>
   rcases eT t t' with⟨rfl,rfl⟩|rfl|⟨rfl,rfl⟩
   ·go_wp2_with (go_at_call 235;fail)
    exact dR
   ·rcases eT f f' with⟨rfl,rfl⟩|rfl|⟨rfl,rfl⟩
    ·go_wp2_with (go_at_call 235;fail)
     exact dR
    ·go_wp2_with (go_at_call 200;fail)
     refine(bZ (w.heap.size+1) (λx=>h'.contains x) ss gc sl _ hgl I3 λx wx hbx=>eD x _ ⟨n',sp',t',f',h'⟩ st hc wx (H3.call hbx) (J3.call hbx) (by simpa using hlt)).mono ?_;exact eH
    ·go_wp2_with (go_at_call 200;fail)
     refine(bZ (w.heap.size+1) (λx=>h'.contains x) ss gc sl _ hgl I3 λx wx hbx=>eD x _ ⟨n',sp',t',false,h'⟩ st hc wx (H3.call hbx) (J3.call hbx) (by simpa using hlt)).mono ?_;exact eH
   ·rcases eT f f' with⟨rfl,rfl⟩|rfl|⟨rfl,rfl⟩
    ·go_wp2_with (go_at_call 235;fail)
     exact dR
    ·go_wp2_with (go_at_call 200;fail)
     refine(bZ (w.heap.size+1) (λx=>h'.contains x) ss gc sl _ hgl I3 λx wx hbx=>eD x _ ⟨n',sp',false,f',h'⟩ st hc wx (H3.call hbx) (J3.call hbx) (by simpa using hlt)).mono ?_;exact eH
    ·go_wp2_with (go_at_call 200;fail)
     refine(bZ (w.heap.size+1) (λx=>h'.contains x) ss gc sl _ hgl I3 λx wx hbx=>eD x _ ⟨n',sp',false,false,h'⟩ st hc wx (H3.call hbx) (J3.call hbx) (by simpa using hlt)).mono ?_;exact eH
 ·cases mn with
  |false=>
   go_wp2_with (go_at_call 235;fail);exact dR
  |true=>
   rcases eT t t' with⟨rfl,rfl⟩|rfl|⟨rfl,rfl⟩
   ·go_wp2_with (go_at_call 235;fail)
    exact dR
   ·rcases eT f f' with⟨rfl,rfl⟩|rfl|⟨rfl,rfl⟩
    ·go_wp2_with (go_at_call 235;fail)
     exact dR
    ·go_wp2_with (go_at_call 200;fail)
     refine(bZ (w.heap.size+1) (λx=>h'.contains x) ss gc sl _ hgl I3 λx wx hbx=>eD x _ ⟨false,sp',t',f',h'⟩ st hc wx (H3.call hbx) (J3.call hbx) (by simpa using hlt)).mono ?_;exact eH
    ·go_wp2_with (go_at_call 200;fail)
     refine(bZ (w.heap.size+1) (λx=>h'.contains x) ss gc sl _ hgl I3 λx wx hbx=>eD x _ ⟨false,sp',t',false,h'⟩ st hc wx (H3.call hbx) (J3.call hbx) (by simpa using hlt)).mono ?_;exact eH
   ·rcases eT f f' with⟨rfl,rfl⟩|rfl|⟨rfl,rfl⟩
    ·go_wp2_with (go_at_call 235;fail)
     exact dR
    ·go_wp2_with (go_at_call 200;fail)
     refine(bZ (w.heap.size+1) (λx=>h'.contains x) ss gc sl _ hgl I3 λx wx hbx=>eD x _ ⟨false,sp',false,f',h'⟩ st hc wx (H3.call hbx) (J3.call hbx) (by simpa using hlt)).mono ?_;exact eH
    ·go_wp2_with (go_at_call 200;fail)
     refine(bZ (w.heap.size+1) (λx=>h'.contains x) ss gc sl _ hgl I3 λx wx hbx=>eD x _ ⟨false,sp',false,false,h'⟩ st hc wx (H3.call hbx) (J3.call hbx) (by simpa using hlt)).mono ?_;exact eH
theorem bO (s:ByteArray):s.data.toList.length=s.size:=by show s.data.toList.length=s.data.size;exact Array.length_toList
theorem pa (s:ByteArray)(m k:Nat)(h1:m<=k):(s.extract m k).data.toList=(s.data.toList.drop m).take (k - m):=by
 rw[Lib.extract_data]
theorem pq {s:ByteArray}{k:Nat}(h:k < s.size):s.data.toList[k]? =sO s[k]:=by
 rw[Array.getElem?_toList];exact Array.getElem?_eq_getElem h
theorem Fy {s:List UInt8}{c:UInt8}{m k:Nat}(h1:m<=k)(hk:s[k]? =sO c)(hf:c∉(s.drop m).take (k - m)):bi c (s.drop m)=(s.drop m).take (k - m)::bi c (s.drop (k+1)):=by
 obtain⟨hlt,hk2⟩:=List.getElem?_eq_some_iff.1 hk;have e:s.drop m=(s.drop m).take (k - m)++c::s.drop (k+1):=by
  have h2:=(List.take_append_drop (k - m) (s.drop m)).symm;rw[List.drop_drop,show m+(k - m)=k by omega,j6 hlt,hk2] at h2;exact h2
 have h3:=rW c (s.drop (k+1)) _ hf;rw[<-e] at h3;exact h3
theorem DF {s:List UInt8}{c x:UInt8}{m k:Nat}(h1:m<=k)(hk:s[k]? =sO x)(hx:x≠c)(hf:c∉(s.drop m).take (k - m)):c∉(s.drop m).take (k+1 - m):=by
 rw[show k+1 - m=(k - m)+1 by omega,List.take_add_one,List.getElem?_drop,show m+(k - m)=k by omega,hk];intro hm;rcases List.mem_append.1 hm with hm|hm
 ·exact hf hm
 ·simp at hm
  exact hx hm.symm

theorem pk (s:ByteArray)(c:UInt8)(w:World)(hs:s.size<=4000):
  Calls pG 65 #[.string s,.int .u8 c.toNat] w λe w'=>∃(v:Value) (xs:List ByteArray),e=Rt v/\(xs.map λb:ByteArray=>b.data.toList)=bi c s.data.toList/\xs.length<=4001/\w'.ownsRow w.heap.size 9 1 v xs.length (xs.map .string)/\Below w.heap.size w w':=by
 obtain⟨ti,hi,hz0,hz1,hz2⟩:=info_parts GG;go_enter Tryz.func65,Tryz.ntmps65;go_wp2;go_loopw [5,6,7] (λo f i wr=>∃(k m:Nat) (D:List ByteArray),k<=s.size/\m<=k/\D.length<=k/\i=I Y k/\f=I Y m/\wr.ownsRow w.heap.size 9 1 o D.length (D.map .string)/\Hid (bi c s.data.toList=(D.map λb:ByteArray=>b.data.toList)++bi c (s.data.toList.drop m))/\Hid (c∉(s.data.toList.drop m).take (k - m))/\Below w.heap.size w wr) (λ_ _ i _=>s.size - (intOf i).toNat)
 case atStart=>exact⟨0,0,[],Nat.zero_le _,lR _,lR _,rfl,rfl,⟨rfl,.inl ⟨rfl,rfl⟩⟩,rfl,(by show c∉_;simp),bR _ _⟩
 case round=>
  obtain⟨k,m,D,hk,hm,hD,rfl,rfl,hown,HC,HF,hbr⟩:=hrel;have s1:=hbr.size;by_cases hlt:k < s.size
  ·have n0:(0:Int)<=(k:Int):=by omega
   have n1:(k:Int) < (s.size:Int):=by omega
   have n2:(0:Int)<=(m:Int):=by omega
   have n3:(m:Int)<=(k:Int):=by omega
   have n4:(k:Int)<=(s.size:Int):=by omega
   have hg:=pq hlt;generalize hx:s[k]=x at *;by_cases he:x=c
   ·subst he
    have H1:Hid (bi x s.data.toList=((D++[s.extract m k]).map λb:ByteArray=>b.data.toList)++bi x (s.data.toList.drop (k+1))):=by
     show _=_;rw[HC.out,Fy hm hg HF.out,j1,List.append_assoc,<-pa s m k hm];rfl
    have H2:Hid (x∉(s.data.toList.drop (k+1)).take (k+1 - (k+1))):=by show x∉_;simp
    clear HC HF hg;have hln:(D++[s.extract m k]).length=D.length+1:=by simp
    go_wp2_with (at_builtin;refine wpList_append_own _ rfl _ _ 31 rfl w.heap.size 9 ti (.string ⟨#[]⟩) 1 16 Tryz.underlying31 hi hz0 hz1 hz2 rfl (by decide) _ _ _ rfl (hown.alloc _) ⟨wr.heap.size,0,nO⟩ 1 1 [.string (s.extract m k)] rfl rfl (cell_one_new _ _ _) (λx hx=>by simp at hx;subst hx;rfl) (by unfold maxLen;omega) (by omega) (by simp;omega) ?_;intro v' w3 hown' hgrow3 hnil3);go_roundw
    case rel=>exact⟨k+1,k+1,D++[s.extract m k],by omega,lR _,by omega,by go_num,by go_num,by rw[hln,j1];exact hown',H1,H2,(hbr.alloc s1 _).grown hgrow3 (by simp;omega) (λj hj=>dh hown hj)⟩
    case measure=>simp[intOf];omega
   ·have e1:((x.toNat:Int)==(c.toNat:Int))=false:=by
     rw[beq_eq_false_iff_ne];intro e;exact he (UInt8.toNat_inj.1 (by omega))
    have H2:Hid (c∉(s.data.toList.drop m).take (k+1 - m)):=DF hm hg he HF.out;clear HF hg;go_wp2;go_roundw
    case rel=>exact⟨k+1,m,D,by omega,by omega,by omega,by go_num,rfl,hown,HC,H2,hbr⟩
    case measure=>simp[intOf];omega
  ·have hk':k=s.size:=by omega
   subst hk';have n2:(0:Int)<=(m:Int):=by omega
   have n3:(m:Int)<=(s.size:Int):=by omega
   have H1:Hid (((D++[s.extract m s.size]).map λb:ByteArray=>b.data.toList)=bi c s.data.toList):=by
    show _=_;have hF:=HF.out;rw[j2 (by rw[j5,bO];exact lR _)] at hF;rw[HC.out,rO c _ hF,j1];congr 1;rw[List.map_cons,List.map_nil,pa s m s.size hm,j2 (by rw[j5,bO];exact lR _)]
   clear HC HF;have hln:(D++[s.extract m s.size]).length=D.length+1:=by simp
   go_wp2_with (at_builtin;refine wpList_append_own _ rfl _ _ 31 rfl w.heap.size 9 ti (.string ⟨#[]⟩) 1 16 Tryz.underlying31 hi hz0 hz1 hz2 rfl (by decide) _ _ _ rfl (hown.alloc _) ⟨wr.heap.size,0,nO⟩ 1 1 [.string (s.extract m s.size)] rfl rfl (cell_one_new _ _ _) (λx hx=>by simp at hx;subst hx;rfl) (by unfold maxLen;omega) (by omega) (by simp;omega) ?_;intro v' w3 hown' hgrow3 hnil3);go_ret;refine⟨_,D++[s.extract m s.size],rfl,H1.out,by omega,?_,(hbr.alloc s1 _).grown hgrow3 (by simp;omega) (λj hj=>dh hown hj)⟩;rw[hln,j1];exact hown'
theorem cd {p:Prop}(h:p):Hid p:=h

def Kh (o:Option Int)(e:Ending):Prop:=∃v,e=Rt (Tu #[I Y v,Bb o.isSome])/\∀n,o=sO n->v=n

theorem rS {p:Prop}(h:p:=by
 obtain rfl:none=ans:=(Iz HL.out HN.out hg (by omega)).symm.trans HA.out;clear HDm hg;go_wp2
 go_ret2
 exact⟨⟨0,rfl,λn h=>(by cases h)⟩,Below.refl _ _⟩):p:=h
theorem kO (s:ByteArray)(w:World)(hs:s.size<=4000):
  Calls pG 66 #[.string s] w λe w'=>Kh (bK s.data.toList) e/\Below w.heap.size w w':=by
 have hD:∃(neg:Bool) (d:ByteArray),Hid (s.data.toList=if neg=true then 45::d.data.toList else d.data.toList)/\Hid (neg=false->d.data.toList.head?≠sO 45)/\Hid (neg=true->0 < s.size/\(∀h:0 < s.size,s[0]=45)/\d=s.extract 1 s.size)/\Hid (neg=false->d=s/\∀h:0 < s.size,s[0]≠45):=by
  by_cases h0:0 < s.size
  ·have hg:=pq h0
   have hc:s.data.toList=s[0]::s.data.toList.drop 1:=by
    have hl:0 < s.data.toList.length:=by rw[bO];exact h0
    have h2:=j6 hl;rw[List.drop_zero] at h2;rw[List.getElem?_eq_getElem hl] at hg;rw[h2,Option.some.inj hg];rfl
   by_cases h45:s[0]=45
   ·refine⟨true,s.extract 1 s.size,?_,cd (λh=>by cases h),cd (λ_=>⟨h0,λ_=>h45,rfl⟩),cd (λh=>by cases h)⟩
    show _=_;rw[if_pos rfl,pa s 1 s.size (by omega),j2 (by rw[j5,bO];exact lR _),<-h45];exact hc
   ·refine⟨false,s,rfl,cd (λ_=> ?_),cd (λh=>by cases h),cd (λ_=>⟨rfl,λ_=>h45⟩)⟩
    rw[hc];simpa using h45
  ·refine⟨false,s,rfl,cd (λ_=> ?_),cd (λh=>by cases h),cd (λ_=>⟨rfl,λh=>absurd h h0⟩)⟩
   have:s.data.toList=[]:=j7 (by rw[bO];omega);rw[this];simp
 obtain⟨neg,d,HL,HN,HT,HF⟩:=hD;have hdl:Hid (s.size=if neg=true then d.size+1 else d.size):=by
  have:=congrArg j3 HL.out;rw[bO] at this;show _=_;rw[this];cases neg<;>simp[bO]
 generalize hans:bK s.data.toList=ans;have HA:=cd hans;clear hans;go_enter Tryz.func66,Tryz.ntmps66
 go_upto_region 2 with fail
 go_cut [15] (λt wy=>t=Bb neg/\wy=w)
 case first=>
  cases neg with
  |true=>
   obtain⟨h0,h1,h2⟩:=HT.out rfl;have n0:(0:Int) < (s.size:Int):=by omega
   have h3:=h1 h0;go_wp2_with fail;go_meet;exact⟨rfl,rfl⟩
  |false=>
   obtain⟨h2,h1⟩:=HF.out rfl;by_cases h0:0 < s.size
   ·have n0:(0:Int) < (s.size:Int):=by omega
    have h3:=h1 h0;have e1:((s[0].toNat:Int)==45)=false:=by
     rw[beq_eq_false_iff_ne];intro e;refine h3 (UInt8.toNat_inj.1 ?_);have:(45:UInt8).toNat=45:=rfl;omega
    go_wp2_with fail;go_meet;exact⟨rfl,rfl⟩
   ·have n0:¬(0:Int) < (s.size:Int):=by omega
    go_wp2_with fail;go_meet;exact⟨rfl,rfl⟩
 obtain⟨rfl,hwc⟩:=hcut;have hwd:=hwc.symm;subst hwd;clear hwc
 go_upto_if 15 with fail
 go_cut [4] (λt wy=>t=.string d/\wy=w)
 case first=>
  cases neg with
  |true=>
   obtain⟨h0,h1,h2⟩:=HT.out rfl;have n0:(1:Int)<=(s.size:Int):=by omega
   go_wp2_with fail;go_meet;exact⟨by rw[h2],rfl⟩
  |false=>
   obtain⟨h2,h1⟩:=HF.out rfl;go_wp2_with fail;go_meet;exact⟨by rw[h2],rfl⟩
 obtain⟨rfl,hwc⟩:=hcut;have hwd:=hwc.symm;subst hwd;clear hwc;clear HT HF;by_cases hd0:d.size=0
 ·have he:d=⟨#[]⟩:=by
   apply ByteArray.ext;apply Array.toList_inj.1;exact j7 (by rw[bO];exact hd0)
  subst he;obtain rfl:nO=ans:=(DU HL.out).symm.trans HA.out;go_wp2
  go_ret2
  exact⟨⟨0,rfl,λn h=>(by cases h)⟩,bR _ _⟩
 ·have hemp:(d.toList==[])=false:=by
   rw[beq_eq_false_iff_ne,ByteArray.toList_eq];intro e;have:=congrArg j3 e;rw[bO] at this;exact hd0 (by simpa using this)
  have hemp2:d.toList.isEmpty=false:=by
   rw[ByteArray.toList_eq,List.isEmpty_eq_false_iff];intro e;have:=congrArg j3 e;rw[bO] at this;exact hd0 (by simpa using this)
  by_cases hlen:s.size<=11
  ·have n0:¬(11:Int) < (s.size:Int):=by omega
   have hd11:d.size<=11:=by
    have:=hdl.out;cases neg<;>simp at this<;>omega
   go_wp2
   go_loop [5,6] (λn i=>∃(k m:Nat),k<=d.size/\i=I Y k/\n=I Y m/\m < 10 ^ k/\Hid (Lib.decFrom 0 (d.data.toList.take k)=sO m)) (λ_ i=>d.size - (intOf i).toNat)
   case atStart=>exact⟨0,0,Nat.zero_le _,rfl,rfl,by simp,rfl⟩
   case round=>
    obtain⟨k,m,hk,rfl,rfl,hm,HDm⟩:=hrel;by_cases hlt:k < d.size
    ·have hg:=pq hlt
     have m0:(0:Int)<=(k:Int):=by omega
     have m1:(k:Int) < (d.size:Int):=by omega
     have hp:10 ^ k<=10 ^ 10:=j8 (by decide) (by omega);have hp2:(10:Nat) ^ (k+1)=10 ^ k * 10:=Nat.pow_succ 10 k;have hpe:(10:Nat) ^ 10=10000000000:=by decide
     generalize hx:d[k]=x at *;by_cases c1:x.toNat < 48
     ·have e1:(x.toNat:Int) < 48:=by omega
      exact rS
     ·have e1:¬(x.toNat:Int) < 48:=by omega
      by_cases c2:57 < x.toNat
      ·have e2:(57:Int) < (x.toNat:Int):=by omega
       exact rS
      ·have e2:¬(57:Int) < (x.toNat:Int):=by omega
       have HD2:Hid (Lib.decFrom 0 (d.data.toList.take (k+1))=sO (m * 10+(x.toNat - 48))):=Ez HDm.out hg (by omega);clear HDm hg;go_wp2
       go_round
       case rel=>exact⟨k+1,m * 10+(x.toNat - 48),by omega,by go_num,by go_num,by omega,HD2⟩
       case measure=>simp[intOf];omega
    ·have hk':k=d.size:=by omega
     subst hk';have hp:10 ^ d.size<=10 ^ 11:=j8 (by decide) hd11;have hpe:(10:Nat) ^ 11=100000000000:=by decide
     have hdec:=HDm.out;rw[j2 (by rw[bO];exact lR _)] at hdec;have hch:=Gy HL.out (λe=>hd0 (by have:=congrArg j3 e;rw[bO] at this;simpa using this)) (by rw[bO];exact hlen) hdec
     rw[HA.out] at hch;have HC:=cd hch;clear hch hdec HDm;have hv:∃v:Int,Hid (v=if neg=true then -(m:Int) else m):=⟨_,rfl⟩;obtain⟨v,HV⟩:=hv;have hfit:gJ v:=by
      have:=HV.out;unfold gJ;cases neg<;>simp at this<;>omega
     rw[<-HV.out] at HC
     go_upto_if 53 with fail
     go_cut [5] (λt wy=>t=I Y v/\wy=w)
     case first=>
      cases neg with
      |true=>
       have n1:(d.size:Int) < (s.size:Int):=by have:=hdl.out;simp at this;omega
       go_wp2_with fail;go_meet;exact⟨by rw[HV.out];simp,rfl⟩
      |false=>
       have n1:¬(d.size:Int) < (s.size:Int):=by have:=hdl.out;simp at this;omega
       go_wp2_with fail;go_meet;exact⟨by rw[HV.out];simp,rfl⟩
     obtain⟨rfl,hwc⟩:=hcut;have hwd:=hwc.symm;subst hwd;clear hwc;go_wp2_with (go_at_call 27;fail);refine(kS v _ hfit).mono ?_;rintro e w1 ⟨rfl,hb1⟩;by_cases hi:Lib.itoa v=s.data.toList
     ·have hi':dI v=s:=by
       apply ByteArray.ext;apply Array.toList_inj.1;rw[<-hi];simp[dI]
      obtain rfl:ans=sO v:=HC.out.trans (if_pos hi);go_wp2
      go_ret2
      exact⟨⟨v,rfl,λn h=>(by cases h;rfl)⟩,hb1⟩
     ·have hne:((dI v).toList==s.toList)=false:=by
       rw[beq_eq_false_iff_ne,ByteArray.toList_eq,ByteArray.toList_eq];intro e;apply hi;rw[<-e];simp[dI]
      obtain rfl:ans=none:=HC.out.trans (if_neg hi);go_wp2
      go_ret2
      exact⟨⟨v,rfl,λn h=>(by cases h)⟩,hb1⟩
  ·have n0:(11:Int) < (s.size:Int):=by omega
   obtain rfl:nO=ans:=(E4 (by rw[bO];exact hlen)).symm.trans HA.out;go_wp2
   go_ret2
   exact⟨⟨0,rfl,λn h=>(by cases h)⟩,bR _ _⟩
end
end Go.Proofs.YtmapdpcfanecdabGreatDoor
