import Derived.Test.YtmapdpcfanecdabGreatDoorU14
import Derived.Test.YtmapdpcfanecdabGreatDoorU15
import Derived.Test.YtmapdpcfanecdabGreatDoorU16
import Derived.Test.YtmapdpcfanecdabGreatDoorU17
import Derived.Test.YtmapdpcfanecdabGreatDoorU18
import Derived.Test.YtmapdpcfanecdabGreatDoorU19
import Derived.Test.YtmapdpcfanecdabGreatDoorU21
open Go.Ending renaming returned→Rt
open Go.IntKind renaming i64→Y
open Go.Obj renaming cells→Cc
open Go.Proofs.Tryz renaming prog→pG
open Go.Value renaming agg→Ag,bool→Bb,int→I,slice→U,tuple→Tu
open Go.World renaming size_alloc→zA
open Nat renaming le_refl→lR,zero_add→j1
open Option renaming none→nO,some→sO
set_option linter.unusedSimpArgs false
set_option linter.unusedVariables false
set_option maxHeartbeats 16000000
set_option maxRecDepth 100000
namespace Go.Proofs.YtmapdpcfanecdabGreatDoor
section
open Go.RowKit
def lo (q:Int):Int:=if q=4 then -2147483648 else 0
def hi (V F L q:Int):Int:=if q=4 then 2147483647 else if q=5 then 1 else if q=6 then 1000000 else if q=7 then F - 1 else if q=3 then L else V - 1
def er (q:Int):Int:=if q=4\/q=5\/q=6 then 3 else 5

theorem EO (V F:Int)(s:oA)(len cap:Nat)(q:Int)(w:World)(_hV:1<=V)(_hV':V<=8)(_hF:0<=F)(_hF':F<=3)(_hL:len<=60)(hq:0<=q/\q<=7):
  Calls pG 186 #[Ag #[I Y V,I Y F,U s len cap],I Y q] w λe w'=>e=Rt (Tu #[I Y (lo q),I Y (hi V F len q),I Y (er q)])/\bl w w':=by
 have:q=0\/q=1\/q=2\/q=3\/q=4\/q=5\/q=6\/q=7:=aa;rcases this with rfl|rfl|rfl|rfl|rfl|rfl|rfl|rfl;all_goals
  go_enter Tryz.func186,Tryz.ntmps186;go_wp2;try (go_quiet (fail);go_wp2)
  go_ret3
  exact⟨rfl,by first|(go_grown;done)|exact below_drewN (by go_grown) _⟩
theorem aq {N:Nat}{w:World}(h:ShpAt N shps w)(j i:Nat)(hj:j < shps.length)(hne:shps[j].2.2≠[])(v:Value)(hv:(oC shps[j].2.2)[i]? =sO v):w.cell? ⟨N+1+j,i,nO⟩=sO v/\N+1+j < w.heap.size:=by
 have hb:=h.parts j hj hne;exact⟨by simp[World.cell?,hb,hv],(Array.getElem?_eq_some_iff.1 hb).1⟩
theorem dt {p:Prop}(h:p:=by
 have l0:lo 0=0:=rfl;have m0:hi V F len 0=V - 1:=rfl;have e0:er 0=5:=rfl;have l1:lo 1=0:=rfl;have m1:hi V F len 1=V - 1:=rfl;have e1:er 1=5:=rfl;have l2:lo 2=0:=rfl;have m2:hi V F len 2=V - 1:=rfl;have e2:er 2=5:=rfl;have l3:lo 3=0:=rfl;have m3:hi V F len 3=(len:Int):=rfl;have e3:er 3=5:=rfl;have l4:lo 4= -2147483648:=rfl;have m4:hi V F len 4=2147483647:=rfl;have e4:er 4=3:=rfl;have l5:lo 5=0:=rfl;have m5:hi V F len 5=1:=rfl;have e5:er 5=3:=rfl;have l6:lo 6=0:=rfl;have m6:hi V F len 6=1000000:=rfl;have e6:er 6=3:=rfl;have l7:lo 7=0:=rfl;have m7:hi V F len 7=F - 1:=rfl;have e7:er 7=5:=rfl;have z1:=Nat.lt_add_right 1 hz;have z2:=Nat.lt_add_right 1 z1;have z3:=Nat.lt_add_right 1 z2;have z4:=Nat.lt_add_right 1 z3;have x3:¬_:=Nat.ne_of_lt z3;go_enter Tryz.func128,Tryz.ntmps128;go_wp2;refine wp_loop_rounds 4 ?_;iterate 4 (try any_goals (rw[rounds_succ];go_wp2_with (first|(go_at_call 186;refine(EO V F _ _ _ _ _ hV hV' hF hF' hL ?hq).mono ?_;(case hq=>decide);rintro e w1 ⟨rfl,hb1⟩;obtain⟨hc1,hf1⟩:=yK hb1;have hz1:w.heap.size+3 < w1.heap.size:=kM;have hz2:w.heap.size < w1.heap.size:=aa;have hz3:w.heap.size+1 < w1.heap.size:=aa;have hz4:w.heap.size+1+1 < w1.heap.size:=aa;have hz5:w.heap.size+1+1+1 < w1.heap.size:=aa;have hz6:=Nat.lt_trans hz hz2;have HB:Below w.heap.size w w1:=Below.trans ai (hb1.mono iC))|go_in)))
 all_goals go_ret
 all_goals refine⟨bP ?_,ai⟩
 all_goals clear hl
 all_goals (try clear p0)
 all_goals (try clear p1)
 all_goals (try clear p2)
 all_goals simp[bk,nTo,nA,nB,nN,nG,btw]
 all_goals omega):p:=h
def Tab (w:World):Prop:=Lib.TabIs pG w "internal/strconv.uint64pow10" .u64 Lib.pow10Tab
theorem Ec:∃g,Tryz.prog.globalNamed "internal/strconv.uint64pow10" =sO g:=by
 have h:(Tryz.prog.globalNamed "internal/strconv.uint64pow10").isSome=true:=ag;exact Option.isSome_iff_exists.1 h
theorem Tab.below {w w':World}(h:Tab w)(hb:bl w w'):Tab w':=by
 obtain⟨g,hg⟩:=Ec;have hc:=h.cell hg 0 aj;exact var?_below hb hg (World.block_lt_of_cell? w _ hc) h

theorem m8 (n:Int)(w:World)(h:lA n)(ht:Tab w):
  Calls pG 118 #[I Y n] w λe w'=>e=Rt (.string (gR n))/\bl w w':=by
 refine(Tryz.strconv_Itoa n h.1 h.2 w ht).mono ?_;rintro e w' ⟨rfl,k,os,rfl⟩;exact⟨rfl,⟨rfl,rfl,rfl,by simp[Sort.grow],λi hi=>by simp[Sort.grow,Array.getElem?_append,World.drewN,hi]⟩⟩
theorem Am {P:Program}{N:Nat}{w:World}{es:Array MapEntry}{clock:Nat}(t kt et:TypeId)(ht:P.underlying t=sO (.map kt et))(hk:P.underlying kt=sO (.int .i64))(hmap:w.heap[N]? =sO (.map es clock))
  (k:Int)(i:Nat)(v:Value)(hf:Instr.findNow (.int .i64) (I Y k) es.toList 0=sO (sO (i,v))):(Instr.lookup t (.map (sO N)) (I Y k) false).run P w=.ok v w:=by
 have hc:∀e,(Instr.checkKey e 10000 kt (I Y k)).run P w=.ok () w:=λe=>MapKept.run_checkKey (k:=I Y k) hk rfl e 9999;simp[Instr.lookup,run_underlying ht,MapKept.run_getObj_map hmap,hc,MapKept.run_findKey hk hf,Result.andThen]

theorem bn {N:Nat}{w:World}(h:ShpAt N shps w)(k:Int)(i:Nat)(v:Value)(hf:Instr.findNow (.int .i64) (I Y k) (cI N 0 shps) 0=sO (sO (i,v))):(Instr.lookup 179 (.map (sO N)) (I Y k) false).run pG w=.ok v w:=
 Am _ 3 228 Tryz.underlying179 Tryz.underlying3 h.map k i v hf
theorem yr (V F:Int)(s:oA)(len cap N:Nat)(tto a b n g:Int)(w:World)(hV:1<=V)(hV':V<=8)(hF:0<=F)(hF':F<=3)(hL:len<=60)(hs:ShpAt N shps w):
  Calls pG 128 #[Ag #[I Y V,I Y F,U s len cap],.map (sO N),Ag #[I Y 12,I Y tto,I Y a,I Y b,I Y n,I Y g]] w λe w'=>e=Rt (I Y (bk V F len ⟨12,tto,a,b,n,g⟩))/\bl w w':=by
 have hb0:Below w.heap.size w ((w.alloc (Cc #[I Y V,I Y F,U s len cap] 24)).alloc (Cc #[I Y 12,I Y tto,I Y a,I Y b,I Y n,I Y g] 100)):=ai;have hl:(Instr.lookup 179 (.map (sO N)) (I Y 12) true).run pG _=.ok (Tu #[Ag #[.string (aQ 12),U (sO ⟨N+12,0,nO⟩) 3 3],Bb true]) _:=cS (hs.below hb0 (lR _)) 12 11 _ rfl;have hz:N+12 < w.heap.size:=(aq hs 11 0 aj aj (I Y 0) rfl).2;have p0:w.cell? ⟨N+12,0,nO⟩=sO (I Y 0):=(aq hs 11 0 aj aj (I Y 0) rfl).1;have p1:w.cell? ⟨N+12,1,nO⟩=sO (I Y 1):=(aq hs 11 1 aj aj (I Y 1) rfl).1;have p2:w.cell? ⟨N+12,2,nO⟩=sO (I Y 7):=(aq hs 11 2 aj aj (I Y 7) rfl).1;clear hb0 hs;exact dt

theorem yH (V F:Int)(s:oA)(len cap N:Nat)(tto a b n g:Int)(w:World)(hV:1<=V)(hV':V<=8)(hF:0<=F)(hF':F<=3)(hL:len<=60)(hs:ShpAt N shps w):
  Calls pG 128 #[Ag #[I Y V,I Y F,U s len cap],.map (sO N),Ag #[I Y 13,I Y tto,I Y a,I Y b,I Y n,I Y g]] w λe w'=>e=Rt (I Y (bk V F len ⟨13,tto,a,b,n,g⟩))/\bl w w':=by
 have hb0:Below w.heap.size w ((w.alloc (Cc #[I Y V,I Y F,U s len cap] 24)).alloc (Cc #[I Y 13,I Y tto,I Y a,I Y b,I Y n,I Y g] 100)):=ai;have hl:(Instr.lookup 179 (.map (sO N)) (I Y 13) true).run pG _=.ok (Tu #[Ag #[.string (aQ 13),U (sO ⟨N+13,0,nO⟩) 3 3],Bb true]) _:=cS (hs.below hb0 (lR _)) 13 12 _ rfl;have hz:N+13 < w.heap.size:=(aq hs 12 0 aj aj (I Y 1) rfl).2;have p0:w.cell? ⟨N+13,0,nO⟩=sO (I Y 1):=(aq hs 12 0 aj aj (I Y 1) rfl).1;have p1:w.cell? ⟨N+13,1,nO⟩=sO (I Y 7):=(aq hs 12 1 aj aj (I Y 7) rfl).1;have p2:w.cell? ⟨N+13,2,nO⟩=sO (I Y 2):=(aq hs 12 2 aj aj (I Y 2) rfl).1;clear hb0 hs;exact dt

theorem wU (V F:Int)(s:oA)(len cap N:Nat)(tto a b n g:Int)(w:World)(hV:1<=V)(hV':V<=8)(hF:0<=F)(hF':F<=3)(hL:len<=60)(hs:ShpAt N shps w):
  Calls pG 128 #[Ag #[I Y V,I Y F,U s len cap],.map (sO N),Ag #[I Y 14,I Y tto,I Y a,I Y b,I Y n,I Y g]] w λe w'=>e=Rt (I Y (bk V F len ⟨14,tto,a,b,n,g⟩))/\bl w w':=by
 have hb0:Below w.heap.size w ((w.alloc (Cc #[I Y V,I Y F,U s len cap] 24)).alloc (Cc #[I Y 14,I Y tto,I Y a,I Y b,I Y n,I Y g] 100)):=ai;have hl:(Instr.lookup 179 (.map (sO N)) (I Y 14) true).run pG _=.ok (Tu #[Ag #[.string (aQ 14),U (sO ⟨N+14,0,nO⟩) 2 2],Bb true]) _:=cS (hs.below hb0 (lR _)) 14 13 _ rfl;have hz:N+14 < w.heap.size:=(aq hs 13 0 aj aj (I Y 0) rfl).2;have p0:w.cell? ⟨N+14,0,nO⟩=sO (I Y 0):=(aq hs 13 0 aj aj (I Y 0) rfl).1;have p1:w.cell? ⟨N+14,1,nO⟩=sO (I Y 6):=(aq hs 13 1 aj aj (I Y 6) rfl).1;clear hb0 hs;exact dt
theorem gN {x:Int}(h:wrap64 x=x):IntKind.i64.wrap x=x:=by
 rw[IntKind.wrap_i64];unfold wrap64 at h;exact h

theorem nc (k:Int)(s t:Sp)(w:World)(hk:k=5\/k=6\/k=7)(hs:s.Ok)(ht:t.Ok):
  Calls pG 172 #[I Y k,sv s,sv t] w λe w'=>e=Rt (sv (cn k s t))/\bl w w':=by
 by_cases h:(s.n||t.n)=true
 ·have:=Kl k s t w h
  unfold cn;rw[if_pos h];exact this
 ·have e0:cn k s t=fL (oJ k s.lo t.lo) (oJ k s.lo t.hi) (oJ k s.hi t.lo) (oJ k s.hi t.hi):=by unfold cn;rw[if_neg h]
  rw[e0];obtain⟨n,lo,hi⟩:=s;obtain⟨n',lo',hi'⟩:=t;cases n with
  |true=>exact absurd rfl h
  |false=>
   cases n' with
   |true=>exact absurd rfl h
   |false=>
    rcases hk with rfl|rfl|rfl
    ·exact Ft lo hi lo' hi' _ _ _ _ w (gN (fR hs.1 ht.1)) (gN (fR hs.1 ht.2.1)) (gN (fR hs.2.1 ht.1)) (gN (fR hs.2.1 ht.2.1))
    ·exact Fv lo hi lo' hi' _ _ _ _ w (gN (fW hs.1 ht.1)) (gN (fW hs.1 ht.2.1)) (gN (fW hs.2.1 ht.1)) (gN (fW hs.2.1 ht.2.1))
    ·exact Ew lo hi lo' hi' _ _ _ _ w (gN (fT hs.1 ht.1)) (gN (fT hs.1 ht.2.1)) (gN (fT hs.2.1 ht.1)) (gN (fT hs.2.1 ht.2.1))

theorem Ax (s t:Sp)(w:World):
  Calls pG 167 #[sv s,sv t,Bb false] w λe w'=>e=Rt (sv (bi s t))/\bl w w':=by
 by_cases h:(s.n||t.n)=true
 ·exact tY s t false w h
 ·obtain⟨n,lo,hi⟩:=s
  obtain⟨n',lo',hi'⟩:=t;cases n with
  |true=>exact absurd rfl h
  |false=>
   cases n' with
   |true=>exact absurd rfl h
   |false=>exact Er lo hi lo' hi' w

theorem yR (s t:Sp)(w:World):
  Calls pG 167 #[sv s,sv t,Bb true] w λe w'=>e=Rt (sv (bq s t))/\bl w w':=by
 by_cases h:(s.n||t.n)=true
 ·have e0:bq s t=bi s t:=by
   unfold bq bi;obtain⟨n,lo,hi⟩:=s;obtain⟨n',lo',hi'⟩:=t;cases n with
   |true=>rfl
   |false=>
    cases n' with
    |true=>rfl
    |false=>exact absurd h ah
  rw[e0];exact tY s t true w h
 ·obtain⟨n,lo,hi⟩:=s
  obtain⟨n',lo',hi'⟩:=t;cases n with
  |true=>exact absurd rfl h
  |false=>
   cases n' with
   |true=>exact absurd rfl h
   |false=>exact Ei lo hi lo' hi' w
theorem eS (a b:Bool):(a=true/\b=true)\/a=false\/(a=true/\b=false):=by cases a<;>cases b<;>simp

theorem FY (g:Gs)(ss:oA)(gc:Nat)(h:Gs)(st:oA)(hc:Nat)(w:World)(hn:[g,h].any ap=true):
  Calls pG 206 #[gv g ss gc,gv h st hc] w λe w'=>e=Rt (Tu #[Bb false,Bb false])/\bl w w':=by
 have B0:Below w.heap.size w ((w.alloc (Cc #[Bb g.n,Bb g.sp.n,I Y g.sp.lo,I Y g.sp.hi,Bb g.t,Bb g.f,U ss g.s.length gc] 91)).alloc (Cc #[Bb h.n,Bb h.sp.n,I Y h.sp.lo,I Y h.sp.hi,Bb h.t,Bb h.f,U st h.s.length hc] 91)):=ai;have G0:=(GuAt.new w g ss gc).alloc (Cc #[Bb h.n,Bb h.sp.n,I Y h.sp.lo,I Y h.sp.hi,Bb h.t,Bb h.f,U st h.s.length hc] 91);have H0:=GuAt.new (w.alloc (Cc #[Bb g.n,Bb g.sp.n,I Y g.sp.lo,I Y g.sp.hi,Bb g.t,Bb g.f,U ss g.s.length gc] 91)) h st hc;rw[zA] at H0;have L0:=GhAt.new2 ((w.alloc (Cc #[Bb g.n,Bb g.sp.n,I Y g.sp.lo,I Y g.sp.hi,Bb g.t,Bb g.f,U ss g.s.length gc] 91)).alloc (Cc #[Bb h.n,Bb h.sp.n,I Y h.sp.lo,I Y h.sp.hi,Bb h.t,Bb h.f,U st h.s.length hc] 91)) g ss gc h st hc;simp only[zA] at L0;have HN:=ae (λlc wx hL=>iB (sO ⟨w.heap.size+1+1,0,nO⟩) [g,h] lc wx ah hL);rw[hn] at HN;clear hn;go_enter Tryz.func206,Tryz.ntmps206;go_wp2_with fail;refine(HN.out 2 _ L0).mono ?_;rintro e w1 ⟨rfl,hb1⟩;go_wp2
 go_ret2
 exact⟨rfl,(B0.alloc B0.size _).trans (hb1.mono an)⟩

theorem eP {p:Prop}(h:p:=by
 rintro e w4 ⟨rfl,hb4⟩;have G4:=G3.call hb4;have H4:=H3.call hb4;have B4:=B3.trans (hb4.mono B3.size);clear hb4 G3 H3 B3 I3 J3 G2 H2 g0 g1 g2 g3 g4 g5 g6 gz k0 k1 k2 k3 k4 k5 k6 kz;obtain⟨⟨g0,g1,g2,g3,g4,g5,g6⟩,gz⟩:=id G4;obtain⟨⟨k0,k1,k2,k3,k4,k5,k6⟩,kz⟩:=id H4;simp only[Nat.zero_add] at g0 g1 g2 g3 g4 g5 g6 k0 k1 k2 k3 k4 k5 k6;generalize hA':(sl.any λx=>h'.contains x)=al at *;have HAL:=ae hA';clear hA';go_wp2_with fail;refine(HA.out _).mono ?_;rintro e w9 ⟨rfl,hb9⟩;go_wp2
 go_ret2
 exact⟨kY mb rfl,B4.trans (hb9.mono B4.size)⟩):p:=h
theorem dM {p:Prop}(h:p:=by
 refine(HA.out _).mono ?_;rintro e w9 ⟨rfl,hb9⟩;go_wp2
 go_ret2
 exact⟨kY mb rfl,B3.trans (hb9.mono B3.size)⟩):p:=h
theorem Gw (g:Gs)(ss:oA)(gc:Nat)(h:Gs)(st:oA)(hc:Nat)(w:World)(hs:IntsAt w ss g.s)(hgl:g.s.length<=9223372036854775807)(ht:IntsAt w st h.s)(hlt:h.s.length<=9223372036854775807)(hsp:bu g.sp h.sp=0)(hn:[g,h].any ap=false):
  Calls pG 206 #[gv g ss gc,gv h st hc] w λe w'=>e=Rt (Tu #[Bb ((g.n&&h.n)||(!(aF g.sp h.sp).n||((g.t&&h.t)||((g.f&&h.f)||g.s.any λx=>h.s.contains x)))),Bb (!cM g h)])/\bl w w':=by
 have B0:Below w.heap.size w ((w.alloc (Cc #[Bb g.n,Bb g.sp.n,I Y g.sp.lo,I Y g.sp.hi,Bb g.t,Bb g.f,U ss g.s.length gc] 91)).alloc (Cc #[Bb h.n,Bb h.sp.n,I Y h.sp.lo,I Y h.sp.hi,Bb h.t,Bb h.f,U st h.s.length hc] 91)):=ai;have G0:=(GuAt.new w g ss gc).alloc (Cc #[Bb h.n,Bb h.sp.n,I Y h.sp.lo,I Y h.sp.hi,Bb h.t,Bb h.f,U st h.s.length hc] 91);have H0:=GuAt.new (w.alloc (Cc #[Bb g.n,Bb g.sp.n,I Y g.sp.lo,I Y g.sp.hi,Bb g.t,Bb g.f,U ss g.s.length gc] 91)) h st hc;rw[zA] at H0;have L0:=GhAt.new2 ((w.alloc (Cc #[Bb g.n,Bb g.sp.n,I Y g.sp.lo,I Y g.sp.hi,Bb g.t,Bb g.f,U ss g.s.length gc] 91)).alloc (Cc #[Bb h.n,Bb h.sp.n,I Y h.sp.lo,I Y h.sp.hi,Bb h.t,Bb h.f,U st h.s.length hc] 91)) g ss gc h st hc;simp only[zA] at L0;have HN:=ae (λlc wx hL=>iB (sO ⟨w.heap.size+1+1,0,nO⟩) [g,h] lc wx ah hL);rw[hn] at HN;have hM:=λw=>iT g.sp h.sp w;rw[hsp,show∀r,dW 0 r=r from λr=>rfl] at hM;have HM:=ae hM;clear hn hsp hM;have HA:=ae (λw=>Ck g ss gc h st hc w);have HY:Hid (((g.n&&h.n)||(!(aF g.sp h.sp).n||((g.t&&h.t)||((g.f&&h.f)||g.s.any λx=>h.s.contains x))))=((g.n&&h.n)||(!(aF g.sp h.sp).n||((g.t&&h.t)||((g.f&&h.f)||g.s.any λx=>h.s.contains x))))):=rfl;generalize hy:((g.n&&h.n)||(!(aF g.sp h.sp).n||((g.t&&h.t)||((g.f&&h.f)||g.s.any λx=>h.s.contains x))))=yy;have HY:=ae hy.symm;clear hy;generalize aF g.sp h.sp=M at HM HY;generalize cM g h=ak at HA |-;have I0:=hs.below B0 (lR _);have J0:=ht.below B0 (lR _);clear hs ht;go_enter Tryz.func206,Tryz.ntmps206;go_wp2_with fail;refine(HN.out 2 _ L0).mono ?_;rintro e w1 ⟨rfl,hb1⟩;have G1:=(G0.alloc _).call hb1;have H1:=(H0.alloc _).call hb1;have I1:=(I0.alloc _).call hb1;have J1:=(J0.alloc _).call hb1;have B1:bl w w1:=(B0.alloc B0.size _).trans (hb1.mono an);clear hb1 G0 H0 I0 J0 B0 L0 HN;obtain⟨⟨g0,g1,g2,g3,g4,g5,g6⟩,gz⟩:=id G1;obtain⟨⟨k0,k1,k2,k3,k4,k5,k6⟩,kz⟩:=id H1;simp only[j1] at g0 g1 g2 g3 g4 g5 g6 k0 k1 k2 k3 k4 k5 k6;go_wp2_with fail;refine(HM.out _).mono ?_;rintro e w2 ⟨rfl,hb2⟩;have G3:=(G1.call hb2).alloc (Cc #[Bb M.n,I Y M.lo,I Y M.hi] 89);have H3:=(H1.call hb2).alloc (Cc #[Bb M.n,I Y M.lo,I Y M.hi] 89);have I3:=(I1.call hb2).alloc (Cc #[Bb M.n,I Y M.lo,I Y M.hi] 89);have J3:=(J1.call hb2).alloc (Cc #[Bb M.n,I Y M.lo,I Y M.hi] 89);have B2:=B1.trans (hb2.mono B1.size);have B3:=B2.alloc B2.size (Cc #[Bb M.n,I Y M.lo,I Y M.hi] 89);have G2:=G1.call hb2;have H2:=H1.call hb2;clear hb2 G1 H1 I1 J1 B1 B2 g0 g1 g2 g3 g4 g5 g6 gz k0 k1 k2 k3 k4 k5 k6 kz HM;obtain⟨⟨g0,g1,g2,g3,g4,g5,g6⟩,gz⟩:=id G2;obtain⟨⟨k0,k1,k2,k3,k4,k5,k6⟩,kz⟩:=id H2;simp only[j1] at g0 g1 g2 g3 g4 g5 g6 k0 k1 k2 k3 k4 k5 k6;obtain⟨n,sp,t,f,sl⟩:=g;obtain⟨n',sp',t',f',h'⟩:=h;obtain⟨mn,ml,mh⟩:=M;simp only at hgl hlt;have HY:=HY;rcases eS n n' with⟨rfl,rfl⟩|rfl|⟨rfl,rfl⟩
 ·go_wp2_with fail
  exact dM
 ·cases mn with
  |false=>
   go_wp2_with fail;exact dM
  |true=>
   rcases eS t t' with⟨rfl,rfl⟩|rfl|⟨rfl,rfl⟩
   ·go_wp2_with fail
    exact dM
   ·rcases eS f f' with⟨rfl,rfl⟩|rfl|⟨rfl,rfl⟩
    ·go_wp2_with fail
     exact dM
    ·go_wp2_with fail
     refine(cq (w.heap.size+1) (λx=>h'.contains x) ss gc sl _ hgl I3 λx wx hbx=>eD x _ ⟨n',sp',t',f',h'⟩ st hc wx (H3.call hbx) (J3.call hbx) dm).mono ?_;exact eP
    ·go_wp2_with fail
     refine(cq (w.heap.size+1) (λx=>h'.contains x) ss gc sl _ hgl I3 λx wx hbx=>eD x _ ⟨n',sp',t',false,h'⟩ st hc wx (H3.call hbx) (J3.call hbx) dm).mono ?_;exact eP
   ·rcases eS f f' with⟨rfl,rfl⟩|rfl|⟨rfl,rfl⟩
    ·go_wp2_with fail
     exact dM
    ·go_wp2_with fail
     refine(cq (w.heap.size+1) (λx=>h'.contains x) ss gc sl _ hgl I3 λx wx hbx=>eD x _ ⟨n',sp',false,f',h'⟩ st hc wx (H3.call hbx) (J3.call hbx) dm).mono ?_;exact eP
    ·go_wp2_with fail
     refine(cq (w.heap.size+1) (λx=>h'.contains x) ss gc sl _ hgl I3 λx wx hbx=>eD x _ ⟨n',sp',false,false,h'⟩ st hc wx (H3.call hbx) (J3.call hbx) dm).mono ?_;exact eP
 ·cases mn with
  |false=>
   go_wp2_with fail;exact dM
  |true=>
   rcases eS t t' with⟨rfl,rfl⟩|rfl|⟨rfl,rfl⟩
   ·go_wp2_with fail
    exact dM
   ·rcases eS f f' with⟨rfl,rfl⟩|rfl|⟨rfl,rfl⟩
    ·go_wp2_with fail
     exact dM
    ·go_wp2_with fail
     refine(cq (w.heap.size+1) (λx=>h'.contains x) ss gc sl _ hgl I3 λx wx hbx=>eD x _ ⟨false,sp',t',f',h'⟩ st hc wx (H3.call hbx) (J3.call hbx) dm).mono ?_;exact eP
    ·go_wp2_with fail
     refine(cq (w.heap.size+1) (λx=>h'.contains x) ss gc sl _ hgl I3 λx wx hbx=>eD x _ ⟨false,sp',t',false,h'⟩ st hc wx (H3.call hbx) (J3.call hbx) dm).mono ?_;exact eP
   ·rcases eS f f' with⟨rfl,rfl⟩|rfl|⟨rfl,rfl⟩
    ·go_wp2_with fail
     exact dM
    ·go_wp2_with fail
     refine(cq (w.heap.size+1) (λx=>h'.contains x) ss gc sl _ hgl I3 λx wx hbx=>eD x _ ⟨false,sp',false,f',h'⟩ st hc wx (H3.call hbx) (J3.call hbx) dm).mono ?_;exact eP
    ·go_wp2_with fail
     refine(cq (w.heap.size+1) (λx=>h'.contains x) ss gc sl _ hgl I3 λx wx hbx=>eD x _ ⟨false,sp',false,false,h'⟩ st hc wx (H3.call hbx) (J3.call hbx) dm).mono ?_;exact eP
end
end Go.Proofs.YtmapdpcfanecdabGreatDoor
