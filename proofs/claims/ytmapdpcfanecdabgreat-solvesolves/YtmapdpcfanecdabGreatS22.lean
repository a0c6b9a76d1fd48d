import Derived.Test.YtmapdpcfanecdabGreatS15
import Derived.Test.YtmapdpcfanecdabGreatS16
import Derived.Test.YtmapdpcfanecdabGreatS17
import Derived.Test.YtmapdpcfanecdabGreatS18
import Derived.Test.YtmapdpcfanecdabGreatS19
import Derived.Test.YtmapdpcfanecdabGreatS20
import Derived.Test.YtmapdpcfanecdabGreatS21
open Go.Ending renaming returned→Rt
open Go.IntKind renaming i64→Y
open Go.Obj renaming cells→Cc
open Go.Proofs.Tryz renaming prog→pG
open Go.Value renaming agg→Ag,bool→Bb,int→I,slice→U,tuple→Tu
open Go.World renaming size_alloc→zA
open Nat renaming le_refl→lR,zero_add→j1
open Option renaming none→nO,some→sO
set_option linter.unusedSimpArgs false
set_option linter.unusedVariables false
set_option maxHeartbeats 16000000
set_option maxRecDepth 100000
namespace Go.Proofs.YtmapdpcfanecdabGreat
section
open Go.RowKit
def lo (q:Int):Int:=if q=4 then -2147483648 else 0
def hi (V F L q:Int):Int:=if q=4 then 2147483647 else if q=5 then 1 else if q=6 then 1000000 else if q=7 then F - 1 else if q=3 then L else V - 1
def er (q:Int):Int:=if q=4\/q=5\/q=6 then 3 else 5

theorem vF (V F:Int)(s:oA)(len cap:Nat)(q:Int)(w:World)(_hV:1<=V)(_hV':V<=8)(_hF:0<=F)(_hF':F<=3)(_hL:len<=60)(hq:0<=q/\q<=7):
  Calls pG 127 #[Ag #[I Y V,I Y F,U s len cap],I Y q] w λe w'=>e=Rt (Tu #[I Y (lo q),I Y (hi V F len q),I Y (er q)])/\Below w.heap.size w w':=by
 have:q=0\/q=1\/q=2\/q=3\/q=4\/q=5\/q=6\/q=7:=by omega
 rcases this with rfl|rfl|rfl|rfl|rfl|rfl|rfl|rfl
 all_goals
  go_enter Tryz.func127,Tryz.ntmps127;go_wp2
  try (go_quiet (fail);go_wp2)
  go_ret3
  exact⟨rfl,by first|(go_grown;done)|exact below_drewN (by go_grown) _⟩
theorem aB {N:Nat}{w:World}(h:ShpAt N shps w)(j i:Nat)(hj:j < shps.length)(hne:shps[j].2.2≠[])(v:Value)(hv:(lN shps[j].2.2)[i]? =sO v):w.cell? ⟨N+1+j,i,nO⟩=sO v/\N+1+j < w.heap.size:=by
 have hb:=h.parts j hj hne;exact⟨by simp[World.cell?,hb,hv],(Array.getElem?_eq_some_iff.1 hb).1⟩
theorem cS {p:Prop}(h:p:=by
 have l0:lo 0=0:=rfl;have m0:hi V F len 0=V - 1:=rfl;have e0:er 0=5:=rfl;have l1:lo 1=0:=rfl;have m1:hi V F len 1=V - 1:=rfl;have e1:er 1=5:=rfl;have l2:lo 2=0:=rfl;have m2:hi V F len 2=V - 1:=rfl;have e2:er 2=5:=rfl;have l3:lo 3=0:=rfl;have m3:hi V F len 3=(len:Int):=rfl;have e3:er 3=5:=rfl;have l4:lo 4= -2147483648:=rfl;have m4:hi V F len 4=2147483647:=rfl;have e4:er 4=3:=rfl;have l5:lo 5=0:=rfl;have m5:hi V F len 5=1:=rfl;have e5:er 5=3:=rfl;have l6:lo 6=0:=rfl;have m6:hi V F len 6=1000000:=rfl;have e6:er 6=3:=rfl;have l7:lo 7=0:=rfl;have m7:hi V F len 7=F - 1:=rfl;have e7:er 7=5:=rfl;have z1:=Nat.lt_add_right 1 hz;have z2:=Nat.lt_add_right 1 z1;have z3:=Nat.lt_add_right 1 z2;have z4:=Nat.lt_add_right 1 z3;have x3:¬_:=Nat.ne_of_lt z3;go_enter Tryz.func97,Tryz.ntmps97;go_wp2;refine wp_loop_rounds 4 ?_
 iterate 4 (try any_goals (rw[rounds_succ];go_wp2_with (first|(go_at_call 127;refine(vF V F _ _ _ _ _ hV hV' hF hF' hL ?hq).mono ?_;(case hq=>decide);rintro e w1 ⟨rfl,hb1⟩;obtain⟨hc1,hf1⟩:=sq hb1;have hz1:w.heap.size+3 < w1.heap.size:=(by have:=hb1.size;simp at this;omega);have hz2:w.heap.size < w1.heap.size:=(by omega);have hz3:w.heap.size+1 < w1.heap.size:=(by omega);have hz4:w.heap.size+1+1 < w1.heap.size:=(by omega);have hz5:w.heap.size+1+1+1 < w1.heap.size:=(by omega);have hz6:=Nat.lt_trans hz hz2;have HB:Below w.heap.size w w1:=Below.trans (by go_grown) (hb1.mono (by go_size)))|go_in)))
 all_goals go_ret
 all_goals refine⟨bd ?_,by go_grown⟩
 all_goals clear hl
 all_goals (try clear p0)
 all_goals (try clear p1)
 all_goals (try clear p2)
 all_goals simp[aU,nTo,nA,nB,nN,nG,btw]
 all_goals omega):p:=h
theorem rJ (V F:Int)(s:oA)(len cap N:Nat)(tto a b n g:Int)(w:World)(hV:1<=V)(hV':V<=8)(hF:0<=F)(hF':F<=3)(hL:len<=60)(hs:ShpAt N shps w):
  Calls pG 97 #[Ag #[I Y V,I Y F,U s len cap],.map (sO N),Ag #[I Y 12,I Y tto,I Y a,I Y b,I Y n,I Y g]] w λe w'=>e=Rt (I Y (aU V F len ⟨12,tto,a,b,n,g⟩))/\Below w.heap.size w w':=by
 have hb0:Below w.heap.size w ((w.alloc (Cc #[I Y V,I Y F,U s len cap] 24)).alloc (Cc #[I Y 12,I Y tto,I Y a,I Y b,I Y n,I Y g] 51)):=by go_grown
 have hl:(Instr.lookup 127 (.map (sO N)) (I Y 12) true).run pG _=.ok (Tu #[Ag #[.string (aJ 12),U (sO ⟨N+12,0,nO⟩) 3 3],Bb true]) _:=cC (hs.below hb0 (lR _)) 12 11 _ rfl;have hz:N+12 < w.heap.size:=(aB hs 11 0 (by decide) (by decide) (I Y 0) rfl).2;have p0:w.cell? ⟨N+12,0,nO⟩=sO (I Y 0):=(aB hs 11 0 (by decide) (by decide) (I Y 0) rfl).1;have p1:w.cell? ⟨N+12,1,nO⟩=sO (I Y 1):=(aB hs 11 1 (by decide) (by decide) (I Y 1) rfl).1;have p2:w.cell? ⟨N+12,2,nO⟩=sO (I Y 7):=(aB hs 11 2 (by decide) (by decide) (I Y 7) rfl).1;clear hb0 hs;exact cS

theorem rK (V F:Int)(s:oA)(len cap N:Nat)(tto a b n g:Int)(w:World)(hV:1<=V)(hV':V<=8)(hF:0<=F)(hF':F<=3)(hL:len<=60)(hs:ShpAt N shps w):
  Calls pG 97 #[Ag #[I Y V,I Y F,U s len cap],.map (sO N),Ag #[I Y 13,I Y tto,I Y a,I Y b,I Y n,I Y g]] w λe w'=>e=Rt (I Y (aU V F len ⟨13,tto,a,b,n,g⟩))/\Below w.heap.size w w':=by
 have hb0:Below w.heap.size w ((w.alloc (Cc #[I Y V,I Y F,U s len cap] 24)).alloc (Cc #[I Y 13,I Y tto,I Y a,I Y b,I Y n,I Y g] 51)):=by go_grown
 have hl:(Instr.lookup 127 (.map (sO N)) (I Y 13) true).run pG _=.ok (Tu #[Ag #[.string (aJ 13),U (sO ⟨N+13,0,nO⟩) 3 3],Bb true]) _:=cC (hs.below hb0 (lR _)) 13 12 _ rfl;have hz:N+13 < w.heap.size:=(aB hs 12 0 (by decide) (by decide) (I Y 1) rfl).2;have p0:w.cell? ⟨N+13,0,nO⟩=sO (I Y 1):=(aB hs 12 0 (by decide) (by decide) (I Y 1) rfl).1;have p1:w.cell? ⟨N+13,1,nO⟩=sO (I Y 7):=(aB hs 12 1 (by decide) (by decide) (I Y 7) rfl).1;have p2:w.cell? ⟨N+13,2,nO⟩=sO (I Y 2):=(aB hs 12 2 (by decide) (by decide) (I Y 2) rfl).1;clear hb0 hs;exact cS

theorem rZ (V F:Int)(s:oA)(len cap N:Nat)(tto a b n g:Int)(w:World)(hV:1<=V)(hV':V<=8)(hF:0<=F)(hF':F<=3)(hL:len<=60)(hs:ShpAt N shps w):
  Calls pG 97 #[Ag #[I Y V,I Y F,U s len cap],.map (sO N),Ag #[I Y 14,I Y tto,I Y a,I Y b,I Y n,I Y g]] w λe w'=>e=Rt (I Y (aU V F len ⟨14,tto,a,b,n,g⟩))/\Below w.heap.size w w':=by
 have hb0:Below w.heap.size w ((w.alloc (Cc #[I Y V,I Y F,U s len cap] 24)).alloc (Cc #[I Y 14,I Y tto,I Y a,I Y b,I Y n,I Y g] 51)):=by go_grown
 have hl:(Instr.lookup 127 (.map (sO N)) (I Y 14) true).run pG _=.ok (Tu #[Ag #[.string (aJ 14),U (sO ⟨N+14,0,nO⟩) 2 2],Bb true]) _:=cC (hs.below hb0 (lR _)) 14 13 _ rfl;have hz:N+14 < w.heap.size:=(aB hs 13 0 (by decide) (by decide) (I Y 0) rfl).2;have p0:w.cell? ⟨N+14,0,nO⟩=sO (I Y 0):=(aB hs 13 0 (by decide) (by decide) (I Y 0) rfl).1;have p1:w.cell? ⟨N+14,1,nO⟩=sO (I Y 6):=(aB hs 13 1 (by decide) (by decide) (I Y 6) rfl).1;clear hb0 hs;exact cS
theorem fw {x:Int}(h:wrap64 x=x):IntKind.i64.wrap x=x:=by
 rw[IntKind.wrap_i64];unfold wrap64 at h;exact h

theorem kI (k:Int)(s t:Sp)(w:World)(hk:k=5\/k=6\/k=7)(hs:s.Ok)(ht:t.Ok):
  Calls pG 63 #[I Y k,sv s,sv t] w λe w'=>e=Rt (sv (bO k s t))/\Below w.heap.size w w':=by
 by_cases h:(s.n||t.n)=true
 ·have:=AV k s t w h
  unfold bO;rw[if_pos h];exact this
 ·have e0:bO k s t=d9 (kU k s.lo t.lo) (kU k s.lo t.hi) (kU k s.hi t.lo) (kU k s.hi t.hi):=by unfold bO;rw[if_neg h]
  rw[e0];obtain⟨n,lo,hi⟩:=s;obtain⟨n',lo',hi'⟩:=t;cases n with
  |true=>exact absurd rfl h
  |false=>
   cases n' with
   |true=>exact absurd rfl h
   |false=>
    rcases hk with rfl|rfl|rfl
    ·exact vJ lo hi lo' hi' _ _ _ _ w (fw (eH hs.1 ht.1)) (fw (eH hs.1 ht.2.1)) (fw (eH hs.2.1 ht.1)) (fw (eH hs.2.1 ht.2.1))
    ·exact vD lo hi lo' hi' _ _ _ _ w (fw (eu hs.1 ht.1)) (fw (eu hs.1 ht.2.1)) (fw (eu hs.2.1 ht.1)) (fw (eu hs.2.1 ht.2.1))
    ·exact vd lo hi lo' hi' _ _ _ _ w (fw (eI hs.1 ht.1)) (fw (eI hs.1 ht.2.1)) (fw (eI hs.2.1 ht.1)) (fw (eI hs.2.1 ht.2.1))

theorem tK (s t:Sp)(w:World):
  Calls pG 58 #[sv s,sv t,Bb false] w λe w'=>e=Rt (sv (aT s t))/\Below w.heap.size w w':=by
 by_cases h:(s.n||t.n)=true
 ·exact nY s t false w h
 ·obtain⟨n,lo,hi⟩:=s
  obtain⟨n',lo',hi'⟩:=t;cases n with
  |true=>exact absurd rfl h
  |false=>
   cases n' with
   |true=>exact absurd rfl h
   |false=>exact wF lo hi lo' hi' w

theorem tJ (s t:Sp)(w:World):
  Calls pG 58 #[sv s,sv t,Bb true] w λe w'=>e=Rt (sv (aV s t))/\Below w.heap.size w w':=by
 by_cases h:(s.n||t.n)=true
 ·have e0:aV s t=aT s t:=by
   unfold aV aT;obtain⟨n,lo,hi⟩:=s;obtain⟨n',lo',hi'⟩:=t;cases n with
   |true=>rfl
   |false=>
    cases n' with
    |true=>rfl
    |false=>exact absurd h (by simp)
  rw[e0];exact nY s t true w h
 ·obtain⟨n,lo,hi⟩:=s
  obtain⟨n',lo',hi'⟩:=t;cases n with
  |true=>exact absurd rfl h
  |false=>
   cases n' with
   |true=>exact absurd rfl h
   |false=>exact wK lo hi lo' hi' w
theorem dO (a b:Bool):(a=true/\b=true)\/a=false\/(a=true/\b=false):=by cases a<;>cases b<;>simp

theorem yt (g:Gs)(ss:oA)(gc:Nat)(h:Gs)(st:oA)(hc:Nat)(w:World)(hn:[g,h].any ae=true):
  Calls pG 124 #[gv g ss gc,gv h st hc] w λe w'=>e=Rt (Tu #[Bb false,Bb false])/\Below w.heap.size w w':=by
 have B0:Below w.heap.size w ((w.alloc (Cc #[Bb g.n,Bb g.sp.n,I Y g.sp.lo,I Y g.sp.hi,Bb g.t,Bb g.f,U ss g.s.length gc] 61)).alloc (Cc #[Bb h.n,Bb h.sp.n,I Y h.sp.lo,I Y h.sp.hi,Bb h.t,Bb h.f,U st h.s.length hc] 61)):=by go_grown
 have G0:=(GuAt.new w g ss gc).alloc (Cc #[Bb h.n,Bb h.sp.n,I Y h.sp.lo,I Y h.sp.hi,Bb h.t,Bb h.f,U st h.s.length hc] 61);have H0:=GuAt.new (w.alloc (Cc #[Bb g.n,Bb g.sp.n,I Y g.sp.lo,I Y g.sp.hi,Bb g.t,Bb g.f,U ss g.s.length gc] 61)) h st hc;rw[zA] at H0;have L0:=GhAt.new2 ((w.alloc (Cc #[Bb g.n,Bb g.sp.n,I Y g.sp.lo,I Y g.sp.hi,Bb g.t,Bb g.f,U ss g.s.length gc] 61)).alloc (Cc #[Bb h.n,Bb h.sp.n,I Y h.sp.lo,I Y h.sp.hi,Bb h.t,Bb h.f,U st h.s.length hc] 61)) g ss gc h st hc;simp only[zA] at L0;have HN:=aa (λlc wx hL=>fM (sO ⟨w.heap.size+1+1,0,nO⟩) [g,h] lc wx (by simp) hL);rw[hn] at HN;clear hn;go_enter Tryz.func124,Tryz.ntmps124;go_wp2_with (go_at_call 150;fail);refine(HN.out 2 _ L0).mono ?_;rintro e w1 ⟨rfl,hb1⟩;go_wp2
 go_ret2
 exact⟨rfl,(B0.alloc B0.size _).trans (hb1.mono (by simp;omega))⟩

theorem dC {p:Prop}(h:p:=by
 rintro e w4 ⟨rfl,hb4⟩;have G4:=G3.call hb4;have H4:=H3.call hb4;have B4:=B3.trans (hb4.mono B3.size);clear hb4 G3 H3 B3 I3 J3 G2 H2 g0 g1 g2 g3 g4 g5 g6 gz k0 k1 k2 k3 k4 k5 k6 kz;obtain⟨⟨g0,g1,g2,g3,g4,g5,g6⟩,gz⟩:=id G4;obtain⟨⟨k0,k1,k2,k3,k4,k5,k6⟩,kz⟩:=id H4;simp only[Nat.zero_add] at g0 g1 g2 g3 g4 g5 g6 k0 k1 k2 k3 k4 k5 k6;generalize hA':(sl.any λx=>h'.contains x)=al at *;have HAL:=aa hA';clear hA';go_wp2_with (go_at_call 152;fail);refine(HA.out _).mono ?_;rintro e w9 ⟨rfl,hb9⟩;go_wp2
 go_ret2
 exact⟨fr (by rw[HY.out];simp_all) rfl,B4.trans (hb9.mono B4.size)⟩):p:=h
theorem dj {p:Prop}(h:p:=by
 refine(HA.out _).mono ?_;rintro e w9 ⟨rfl,hb9⟩;go_wp2
 go_ret2
 exact⟨fr (by rw[HY.out];simp_all) rfl,B3.trans (hb9.mono B3.size)⟩):p:=h
theorem yQ (g:Gs)(ss:oA)(gc:Nat)(h:Gs)(st:oA)(hc:Nat)(w:World)(hs:IntsAt w ss g.s)(hgl:g.s.length<=9223372036854775807)(ht:IntsAt w st h.s)(hlt:h.s.length<=9223372036854775807)(hsp:bj g.sp h.sp=0)(hn:[g,h].any ae=false):
  Calls pG 124 #[gv g ss gc,gv h st hc] w λe w'=>e=Rt (Tu #[Bb ((g.n&&h.n)||(!(au g.sp h.sp).n||((g.t&&h.t)||((g.f&&h.f)||g.s.any λx=>h.s.contains x)))),Bb (!cq g h)])/\Below w.heap.size w w':=by
 have B0:Below w.heap.size w ((w.alloc (Cc #[Bb g.n,Bb g.sp.n,I Y g.sp.lo,I Y g.sp.hi,Bb g.t,Bb g.f,U ss g.s.length gc] 61)).alloc (Cc #[Bb h.n,Bb h.sp.n,I Y h.sp.lo,I Y h.sp.hi,Bb h.t,Bb h.f,U st h.s.length hc] 61)):=by go_grown
 have G0:=(GuAt.new w g ss gc).alloc (Cc #[Bb h.n,Bb h.sp.n,I Y h.sp.lo,I Y h.sp.hi,Bb h.t,Bb h.f,U st h.s.length hc] 61);have H0:=GuAt.new (w.alloc (Cc #[Bb g.n,Bb g.sp.n,I Y g.sp.lo,I Y g.sp.hi,Bb g.t,Bb g.f,U ss g.s.length gc] 61)) h st hc;rw[zA] at H0;have L0:=GhAt.new2 ((w.alloc (Cc #[Bb g.n,Bb g.sp.n,I Y g.sp.lo,I Y g.sp.hi,Bb g.t,Bb g.f,U ss g.s.length gc] 61)).alloc (Cc #[Bb h.n,Bb h.sp.n,I Y h.sp.lo,I Y h.sp.hi,Bb h.t,Bb h.f,U st h.s.length hc] 61)) g ss gc h st hc;simp only[zA] at L0;have HN:=aa (λlc wx hL=>fM (sO ⟨w.heap.size+1+1,0,nO⟩) [g,h] lc wx (by simp) hL);rw[hn] at HN;have hM:=λw=>fY g.sp h.sp w;rw[hsp,show∀r,dy 0 r=r from λr=>rfl] at hM;have HM:=aa hM;clear hn hsp hM;have HA:=aa (λw=>tO g ss gc h st hc w);have HY:Hid (((g.n&&h.n)||(!(au g.sp h.sp).n||((g.t&&h.t)||((g.f&&h.f)||g.s.any λx=>h.s.contains x))))=((g.n&&h.n)||(!(au g.sp h.sp).n||((g.t&&h.t)||((g.f&&h.f)||g.s.any λx=>h.s.contains x))))):=rfl;generalize hy:((g.n&&h.n)||(!(au g.sp h.sp).n||((g.t&&h.t)||((g.f&&h.f)||g.s.any λx=>h.s.contains x))))=yy;have HY:=aa hy.symm;clear hy;generalize au g.sp h.sp=M at HM HY;generalize cq g h=ak at HA |-;have I0:=hs.below B0 (lR _);have J0:=ht.below B0 (lR _);clear hs ht;go_enter Tryz.func124,Tryz.ntmps124;go_wp2_with (go_at_call 150;fail);refine(HN.out 2 _ L0).mono ?_;rintro e w1 ⟨rfl,hb1⟩;have G1:=(G0.alloc _).call hb1;have H1:=(H0.alloc _).call hb1;have I1:=(I0.alloc _).call hb1;have J1:=(J0.alloc _).call hb1;have B1:Below w.heap.size w w1:=(B0.alloc B0.size _).trans (hb1.mono (by simp;omega));clear hb1 G0 H0 I0 J0 B0 L0 HN;obtain⟨⟨g0,g1,g2,g3,g4,g5,g6⟩,gz⟩:=id G1;obtain⟨⟨k0,k1,k2,k3,k4,k5,k6⟩,kz⟩:=id H1;simp only[j1] at g0 g1 g2 g3 g4 g5 g6 k0 k1 k2 k3 k4 k5 k6;go_wp2_with (go_at_call 86;fail);refine(HM.out _).mono ?_;rintro e w2 ⟨rfl,hb2⟩;have G3:=(G1.call hb2).alloc (Cc #[Bb M.n,I Y M.lo,I Y M.hi] 58);have H3:=(H1.call hb2).alloc (Cc #[Bb M.n,I Y M.lo,I Y M.hi] 58);have I3:=(I1.call hb2).alloc (Cc #[Bb M.n,I Y M.lo,I Y M.hi] 58);have J3:=(J1.call hb2).alloc (Cc #[Bb M.n,I Y M.lo,I Y M.hi] 58);have B2:=B1.trans (hb2.mono B1.size);have B3:=B2.alloc B2.size (Cc #[Bb M.n,I Y M.lo,I Y M.hi] 58);have G2:=G1.call hb2;have H2:=H1.call hb2;clear hb2 G1 H1 I1 J1 B1 B2 g0 g1 g2 g3 g4 g5 g6 gz k0 k1 k2 k3 k4 k5 k6 kz HM;obtain⟨⟨g0,g1,g2,g3,g4,g5,g6⟩,gz⟩:=id G2;obtain⟨⟨k0,k1,k2,k3,k4,k5,k6⟩,kz⟩:=id H2;simp only[j1] at g0 g1 g2 g3 g4 g5 g6 k0 k1 k2 k3 k4 k5 k6;obtain⟨n,sp,t,f,sl⟩:=g;obtain⟨n',sp',t',f',h'⟩:=h;obtain⟨mn,ml,mh⟩:=M;simp only at hgl hlt;have HY:=HY;rcases dO n n' with⟨rfl,rfl⟩|rfl|⟨rfl,rfl⟩
 ·go_wp2_with (go_at_call 152;fail)
  exact dj
 ·cases mn with
  |false=>
   go_wp2_with (go_at_call 152;fail);exact dj
  |true=>
   rcases dO t t' with⟨rfl,rfl⟩|rfl|⟨rfl,rfl⟩
   ·go_wp2_with (go_at_call 152;fail)
    exact dj
   ·rcases dO f f' with⟨rfl,rfl⟩|rfl|⟨rfl,rfl⟩
    ·go_wp2_with (go_at_call 152;fail)
     exact dj
    ·go_wp2_with (go_at_call 118;fail)
     refine(bP (w.heap.size+1) (λx=>h'.contains x) ss gc sl _ hgl I3 λx wx hbx=>dI x _ ⟨n',sp',t',f',h'⟩ st hc wx (H3.call hbx) (J3.call hbx) (by simpa using hlt)).mono ?_;exact dC
    ·go_wp2_with (go_at_call 118;fail)
     refine(bP (w.heap.size+1) (λx=>h'.contains x) ss gc sl _ hgl I3 λx wx hbx=>dI x _ ⟨n',sp',t',false,h'⟩ st hc wx (H3.call hbx) (J3.call hbx) (by simpa using hlt)).mono ?_;exact dC
   ·rcases dO f f' with⟨rfl,rfl⟩|rfl|⟨rfl,rfl⟩
    ·go_wp2_with (go_at_call 152;fail)
     exact dj
    ·go_wp2_with (go_at_call 118;fail)
     refine(bP (w.heap.size+1) (λx=>h'.contains x) ss gc sl _ hgl I3 λx wx hbx=>dI x _ ⟨n',sp',false,f',h'⟩ st hc wx (H3.call hbx) (J3.call hbx) (by simpa using hlt)).mono ?_;exact dC
    ·go_wp2_with (go_at_call 118;fail)
     refine(bP (w.heap.size+1) (λx=>h'.contains x) ss gc sl _ hgl I3 λx wx hbx=>dI x _ ⟨n',sp',false,false,h'⟩ st hc wx (H3.call hbx) (J3.call hbx) (by simpa using hlt)).mono ?_;exact dC
 ·cases mn with
  |false=>
   go_wp2_with (go_at_call 152;fail);exact dj
  |true=>
   rcases dO t t' with⟨rfl,rfl⟩|rfl|⟨rfl,rfl⟩
   ·go_wp2_with (go_at_call 152;fail)
    exact dj
   ·rcases dO f f' with⟨rfl,rfl⟩|rfl|⟨rfl,rfl⟩
    ·go_wp2_with (go_at_call 152;fail)
     exact dj
    ·go_wp2_with (go_at_call 118;fail)
     refine(bP (w.heap.size+1) (λx=>h'.contains x) ss gc sl _ hgl I3 λx wx hbx=>dI x _ ⟨false,sp',t',f',h'⟩ st hc wx (H3.call hbx) (J3.call hbx) (by simpa using hlt)).mono ?_;exact dC
    ·go_wp2_with (go_at_call 118;fail)
     refine(bP (w.heap.size+1) (λx=>h'.contains x) ss gc sl _ hgl I3 λx wx hbx=>dI x _ ⟨false,sp',t',false,h'⟩ st hc wx (H3.call hbx) (J3.call hbx) (by simpa using hlt)).mono ?_;exact dC
   ·rcases dO f f' with⟨rfl,rfl⟩|rfl|⟨rfl,rfl⟩
    ·go_wp2_with (go_at_call 152;fail)
     exact dj
    ·go_wp2_with (go_at_call 118;fail)
     refine(bP (w.heap.size+1) (λx=>h'.contains x) ss gc sl _ hgl I3 λx wx hbx=>dI x _ ⟨false,sp',false,f',h'⟩ st hc wx (H3.call hbx) (J3.call hbx) (by simpa using hlt)).mono ?_;exact dC
    ·go_wp2_with (go_at_call 118;fail)
     refine(bP (w.heap.size+1) (λx=>h'.contains x) ss gc sl _ hgl I3 λx wx hbx=>dI x _ ⟨false,sp',false,false,h'⟩ st hc wx (H3.call hbx) (J3.call hbx) (by simpa using hlt)).mono ?_;exact dC
end
end Go.Proofs.YtmapdpcfanecdabGreat
