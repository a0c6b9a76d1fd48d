import Derived.Test.YtmapdpcfanecdabGreatDoorL08
import Derived.Test.YtmapdpcfanecdabGreatDoorL09
import Derived.Test.YtmapdpcfanecdabGreatDoorL10
import Derived.Test.YtmapdpcfanecdabGreatDoorL11
import Derived.Sort.OwnSortedInts
import Derived.Lib.RowBridge
import Derived.Test.YtmapdpcfanecdabGreatDoorL20
open Array renaming getElem?_eq_some_iff→j3
open Go.Ending renaming returned→Rt
open Go.IntKind renaming i64→Y
open Go.Obj renaming cells→Cc
open Go.Proofs.Tryz renaming prog→pG
open Go.RowKit.Below renaming refl→bR
open Go.Value renaming agg→Ag,bool→Bb,int→I,pointer→Pp,slice→U,tuple→Tu
open Go.World renaming size_alloc→zA
open List renaming drop_eq_nil_of_le→j4,flatMap_append→j6,length_append→j0,length_eq_zero_iff→j5,length_replicate→j7,replicate→j1
open Nat renaming le_refl→lR,le_trans→lT,zero_le→j2
open Option renaming none→nO,some→sO
set_option linter.unusedSimpArgs false
set_option linter.unusedVariables false
set_option maxHeartbeats 8000000
set_option maxRecDepth 20000
namespace Go.Proofs.YtmapdpcfanecdabGreatDoor
section
open Go.RowKit
theorem la (V F:Int)(s:Option Addr)(len cap N:Nat)(i:Ins)(w:World)(hV:1≤V)(hV':V≤8)(hF:0≤F)(hF':F≤3)(hL:len≤60)(hs:ShpAt N shps w):
  Calls pG 128 #[Ag #[I Y V,I Y F,U s len cap],.map (sO N),Ag #[I Y i.k,I Y i.tgt,I Y i.a,I Y i.b,I Y i.n,I Y i.g]] w λe w'=>e=Rt (I Y (bC V F len i))∧Below w.heap.size w w':=by
 obtain⟨k,tto,a,b,n,g⟩:=i
 by_cases h:btw k 1 19=true
 ·rcases sE h with rfl|rfl|rfl|rfl|rfl|rfl|rfl|rfl|rfl|rfl|rfl|rfl|rfl|rfl|rfl|rfl|rfl|rfl|rfl
  ·exact ur V F s len cap N tto a b n g w hV hV' hF hF' hL hs
  ·exact vp V F s len cap N tto a b n g w hV hV' hF hF' hL hs
  ·exact vJ V F s len cap N tto a b n g w hV hV' hF hF' hL hs
  ·exact uW V F s len cap N tto a b n g w hV hV' hF hF' hL hs
  ·exact uA V F s len cap N tto a b n g w hV hV' hF hF' hL hs
  ·exact vm V F s len cap N tto a b n g w hV hV' hF hF' hL hs
  ·exact uN V F s len cap N tto a b n g w hV hV' hF hF' hL hs
  ·exact uL V F s len cap N tto a b n g w hV hV' hF hF' hL hs
  ·exact uF V F s len cap N tto a b n g w hV hV' hF hF' hL hs
  ·exact tB V F s len cap N tto a b n g w hV hV' hF hF' hL hs
  ·exact tm V F s len cap N tto a b n g w hV hV' hF hF' hL hs
  ·exact ue V F s len cap N tto a b n g w hV hV' hF hF' hL hs
  ·exact tx V F s len cap N tto a b n g w hV hV' hF hF' hL hs
  ·exact ua V F s len cap N tto a b n g w hV hV' hF hF' hL hs
  ·exact td V F s len cap N tto a b n g w hV hV' hF hF' hL hs
  ·exact tq V F s len cap N tto a b n g w hV hV' hF hF' hL hs
  ·exact tG V F s len cap N tto a b n g w hV hV' hF hF' hL hs
  ·exact tT V F s len cap N tto a b n g w hV hV' hF hF' hL hs
  ·exact tA V F s len cap N tto a b n g w hV hV' hF hF' hL hs
 ·exact tw V F s len cap N k tto a b n g w hV hV' hF hF' hL hs (by simpa using h)

theorem yA (V F:Int)(b off cap:Nat)(c:List Ins)(w:World)(hV:1≤V)(hV':V≤8)(hF:0≤F)(hF':F≤3)(hL:c.length≤60)(hb:b < w.heap.size)(hc:∀k (h:k < c.length),InsAt w b (off+k * 6) c[k]):
  Calls pG 76 #[Ag #[I Y V,I Y F,U (sO ⟨b,off,nO⟩) c.length cap]] w λe w'=>e=Rt (I Y (fC V F c.length c))∧Below w.heap.size w w':=by
 have hl60:(c.length:Int)≤60:=by omega
 have hbox:Below w.heap.size w (w.alloc (Cc #[I Y V,I Y F,U (sO ⟨b,off,nO⟩) c.length cap] 24)):=by go_grown
 go_enter Tryz.func76,Tryz.ntmps76
 go_wp2_with (go_at_call 127;refine(o9 _).mono ?_;rintro e w1 ⟨rfl,hs1,hb1⟩;obtain⟨hc1,hf1⟩:=Ei hb1;have q2:w1.cell? ⟨w.heap.size,2,nO⟩=sO (U (sO ⟨b,off,nO⟩) c.length cap):=(by rw[hb1.cell (by simp)];simp[go_sem]))
 simp only[zA] at hs1
 have q0:w1.cell? ⟨w.heap.size,0,nO⟩=sO (I Y V):=by rw[hb1.cell (by simp)];simp[go_sem]
 have q1:w1.cell? ⟨w.heap.size,1,nO⟩=sO (I Y F):=by rw[hb1.cell (by simp)];simp[go_sem]
 clear hc1 hf1
 have z1:w.heap.size+1≤w1.heap.size:=by have:=hb1.size;simp at this;omega
 have hbw:Below w.heap.size w w1:=hbox.trans (hb1.mono (by simp))
 go_loopw [35] (λi wr=>∃k:Nat,k≤c.length∧i=I Y k∧Below w1.heap.size w1 wr∧Hid (fC V F c.length (c.drop k)=fC V F c.length c)) (λi _=>c.length - (intOf i).toNat)
 case atStart=>exact⟨0,j2 _,rfl,bR _ _,rfl⟩
 case round=>
  obtain⟨k,hk,rfl,hbr,HR⟩:=hrel
  have r0:wr.cell? ⟨w.heap.size,0,nO⟩=sO (I Y V):=by rw[hbr.cell (by simp;omega)];exact q0
  have r1:wr.cell? ⟨w.heap.size,1,nO⟩=sO (I Y F):=by rw[hbr.cell (by simp;omega)];exact q1
  have r2:wr.cell? ⟨w.heap.size,2,nO⟩=sO (U (sO ⟨b,off,nO⟩) c.length cap):=by rw[hbr.cell (by simp;omega)];exact q2
  have s0:w1.heap.size≤wr.heap.size:=hbr.size
  have s1:w.heap.size < wr.heap.size:=by omega
  have s2:b < wr.heap.size:=by omega
  by_cases hlt:k < c.length
  ·have hi:InsAt wr b (off+k * 6) c[k]:=((hc k hlt).below hbw hb).below hbr (by omega)
   obtain⟨i0,i1,i2,i3,i4,i5⟩:=hi
   have n0:(0:Int)≤(k:Int):=by omega
   have n1:(k:Int) < (c.length:Int):=by omega
   clear q0 q1 q2
   have HS:=Az (V:=V) (F:=F) (L:=c.length) hlt
   by_cases hz:bC V F c.length c[k]=0
   ·have HC:Hid (fC V F c.length (c.drop (k+1))=fC V F c.length c):=by have:=HR.out;rw[HS,if_pos hz] at this;exact this
    clear HS HR
    go_wp2_with (go_at_call 128;refine(la V F _ _ _ _ c[k] _ hV hV' hF hF' hL ?hs).mono ?_;(case hs=>exact hs1.below (hbr.alloc s0 _) (lR _));rintro e w2 ⟨rfl,hb2⟩)
    go_roundw
    case rel=>exact⟨k+1,by omega,by go_num,(hbr.alloc s0 _).trans (hb2.mono (by simp;omega)),HC⟩
    case measure=>simp[intOf];omega
   ·rw[if_neg hz] at HS
    have HC:Hid (bC V F c.length c[k]=fC V F c.length c):=by have:=HR.out;rw[HS] at this;exact this
    have hz':(bC V F c.length c[k]!=0)=true:=by simpa using hz
    clear HS HR
    go_wp2_with (go_at_call 128;refine(la V F _ _ _ _ c[k] _ hV hV' hF hF' hL ?hs).mono ?_;(case hs=>exact hs1.below (hbr.alloc s0 _) (lR _));rintro e w2 ⟨rfl,hb2⟩)
    go_ret
    exact⟨bn HC.out,hbw.trans (((hbr.alloc s0 _).trans (hb2.mono (by simp;omega))).mono (by omega))⟩
  ·go_wp2
   go_ret
   exact⟨bn (by have:=HR.out;rw[j4 (by omega)] at this;exact this),hbw.trans (hbr.mono (by omega))⟩

theorem BM (V F:Int)(s:Option Addr)(cap:Nat)(w:World)(hV:1≤V)(hV':V≤8)(hF:0≤F)(hF':F≤3):
  Calls pG 76 #[Ag #[I Y V,I Y F,U s 0 cap]] w λe w'=>e=Rt (I Y 0)∧Below w.heap.size w w':=by
 have hbox:Below w.heap.size w (w.alloc (Cc #[I Y V,I Y F,U s 0 cap] 24)):=by go_grown
 go_enter Tryz.func76,Tryz.ntmps76
 go_wp2_with (go_at_call 127;refine(o9 _).mono ?_;rintro e w1 ⟨rfl,hs1,hb1⟩;have q2:w1.cell? ⟨w.heap.size,2,nO⟩=sO (U s 0 cap):=(by rw[hb1.cell (by simp)];simp[go_sem]))
 go_rounds 1
 go_ret
 exact⟨rfl,hbox.trans (hb1.mono (by simp))⟩

theorem AK (V F:Int)(s:Option Addr)(len cap:Nat)(w:World)(hV:1≤V)(hV':V≤8)(hF:0≤F)(hF':F≤3)(hl:60 < len):
  Calls pG 76 #[Ag #[I Y V,I Y F,U s len cap]] w λe w'=>e=Rt (I Y 2)∧Below w.heap.size w w':=by
 have t3:(60:Int) < (len:Int):=by omega
 go_enter Tryz.func76,Tryz.ntmps76
 go_wp2
 go_ret
 exact⟨rfl,by go_grown⟩

theorem nK (V F:Int)(s:Option Addr)(len cap:Nat)(w:World)(h:¬(1≤V∧V≤8∧0≤F∧F≤3)):
  Calls pG 76 #[Ag #[I Y V,I Y F,U s len cap]] w λe w'=>e=Rt (I Y 3)∧Below w.heap.size w w':=by
 by_cases h1:V < 1
 ·clear h
  go_enter Tryz.func76,Tryz.ntmps76
  go_wp2
  go_ret
  exact⟨rfl,by go_grown⟩
 by_cases h2:8 < V
 ·clear h
  go_enter Tryz.func76,Tryz.ntmps76
  go_wp2
  go_ret
  exact⟨rfl,by go_grown⟩
 by_cases h3:F < 0
 ·clear h
  go_enter Tryz.func76,Tryz.ntmps76
  go_wp2
  go_ret
  exact⟨rfl,by go_grown⟩
 ·have h4:3 < F:=by omega
  clear h
  go_enter Tryz.func76,Tryz.ntmps76
  go_wp2
  go_ret
  exact⟨rfl,by go_grown⟩

theorem dM (V F:Int)(s:Option Addr)(cap:Nat)(c:List Ins)(w:World)(h:CodeAt w s c):
  Calls pG 76 #[Ag #[I Y V,I Y F,U s c.length cap]] w λe w'=>e=Rt (I Y (ag V F c))∧Below w.heap.size w w':=by
 unfold ag
 by_cases hr:1≤V∧V≤8∧0≤F∧F≤3
 ·obtain⟨hV,hV',hF,hF'⟩:=hr
  have t1:btw V 1 8=true:=ik hV hV'
  have t2:btw F 0 3=true:=ik hF hF'
  by_cases hl:60 < c.length
  ·simpa[t1,t2,hl] using AK V F s c.length cap w hV hV' hF hF' hl
  ·rcases h with rfl|⟨b,off,rfl,hb,hc⟩
   ·simpa[t1,t2,fC] using BM V F s cap w hV hV' hF hF'
   ·simpa[t1,t2,hl] using yA V F b off cap c w hV hV' hF hF' (by omega) hb hc
 ·have:btw V 1 8=false∨btw F 0 3=false:=by
   by_cases h1:1≤V∧V≤8
   ·right;simp[btw];omega
   ·left;simp[btw];omega
  rcases this with t|t
  ·simpa[t] using nK V F s c.length cap w hr
  ·simpa[t] using nK V F s c.length cap w hr
theorem CE {V F:Int}{c:List Ins}(h:ag V F c=0):c.length≤60:=by
 unfold ag at h
 split at h
 ·cases h
 ·split at h
  ·cases h
  ·omega

theorem pj (c:List Ins)(L:List Gs)(k:Nat)(h:k < L.length):bX c (L.drop k)=if aw c L[k]=0 then bX c (L.drop (k+1)) else aw c L[k]:=by
 rw[List.drop_eq_getElem_cons h];rfl

theorem bu (V F:Int)(s:Option Addr)(c:List Ins)(cap:Nat)(ls:Option Addr)(L:List Gs)(lc:Nat)(w:World)(hc:CodeAt w s c)(hL:GsAt w ls L)(hl:L.length≤9223372036854775807):
  Calls pG 142 #[pv V F s c cap,U ls L.length lc] w λe w'=>e=Rt (I Y (aF V F c L))∧Below w.heap.size w w':=by
 have P0:=PrAt.new w V F s c cap
 have C0:=hc.alloc (Cc #[I Y V,I Y F,U s c.length cap] 24)
 have L0:=hL.alloc (Cc #[I Y V,I Y F,U s c.length cap] 24)
 have B0:Below w.heap.size w (w.alloc (Cc #[I Y V,I Y F,U s c.length cap] 24)):=by go_grown
 have HR:Hid (aF V F c L=if ag V F c=0 then bX c L else ag V F c):=rfl
 clear hc hL
 go_enter Tryz.func142,Tryz.ntmps142
 go_wp2_with (go_at_call 76;fail)
 refine(dM V F s cap c _ C0).mono ?_
 rintro e w1 ⟨rfl,hb1⟩
 have P1:=P0.call hb1
 have C1:=C0.call hb1
 have L1:=L0.call hb1
 have B1:Below w.heap.size w w1:=B0.trans (hb1.mono (by simp))
 clear hb1 P0 C0 L0 B0
 by_cases h0:ag V F c=0
 ·have h60:=CE h0
  have HF:Hid (aF V F c L=bX c L):=by show _=_;rw[HR.out,if_pos h0]
  rw[h0]
  clear HR h0
  go_wp2
  go_loopw [16] (λi wr=>∃k:Nat,k≤L.length∧i=I Y k∧PrAt wr w.heap.size V F s c cap∧CodeAt wr s c∧GsAt wr ls L∧Below w.heap.size w wr∧Hid (bX c (L.drop k)=bX c L)) (λi _=>L.length - (intOf i).toNat)
  case atStart=>exact⟨0,j2 _,rfl,P1,C1,L1,B1,rfl⟩
  case round=>
   obtain⟨k,hk,rfl,PR,CR,LR,BR,HK⟩:=hrel
   clear P1 C1 L1 B1
   by_cases hlt:k < L.length
   ·obtain⟨b,off,rfl,ss,gc,GR,IR,hg1,hg2⟩:=LR k hlt
    obtain⟨⟨p0,p1,p2⟩,p3⟩:=id PR
    obtain⟨⟨g0,g1,g2,g3,g4,g5,g6⟩,gz⟩:=id GR
    have n0:(0:Int)≤(k:Int):=by omega
    have n1:(k:Int) < (L.length:Int):=by omega
    have HS:=aa (pj c L k hlt)
    unfold maxLen at hg2
    have PA:=PR.alloc (Cc #[Bb L[k].n,Bb L[k].sp.n,I Y L[k].sp.lo,I Y L[k].sp.hi,Bb L[k].t,Bb L[k].f,U ss L[k].s.length gc] 91)
    have CA:=CR.alloc (Cc #[Bb L[k].n,Bb L[k].sp.n,I Y L[k].sp.lo,I Y L[k].sp.hi,Bb L[k].t,Bb L[k].f,U ss L[k].s.length gc] 91)
    have LA:=LR.alloc (Cc #[Bb L[k].n,Bb L[k].sp.n,I Y L[k].sp.lo,I Y L[k].sp.hi,Bb L[k].t,Bb L[k].f,U ss L[k].s.length gc] 91)
    have IA:=IR.alloc (Cc #[Bb L[k].n,Bb L[k].sp.n,I Y L[k].sp.lo,I Y L[k].sp.hi,Bb L[k].t,Bb L[k].f,U ss L[k].s.length gc] 91)
    have BA:=BR.alloc BR.size (Cc #[Bb L[k].n,Bb L[k].sp.n,I Y L[k].sp.lo,I Y L[k].sp.hi,Bb L[k].t,Bb L[k].f,U ss L[k].s.length gc] 91)
    clear PR CR LR IR BR GR
    go_wp2_with (go_at_call 194;fail)
    refine(sk V F s c cap L[k] ss gc _ CA h60 IA (by omega)).mono ?_
    rintro e w2 ⟨rfl,hb2⟩
    have P2:=PA.call hb2
    have C2:=CA.call hb2
    have L2:=LA.call hb2
    have B2:=BA.trans (hb2.mono BA.size)
    clear hb2 PA CA LA IA BA
    by_cases hz:aw c L[k]=0
    ·have HT:Hid (bX c (L.drop (k+1))=bX c L):=by show _=_;rw[←HK.out,HS.out,if_pos hz]
     rw[hz]
     clear HK HS hz
     go_wp2
     go_roundw
     case rel=>exact⟨k+1,by omega,by go_num,P2,C2,L2,B2,HT⟩
     case measure=>simp[intOf];omega
    ·have HT:Hid (aw c L[k]=bX c L):=by show _=_;rw[←HK.out,HS.out,if_neg hz]
     have hne:(aw c L[k]!=0)=true:=by simpa using hz
     clear HK HS
     go_wp2
     go_ret
     exact⟨bn (by rw[HF.out,HT.out]),B2⟩
   ·go_wp2
    go_ret
    exact⟨bn (by rw[HF.out,←HK.out,j4 (by omega)];rfl),BR⟩
 ·have HF:Hid (aF V F c L=ag V F c):=by show _=_;rw[HR.out,if_neg h0]
  have hne:(ag V F c !=0)=true:=by simpa using h0
  clear HR
  go_wp2
  go_ret
  exact⟨bn HF.out.symm,B1⟩
end
section
open Go.RowKit Go.Sort
theorem pM {P:Program}(w:World)(base:Nat)(t ty e:TypeId)(i:TypeInfo)(size:Nat)(ht:P.underlying t=sO (.slice e))(hi:P.info? e=sO i)
  (v:Value)(n c:Nat)(xs:List Value)(hown:w.ownsRow base e size v n xs):
  (Builtin.append_ #[t,t] ty #[v,U nO 0 c]).run P w=.ok v w:=by
 rcases hown.2 with⟨rfl,rfl⟩|⟨g,cap,cur,rfl,_,_,hnc,_⟩
 ·simp[Builtin.append_,run_underlying ht,sizeOf,typeInfo,hi,Builtin.lenOf,Builtin.firstCells]
 ·simp[Builtin.append_,run_underlying ht,sizeOf,typeInfo,hi,Builtin.lenOf,Builtin.firstCells,hnc,storeCells]

theorem mW {P:Program}(w:World){ops:Array Oper}{rest:List Oper}{o:Oper}{a:Act}{Q:Exit→Act→World→Prop}(hgd:o.guard=nO)(s x:Operand)(t:TypeId)
  (ho:o.op=.call {callee:=.builtin .append,args:=#[s,x],argTypes:=#[t,t]})
  (base:Nat)(e:TypeId)(i:TypeInfo)(size:Nat)(ht:P.underlying t=sO (.slice e))(hi:P.info? e=sO i)
  (v:Value)(n c:Nat)(xs:List Value)(hs:a.eval s=v)(hown:w.ownsRow base e size v n xs)(hx:a.eval x=U nO 0 c)
  (h:wpList P ops Q rest (a.put o.dst v) w):wpList P ops Q (o::rest) a w:=by
 refine wpList_plain hgd λK hK=> ?_
 have hr:=pM (P:=P) w base t o.type e i size ht hi v n c xs hown
 unfold Oper.wp execOp
 simp only[ho,resolve,invoke,builtin,Sem.run_bind,Sem.run_pure,Result.andThen_ok,List.map_toArray,List.map_cons,List.map_nil,hs,hx,hr]
 exact hK _ _ h

theorem BJ (w:World):grow w #[]=w:=by simp[grow]

theorem tr {w:World}{B g cap n m:Nat}{e:TypeId}{xs:List Value}(h:w.ownsRow B e 1 (U (sO ⟨g,0,nO⟩) n cap) n xs)(hm:m≤n):w.ownsRow B e 1 (U (sO ⟨g,0,nO⟩) m cap) m (xs.take m):=by
 obtain⟨hl,h2⟩:=h
 rcases h2 with⟨h',_⟩|⟨g',cap',cur,h',hb,hg,h1,h2,h3,h4⟩
 ·cases h'
 ·cases h'
  refine⟨by rw[List.length_take];omega,.inr ⟨g,cap,cur,rfl,hb,hg,by omega,h2,h3,?_⟩⟩
  rw[←h4,List.take_take]
  congr 1
  omega

theorem IntsAt.own {w:World}{B n:Nat}{e:TypeId}{v:Value}{l:List Int}(h:w.ownsRow B e 1 v n (l.map (.int .i64))):
  ∃ss cap,v=U ss l.length cap∧IntsAt w ss l∧l.length≤cap∧cap≤maxLen∧∀a,ss=sO a→B≤a.block:=by
 have hn:l.length=n:=by have:=h.1;simpa using this
 subst hn
 rcases h.2 with⟨rfl,h0⟩|⟨g,cap,cur,rfl,hb,hg,h1,h2,h3,h4⟩
 ·have:l=[]:=j5.1 h0
  subst this
  exact⟨nO,0,rfl,.inl rfl,lR _,by unfold maxLen;omega,λa ha=>by cases ha⟩
 ·refine⟨sO ⟨g,0,nO⟩,cap,rfl,.inr ⟨g,0,rfl,(j3.1 hg).1,λk hk=> ?_⟩,h1,h2,λa ha=>by cases ha;exact hb⟩
  have:=h.cellAt k (by omega)
  rw[Nat.zero_add,this]
  simp[hk]

def cy (L:List Gs):List Int:=Lib.compact ((L.flatMap Gs.s).mergeSort λx y=>decide (x≤y))

theorem CX (L:List Gs)(k:Nat)(h:k < L.length):(L.take (k+1)).flatMap Gs.s=(L.take k).flatMap Gs.s++L[k].s:=by
 rw[List.take_succ_eq_append_getElem h,j6]
 simp
theorem FM (L:List Gs)(k:Nat):((L.take k).flatMap Gs.s).length≤(L.flatMap Gs.s).length:=by
 conv=>rhs;rw[←List.take_append_drop k L]
 rw[j6,j0]
 omega

theorem Tryz.info_intG:(Tryz.prog.info? 3).map (λi=>(i.zero,i.size,i.bytes))=sO (sO (I Y 0),1,8):=by kernel_rfl
theorem uG {w:World}{B:Nat}{e:TypeId}{z:Nat}{v:Value}{n:Nat}{xs:List Value}(h:w.ownsRow B e z v n xs){k:Nat}(hk:v.ownBlock=sO k):B≤k:=by
 rcases h.2 with⟨rfl,_⟩|⟨g,cap,cur,rfl,hb,hg,_⟩
 ·cases hk
 ·cases hk
  exact hb

theorem ul (ls:Option Addr)(L:List Gs)(lc:Nat)(w:World)(hL:GsAt w ls L)(hl:L.length≤1000000)(hT:(L.flatMap Gs.s).length≤1000000):
  Calls pG 180 #[U ls L.length lc] w λe w'=>∃v,e=Rt v∧w'.ownsRow w.heap.size 3 1 v (cy L).length ((cy L).map (.int .i64))∧Below w.heap.size w w':=by
 obtain⟨ti,hi,hz0,hz1,hz2⟩:=info_parts Tryz.info_intG
 go_enter Tryz.func180,Tryz.ntmps180
 go_wp2
 go_loopw [3,8] (λo i wr=>∃k:Nat,k≤L.length∧i=I Y k∧wr.ownsRow w.heap.size 3 1 o ((L.take k).flatMap Gs.s).length (((L.take k).flatMap Gs.s).map (.int .i64))∧Below w.heap.size w wr) (λ_ i _=>L.length - (intOf i).toNat)
 case atStart=>exact⟨0,j2 _,rfl,⟨by simp,.inl ⟨rfl,by simp⟩⟩,bR _ _⟩
 case round=>
  obtain⟨k,hk,rfl,hown,hbr⟩:=hrel
  have s1:=hbr.size
  by_cases hlt:k < L.length
  ·obtain⟨b,off,rfl,ss,gc,GR,IR,hg1,hg2⟩:=hL.below hbr (lR _) k hlt
   obtain⟨⟨g0,g1,g2,g3,g4,g5,g6⟩,gz⟩:=id GR
   have n0:(0:Int)≤(k:Int):=by omega
   have n1:(k:Int) < (L.length:Int):=by omega
   have HC:=aa (CX L k hlt)
   have c1:=FM L (k+1)
   rw[HC.out,j0] at c1
   have IA:=IR.alloc (Cc #[Bb L[k].n,Bb L[k].sp.n,I Y L[k].sp.lo,I Y L[k].sp.hi,Bb L[k].t,Bb L[k].f,U ss L[k].s.length gc] 91)
   have OA:=hown.alloc (Cc #[Bb L[k].n,Bb L[k].sp.n,I Y L[k].sp.lo,I Y L[k].sp.hi,Bb L[k].t,Bb L[k].f,U ss L[k].s.length gc] 91)
   have BA:=hbr.alloc s1 (Cc #[Bb L[k].n,Bb L[k].sp.n,I Y L[k].sp.lo,I Y L[k].sp.hi,Bb L[k].t,Bb L[k].f,U ss L[k].s.length gc] 91)
   cases ss with
   |none=>
    have h0:L[k].s=[]:=by
     rcases IR with h|⟨_,_,h,_⟩
     ·exact h
     ·cases h
    have HC':Hid ((L.take (k+1)).flatMap Gs.s=(L.take k).flatMap Gs.s):=by show _=_;rw[HC.out,h0,List.append_nil]
    rw[h0] at OA BA g6
    clear IA HC c1
    go_wp2_with (at_builtin;refine mW _ rfl _ _ 34 rfl w.heap.size 3 ti 1 Tryz.underlying34 hi _ _ gc _ rfl OA rfl ?_)
    go_roundw
    case rel=>exact⟨k+1,by omega,by go_num,by rw[HC'.out];exact OA,BA⟩
    case measure=>simp[intOf];omega
   |some ad=>
    have hnews:∀j u,(L[k].s.map (Value.int .i64))[j]? =sO u→(wr.alloc (Cc #[Bb L[k].n,Bb L[k].sp.n,I Y L[k].sp.lo,I Y L[k].sp.hi,Bb L[k].t,Bb L[k].f,U (sO ad) L[k].s.length gc] 91)).cell? (ad.add j)=sO u:=by
     intro j u hju
     have hj:j < L[k].s.length:=by
      have:=(List.getElem?_eq_some_iff.1 hju).1
      simpa using this
     obtain⟨b',off',e',hb',hc'⟩:=IA.get j hj
     cases e'
     have:=hc' j hj
     rw[List.getElem?_map,List.getElem?_eq_getElem hj] at hju
     cases hju
     rw[←this,Addr.add_lit]
    clear IA
    go_wp2_with (at_builtin;refine wpList_append_own _ rfl _ _ 34 rfl w.heap.size 3 ti (I Y 0) 1 8 Tryz.underlying34 hi hz0 hz1 hz2 rfl (by decide) _ _ _ rfl OA ad L[k].s.length gc (L[k].s.map (.int .i64)) rfl (by simp) hnews (λx hx=>by obtain⟨y,_,rfl⟩:=List.mem_map.1 hx;rfl) (by unfold maxLen;omega) (by omega) (by simp;omega) ?_;intro v' w3 hown' hgrow3 hnil3)
    go_roundw
    case rel=>exact⟨k+1,by omega,by go_num,by rw[HC.out,List.map_append,j0];exact hown',BA.grown hgrow3 (by simp;omega) (λj hj=>uG hown hj)⟩
    case measure=>simp[intOf];omega
  ·have hk':k=L.length:=by omega
   subst hk'
   rw[List.take_length] at hown
   have HS:Hid (cy L=Lib.compact ((L.flatMap Gs.s).mergeSort λx y=>decide (x≤y))):=rfl
   generalize hzs:L.flatMap Gs.s=zs at *
   have HZ:=aa hzs
   clear hzs hL
   rcases hown.2 with⟨rfl,h0⟩|⟨g,cap,cur,rfl,hbg,hg,h1,h2,h3,h4⟩
   ·have hnil:zs=[]:=j5.1 h0
    have HE:Hid (cy L=[]):=by show _=_;rw[HS.out,hnil];simp[Lib.compact,Lib.compactUpTo]
    clear HS HZ hnil h0
    go_wp2_with (go_at_call 217;fail)
    refine(Tryz.slices_Sort_int_none _ _ _).mono ?_
    rintro e w1 ⟨rfl,rfl⟩
    go_wp2_with (go_at_call 218;fail)
    refine(Tryz.slices_Compact_int_empty _ _ _).mono ?_
    rintro e w1 ⟨rfl,rfl⟩
    go_wp2
    go_ret
    exact⟨_,rfl,by rw[HE.out];exact⟨rfl,.inl ⟨rfl,rfl⟩⟩,hbr⟩
   ·have hgl:g < wr.heap.size:=(j3.1 hg).1
    rw[Nat.mul_one] at h4
    go_wp2_with (go_at_call 217;fail)
    refine(Tryz.slices_Sort_int g 0 cap zs _ (holds_of_blockI hg h4) hgl (by omega)).mono ?_
    rintro e w1 ⟨rfl,n,os,hw1⟩
    have hml:(zs.mergeSort λx y=>decide (x≤y)).length=zs.length:=List.length_mergeSort _
    have O1:w1.ownsRow w.heap.size 3 1 (U (sO ⟨g,0,nO⟩) zs.length cap) zs.length ((zs.mergeSort λx y=>decide (x≤y)).map (.int .i64)):=by
     rw[hw1];exact ownsRow_sortedI hml hbg hg h1 h2 h3
    have B1:Below w.heap.size w w1:=by
     rw[hw1];exact hbr.grown (grownBy_sortedI _) s1 (λj hj=>by cases hj;exact hbg)
    clear hw1
    generalize hys:(zs.mergeSort λx y=>decide (x≤y))=ys at *
    have HE:Hid (cy L=Lib.compact ys):=HS.out
    have hyl:ys.length=zs.length:=hml
    clear hys hml HS hown h4 h3 hg hbr
    rcases O1.2 with⟨h',_⟩|⟨g',cap',cur',h',-,hg',h1',h2',h3',h4'⟩
    ·cases h'
    ·cases h'
     rw[Nat.mul_one,←hyl] at h4'
     have hcl:=Lib.compact_length_le ys
     go_wp2_with (go_at_call 218;fail)
     rw[←hyl]
     refine(Tryz.slices_Compact_int g 0 cap ys _ (holds_of_blockI hg' h4') (by omega) (by omega)).mono ?_
     rintro e w2 ⟨rfl,q,hw2⟩
     rw[←BJ (putRow _ _ _ _ _)] at hw2
     have htl:(Lib.compact ys++j1 (ys.length - (Lib.compact ys).length) (0:Int)).length=ys.length:=by rw[j0,j7];omega
     have O2:=ownsRow_sortedI (w:=w1) (n:=q) (os:=#[]) (ss:=ys) htl hbg hg' (by omega) h2' h3'
     rw[←hw2] at O2
     have B2:Below w.heap.size w w2:=by
      rw[hw2];exact B1.grown (grownBy_sortedI _) B1.size (λj hj=>by cases hj;exact hbg)
     have O3:=tr O2 hcl
     rw[←List.map_take,List.take_left] at O3
     clear hw2 O2 O1 B1 htl hg' h4'
     go_wp2
     go_ret
     exact⟨_,rfl,by rw[HE.out];exact O3,B2⟩
end
section
open Go.RowKit
theorem tV {w:World}{B B':Nat}{e:TypeId}{z:Nat}{v:Value}{n:Nat}{xs:List Value}(h:w.ownsRow B e z v n xs)(hb:B'≤B):w.ownsRow B' e z v n xs:=by
 obtain⟨h1,h2⟩:=h
 refine⟨h1,?_⟩
 rcases h2 with h2|⟨g,cap,cur,hv,hB,r⟩
 ·exact .inl h2
 ·exact .inr ⟨g,cap,cur,hv,lT hb hB,r⟩
theorem ow:(Tryz.prog.info? 82).map (λi=>(i.zero,i.size,i.bytes))=sO (sO (Ag #[I Y 0,I Y 0]),2,16):=by kernel_rfl
def ZRun (w:World)(b:Nat):Prop:=w.cell? ⟨b,0,nO⟩=sO (I Y 0)∧w.cell? ⟨b,1,nO⟩=sO (U nO 0 0)∧w.cell? ⟨b,2,nO⟩=sO (U nO 0 0)∧w.cell? ⟨b,3,nO⟩=sO (I Y 0)∧w.cell? ⟨b,4,nO⟩=sO (U nO 0 0)∧w.cell? ⟨b,5,nO⟩=sO (I Y 0)∧(∀j,w.frozen? ⟨b,j,nO⟩=false)∧b < w.heap.size
theorem ZRun.new (w:World):ZRun (w.alloc (Cc #[I Y 0,U nO 0 0,U nO 0 0,I Y 0,U nO 0 0,I Y 0] 33)) w.heap.size:=by
 refine⟨?_,?_,?_,?_,?_,?_,λj=> ?_,?_⟩<;>simp[go_sem]
theorem ZRun.block {w w':World}{b:Nat}(h:ZRun w b)(hb:w'.heap[b]? =w.heap[b]?):ZRun w' b:=by
 have hc:∀j,w'.cell? ⟨b,j,nO⟩=w.cell? ⟨b,j,nO⟩:=λj=>World.cell?_of_block (a:=⟨b,j,nO⟩) hb
 have hf:∀j,w'.frozen? ⟨b,j,nO⟩=w.frozen? ⟨b,j,nO⟩:=λj=>World.frozen?_of_block (a:=⟨b,j,nO⟩) hb
 obtain⟨h0,h1,h2,h3,h4,h5,h6,hz⟩:=h
 refine⟨(hc _).trans h0,(hc _).trans h1,(hc _).trans h2,(hc _).trans h3,(hc _).trans h4,(hc _).trans h5,λj=>(hf j).trans (h6 j),?_⟩
 rw[Array.getElem?_eq_getElem hz] at hb
 exact(j3.1 hb).1
theorem ZRun.call {w w':World}{b:Nat}(h:ZRun w b)(hb:Below w.heap.size w w'):ZRun w' b:=h.block (hb.block _ h.2.2.2.2.2.2.2)

theorem Bo (V F:Int)(s:Option Addr)(c:List Ins)(cap:Nat)(w:World)(hc:CodeAt w s c)(h0:ag V F c≠0):
  Calls pG 40 #[Ag #[I Y V,I Y F,U s c.length cap]] w λe w'=>e=Rt (Tu #[Ag #[I Y 0,U nO 0 0,U nO 0 0,I Y 0,U nO 0 0,I Y 0],I Y (ag V F c)])∧Below w.heap.size w w':=by
 have Z0:=ZRun.new (w.alloc (Cc #[I Y V,I Y F,U s c.length cap] 24))
 rw[zA] at Z0
 have hb0:Below w.heap.size w ((w.alloc (Cc #[I Y V,I Y F,U s c.length cap] 24)).alloc (Cc #[I Y 0,U nO 0 0,U nO 0 0,I Y 0,U nO 0 0,I Y 0] 33)):=by go_grown
 have hk:(ag V F c !=0)=true:=by simpa using h0
 go_enter Tryz.func40,Tryz.ntmps40
 go_wp2_with (go_at_call 76;fail)
 refine(dM V F s cap c _ (hc.below hb0 (lR _))).mono ?_
 rintro e w1 ⟨rfl,hb1⟩
 have H1:=hb0.trans (hb1.mono hb0.size)
 obtain⟨r0,r1,r2,r3,r4,r5,rf,rz⟩:=Z0.call hb1
 go_wp2
 refine bodyPost_ret (v:=Tu #[Ag #[I Y 0,U nO 0 0,U nO 0 0,I Y 0,U nO 0 0,I Y 0],I Y (ag V F c)]) (by simp[results,Tryz.results40,go_sem,r0,r1,r2,r3,r4,r5]) rfl ⟨rfl,?_⟩
 exact(((((H1.setCell (by simp) _).setCell (by simp) _).setCell (by simp) _).setCell (by simp) _).setCell (by simp) _).setCell (by simp) _
theorem oR (v:Nat)(F:Int)(s:Option Addr)(c:List Ins)(cap:Nat)(w:World)(hc:CodeAt w s c)(h0:ag (v:Int) F c=0):
  Calls pG 40 #[Ag #[I Y v,I Y F,U s c.length cap]] w λe w'=>∃g,e=Rt (Tu #[Ag #[I Y 0,U (sO ⟨g,0,nO⟩) v v,U nO 0 0,I Y 0,U nO 0 0,I Y 0],I Y 0])∧w'.ownsRow w.heap.size 82 2 (U (sO ⟨g,0,nO⟩) v v) v (madeCells (Value.agg #[I Y 0,I Y 0]).cells (v * 2)).toList∧Below w.heap.size w w':=by
 obtain⟨ti,hi,hz0,hz1,hz2⟩:=info_parts ow
 have h8:v≤8:=by have:=(wU h0).1;omega
 have Z0:=ZRun.new (w.alloc (Cc #[I Y (v:Int),I Y F,U s c.length cap] 24))
 rw[zA] at Z0
 have hb0:Below w.heap.size w ((w.alloc (Cc #[I Y (v:Int),I Y F,U s c.length cap] 24)).alloc (Cc #[I Y 0,U nO 0 0,U nO 0 0,I Y 0,U nO 0 0,I Y 0] 33)):=by go_grown
 have hC:=dM (v:Int) F s cap c _ (hc.below hb0 (lR _))
 rw[h0] at hC
 have pv:∀wx,Below ((w.alloc (Cc #[I Y (v:Int),I Y F,U s c.length cap] 24)).alloc (Cc #[I Y 0,U nO 0 0,U nO 0 0,I Y 0,U nO 0 0,I Y 0] 33)).heap.size ((w.alloc (Cc #[I Y (v:Int),I Y F,U s c.length cap] 24)).alloc (Cc #[I Y 0,U nO 0 0,U nO 0 0,I Y 0,U nO 0 0,I Y 0] 33)) wx→wx.cell? ⟨w.heap.size,0,nO⟩=sO (I Y (v:Int)):=λwx hx=>by rw[hx.cell (by simp;omega)];simp[go_sem]
 go_enter Tryz.func40,Tryz.ntmps40
 go_wp2_with (go_at_call 76;fail)
 refine hC.mono ?_
 rintro e w1 ⟨rfl,hb1⟩
 have H1:=hb0.trans (hb1.mono hb0.size)
 have p0:=pv w1 hb1
 have Z1:=Z0.call hb1
 have z1:w.heap.size+1+1≤w1.heap.size:=by have:=hb1.size;simpa using this
 clear hC pv Z0 hb1 hb0
 go_wp2_with (refine wpList_make_full _ rfl _ _ 29 rfl (w.heap.size+1+1) 82 ti (Ag #[I Y 0,I Y 0]) 2 Tryz.underlying29 hi hz0 hz1 .i64 .i64 (v:Int) (v:Int) v rfl rfl rfl rfl (by rw[hz2];omega) (by unfold maxLen;omega) z1 ?_;intro wm hown hgrow;obtain⟨r0,r1,r2,r3,r4,r5,rf,rz⟩:=ZRun.block Z1 (hgrow.block _ Z1.2.2.2.2.2.2.2 (λe=>by cases e)))
 have hbm:Below w.heap.size w wm:=H1.grown hgrow H1.size (λj hj=>by cases hj)
 refine bodyPost_ret (v:=Tu #[Ag #[I Y 0,U (sO ⟨w1.heap.size,0,nO⟩) v v,U nO 0 0,I Y 0,U nO 0 0,I Y 0],I Y 0]) (by simp[results,Tryz.results40,go_sem,r0,r1,r2,r3,r4,r5]) rfl ⟨_,rfl,?_,?_⟩
 ·have hz:w.heap.size+1 < w.heap.size+1+1:=by omega
  exact tV (ownsRow_setCell_below (a:=⟨w.heap.size+1,5,nO⟩) (ownsRow_setCell_below (a:=⟨w.heap.size+1,4,nO⟩) (ownsRow_setCell_below (a:=⟨w.heap.size+1,3,nO⟩) (ownsRow_setCell_below (a:=⟨w.heap.size+1,2,nO⟩) (ownsRow_setCell_below (a:=⟨w.heap.size+1,1,nO⟩) (ownsRow_setCell_below (a:=⟨w.heap.size+1,0,nO⟩) hown hz _) hz _) hz _) hz _) hz _) hz _) (show w.heap.size≤w.heap.size+1+1 by omega)
 ·exact(((((hbm.setCell (by simp) _).setCell (by simp) _).setCell (by simp) _).setCell (by simp) _).setCell (by simp) _).setCell (by simp) _
end
section
open Go.RowKit
attribute [local go_sem ↓] Go.wp_at_zero Go.wp_at_succ
theorem mT:∀f:Nat,f≤8→(madeCells (Value.agg #[I Y 0,I Y 0]).cells (f * 2)).toList=bU (j1 f ⟨0,0⟩)
 |0,_=>by kernel_rfl
 |1,_=>by kernel_rfl
 |2,_=>by kernel_rfl
 |3,_=>by kernel_rfl
 |4,_=>by kernel_rfl
 |5,_=>by kernel_rfl
 |6,_=>by kernel_rfl
 |7,_=>by kernel_rfl
 |8,_=>by kernel_rfl
 |n+9,h=>absurd h (by omega)
theorem vF:(Tryz.prog.info? 84).map (λi=>(i.zero,i.size,i.bytes))=sO (sO (Ag #[I Y 0,U nO 0 0]),2,32):=by kernel_rfl
theorem OwnRun.tform {w:World}{B m:Nat}{s:St}{vv tv lv:Value}{fv:List Value}(h:OwnRun w B m s vv tv lv fv):∃ts tc,tv=U ts s.things.length tc:=by
 rcases h.things.2 with⟨hv,hn⟩|⟨g,cap,cur,hv,_⟩
 ·exact⟨nO,0,by rw[hv,hn]⟩
 ·exact⟨_,_,hv⟩
theorem Bn (m B:Nat)(s:St)(vv tv lv:Value)(fv:List Value)(t a b n g:Int)(w:World)(h:OwnRun w B m s vv tv lv fv)(hB:B≤w.heap.size)(hT:s.things.length=100):
  Calls pG 149 #[Pp (sO ⟨m,0,nO⟩),Ag #[I Y 11,I Y t,I Y a,I Y b,I Y n,I Y g]] w λe w'=>e=Rt (I Y 5)∧MStep w w' B m (ae m vv tv lv fv) s:=by
 have hm:m < w.heap.size:=h.lt (by simp[ae])
 obtain⟨ts,tc,rfl⟩:=h.tform
 have q2:=h.things_
 rw[hT] at q2
 have HW:Below w.heap.size w (w.alloc (Cc #[I Y 11,I Y t,I Y a,I Y b,I Y n,I Y g] 100)):=by go_grown
 have hc:∀j,(w.alloc (Cc #[I Y 11,I Y t,I Y a,I Y b,I Y n,I Y g] 100)).cell? ⟨m,j,nO⟩=w.cell? ⟨m,j,nO⟩:=λj=>HW.cell hm
 have HX:=aD (And.intro (h.below HW) (And.intro (HW.mono hB) (And.intro hc HW)))
 have q2':(w.alloc (Cc #[I Y 11,I Y t,I Y a,I Y b,I Y n,I Y g] 100)).cell? ⟨m,2,nO⟩=sO (U ts ((100:Nat)) tc):=by rw[hc];exact q2
 clear h hc HW q2
 go_enter Tryz.func149,Tryz.ntmps149
 go_wp2
 go_ret
 exact⟨rfl,⟨_,_,_,_,HX.out.1⟩,HX.out.2.1,λj _=>HX.out.2.2.1 j,cH HX.out.2.2.2⟩
theorem DS (m B t f:Nat)(s:St)(vv tv lv:Value)(fv:List Value)(a b n g:Int)(w:World)(h:OwnRun w B m s vv tv lv fv)(hB:B≤w.heap.size)(ht:t < s.vars.length)(hT:s.things.length < 100)(hf:f≤3)(h7:w.cell? ⟨m,7,nO⟩=sO (I Y f)):
  Calls pG 149 #[Pp (sO ⟨m,0,nO⟩),Ag #[I Y 11,I Y t,I Y a,I Y b,I Y n,I Y g]] w λe w'=>e=Rt (I Y 0)∧MStep w w' B m (ae m vv tv lv fv) {s with vars:=s.vars.set t ⟨3,s.things.length⟩,things:=s.things++[⟨s.at_,j1 f ⟨0,0⟩⟩]}:=by
 have hm:m < w.heap.size:=h.lt (by simp[ae])
 have hBm:B≤m:=h.low
 have z1:m < w.heap.size+1:=by omega
 obtain⟨ti,hi,hz0,hz1,hz2⟩:=info_parts ow
 obtain⟨tj,hj,hy0,hy1,hy2⟩:=info_parts vF
 obtain⟨gb,cap,rfl,hg1,hg2,hcell,hfz⟩:=h.form (by omega)
 obtain⟨ts,tc,rfl⟩:=h.tform
 have am:m≠gb:=h.vars_apart rfl m (by simp)
 have q1:=h.vars_
 have q2:=h.things_
 have z2:gb < w.heap.size+1:=by omega
 obtain⟨kt0,kt1⟩:=hcell t ht
 have nt0:(0:Int)≤(t:Int):=by omega
 have nt1:(t:Int) < (s.vars.length:Int):=by omega
 have f0:=hfz (t * 2)
 have f1:=hfz (t * 2+1)
 have nT:((s.things.length:Int)==100)=false:=by simp;omega
 have K1:∀wx,Below (w.heap.size+1) (w.alloc (Cc #[I Y 11,I Y t,I Y a,I Y b,I Y n,I Y g] 100)) wx→wx.cell? ⟨m,1,nO⟩=sO (U (sO ⟨gb,0,nO⟩) s.vars.length cap)∧wx.cell? ⟨w.heap.size,1,nO⟩=sO (I Y t)∧wx.cell? ⟨m,2,nO⟩=sO (U ts s.things.length tc):=by
  intro wx hb
  rw[hb.cell (by simpa using z1),hb.cell (by simp),hb.cell (by simpa using z1)]
  simp[go_sem,hm,q1,q2]
 have q2':(w.alloc (Cc #[I Y 11,I Y t,I Y a,I Y b,I Y n,I Y g] 100)).cell? ⟨m,2,nO⟩=sO (U ts s.things.length tc):=(K1 _ (bR _ _)).2.2
 have HW:Below w.heap.size w (w.alloc (Cc #[I Y 11,I Y t,I Y a,I Y b,I Y n,I Y g] 100)).drew:=by go_grown
 have oL:=h.below HW
 have oP:=oL.put t ht ⟨3,s.things.length⟩
 have HP:Below B w (((w.alloc (Cc #[I Y 11,I Y t,I Y a,I Y b,I Y n,I Y g] 100)).drew.setCell ⟨gb,t * 2,nO⟩ (I Y 3)).setCell ⟨gb,t * 2+1,nO⟩ (I Y s.things.length)):=((HW.mono hB).setCell hg1 _).setCell hg1 _
 have hcm:∀j,(((w.alloc (Cc #[I Y 11,I Y t,I Y a,I Y b,I Y n,I Y g] 100)).drew.setCell ⟨gb,t * 2,nO⟩ (I Y 3)).setCell ⟨gb,t * 2+1,nO⟩ (I Y s.things.length)).cell? ⟨m,j,nO⟩=w.cell? ⟨m,j,nO⟩:=λj=>by rw[cY _ _ _ _ _ _ _ _ am];exact HW.cell hm
 have HX:=aD (And.intro oP (And.intro HP (And.intro hcm (cZ (bs:=ae m (U (sO ⟨gb,0,nO⟩) s.vars.length cap) (U ts s.things.length tc) lv fv) HW (g:=gb) (by simp only[ae,List.mem_cons];right;left;rfl) (t * 2) (t * 2+1) (I Y 3) (I Y s.things.length)))))
 clear hcell hfz q2 oP HP hcm oL
 go_enter Tryz.func149,Tryz.ntmps149
 go_wp2
 refine an (S:=(λwx=>wx.cell? ⟨m,1,nO⟩=sO (U (sO ⟨gb,0,nO⟩) s.vars.length cap)∧wx.cell? ⟨w.heap.size,1,nO⟩=sO (I Y t)∧wx.cell? ⟨m,2,nO⟩=sO (U ts s.things.length tc))) [15] (by kernel_rfl) (K1 _ (bR _ _).drew) (λhHeld=> ?_)
 refine vZ 0 ?_ ?_
 refine vZ 1 ?_ ?_
 refine vZ 2 ?_ ?_
 refine vZ 3 ?_ ?_
 refine vZ 4 ?_ ?_
 refine vZ 5 ?_ ?_
 refine vZ 6 ?_ ?_
 refine vZ 7 ?_ ?_
 refine vZ 8 ?_ ?_
 refine vZ 9 ?_ ?_
 refine vZ 10 ?_ ?_
 refine vZ 11 ?_ ?_
 refine vZ 12 ?_ ?_
 refine vZ 13 ?_ ?_
 refine vZ 14 ?_ ?_
 refine aJ (i:=15) rfl (by kernel_rfl) (by kernel_rfl) (λK hK=> ?_)
 have c0:(w.alloc (Cc #[I Y 11,I Y t,I Y a,I Y b,I Y n,I Y g] 100)).drew.cell? ⟨gb,t * 2,nO⟩=sO (I Y s.vars[t].k):=by rw[HW.cell (by simpa using hg2)];exact kt0
 have c1:(w.alloc (Cc #[I Y 11,I Y t,I Y a,I Y b,I Y n,I Y g] 100)).drew.cell? ⟨gb,t * 2+1,nO⟩=sO (I Y s.vars[t].n):=by rw[HW.cell (by simpa using hg2)];exact kt1
 have d0:(w.alloc (Cc #[I Y 11,I Y t,I Y a,I Y b,I Y n,I Y g] 100)).drew.frozen? ⟨gb,t * 2,nO⟩=false:=by rw[HW.frozen (by simpa using hg2)];exact f0
 have d1:(w.alloc (Cc #[I Y 11,I Y t,I Y a,I Y b,I Y n,I Y g] 100)).drew.frozen? ⟨gb,t * 2+1,nO⟩=false:=by rw[HW.frozen (by simpa using hg2)];exact f1
 generalize (w.alloc (Cc #[I Y 11,I Y t,I Y a,I Y b,I Y n,I Y g] 100)).drew=wl at *
 go_simp
 refine hK.out _ _ ?_
 clear hK K
 refine sm ?_
 refine aj (by kernel_rfl) ?_ _
 obtain⟨oP,HP,hcm0,hfr0⟩:=HX.out
 have hcm:=aD hcm0
 have hfr:=aD hfr0
 clear hcm0 hfr0
 clear HX K1 q2' HW c0 c1 d0 d1 hHeld
 generalize (wl.setCell ⟨gb,t * 2,nO⟩ (I Y 3)).setCell ⟨gb,t * 2+1,nO⟩ (I Y s.things.length)=w2 at *
 have p2:w2.cell? ⟨m,2,nO⟩=sO (U ts s.things.length tc):=oP.things_
 have p0:w2.cell? ⟨m,0,nO⟩=sO (I Y s.at_):=oP.at_
 have p7:w2.cell? ⟨m,7,nO⟩=sO (I Y f):=by rw[hcm.out 7];exact h7
 have hm2:m < w2.heap.size:=oP.lt (by simp[ae])
 have KZ:∀wx,Below w2.heap.size w2 wx→wx.cell? ⟨m,2,nO⟩=sO (U ts s.things.length tc)∧wx.cell? ⟨m,0,nO⟩=sO (I Y s.at_)∧wx.cell? ⟨m,7,nO⟩=sO (I Y f):=λwx hx=>⟨by rw[hx.cell (by simpa using hm2)];exact p2,by rw[hx.cell (by simpa using hm2)];exact p0,by rw[hx.cell (by simpa using hm2)];exact p7⟩
 go_wp2
 refine an (S:=(λwx=>wx.cell? ⟨m,2,nO⟩=sO (U ts s.things.length tc)∧wx.cell? ⟨m,0,nO⟩=sO (I Y s.at_)∧wx.cell? ⟨m,7,nO⟩=sO (I Y f))) [23] (by kernel_rfl) (KZ _ (bR _ _).drew) (λhHeld=> ?_)
 refine vZ 0 ?_ ?_
 refine vZ 1 ?_ ?_
 refine vZ 2 ?_ ?_
 refine vZ 3 ?_ ?_
 refine vZ 4 ?_ ?_
 refine vZ 5 ?_ ?_
 refine vZ 6 ?_ ?_
 refine vZ 7 ?_ ?_
 refine vZ 8 ?_ ?_
 refine vZ 9 ?_ ?_
 refine vZ 10 ?_ ?_
 refine vZ 11 ?_ ?_
 refine vZ 12 ?_ ?_
 refine vZ 13 ?_ ?_
 refine vZ 14 ?_ ?_
 refine vZ 15 ?_ ?_
 refine ai (i:=16) rfl (by kernel_rfl) (λK hK=> ?_)
 refine rO rfl _ _ 29 rfl B 82 ti (Ag #[I Y 0,I Y 0]) 2 Tryz.underlying29 hi hz0 hz1 .i64 .i64 (f:Int) (f:Int) f rfl rfl rfl rfl (by rw[hz2];omega) (by unfold maxLen;omega) (by simp;omega) ?_
 intro wm hownF hgF
 have HB1:Below w2.heap.size w2 wm:=Below.grown (bR _ _).drew hgF (by simp) (λk hk=>by cases hk)
 rw[mT f (by omega)] at hownF
 have zm:w2.heap.size < wm.heap.size:=by
  have:=aS hownF (k:=w2.heap.size) rfl
  exact this.1
 refine hK.out _ _ (KZ _ HB1) (λhHeld=> ?_)
 clear hK K
 refine sm ?_
 refine vZ 17 ?_ ?_
 refine ai (i:=18) rfl (by kernel_rfl) (λK hK=> ?_)
 go_simp
 have HB2:Below w2.heap.size w2 (wm.alloc (Cc #[I Y s.at_,U (sO ⟨w2.heap.size,0,nO⟩) f f] 84)):=HB1.alloc HB1.size _
 refine hK.out _ _ (KZ _ HB2) (λhHeld=> ?_)
 clear hK K
 refine sm ?_
 refine ai (i:=19) rfl (by kernel_rfl) (λK hK=> ?_)
 have hba:Below wm.heap.size wm (wm.alloc (Cc #[I Y s.at_,U (sO ⟨w2.heap.size,0,nO⟩) f f] 84)):=by go_grown
 have o2:=oP.below HB2
 have hF2:ValRow (wm.alloc (Cc #[I Y s.at_,U (sO ⟨w2.heap.size,0,nO⟩) f f] 84)) B (U (sO ⟨w2.heap.size,0,nO⟩) f f) (j1 f ⟨0,0⟩):=by
  unfold ValRow
  rw[j7]
  exact av hownF (λk hk=>hba.block k (aS hownF hk).1)
 have hFa:∀k,(Value.slice (sO ⟨w2.heap.size,0,nO⟩) f f).ownBlock=sO k→sO k∉ae m (U (sO ⟨gb,0,nO⟩) s.vars.length cap) (U ts s.things.length tc) lv fv:=λk hk hmem=>by
  cases hk
  exact Nat.lt_irrefl _ (oP.lt hmem)
 obtain⟨p1,-,p3,-,-⟩:=o2.parted
 refine step_append_lies _ rfl _ _ 30 rfl B 84 tj (Ag #[I Y 0,U nO 0 0]) 2 32 Tryz.underlying30 hj hy0 hy1 hy2 rfl (by decide) _ _ _ rfl o2.things ⟨wm.heap.size,0,nO⟩ 1 1 [I Y s.at_,U (sO ⟨w2.heap.size,0,nO⟩) f f] rfl rfl (λj u hj=>World.news_of_block (heap_alloc_new _ _) j u hj) (by simp[Value.oneCell']) (by omega) (by simp only;unfold maxLen;omega) (by simp only;omega) (by have:=HP.size;have:=HB2.size;omega) _ rfl ?_
 intro gl cl w3 hown hgrow hat hlt
 have nm:sO m≠(Value.slice ts s.things.length tc).ownBlock:=λe=>p1 m (by rw[e];simp) rfl
 have far:∀j,w3.cell? ⟨m,j,nO⟩=w2.cell? ⟨m,j,nO⟩:=λj=>by rw[hgrow.cell_far ⟨m,j,nO⟩ (by have:=HB2.size;simp at this ⊢;omega) nm,HB2.cell (by simpa using hm2)]
 have hS3:w3.cell? ⟨m,2,nO⟩=sO (U ts s.things.length tc)∧w3.cell? ⟨m,0,nO⟩=sO (I Y s.at_)∧w3.cell? ⟨m,7,nO⟩=sO (I Y f):=⟨by rw[far];exact p2,by rw[far];exact p0,by rw[far];exact p7⟩
 have hfar:=aD far
 clear far
 refine hK.out _ _ hS3 (λhHeld=> ?_)
 clear hK K
 refine sm ?_
 refine vZ 20 ?_ ?_
 refine vZ 21 ?_ ?_
 refine vZ 22 ?_ ?_
 refine aJ (i:=23) rfl (by kernel_rfl) (by kernel_rfl) (λK hK=> ?_)
 have d4:w3.frozen? ⟨m,2,nO⟩=false:=by rw[hgrow.frozen_far ⟨m,2,nO⟩ (by have:=HB2.size;simp at this ⊢;omega) nm];exact o2.thaw 2
 have c4:w3.cell? ⟨m,2,nO⟩=sO (U ts s.things.length tc):=hS3.1
 go_simp
 refine hK.out _ _ ?_
 clear hK K
 refine sm ?_
 refine aj (by kernel_rfl) ?_ _
 go_wp2
 go_ret
 have HW:Below B w w3:=Below.grown (HP.trans (HB2.mono (by have:=HP.size;omega))) hgrow (by have:=HP.size;have:=HB2.size;omega) (λk hk=>(aS o2.things hk).2)
 refine⟨rfl,⟨_,_,_,_,o2.grow_things hF2 hFa hown hgrow (hat.imp id (λe=>by rw[e];exact lR _))⟩,HW.setCell hBm _,λj hj=> ?_,cD hfr.out HP.size (cD (cH HB2) HB2.size (rH hgrow (λk hk=>by have e:(Value.slice ts s.things.length tc).ownBlock=sO k:=hk;unfold ae;rw[e];simp) (by simp[ae]) _ _))⟩
 rw[World.cell?_setCell_other _ _ _ _ (by intro e;cases e;omega),hfar.out,hcm.out]
theorem AN (v f:Nat)(s:Option Addr)(c:List Ins)(cap:Nat)(is:Option Addr)(ic:Nat)(ins:List Int)(fuel:Int)(w:World)(hc:CodeAt w s c)(h0:ag v f c=0)(hf:fuel < 0∨5000 < fuel):
  Calls pG 19 #[Ag #[I Y (v:Int),I Y (f:Int),U s c.length cap],U is ins.length ic,I Y fuel] w λe w'=>e=Rt (Tu #[Ag #[I Y 0,U nO 0 0,U nO 0 0,I Y 0,U nO 0 0,I Y 0],I Y 0,I Y 3])∧Below w.heap.size w w':=by
 have hb0:Below w.heap.size w ((w.alloc (Cc #[I Y (v:Int),I Y (f:Int),U s c.length cap] 24)).alloc (Cc #[I Y 0,U nO 0 0,U nO 0 0,I Y 0,U nO 0 0,I Y 0] 33)):=by go_grown
 have Z0:=R6.new (w.alloc (Cc #[I Y (v:Int),I Y (f:Int),U s c.length cap] 24)) 33 (I Y 0) (U nO 0 0) (U nO 0 0) (I Y 0) (U nO 0 0) (I Y 0)
 rw[zA] at Z0
 have HB:=aD (oR v f s c cap ((w.alloc (Cc #[I Y (v:Int),I Y (f:Int),U s c.length cap] 24)).alloc (Cc #[I Y 0,U nO 0 0,U nO 0 0,I Y 0,U nO 0 0,I Y 0] 33)) (hc.below hb0 (lR _)) h0)
 go_enter Tryz.func19,Tryz.ntmps19
 go_wp2_with (go_at_call 40;fail)
 refine HB.out.mono ?_
 rintro e w1 ⟨g,rfl,-,hb1⟩
 clear HB
 have H1:=hb0.trans (hb1.mono hb0.size)
 have hz1:w.heap.size+1 < w1.heap.size:=by have:=hb1.size;simp at this;omega
 have Z1:=(Z0.call hb1).call (w':=w1.alloc (Cc #[I Y 0,U (sO ⟨g,0,nO⟩) v v,U nO 0 0,I Y 0,U nO 0 0,I Y 0] 33)) (by go_grown)
 have H2:Below w.heap.size w (w1.alloc (Cc #[I Y 0,U (sO ⟨g,0,nO⟩) v v,U nO 0 0,I Y 0,U nO 0 0,I Y 0] 33)):=H1.alloc H1.size _
 clear Z0 hb1
 go_upto_region 2 with fail
 generalize w1.alloc (Cc #[I Y 0,U (sO ⟨g,0,nO⟩) v v,U nO 0 0,I Y 0,U nO 0 0,I Y 0] 33)=w2 at *
 obtain⟨⟨r0,r1,r2,r3,r4,r5⟩,rz,rf⟩:=id Z1
 have g0:=rf 0
 have g1:=rf 1
 have g2:=rf 2
 have g3:=rf 3
 have g4:=rf 4
 have g5:=rf 5
 clear rf
 rcases hf with hf|hf
 ·go_wp2
  refine bodyPost_ret (v:=Tu #[Ag #[I Y 0,U nO 0 0,U nO 0 0,I Y 0,U nO 0 0,I Y 0],I Y 0,I Y 3]) (by simp[results,Tryz.results19,go_sem,r0,r1,r2,r3,r4,r5]) rfl ⟨rfl,?_⟩
  exact eJ H2 (by omega) _ _ _ _ _ _
 ·have hf0:¬(fuel < 0):=by omega
  go_wp2
  refine bodyPost_ret (v:=Tu #[Ag #[I Y 0,U nO 0 0,U nO 0 0,I Y 0,U nO 0 0,I Y 0],I Y 0,I Y 3]) (by simp[results,Tryz.results19,go_sem,r0,r1,r2,r3,r4,r5]) rfl ⟨rfl,?_⟩
  exact eJ H2 (by omega) _ _ _ _ _ _
def b9 (V F:Int)(c:List Ins)(r:St):Int:=if ag V F c=0 then fL V F c r else ag V F c
theorem gr {V F:Int}{c:List Ins}{r:St}(h:r.at_ < 0∨(c.length:Int) < r.at_∨r.taken < 0∨r.fin < 0∨5 < r.fin):fL V F c r=3:=by
 unfold fL
 rw[if_pos (by simp[btw];omega)]
theorem AO {V F:Int}{c:List Ins}{r:St}(h:¬(r.at_ < 0∨(c.length:Int) < r.at_∨r.taken < 0∨r.fin < 0∨5 < r.fin)):fL V F c r=if (r.vars.length:Int)≠V then 1 else if 100 < r.things.length then 2 else ij F c r:=by
 unfold fL
 rw[if_neg (by simp[btw];omega)]
 rfl
theorem fR (V F:Int)(s:Option Addr)(c:List Ins)(cap:Nat)(r:St)(vs:Option Addr)(vc:Nat)(ts:Option Addr)(tc:Nat)(ls:Option Addr)(lc:Nat)(w:World)(hc:CodeAt w s c)(hl:fA r)(hr:RunAt w r vs ts ls):
  Calls pG 42 #[Ag #[I Y V,I Y F,U s c.length cap],eY r vs vc ts tc ls lc] w λe w'=>e=Rt (I Y (b9 V F c r))∧Below w.heap.size w w':=by
 have hb0:Below w.heap.size w ((w.alloc (Cc #[I Y V,I Y F,U s c.length cap] 24)).alloc (Cc #[I Y r.at_,U vs r.vars.length vc,U ts r.things.length tc,I Y r.taken,U ls r.lines.length lc,I Y r.fin] 33)):=by go_grown
 have P0:=(P3.new w V F s c.length cap).call (w':=((w.alloc (Cc #[I Y V,I Y F,U s c.length cap] 24)).alloc (Cc #[I Y r.at_,U vs r.vars.length vc,U ts r.things.length tc,I Y r.taken,U ls r.lines.length lc,I Y r.fin] 33))) (by go_grown)
 have Q0:=R6.new (w.alloc (Cc #[I Y V,I Y F,U s c.length cap] 24)) 33 (I Y r.at_) (U vs r.vars.length vc) (U ts r.things.length tc) (I Y r.taken) (U ls r.lines.length lc) (I Y r.fin)
 rw[zA] at Q0
 have C0:=hc.below hb0 (lR _)
 have A0:=hr.below hb0 (lR _)
 have HC:=aD (dM V F s cap c ((w.alloc (Cc #[I Y V,I Y F,U s c.length cap] 24)).alloc (Cc #[I Y r.at_,U vs r.vars.length vc,U ts r.things.length tc,I Y r.taken,U ls r.lines.length lc,I Y r.fin] 33)) C0)
 have HT:=aD (λ(wx:World) (hx:Below ((w.alloc (Cc #[I Y V,I Y F,U s c.length cap] 24)).alloc (Cc #[I Y r.at_,U vs r.vars.length vc,U ts r.things.length tc,I Y r.taken,U ls r.lines.length lc,I Y r.fin] 33)).heap.size ((w.alloc (Cc #[I Y V,I Y F,U s c.length cap] 24)).alloc (Cc #[I Y r.at_,U vs r.vars.length vc,U ts r.things.length tc,I Y r.taken,U ls r.lines.length lc,I Y r.fin] 33)) wx) (h60:c.length≤60)=>oY V F s c cap r vs vc ts tc ls lc wx (C0.below hx (lR _)) h60 hl (A0.below hx (lR _)))
 have HP:=aD (λ(wx:World) (hx:Below ((w.alloc (Cc #[I Y V,I Y F,U s c.length cap] 24)).alloc (Cc #[I Y r.at_,U vs r.vars.length vc,U ts r.things.length tc,I Y r.taken,U ls r.lines.length lc,I Y r.fin] 33)).heap.size ((w.alloc (Cc #[I Y V,I Y F,U s c.length cap] 24)).alloc (Cc #[I Y r.at_,U vs r.vars.length vc,U ts r.things.length tc,I Y r.taken,U ls r.lines.length lc,I Y r.fin] 33)) wx)=>And.intro (P0.call hx) (Q0.call hx))
 have HK:=aD (@bM V F c)
 have HB:Hid (b9 V F c r=if ag V F c=0 then fL V F c r else ag V F c):=rfl
 have hl2:r.things.length≤9223372036854775807:=by have:=hl.2.1;unfold maxLen at this;omega
 unfold eY at HT ⊢
 generalize ag V F c=ck at *
 clear P0 Q0 C0 A0 hc hr hl
 go_enter Tryz.func42,Tryz.ntmps42
 go_wp2_with (go_at_call 76;fail)
 generalize ((w.alloc (Cc #[I Y V,I Y F,U s c.length cap] 24)).alloc (Cc #[I Y r.at_,U vs r.vars.length vc,U ts r.things.length tc,I Y r.taken,U ls r.lines.length lc,I Y r.fin] 33))=w2 at *
 refine HC.out.mono ?_
 rintro e w3 ⟨rfl,hb3⟩
 clear HC
 have b3:=hb0.trans (hb3.mono hb0.size)
 obtain⟨⟨⟨p0,p1,p2⟩,pz⟩,⟨r0,r1,r2,r3,r4,r5⟩,rz,rf⟩:=HP.out w3 hb3
 clear HP rf
 by_cases hk:ck=0
 ·subst hk
  have h60:=(HK.out rfl).len
  clear HK
  by_cases a1:r.at_ < 0
  ·have HR:Hid (b9 V F c r=3):=by show _=_;rw[HB.out,if_pos rfl,gr (.inl a1)]
   clear HT HB
   go_wp2
   go_ret
   exact⟨bn (by rw[HR.out]),b3⟩
  by_cases a2:(c.length:Int) < r.at_
  ·have HR:Hid (b9 V F c r=3):=by show _=_;rw[HB.out,if_pos rfl,gr (.inr (.inl a2))]
   clear HT HB
   go_wp2
   go_ret
   exact⟨bn (by rw[HR.out]),b3⟩
  by_cases a3:r.taken < 0
  ·have HR:Hid (b9 V F c r=3):=by show _=_;rw[HB.out,if_pos rfl,gr (.inr (.inr (.inl a3)))]
   clear HT HB
   go_wp2
   go_ret
   exact⟨bn (by rw[HR.out]),b3⟩
  by_cases a4:r.fin < 0
  ·have HR:Hid (b9 V F c r=3):=by show _=_;rw[HB.out,if_pos rfl,gr (.inr (.inr (.inr (.inl a4))))]
   clear HT HB
   go_wp2
   go_ret
   exact⟨bn (by rw[HR.out]),b3⟩
  by_cases a5:5 < r.fin
  ·have HR:Hid (b9 V F c r=3):=by show _=_;rw[HB.out,if_pos rfl,gr (.inr (.inr (.inr (.inr a5))))]
   clear HT HB
   go_wp2
   go_ret
   exact⟨bn (by rw[HR.out]),b3⟩
  have HX:Hid (b9 V F c r=if (r.vars.length:Int)≠V then 1 else if 100 < r.things.length then 2 else ij F c r):=by show _=_;rw[HB.out,if_pos rfl,AO (by omega)]
  clear HB
  by_cases a6:(r.vars.length:Int)=V
  ·by_cases a7:100 < r.things.length
   ·have HR:Hid (b9 V F c r=2):=by show _=_;rw[HX.out,if_neg (by simpa using a6),if_pos a7]
    have n7:(100:Int) < (r.things.length:Int):=by omega
    subst a6
    clear HT HX
    go_wp2
    go_ret
    exact⟨bn (by rw[HR.out]),b3⟩
   ·have HR:Hid (b9 V F c r=ij F c r):=by show _=_;rw[HX.out,if_neg (by simpa using a6),if_neg a7]
    have n7:¬(100:Int) < (r.things.length:Int):=by omega
    subst a6
    clear HX
    go_wp2_with (go_at_call 79;fail)
    refine(HT.out w3 hb3 h60).mono ?_
    rintro e w4 ⟨rfl,hb4⟩
    clear HT
    go_wp2
    go_ret
    exact⟨bn (by rw[HR.out]),b3.trans (hb4.mono b3.size)⟩
  ·have HR:Hid (b9 V F c r=1):=by show _=_;rw[HX.out,if_pos a6]
   have n6:((r.vars.length:Int)!=V)=true:=by simpa using a6
   clear HT HX
   go_wp2
   go_ret
   exact⟨bn (by rw[HR.out]),b3⟩
 ·have hkb:(ck !=0)=true:=by simpa using hk
  have HR:Hid (b9 V F c r=ck):=by show _=_;rw[HB.out,if_neg hk]
  clear HT HK HB
  go_wp2
  go_ret
  exact⟨bn (by rw[HR.out]),b3⟩
end
end Go.Proofs.YtmapdpcfanecdabGreatDoor
