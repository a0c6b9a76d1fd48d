import Derived.Test.YtmapdpcfanecdabGreatDoorM05
import Derived.Test.YtmapdpcfanecdabGreatDoorM06
import Derived.WalkSmall
open Array renaming getElem?_eq_some_iff→j4
open Go.Ending renaming returned→Rt
open Go.IntKind renaming i64→Y
open Go.Obj renaming cells→Cc
open Go.Proofs.Tryz renaming prog→pG
open Go.RowKit.Below renaming heap_setCell→hSe,refl→bR
open Go.Value renaming agg→Ag,bool→Bb,int→I,pointer→Pp,slice→U,slice→j0,tuple→Tu
open Go.World renaming block_lt_of_cell?→x9,cell?→x8,cell?_of_block→j7,cell?_setCell_other→q0,cell?_setCell_same→x4,frozen?_of_block→J4,frozen?_setCell→x5,ownsRow→q7,putObj→J6,putObj_heap_other→x6,setCell→j5
open List renaming Pairwise→Q0,drop_eq_getElem_cons→q6,drop_eq_nil_of_le→q8,flatMap_cons→Q2,getD→z7,getElem?_append_left→J2,getElem?_append_right→J3,getElem?_eq_getElem→Q1,getElem_map→q5,getElem_mem→gM,getElem_set→J9,length_append→j8,length_cons→J0,length_eq_zero_iff→z6,length_set→j6,map_append→J5,map_set→x7,mem_append→j2,mem_cons→z0,mem_iff_getElem→J8,mem_map→z8,mem_or_eq_of_mem_set→J7,mem_singleton→j3,not_mem_nil→J1,set→q9,set_getElem_self→q2,set_set→Q3
open Nat renaming le_refl→lR,le_trans→lT,lt_irrefl→z9,lt_of_lt_of_le→lL,zero_add→j1,zero_le→j9,zero_mul→z5
open Option renaming none→nO,some→sO
set_option linter.unusedSimpArgs false
set_option linter.unusedVariables false
set_option maxHeartbeats 4000000
set_option maxRecDepth 100000
namespace Go.Proofs.YtmapdpcfanecdabGreatDoor
section
open Go.RowKit
def lo (q:Int):Int:=if q=4 then -2147483648 else 0
def hi (V F L q:Int):Int:=if q=4 then 2147483647 else if q=5 then 1 else if q=6 then 1000000 else if q=7 then F - 1 else if q=3 then L else V - 1
def er (q:Int):Int:=if q=4∨q=5∨q=6 then 3 else 5

theorem Ce (V F:Int)(s:Option Addr)(len cap:Nat)(q:Int)(w:World)(_hV:1≤V)(_hV':V≤8)(_hF:0≤F)(_hF':F≤3)(_hL:len≤60)(hq:0≤q∧q≤7):
  Calls pG 186 #[Ag #[I Y V,I Y F,U s len cap],I Y q] w λe w'=>e=Rt (Tu #[I Y (lo q),I Y (hi V F len q),I Y (er q)])∧Below w.heap.size w w':=by
 have:q=0∨q=1∨q=2∨q=3∨q=4∨q=5∨q=6∨q=7:=by omega
 rcases this with rfl|rfl|rfl|rfl|rfl|rfl|rfl|rfl
 all_goals
  go_enter Tryz.func186,Tryz.ntmps186
  go_wp2
  try (go_quiet (fail);go_wp2)
  go_ret3
  exact⟨rfl,by first|(go_grown;done)|exact below_drewN (by go_grown) _⟩
theorem aj {N:Nat}{w:World}(h:ShpAt N shps w)(j i:Nat)(hj:j < shps.length)(hne:shps[j].2.2≠[])(v:Value)(hv:(ob shps[j].2.2)[i]? =sO v):w.cell? ⟨N+1+j,i,nO⟩=sO v∧N+1+j < w.heap.size:=by
 have hb:=h.parts j hj hne
 exact⟨by simp[x8,hb,hv],(j4.1 hb).1⟩
theorem dA {p:Prop}(h:p:=by
 have l0:lo 0=0:=rfl
 have m0:hi V F len 0=V - 1:=rfl
 have e0:er 0=5:=rfl
 have l1:lo 1=0:=rfl
 have m1:hi V F len 1=V - 1:=rfl
 have e1:er 1=5:=rfl
 have l2:lo 2=0:=rfl
 have m2:hi V F len 2=V - 1:=rfl
 have e2:er 2=5:=rfl
 have l3:lo 3=0:=rfl
 have m3:hi V F len 3=(len:Int):=rfl
 have e3:er 3=5:=rfl
 have l4:lo 4= -2147483648:=rfl
 have m4:hi V F len 4=2147483647:=rfl
 have e4:er 4=3:=rfl
 have l5:lo 5=0:=rfl
 have m5:hi V F len 5=1:=rfl
 have e5:er 5=3:=rfl
 have l6:lo 6=0:=rfl
 have m6:hi V F len 6=1000000:=rfl
 have e6:er 6=3:=rfl
 have l7:lo 7=0:=rfl
 have m7:hi V F len 7=F - 1:=rfl
 have e7:er 7=5:=rfl
 have z1:=Nat.lt_add_right 1 hz
 have z2:=Nat.lt_add_right 1 z1
 have z3:=Nat.lt_add_right 1 z2
 have z4:=Nat.lt_add_right 1 z3
 have x3:¬_:=Nat.ne_of_lt z3
 go_enter Tryz.func128,Tryz.ntmps128
 go_wp2
 refine wp_loop_rounds 4 ?_
 iterate 4 (try any_goals (rw[rounds_succ];go_wp2_with (first|(go_at_call 186;refine(Ce V F _ _ _ _ _ hV hV' hF hF' hL ?hq).mono ?_;(case hq=>decide);rintro e w1 ⟨rfl,hb1⟩;obtain⟨hc1,hf1⟩:=Gd hb1;have hz1:w.heap.size+3 < w1.heap.size:=(by have:=hb1.size;simp at this;omega);have hz2:w.heap.size < w1.heap.size:=(by omega);have hz3:w.heap.size+1 < w1.heap.size:=(by omega);have hz4:w.heap.size+1+1 < w1.heap.size:=(by omega);have hz5:w.heap.size+1+1+1 < w1.heap.size:=(by omega);have hz6:=Nat.lt_trans hz hz2;have HB:Below w.heap.size w w1:=Below.trans (by go_grown) (hb1.mono (by go_size)))|go_in)))
 all_goals go_ret
 all_goals refine⟨bu ?_,by go_grown⟩
 all_goals clear hl
 all_goals (try clear p0)
 all_goals (try clear p1)
 all_goals (try clear p2)
 all_goals simp[bD,nTo,nA,nB,nN,nG,btw]
 all_goals omega):p:=h
def Tab (w:World):Prop:=Lib.TabIs pG w "internal/strconv.uint64pow10" .u64 Lib.pow10Tab
theorem Cn:∃g,Tryz.prog.globalNamed "internal/strconv.uint64pow10" =sO g:=by
 have h:(Tryz.prog.globalNamed "internal/strconv.uint64pow10").isSome=true:=by kernel_rfl
 exact Option.isSome_iff_exists.1 h
theorem Tab.below {w w':World}(h:Tab w)(hb:Below w.heap.size w w'):Tab w':=by
 obtain⟨g,hg⟩:=Cn
 have hc:=h.cell hg 0 (by decide)
 exact var?_below hb hg (x9 w _ hc) h

theorem kU (n:Int)(w:World)(h:kZ n)(ht:Tab w):
  Calls pG 118 #[I Y n] w λe w'=>e=Rt (.string (fI n))∧Below w.heap.size w w':=by
 refine(Tryz.strconv_Itoa n h.1 h.2 w ht).mono ?_
 rintro e w' ⟨rfl,k,os,rfl⟩
 exact⟨rfl,⟨rfl,rfl,rfl,by simp[Sort.grow],λi hi=>by simp[Sort.grow,Array.getElem?_append,World.drewN,hi]⟩⟩
theorem wM:(Tryz.prog.info? 9).map (λi=>(i.zero,i.size,i.bytes))=sO (sO (.string ⟨#[]⟩),1,16):=by kernel_rfl

theorem ye {P:Program}{N:Nat}{w:World}{es:Array MapEntry}{clock:Nat}(t kt et:TypeId)(ht:P.underlying t=sO (.map kt et))(hk:P.underlying kt=sO (.int .i64))(hmap:w.heap[N]? =sO (.map es clock))
  (k:Int)(i:Nat)(v:Value)(hf:Instr.findNow (.int .i64) (I Y k) es.toList 0=sO (sO (i,v))):(Instr.lookup t (.map (sO N)) (I Y k) false).run P w=.ok v w:=by
 have hc:∀e,(Instr.checkKey e 10000 kt (I Y k)).run P w=.ok () w:=λe=>MapKept.run_checkKey (k:=I Y k) hk rfl e 9999
 simp[Instr.lookup,run_underlying ht,MapKept.run_getObj_map hmap,hc,MapKept.run_findKey hk hf,Result.andThen]

theorem bk {N:Nat}{w:World}(h:ShpAt N shps w)(k:Int)(i:Nat)(v:Value)(hf:Instr.findNow (.int .i64) (I Y k) (cI N 0 shps) 0=sO (sO (i,v))):(Instr.lookup 179 (.map (sO N)) (I Y k) false).run pG w=.ok v w:=
 ye _ 3 228 Tryz.underlying179 Tryz.underlying3 h.map k i v hf
def SpAt (w:World)(b:Nat)(s:Sp):Prop:=(w.cell? ⟨b,0,nO⟩=sO (Bb s.n)∧w.cell? ⟨b,1,nO⟩=sO (I Y s.lo)∧w.cell? ⟨b,2,nO⟩=sO (I Y s.hi))∧b < w.heap.size

theorem SpAt.below {B b:Nat}{s:Sp}{w w':World}(h:SpAt w b s)(hb:Below B w w')(hB:w.heap.size≤B):SpAt w' b s:=by
 obtain⟨⟨h0,h1,h2⟩,hz⟩:=h
 refine⟨?_,lL hz hb.size⟩
 rw[hb.cell (by simp;omega),hb.cell (by simp;omega),hb.cell (by simp;omega)]
 exact⟨h0,h1,h2⟩
theorem SpAt.call {b:Nat}{s:Sp}{w w':World}(h:SpAt w b s)(hb:Below w.heap.size w w'):SpAt w' b s:=h.below hb (lR _)
theorem SpAt.alloc {b:Nat}{s:Sp}{w:World}(h:SpAt w b s)(o:Obj):SpAt (w.alloc o) b s:=h.below (Below.alloc (bR _ _) (lR _) o) (lR _)
theorem SpAt.drew {b:Nat}{s:Sp}{w:World}(h:SpAt w b s):SpAt w.drew b s:=h
theorem SpAt.new (w:World)(s:Sp):SpAt (w.alloc (Cc #[Bb s.n,I Y s.lo,I Y s.hi] 89)) w.heap.size s:=⟨by simp[go_sem],by simp⟩
theorem aa {p:Prop}(h:p):Hid p:=h

theorem IntsAt.get {w:World}{ss:Option Addr}{l:List Int}(h:IntsAt w ss l)(k:Nat)(hk:k < l.length):
  ∃b off,ss=sO ⟨b,off,nO⟩∧b < w.heap.size∧∀k (h:k < l.length),w.cell? ⟨b,off+k,nO⟩=sO (I Y l[k]):=by
 rcases h with rfl|h
 ·exact absurd hk (by simp)
 ·exact h
theorem IntsAt.call {w w':World}{ss:Option Addr}{l:List Int}(h:IntsAt w ss l)(hb:Below w.heap.size w w'):IntsAt w' ss l:=h.below hb (lR _)
theorem IntsAt.alloc {w:World}{ss:Option Addr}{l:List Int}(h:IntsAt w ss l)(o:Obj):IntsAt (w.alloc o) ss l:=h.call (Below.alloc (bR _ _) (lR _) o)
theorem IntsAt.drewN {w:World}{ss:Option Addr}{l:List Int}(h:IntsAt w ss l)(n:Nat):IntsAt (w.drewN n) ss l:=h.call (below_drewN (bR _ _) n)
theorem CodeAt.get {w:World}{s:Option Addr}{c:List Ins}(h:CodeAt w s c)(k:Nat)(hk:k < c.length):
  ∃b off,s=sO ⟨b,off,nO⟩∧b < w.heap.size∧∀k (h:k < c.length),InsAt w b (off+k * 6) c[k]:=by
 rcases h with rfl|h
 ·exact absurd hk (by simp)
 ·exact h
theorem CodeAt.call {w w':World}{s:Option Addr}{c:List Ins}(h:CodeAt w s c)(hb:Below w.heap.size w w'):CodeAt w' s c:=h.below hb (lR _)
theorem CodeAt.alloc {w:World}{s:Option Addr}{c:List Ins}(h:CodeAt w s c)(o:Obj):CodeAt (w.alloc o) s c:=h.call (Below.alloc (bR _ _) (lR _) o)

abbrev gv (g:Gs)(ss:Option Addr)(cap:Nat):Value:=Ag #[Bb g.n,Bb g.sp.n,I Y g.sp.lo,I Y g.sp.hi,Bb g.t,Bb g.f,U ss g.s.length cap]
abbrev pv (V F:Int)(s:Option Addr)(c:List Ins)(cap:Nat):Value:=Ag #[I Y V,I Y F,U s c.length cap]

def GuAt (w:World)(b o:Nat)(g:Gs)(ss:Option Addr)(cap:Nat):Prop:=
 (w.cell? ⟨b,o,nO⟩=sO (Bb g.n)∧w.cell? ⟨b,o+1,nO⟩=sO (Bb g.sp.n)∧w.cell? ⟨b,o+2,nO⟩=sO (I Y g.sp.lo)∧w.cell? ⟨b,o+3,nO⟩=sO (I Y g.sp.hi)∧w.cell? ⟨b,o+4,nO⟩=sO (Bb g.t)∧w.cell? ⟨b,o+5,nO⟩=sO (Bb g.f)∧w.cell? ⟨b,o+6,nO⟩=sO (U ss g.s.length cap))∧b < w.heap.size
theorem GuAt.below {B:Nat}{w w':World}{b o:Nat}{g:Gs}{ss:Option Addr}{cap:Nat}(h:GuAt w b o g ss cap)(hb:Below B w w')(hB:w.heap.size≤B):GuAt w' b o g ss cap:=by
 obtain⟨⟨h0,h1,h2,h3,h4,h5,h6⟩,hz⟩:=h
 refine⟨⟨?_,?_,?_,?_,?_,?_,?_⟩,lL hz hb.size⟩<;>rw[hb.cell (by simp;omega)]<;>assumption
theorem GuAt.call {w w':World}{b o:Nat}{g:Gs}{ss:Option Addr}{cap:Nat}(h:GuAt w b o g ss cap)(hb:Below w.heap.size w w'):GuAt w' b o g ss cap:=h.below hb (lR _)
theorem GuAt.alloc {w:World}{b o:Nat}{g:Gs}{ss:Option Addr}{cap:Nat}(h:GuAt w b o g ss cap)(x:Obj):GuAt (w.alloc x) b o g ss cap:=h.call (Below.alloc (bR _ _) (lR _) x)
theorem GuAt.drew {w:World}{b o:Nat}{g:Gs}{ss:Option Addr}{cap:Nat}(h:GuAt w b o g ss cap):GuAt w.drew b o g ss cap:=h
theorem GuAt.new (w:World)(g:Gs)(ss:Option Addr)(cap:Nat):GuAt (w.alloc (Cc #[Bb g.n,Bb g.sp.n,I Y g.sp.lo,I Y g.sp.hi,Bb g.t,Bb g.f,U ss g.s.length cap] 91)) w.heap.size 0 g ss cap:=⟨by simp[go_sem],by simp⟩

def PrAt (w:World)(b:Nat)(V F:Int)(s:Option Addr)(c:List Ins)(cap:Nat):Prop:=
 (w.cell? ⟨b,0,nO⟩=sO (I Y V)∧w.cell? ⟨b,1,nO⟩=sO (I Y F)∧w.cell? ⟨b,2,nO⟩=sO (U s c.length cap))∧b < w.heap.size
theorem PrAt.below {B:Nat}{w w':World}{b:Nat}{V F:Int}{s:Option Addr}{c:List Ins}{cap:Nat}(h:PrAt w b V F s c cap)(hb:Below B w w')(hB:w.heap.size≤B):PrAt w' b V F s c cap:=by
 obtain⟨⟨h0,h1,h2⟩,hz⟩:=h
 refine⟨⟨?_,?_,?_⟩,lL hz hb.size⟩<;>rw[hb.cell (by simp;omega)]<;>assumption
theorem PrAt.call {w w':World}{b:Nat}{V F:Int}{s:Option Addr}{c:List Ins}{cap:Nat}(h:PrAt w b V F s c cap)(hb:Below w.heap.size w w'):PrAt w' b V F s c cap:=h.below hb (lR _)
theorem PrAt.alloc {w:World}{b:Nat}{V F:Int}{s:Option Addr}{c:List Ins}{cap:Nat}(h:PrAt w b V F s c cap)(x:Obj):PrAt (w.alloc x) b V F s c cap:=h.call (Below.alloc (bR _ _) (lR _) x)
theorem PrAt.new (w:World)(V F:Int)(s:Option Addr)(c:List Ins)(cap:Nat):PrAt (w.alloc (Cc #[I Y V,I Y F,U s c.length cap] 24)) w.heap.size V F s c cap:=⟨by simp[go_sem],by simp⟩

def GsAt (w:World)(ls:Option Addr)(L:List Gs):Prop:=
 ∀i (h:i < L.length),∃b off,ls=sO ⟨b,off,nO⟩∧∃ss cap,GuAt w b (off+i * 7) L[i] ss cap∧IntsAt w ss L[i].s∧L[i].s.length≤cap∧cap≤maxLen
theorem GsAt.below {B:Nat}{w w':World}{ls:Option Addr}{L:List Gs}(h:GsAt w ls L)(hb:Below B w w')(hB:w.heap.size≤B):GsAt w' ls L:=by
 intro i hi
 obtain⟨b,off,e,ss,cap,h1,h2,h3,h4⟩:=h i hi
 exact⟨b,off,e,ss,cap,h1.below hb hB,h2.below hb hB,h3,h4⟩
theorem GsAt.call {w w':World}{ls:Option Addr}{L:List Gs}(h:GsAt w ls L)(hb:Below w.heap.size w w'):GsAt w' ls L:=h.below hb (lR _)
theorem GsAt.alloc {w:World}{ls:Option Addr}{L:List Gs}(h:GsAt w ls L)(o:Obj):GsAt (w.alloc o) ls L:=h.call (Below.alloc (bR _ _) (lR _) o)

def GhAt (w:World)(ls:Option Addr)(L:List Gs):Prop:=
 ∀i (h:i < L.length),∃b off,ls=sO ⟨b,off,nO⟩∧∃ss cap,GuAt w b (off+i * 7) L[i] ss cap
theorem GhAt.below {B:Nat}{w w':World}{ls:Option Addr}{L:List Gs}(h:GhAt w ls L)(hb:Below B w w')(hB:w.heap.size≤B):GhAt w' ls L:=by
 intro i hi
 obtain⟨b,off,e,ss,cap,h1⟩:=h i hi
 exact⟨b,off,e,ss,cap,h1.below hb hB⟩
theorem GhAt.call {w w':World}{ls:Option Addr}{L:List Gs}(h:GhAt w ls L)(hb:Below w.heap.size w w'):GhAt w' ls L:=h.below hb (lR _)

theorem GsAt.new1 (w:World)(g:Gs)(ss:Option Addr)(gc:Nat)(hs:IntsAt w ss g.s)(h1:g.s.length≤gc)(h2:gc≤maxLen):
  GsAt (w.alloc (Cc #[Bb g.n,Bb g.sp.n,I Y g.sp.lo,I Y g.sp.hi,Bb g.t,Bb g.f,U ss g.s.length gc] 91)) (sO ⟨w.heap.size,0,nO⟩) [g]:=by
 intro i hi
 obtain rfl:i=0:=by simp at hi;omega
 exact⟨w.heap.size,0,rfl,ss,gc,GuAt.new w g ss gc,hs.alloc _,h1,h2⟩

theorem GhAt.new1 (w:World)(g:Gs)(ss:Option Addr)(gc:Nat):
  GhAt (w.alloc (Cc #[Bb g.n,Bb g.sp.n,I Y g.sp.lo,I Y g.sp.hi,Bb g.t,Bb g.f,U ss g.s.length gc] 91)) (sO ⟨w.heap.size,0,nO⟩) [g]:=by
 intro i hi
 obtain rfl:i=0:=by simp at hi;omega
 exact⟨w.heap.size,0,rfl,ss,gc,GuAt.new w g ss gc⟩

abbrev nK (w:World)(g:Gs)(ss:Option Addr)(gc:Nat)(h:Gs)(st:Option Addr)(hc:Nat):World:=
 w.alloc (Cc #[Bb g.n,Bb g.sp.n,I Y g.sp.lo,I Y g.sp.hi,Bb g.t,Bb g.f,U ss g.s.length gc,Bb h.n,Bb h.sp.n,I Y h.sp.lo,I Y h.sp.hi,Bb h.t,Bb h.f,U st h.s.length hc] 91)
theorem GuAt.two0 (w:World)(g:Gs)(ss:Option Addr)(gc:Nat)(h:Gs)(st:Option Addr)(hc:Nat):GuAt (nK w g ss gc h st hc) w.heap.size 0 g ss gc:=⟨by simp[go_sem],by simp⟩
theorem GuAt.two1 (w:World)(g:Gs)(ss:Option Addr)(gc:Nat)(h:Gs)(st:Option Addr)(hc:Nat):GuAt (nK w g ss gc h st hc) w.heap.size 7 h st hc:=⟨by simp[go_sem],by simp⟩
theorem GsAt.new2 (w:World)(g:Gs)(ss:Option Addr)(gc:Nat)(h:Gs)(st:Option Addr)(hc:Nat)(hs:IntsAt w ss g.s)(h1:g.s.length≤gc)(h2:gc≤maxLen)(ht:IntsAt w st h.s)(h3:h.s.length≤hc)(h4:hc≤maxLen):
  GsAt (nK w g ss gc h st hc) (sO ⟨w.heap.size,0,nO⟩) [g,h]:=by
 intro i hi
 by_cases e:i=0
 ·subst e;exact⟨w.heap.size,0,rfl,ss,gc,GuAt.two0 w g ss gc h st hc,hs.alloc _,h1,h2⟩
 ·obtain rfl:i=1:=by simp at hi;omega
  exact⟨w.heap.size,0,rfl,st,hc,GuAt.two1 w g ss gc h st hc,ht.alloc _,h3,h4⟩
theorem GhAt.new2 (w:World)(g:Gs)(ss:Option Addr)(gc:Nat)(h:Gs)(st:Option Addr)(hc:Nat):GhAt (nK w g ss gc h st hc) (sO ⟨w.heap.size,0,nO⟩) [g,h]:=by
 intro i hi
 by_cases e:i=0
 ·subst e;exact⟨w.heap.size,0,rfl,ss,gc,GuAt.two0 w g ss gc h st hc⟩
 ·obtain rfl:i=1:=by simp at hi;omega
  exact⟨w.heap.size,0,rfl,st,hc,GuAt.two1 w g ss gc h st hc⟩
def IntsIn (S:Nat→Prop)(w:World)(ss:Option Addr)(l:List Int):Prop:=
 l=[]∨∃b off,ss=sO ⟨b,off,nO⟩∧S b∧b < w.heap.size∧∀k (h:k < l.length),w.cell? ⟨b,off+k,nO⟩=sO (I Y l[k])
section
variable {S S':Nat→Prop} {w w':World} {ss:Option Addr} {l:List Int}
theorem IntsIn.at (h:IntsIn S w ss l):IntsAt w ss l:=by
 rcases h with h|⟨b,off,e,-,hb,hc⟩
 ·exact .inl h
 ·exact .inr ⟨b,off,e,hb,hc⟩
theorem IntsAt.inAll (h:IntsAt w ss l):IntsIn (λb=>b < w.heap.size) w ss l:=by
 rcases h with h|⟨b,off,e,hb,hc⟩
 ·exact .inl h
 ·exact .inr ⟨b,off,e,hb,hb,hc⟩
theorem IntsIn.same (h:IntsIn S w ss l)(hs:∀b,S b→b < w.heap.size→w'.heap[b]? =w.heap[b]?)(hz:w.heap.size≤w'.heap.size):IntsIn S w' ss l:=by
 rcases h with h|⟨b,off,e,hS,hb,hc⟩
 ·exact .inl h
 ·exact .inr ⟨b,off,e,hS,lL hb hz,λk hk=>by rw[j7 (a:=⟨b,off+k,nO⟩) (hs b hS hb)];exact hc k hk⟩
theorem IntsIn.mono (h:IntsIn S w ss l)(hs:∀b,S b→b < w.heap.size→S' b):IntsIn S' w ss l:=by
 rcases h with h|⟨b,off,e,hS,hb,hc⟩
 ·exact .inl h
 ·exact .inr ⟨b,off,e,hs b hS hb,hb,hc⟩
theorem IntsIn.call (h:IntsIn S w ss l)(hb:Below w.heap.size w w'):IntsIn S w' ss l:=h.same (λb _ hlt=>hb.block b hlt) hb.size
end

theorem bo {w:World}{B:Nat}{e:TypeId}{z:Nat}{v:Value}{n:Nat}{xs:List Value}(h:w.ownsRow B e z v n xs){k:Nat}(hk:v.ownBlock=sO k):k < w.heap.size∧B≤k:=by
 rcases h.2 with⟨rfl,_⟩|⟨g,cap,cur,rfl,hb,hg,_⟩
 ·cases hk
 ·cases hk
  exact⟨(j4.1 hg).1,hb⟩
theorem dp {w w':World}{B:Nat}{e:TypeId}{z:Nat}{v:Value}{n:Nat}{xs:List Value}(h:w.ownsRow B e z v n xs)(hb:∀k,v.ownBlock=sO k→w'.heap[k]? =w.heap[k]?):w'.ownsRow B e z v n xs:=by
 obtain⟨hl,h2⟩:=h
 rcases h2 with h2|⟨g,cap,cur,rfl,h1,hg,hr⟩
 ·exact⟨hl,.inl h2⟩
 ·exact⟨hl,.inr ⟨g,cap,cur,rfl,h1,by rw[hb g rfl];exact hg,hr⟩⟩
theorem rI {w w':World}{B:Nat}{e:TypeId}{z:Nat}{v:Value}{n:Nat}{xs:List Value}(h:w.ownsRow B e z v n xs)(hb:Below w.heap.size w w'):w'.ownsRow B e z v n xs:=dp h λk hk=>hb.block k (bo h hk).1

structure Gc where
 g:Gs
 ss:Option Addr
 cap:Nat
def bC (x:Gc):List Value:=[Bb x.g.n,Bb x.g.sp.n,I Y x.g.sp.lo,I Y x.g.sp.hi,Bb x.g.t,Bb x.g.f,U x.ss x.g.s.length x.cap]
def aH (l:List Gc):List Value:=l.flatMap bC
def cd (S:Nat→Prop)(w:World)(x:Gc):Prop:=IntsIn S w x.ss x.g.s∧x.g.s.length≤x.cap∧x.cap≤maxLen
theorem dY (x:Gc):(bC x).length=7:=rfl
theorem kW (l:List Gc):(aH l).length=l.length * 7:=by
 induction l with
 |nil=>rfl
 |cons x r ih=>
  have:aH (x::r)=bC x++aH r:=rfl
  rw[this,j8,ih,dY,J0]
  omega
theorem ij (a b:List Gc):aH (a++b)=aH a++aH b:=by simp[aH]
theorem iN (x:Gc):∀u∈bC x,u.oneCell'=true:=by
 intro u hu
 simp only[bC,z0,J1,or_false] at hu
 rcases hu with rfl|rfl|rfl|rfl|rfl|rfl|rfl<;>rfl
theorem eI:∀(l:List Gc) (i:Nat) (h:i < l.length) (j:Nat) (_:j < 7),(aH l)[i * 7+j]? =(bC l[i])[j]?
 |[],i,h,_,_=>absurd h (by simp)
 |x::r,0,_,j,hj=>by
  have e:aH (x::r)=bC x++aH r:=rfl
  rw[e,z5,j1,J2 (by rw[dY];exact hj)]
  rfl
 |x::r,i+1,h,j,hj=>by
  have e:aH (x::r)=bC x++aH r:=rfl
  rw[e,J3 (by rw[dY];omega),dY]
  have:(i+1) * 7+j - 7=i * 7+j:=by omega
  rw[this,eI r i (by simpa using h) j hj]
  rfl

def GRow (w:World)(B:Nat)(v:Value)(l:List Gc):Prop:=w.ownsRow B 91 7 v l.length (aH l)∧∀x∈l,cd (λb=>v.ownBlock≠sO b) w x
section
variable {w w':World} {B:Nat} {v v':Value} {l:List Gc}
theorem GRow.at (h:GRow w B v l):∃rs rc,v=U rs l.length rc∧l.length≤rc∧rc≤maxLen∧GsAt w rs (l.map Gc.g)∧∀a,rs=sO a→B≤a.block:=by
 obtain⟨h1,h2⟩:=h
 rcases h1.2 with⟨rfl,h0⟩|⟨g,cap,cur,rfl,hb,hg,k1,k2,k3,k4⟩
 ·have:l=[]:=z6.1 h0
  subst this
  exact⟨nO,0,rfl,lR _,by unfold maxLen;omega,λi hi=>absurd hi (by simp),λa ha=>by cases ha⟩
 ·refine⟨sO ⟨g,0,nO⟩,cap,rfl,k1,k2,λi hi=> ?_,λa ha=>by cases ha;exact hb⟩
  have hil:i < l.length:=by simpa using hi
  have e:(l.map Gc.g)[i]=l[i].g:=by simp
  rw[e]
  have hx:=h2 l[i] (gM hil)
  refine⟨g,0,rfl,l[i].ss,l[i].cap,⟨?_,(j4.1 hg).1⟩,hx.1.at,hx.2.1,hx.2.2⟩
  have hc:∀j,j < 7→w.cell? ⟨g,i * 7+j,nO⟩=(bC l[i])[j]? :=λj hj=>by
   have:=h1.cellAt (i * 7+j) (by omega)
   rw[←eI l i hil j hj]
   exact this
  simp only[j1]
  exact⟨hc 0 (by omega),hc 1 (by omega),hc 2 (by omega),hc 3 (by omega),hc 4 (by omega),hc 5 (by omega),hc 6 (by omega)⟩
end

def RowsAt (w:World)(fs:Option Addr)(L:List (List Gs)):Prop:=
 ∀i (h:i < L.length),∃b off,fs=sO ⟨b,off,nO⟩∧b < w.heap.size∧∃rs rc,w.cell? ⟨b,off+i,nO⟩=sO (U rs L[i].length rc)∧L[i].length≤rc∧rc≤maxLen∧GsAt w rs L[i]
theorem RowsAt.below {B:Nat}{w w':World}{fs:Option Addr}{L:List (List Gs)}(h:RowsAt w fs L)(hb:Below B w w')(hB:w.heap.size≤B):RowsAt w' fs L:=by
 intro i hi
 obtain⟨b,off,e,hz,rs,rc,h1,h2,h3,h4⟩:=h i hi
 exact⟨b,off,e,lL hz hb.size,rs,rc,by rw[hb.cell (by simp;omega)];exact h1,h2,h3,h4.below hb hB⟩
def PicAt (w:World)(x:Pic)(vs fs:Option Addr):Prop:=GsAt w vs x.vars∧RowsAt w fs x.flds
theorem PicAt.below {B:Nat}{w w':World}{x:Pic}{vs fs:Option Addr}(h:PicAt w x vs fs)(hb:Below B w w')(hB:w.heap.size≤B):PicAt w' x vs fs:=⟨h.1.below hb hB,h.2.below hb hB⟩
theorem PicAt.call {w w':World}{x:Pic}{vs fs:Option Addr}(h:PicAt w x vs fs)(hb:Below w.heap.size w w'):PicAt w' x vs fs:=h.below hb (lR _)
abbrev xv (x:Pic)(vs:Option Addr)(vc:Nat)(fs:Option Addr)(fc:Nat):Value:=Ag #[Bb x.none,U vs x.vars.length vc,U fs x.flds.length fc]
def XAt (w:World)(b:Nat)(x:Pic)(vs:Option Addr)(vc:Nat)(fs:Option Addr)(fc:Nat):Prop:=
 (w.cell? ⟨b,0,nO⟩=sO (Bb x.none)∧w.cell? ⟨b,1,nO⟩=sO (U vs x.vars.length vc)∧w.cell? ⟨b,2,nO⟩=sO (U fs x.flds.length fc))∧b < w.heap.size∧∀j,w.frozen? ⟨b,j,nO⟩=false
section
variable {w w':World} {b:Nat} {x:Pic} {vs fs:Option Addr} {vc fc:Nat}
theorem rF {p:Prop}(h:p:=by
 have hc:∀j,w'.cell? ⟨b,j,none⟩=w.cell? ⟨b,j,none⟩:=λj=>World.cell?_of_block (a:=⟨b,j,none⟩) hb
 have hf:∀j,w'.frozen? ⟨b,j,none⟩=w.frozen? ⟨b,j,none⟩:=λj=>World.frozen?_of_block (a:=⟨b,j,none⟩) hb
 obtain⟨⟨h0,h1,h2⟩,h6,h7⟩:=h
 exact⟨⟨(hc _).trans h0,(hc _).trans h1,(hc _).trans h2⟩,Nat.lt_of_lt_of_le h6 hz,λj=>(hf j).trans (h7 j)⟩):p:=h
theorem XAt.same (h:XAt w b x vs vc fs fc)(hb:w'.heap[b]? =w.heap[b]?)(hz:w.heap.size≤w'.heap.size):XAt w' b x vs vc fs fc:=rF
theorem XAt.call (h:XAt w b x vs vc fs fc)(hb:Below w.heap.size w w'):XAt w' b x vs vc fs fc:=h.same (hb.block b h.2.1) hb.size
theorem XAt.new (w:World)(x:Pic)(vs:Option Addr)(vc:Nat)(fs:Option Addr)(fc:Nat):XAt (w.alloc (Cc #[Bb x.none,U vs x.vars.length vc,U fs x.flds.length fc] 28)) w.heap.size x vs vc fs fc:=by
 refine⟨⟨?_,?_,?_⟩,by simp,λj=> ?_⟩<;>simp[go_sem]
end
section
variable {w w':World} {B:Nat} {v v':Value} {l l2:List Gc}
theorem GsAt.gcs {ls:Option Addr}{L:List Gs}(h:GsAt w ls L):∃l:List Gc,l.map Gc.g=L∧(∀ad,ls=sO ad→∀j u,(aH l)[j]? =sO u→w.cell? (ad.add j)=sO u)∧(ls=none→l=[])∧∀y∈l,cd (λb=>b < w.heap.size) w y:=by
 have h1:∀i,i < L.length→∃x:Gc,∃b off,ls=sO ⟨b,off,nO⟩∧(x.g=L.getD i bX)∧(∀j,j < 7→w.cell? ⟨b,off+i * 7+j,nO⟩=(bC x)[j]?)∧cd (λb=>b < w.heap.size) w x:=by
  intro i hi
  obtain⟨b,off,e,ss,cap,⟨⟨c0,c1,c2,c3,c4,c5,c6⟩,hz⟩,hI,k1,k2⟩:=h i hi
  have eg:L.getD i bX=L[i]:=by simp[z7,hi]
  refine⟨⟨L[i],ss,cap⟩,b,off,e,eg.symm,λj hj=> ?_,hI.inAll,k1,k2⟩
  match j,hj with
  |0,_=>exact c0
  |1,_=>exact c1
  |2,_=>exact c2
  |3,_=>exact c3
  |4,_=>exact c4
  |5,_=>exact c5
  |6,_=>exact c6
  |j+7,hj=>omega
 have h2:∃f:Nat→Gc,∀i,i < L.length→∃b off,ls=sO ⟨b,off,nO⟩∧((f i).g=L.getD i bX)∧(∀j,j < 7→w.cell? ⟨b,off+i * 7+j,nO⟩=(bC (f i))[j]?)∧cd (λb=>b < w.heap.size) w (f i):=by
  refine⟨λi=>if hi:i < L.length then Classical.choose (h1 i hi) else⟨bX,nO,0⟩,λi hi=> ?_⟩
  simp only[dif_pos hi]
  exact Classical.choose_spec (h1 i hi)
 obtain⟨f,hf⟩:=h2
 refine⟨(List.range L.length).map f,?_,?_,?_,?_⟩
 ·refine List.ext_getElem (by simp) λi hi1 hi2=> ?_
  obtain⟨_,_,_,e,_⟩:=hf i hi2
  simp only[q5,List.getElem_range]
  rw[e]
  simp[z7,hi2]
 ·intro ad had j u hju
  have hj:j < L.length * 7:=by
   have:=(List.getElem?_eq_some_iff.1 hju).1
   rw[kW] at this
   simpa using this
  have e1:j=j / 7 * 7+j % 7:=by omega
  have hi:j / 7 < L.length:=by omega
  rw[e1] at hju
  rw[eI _ (j / 7) (by simpa using hi) (j % 7) (by omega)] at hju
  obtain⟨b,off,e,_,hc,_⟩:=hf (j / 7) hi
  rw[had] at e
  cases e
  have:=hc (j % 7) (by omega)
  rw[Addr.add_lit]
  have e2:off+j=off+j / 7 * 7+j % 7:=by omega
  rw[e2,this]
  simpa using hju
 ·intro h0
  cases L with
  |nil=>rfl
  |cons a r=>
   obtain⟨_,_,e,_⟩:=hf 0 (by simp)
   rw[h0] at e
   cases e
 ·intro y hy
  rw[z8] at hy
  obtain⟨i,hi,rfl⟩:=hy
  obtain⟨_,_,_,_,_,hx⟩:=hf i (by simpa using hi)
  exact hx

def CRow (w:World)(B:Nat)(v:Value)(l:List Gc):Prop:=w.ownsRow B 91 7 v l.length (aH l)∧∀x∈l,cd (λb=>b < B) w x
theorem CRow.grown (h:CRow w B v l)(hx:∀x∈l2,cd (λb=>b < B) w x)(hr:w'.ownsRow B 91 7 v' (l.length+l2.length) (aH l++aH l2))(hg:w.grownBy w' v.ownBlock):CRow w' B v' (l++l2):=by
 refine⟨by rw[j8,ij];exact hr,λy hy=> ?_⟩
 have hy':cd (λb=>b < B) w y:=by
  rcases j2.1 hy with hy|hy
  ·exact h.2 y hy
  ·exact hx y hy
 exact⟨hy'.1.same (λb hS hb=>hg.block b hb (λe=>by have:=(bo h.1 e.symm).2;omega)) hg.size,hy'.2⟩
theorem CRow.at (h:CRow w B v l):∃rs rc,v=U rs l.length rc∧l.length≤rc∧rc≤maxLen∧GsAt w rs (l.map Gc.g)∧∀a,rs=sO a→B≤a.block:=by
 refine GRow.at (B:=B) ⟨h.1,λx hx=>⟨(h.2 x hx).1.mono λb hb _ e=> ?_,(h.2 x hx).2⟩⟩
 have:=(bo h.1 e).2
 omega
end
theorem wU (l:List Gc):∀u∈aH l,u.oneCell'=true:=by
 intro u hu
 unfold aH at hu
 rw[List.mem_flatMap] at hu
 obtain⟨x,-,hx⟩:=hu
 exact iN x u hx
theorem GsAt.gcsTo {w w':World}{ls:Option Addr}{L:List Gs}(h:GsAt w ls L)(hb:Below w.heap.size w w'):∃l:List Gc,l.map Gc.g=L∧(∀ad,ls=sO ad→∀j u,(aH l)[j]? =sO u→w'.cell? (ad.add j)=sO u)∧(ls=none→L.length=0)∧(∀y∈l,cd (λb=>b < w.heap.size) w' y)∧(aH l).length=L.length * 7:=by
 obtain⟨l,e,h1,h2,h3⟩:=h.gcs
 refine⟨l,e,λad ha j u hj=> ?_,λh0=>by rw[←e,h2 h0];rfl,λy hy=>⟨(h3 y hy).1.call hb,(h3 y hy).2⟩,by rw[kW,←e,List.length_map]⟩
 have:=h1 ad ha j u hj
 rw[hb.cell (x9 w _ this)]
 exact this
theorem wo (c:List Ins)(p:Gs→Bool)(L:List (List Gs))(k:Nat)(h:k < L.length):dG c p k (L.drop k)=((!bQ c k&&L[k].any p)||dG c p (k+1) (L.drop (k+1))):=by
 rw[q6 h]
 rfl
theorem lP {α:Type}(l:List α)(p:α→Bool)(k:Nat)(h:k < l.length):(l.drop k).any p=(p l[k]||(l.drop (k+1)).any p):=by
 rw[q6 h]
 rfl
theorem Tryz.info_guess:(Tryz.prog.info? 91).map (λi=>(i.zero,i.size,i.bytes))=sO (sO (Ag #[Bb false,Bb false,I Y 0,I Y 0,Bb false,Bb false,U nO 0 0]),7,64):=by kernel_rfl
theorem mw {α:Type}{n:Nat}:∀{L:List (List α)},(∀r∈L,r.length=n)→L.flatten.length=L.length * n
 |[],_=>by simp
 |r::L,h=>by
  rw[List.flatten_cons,j8,h r List.mem_cons_self,mw λr' hr'=>h r' (List.mem_cons_of_mem _ hr'),J0,Nat.add_mul]
  omega
theorem oe {α:Type}(L:List (List α))(k:Nat)(h:k < L.length):(L.take (k+1)).flatten=(L.take k).flatten++L[k]:=by
 rw[List.take_succ_eq_append_getElem h,List.flatten_append]
 simp
def GsIn (S:Nat→Prop)(w:World)(ls:Option Addr)(L:List Gs):Prop:=
 ∀i (h:i < L.length),∃b off,ls=sO ⟨b,off,nO⟩∧S b∧∃ss cap,GuAt w b (off+i * 7) L[i] ss cap∧IntsIn S w ss L[i].s∧L[i].s.length≤cap∧cap≤maxLen
section
variable {S S':Nat→Prop} {w w':World} {ls:Option Addr} {L:List Gs} {B z:Nat} {v v':Value} {l:List Gc}
theorem GsIn.at (h:GsIn S w ls L):GsAt w ls L:=by
 intro i hi
 obtain⟨b,off,e,_,ss,cap,h1,h2,h3⟩:=h i hi
 exact⟨b,off,e,ss,cap,h1,h2.at,h3⟩
theorem GsAt.inAll (h:GsAt w ls L):GsIn (λb=>b < w.heap.size) w ls L:=by
 intro i hi
 obtain⟨b,off,e,ss,cap,h1,h2,h3⟩:=h i hi
 exact⟨b,off,e,h1.2,ss,cap,h1,h2.inAll,h3⟩
theorem GuAt.same {b o:Nat}{g:Gs}{ss:Option Addr}{cap:Nat}(h:GuAt w b o g ss cap)(hb:w'.heap[b]? =w.heap[b]?)(hz:w.heap.size≤w'.heap.size):GuAt w' b o g ss cap:=by
 obtain⟨⟨h0,h1,h2,h3,h4,h5,h6⟩,h7⟩:=h
 have hc:∀j,w'.cell? ⟨b,j,nO⟩=w.cell? ⟨b,j,nO⟩:=λj=>j7 (a:=⟨b,j,nO⟩) hb
 exact⟨⟨(hc _).trans h0,(hc _).trans h1,(hc _).trans h2,(hc _).trans h3,(hc _).trans h4,(hc _).trans h5,(hc _).trans h6⟩,lL h7 hz⟩
theorem GsIn.same (h:GsIn S w ls L)(hs:∀b,S b→b < w.heap.size→w'.heap[b]? =w.heap[b]?)(hz:w.heap.size≤w'.heap.size):GsIn S w' ls L:=by
 intro i hi
 obtain⟨b,off,e,hS,ss,cap,h1,h2,h3⟩:=h i hi
 exact⟨b,off,e,hS,ss,cap,h1.same (hs b hS h1.2) hz,h2.same hs hz,h3⟩
theorem GsIn.mono (h:GsIn S w ls L)(hs:∀b,S b→b < w.heap.size→S' b):GsIn S' w ls L:=by
 intro i hi
 obtain⟨b,off,e,hS,ss,cap,h1,h2,h3⟩:=h i hi
 exact⟨b,off,e,hs b hS h1.2,ss,cap,h1,h2.mono hs,h3⟩
theorem GsIn.call (h:GsIn S w ls L)(hb:Below w.heap.size w w'):GsIn S w' ls L:=h.same (λb _ hlt=>hb.block b hlt) hb.size

def SRow (w:World)(B:Nat)(v:Value)(l:List Gc):Prop:=w.ownsRow B 91 7 v l.length (aH l)∧∀x∈l,cd (λb=>B≤b∧v.ownBlock≠sO b) w x
theorem SRow.nil (w:World)(B:Nat):SRow w B (U nO 0 0) []:=⟨⟨rfl,.inl ⟨rfl,rfl⟩⟩,λx hx=>by simp at hx⟩
theorem SRow.call (h:SRow w B v l)(hb:Below w.heap.size w w'):SRow w' B v l:=⟨rI h.1 hb,λx hx=>⟨(h.2 x hx).1.call hb,(h.2 x hx).2⟩⟩
theorem sr {p:Prop}(h:p:=by
 refine⟨(hm.same (λb hS hb=>hg.block b hb (λe=>hS.1.2 e.symm)) hg.size).mono λb hb _=>⟨hb.1.1,?_⟩,hy'.2⟩
 rcases hv with hv|hv
 ·rw[hv];exact hb.1.2
 ·rw[hv]
  intro e
  cases e
  exact absurd hb.2 (Nat.lt_irrefl _)):p:=h
theorem SRow.grown (h:SRow w B v l){x:Gc}(hx:cd (λb=>B≤b∧v.ownBlock≠sO b) w x)(hr:w'.ownsRow B 91 7 v' (l.length+1) (aH l++bC x))(hg:w.grownBy w' v.ownBlock)(hv:v'.ownBlock=v.ownBlock∨v'.ownBlock=sO w.heap.size):SRow w' B v' (l++[x]):=by
 refine⟨by rw[j8,ij];simpa[aH] using hr,λy hy=> ?_⟩
 have hy':cd (λb=>B≤b∧v.ownBlock≠sO b) w y:=by
  rcases j2.1 hy with hy|hy
  ·exact h.2 y hy
  ·rw[j3.1 hy];exact hx
 have hm:IntsIn (λb=>(B≤b∧v.ownBlock≠sO b)∧b < w.heap.size) w y.ss y.g.s:=hy'.1.mono λb h1 h2=>⟨h1,h2⟩
 exact sr
theorem SRow.in (h:SRow w B v l):∃rs rc,v=U rs l.length rc∧l.length≤rc∧rc≤maxLen∧GsIn (λb=>B≤b) w rs (l.map Gc.g):=by
 obtain⟨h1,h2⟩:=h
 rcases h1.2 with⟨rfl,h0⟩|⟨g,cap,cur,rfl,hb,hg,k1,k2,k3,k4⟩
 ·have:l=[]:=z6.1 h0
  subst this
  exact⟨nO,0,rfl,lR _,by unfold maxLen;omega,λi hi=>absurd hi (by simp)⟩
 ·refine⟨sO ⟨g,0,nO⟩,cap,rfl,k1,k2,λi hi=> ?_⟩
  have hil:i < l.length:=by simpa using hi
  have e:(l.map Gc.g)[i]=l[i].g:=by simp
  rw[e]
  have hx:=h2 l[i] (gM hil)
  refine⟨g,0,rfl,hb,l[i].ss,l[i].cap,⟨?_,(j4.1 hg).1⟩,hx.1.mono λb h _=>h.1,hx.2.1,hx.2.2⟩
  have hc:∀j,j < 7→w.cell? ⟨g,i * 7+j,nO⟩=(bC l[i])[j]? :=λj hj=>by
   have:=h1.cellAt (i * 7+j) (by omega)
   rw[←eI l i hil j hj]
   exact this
  simp only[j1]
  exact⟨hc 0 (by omega),hc 1 (by omega),hc 2 (by omega),hc 3 (by omega),hc 4 (by omega),hc 5 (by omega),hc 6 (by omega)⟩
end

structure Rw where
 rs:Option Addr
 rc:Nat
 l:List Gs
def rwV (x:Rw):Value:=U x.rs x.l.length x.rc
def BV (S:Nat→Prop)(w:World)(x:Rw):Prop:=GsIn S w x.rs x.l∧x.l.length≤x.rc∧x.rc≤maxLen
def FRow (w:World)(B:Nat)(v:Value)(L:List Rw):Prop:=w.ownsRow B 25 1 v L.length (L.map rwV)∧∀x∈L,BV (λb=>B≤b∧v.ownBlock≠sO b) w x
section
variable {w w':World} {B:Nat} {v v':Value} {L:List Rw}
theorem FRow.nil (w:World)(B:Nat):FRow w B (U nO 0 0) []:=⟨⟨rfl,.inl ⟨rfl,rfl⟩⟩,λx hx=>by simp at hx⟩
theorem FRow.call (h:FRow w B v L)(hb:Below w.heap.size w w'):FRow w' B v L:=⟨rI h.1 hb,λx hx=>⟨(h.2 x hx).1.call hb,(h.2 x hx).2⟩⟩
theorem FRow.old (h:FRow w B v L)(hs:∀b,B≤b→w'.heap[b]? =w.heap[b]?)(hz:w.heap.size≤w'.heap.size):FRow w' B v L:=⟨dp h.1 λk hk=>hs k (bo h.1 hk).2,λx hx=>⟨(h.2 x hx).1.same (λb hS _=>hs b hS.1) hz,(h.2 x hx).2⟩⟩
theorem FRow.grown (h:FRow w B v L){x:Rw}(hx:BV (λb=>B≤b∧v.ownBlock≠sO b) w x)(hr:w'.ownsRow B 25 1 v' (L.length+1) (L.map rwV++[rwV x]))(hg:w.grownBy w' v.ownBlock)(hv:v'.ownBlock=v.ownBlock∨v'.ownBlock=sO w.heap.size):FRow w' B v' (L++[x]):=by
 refine⟨by rw[j8,J5];exact hr,λy hy=> ?_⟩
 have hy':BV (λb=>B≤b∧v.ownBlock≠sO b) w y:=by
  rcases j2.1 hy with hy|hy
  ·exact h.2 y hy
  ·rw[j3.1 hy];exact hx
 have hm:GsIn (λb=>(B≤b∧v.ownBlock≠sO b)∧b < w.heap.size) w y.rs y.l:=hy'.1.mono λb h1 h2=>⟨h1,h2⟩
 exact sr
theorem FRow.rows (h:FRow w B v L):∃fs fc,v=U fs L.length fc∧L.length≤fc∧fc≤maxLen∧RowsAt w fs (L.map Rw.l):=by
 obtain⟨h1,h2⟩:=h
 rcases h1.2 with⟨rfl,h0⟩|⟨g,cap,cur,rfl,hb,hg,k1,k2,k3,k4⟩
 ·have:L=[]:=z6.1 h0
  subst this
  exact⟨nO,0,rfl,lR _,by unfold maxLen;omega,λi hi=>absurd hi (by simp)⟩
 ·refine⟨sO ⟨g,0,nO⟩,cap,rfl,k1,k2,λi hi=> ?_⟩
  have hil:i < L.length:=by simpa using hi
  have e:(L.map Rw.l)[i]=L[i].l:=by simp
  rw[e]
  have hx:=h2 L[i] (gM hil)
  have:=h1.cellAt i (by omega)
  refine⟨g,0,rfl,(j4.1 hg).1,L[i].rs,L[i].rc,?_,hx.2.1,hx.2.2,hx.1.at⟩
  rw[j1,this]
  simp[hil,rwV]
end
def X3 (w:World)(b:Nat)(x0 x1 x2:Value):Prop:=(w.cell? ⟨b,0,nO⟩=sO x0∧w.cell? ⟨b,1,nO⟩=sO x1∧w.cell? ⟨b,2,nO⟩=sO x2)∧b < w.heap.size∧∀j,w.frozen? ⟨b,j,nO⟩=false
section
variable {w w':World} {b:Nat} {x0 x1 x2:Value}
theorem X3.same (h:X3 w b x0 x1 x2)(hb:w'.heap[b]? =w.heap[b]?)(hz:w.heap.size≤w'.heap.size):X3 w' b x0 x1 x2:=rF
theorem X3.call (h:X3 w b x0 x1 x2)(hb:Below w.heap.size w w'):X3 w' b x0 x1 x2:=h.same (hb.block b h.2.1) hb.size
theorem X3.far (h:X3 w b x0 x1 x2){a:Addr}(ha:b≠a.block)(y:Value):X3 (w.setCell a y) b x0 x1 x2:=h.same (hSe _ _ _ _ ha) (by simp[j5])
theorem X3.new (w:World)(t:TypeId)(x0 x1 x2:Value):X3 (w.alloc (Cc #[x0,x1,x2] t)) w.heap.size x0 x1 x2:=by
 refine⟨⟨?_,?_,?_⟩,by simp,λj=> ?_⟩<;>simp[go_sem]
theorem X3.put1 (h:X3 w b x0 x1 x2)(y:Value):X3 (w.setCell ⟨b,1,nO⟩ y) b x0 y x2:=by
 obtain⟨⟨h0,h1,h2⟩,h6,h7⟩:=h
 exact⟨⟨by rw[q0 _ _ _ _ (by intro e;cases e)];exact h0,x4 _ _ _ h1,by rw[q0 _ _ _ _ (by intro e;cases e)];exact h2⟩,by simpa[j5] using h6,λj=>by rw[x5];exact h7 j⟩
theorem X3.put2 (h:X3 w b x0 x1 x2)(y:Value):X3 (w.setCell ⟨b,2,nO⟩ y) b x0 x1 y:=by
 obtain⟨⟨h0,h1,h2⟩,h6,h7⟩:=h
 exact⟨⟨by rw[q0 _ _ _ _ (by intro e;cases e)];exact h0,by rw[q0 _ _ _ _ (by intro e;cases e)];exact h1,x4 _ _ _ h2⟩,by simpa[j5] using h6,λj=>by rw[x5];exact h7 j⟩
end
theorem PrAt.low {w w':World}{B b:Nat}{V F:Int}{s:Option Addr}{c:List Ins}{cap:Nat}(h:PrAt w b V F s c cap)(hb:Below B w w')(hB:b < B):PrAt w' b V F s c cap:=by
 obtain⟨⟨h0,h1,h2⟩,hz⟩:=h
 exact⟨⟨by rw[hb.cell hB];exact h0,by rw[hb.cell hB];exact h1,by rw[hb.cell hB];exact h2⟩,lL hz hb.size⟩
theorem PrAt.far {w:World}{b:Nat}{V F:Int}{s:Option Addr}{c:List Ins}{cap:Nat}(h:PrAt w b V F s c cap){a:Addr}(ha:b≠a.block)(y:Value):PrAt (w.setCell a y) b V F s c cap:=by
 have hc:∀j,(w.setCell a y).cell? ⟨b,j,nO⟩=w.cell? ⟨b,j,nO⟩:=λj=>j7 (a:=⟨b,j,nO⟩) (hSe _ _ _ _ ha)
 obtain⟨⟨h0,h1,h2⟩,hz⟩:=h
 exact⟨⟨(hc _).trans h0,(hc _).trans h1,(hc _).trans h2⟩,by simpa[j5] using hz⟩
theorem Gg (w:World)(x:Gc)(cs:Array Value)(t:TypeId)(hcs:cs.toList=bC x):∀ad,sO (⟨w.heap.size,0,nO⟩:Addr)=sO ad→∀j u,(bC x)[j]? =sO u→(w.alloc (Cc cs t)).cell? (ad.add j)=sO u:=by
 intro ad e j u hj
 cases e
 rw[Addr.add_lit,j1]
 rw[←hcs] at hj
 simpa[go_sem] using hj
theorem F9 (w:World)(x:Value)(t:TypeId):∀ad,sO (⟨w.heap.size,0,nO⟩:Addr)=sO ad→∀j u,([x]:List Value)[j]? =sO u→(w.alloc (Cc #[x] t)).cell? (ad.add j)=sO u:=by
 intro ad e j u hj
 cases e
 rw[Addr.add_lit,j1]
 simpa[go_sem] using hj
theorem Tryz.info_row:(Tryz.prog.info? 25).map (λi=>(i.zero,i.size,i.bytes))=sO (sO (U nO 0 0),1,24):=by kernel_rfl
theorem GuAt.low {w w':World}{B b o:Nat}{g:Gs}{ss:Option Addr}{cap:Nat}(h:GuAt w b o g ss cap)(hb:Below B w w')(hB:b < B):GuAt w' b o g ss cap:=h.same (hb.block b hB) hb.size
theorem Ib {w:World}{b off:Nat}{L:List Gs}(h:GsAt w (sO ⟨b,off,nO⟩) L)(k:Nat)(hk:k < L.length):b < w.heap.size:=by
 obtain⟨b',off',e,ss,cap,h1,_⟩:=h k hk
 cases e
 exact h1.2
def KP (w':World)(e:Ending)(x:Pic)(er:Int):Prop:=∃vs vc fs fc,e=Rt (Tu #[Ag #[Bb x.none,U vs x.vars.length vc,U fs x.flds.length fc],I Y er])∧PicAt w' x vs fs∧(x.vars.length≤vc∧vc≤maxLen)∧(x.flds.length≤fc∧fc≤maxLen)
theorem FRow.olden {w w':World}{B:Nat}{v:Value}{L:List Rw}(h:FRow w B v L)(hs:∀b,B≤b→b < w.heap.size→w'.heap[b]? =w.heap[b]?)(hz:w.heap.size≤w'.heap.size):FRow w' B v L:=⟨dp h.1 λk hk=>hs k (bo h.1 hk).2 (bo h.1 hk).1,λx hx=>⟨(h.2 x hx).1.same (λb hS hlt=>hs b hS.1 hlt) hz,(h.2 x hx).2⟩⟩
def PicOn (S:Nat→Prop)(w:World)(x:Pic)(vs fs:Option Addr):Prop:=∀w2:World,(∀b,S b→b < w.heap.size→w2.heap[b]? =w.heap[b]?)→w.heap.size≤w2.heap.size→PicAt w2 x vs fs
section
variable {S S':Nat→Prop} {w w':World} {x:Pic} {vs fs:Option Addr}
theorem PicOn.at (h:PicOn S w x vs fs):PicAt w x vs fs:=h w (λ_ _ _=>rfl) (lR _)
theorem PicOn.same (h:PicOn S w x vs fs)(hs:∀b,S b→b < w.heap.size→w'.heap[b]? =w.heap[b]?)(hz:w.heap.size≤w'.heap.size):PicOn (λb=>S b∧b < w.heap.size) w' x vs fs:=λw2 h2 hz2=>h w2 (λb hb hlt=>by rw[h2 b ⟨hb,hlt⟩ (by omega),hs b hb hlt]) (lT hz hz2)
theorem PicOn.mono (h:PicOn S w x vs fs)(hs:∀b,S b→b < w.heap.size→S' b):PicOn S' w x vs fs:=λw2 h2 hz2=>h w2 (λb hb hlt=>h2 b (hs b hb hlt) hlt) hz2
theorem PicOn.call (h:PicOn S w x vs fs)(hb:Below w.heap.size w w'):PicOn S w' x vs fs:=(h.same (λb _ hlt=>hb.block b hlt) hb.size).mono λb hb _=>hb.1
theorem PicAt.same (h:PicAt w x vs fs)(hs:∀b,b < w.heap.size→w'.heap[b]? =w.heap[b]?)(hz:w.heap.size≤w'.heap.size):PicAt w' x vs fs:=by
 refine⟨(h.1.inAll.same (λb _ hb=>hs b hb) hz).at,λi hi=> ?_⟩
 obtain⟨b,off,e,hb,rs,rc,h1,h2,h3,h4⟩:=h.2 i hi
 exact⟨b,off,e,lL hb hz,rs,rc,by rw[j7 (a:=⟨b,off+i,nO⟩) (hs b hb)];exact h1,h2,h3,(h4.inAll.same (λb _ hb=>hs b hb) hz).at⟩
end
end
section
open Go.RowKit Go
def CellsKept (W W':World):Prop:=W.heap.size≤W'.heap.size∧∀b o v,W.cell? ⟨b,o,nO⟩=sO v→W'.cell? ⟨b,o,nO⟩=sO v
section
variable {W W':World}
theorem CellsKept.ints (h:CellsKept W W'){s:Option Addr}{l:List Int}(hi:IntsAt W s l):IntsAt W' s l:=by
 rcases hi with hi|⟨b,off,e,hb,hc⟩
 ·exact .inl hi
 ·exact .inr ⟨b,off,e,lL hb h.1,λk hk=>h.2 _ _ _ (hc k hk)⟩
theorem CellsKept.gs (h:CellsKept W W'){s:Option Addr}{l:List Gs}(hi:GsAt W s l):GsAt W' s l:=λi hl=>by
 obtain⟨b,off,e,ss,cap,⟨⟨c0,c1,c2,c3,c4,c5,c6⟩,hz⟩,h2,h4⟩:=hi i hl
 exact⟨b,off,e,ss,cap,⟨⟨h.2 _ _ _ c0,h.2 _ _ _ c1,h.2 _ _ _ c2,h.2 _ _ _ c3,h.2 _ _ _ c4,h.2 _ _ _ c5,h.2 _ _ _ c6⟩,lL hz h.1⟩,h.ints h2,h4⟩
theorem CellsKept.pic (h:CellsKept W W'){x:Pic}{vs fs:Option Addr}(hp:PicAt W x vs fs):PicAt W' x vs fs:=⟨h.gs hp.1,λi hi=>by
 obtain⟨b,off,e,hz,rs,rc,h1,h2,h4,h5⟩:=hp.2 i hi
 exact⟨b,off,e,lL hz h.1,rs,rc,h.2 _ _ _ h1,h2,h4,h.gs h5⟩⟩
theorem CellsKept.putObj {l:Nat}{o o':Obj}(h:W.heap[l]? =sO o)(hc:o.isCells=false):CellsKept W (W.putObj l o'):=by
 refine⟨by simp[J6],λb k v hv=> ?_⟩
 by_cases e:b=l
 ·subst e
  exfalso
  simp only[x8,h] at hv
  cases o<;>simp_all[Obj.isCells]
 ·rw[j7 (a:=⟨b,k,nO⟩) (x6 e)]
  exact hv
end
structure RoundAt (l:Nat) (W W':World):Prop where
 far:∀q,q≠l→W'.heap[q]? =W.heap[q]?
 size:W'.heap.size=W.heap.size
 kept:CellsKept W W'
 low:∀{B:Nat} {a:World},B≤l→Below B a W→Below B a W'
section
variable {W W' Wa W2 W3:World} {l D:Nat} {r r':Loop}
theorem LoopAt.put (h:LoopAt W l D r)(hD:D≠l)(r':Loop):LoopAt (W.putObj l (.loop r')) l D r':=⟨World.putObj_heap_same (j4.1 h.lp).1,(x6 hD).trans h.dfr⟩
theorem LoopAt.far (h:LoopAt W l D r)(hl:W'.heap[l]? =W.heap[l]?)(hD:W'.heap[D]? =W.heap[D]?):LoopAt W' l D r:=⟨hl.trans h.lp,hD.trans h.dfr⟩
theorem LoopAt.round (h:LoopAt W l D r)(o:Obj):RoundAt l W (W.putObj l o):=⟨λq hq=>x6 hq,by simp[J6],CellsKept.putObj h.lp rfl,λ{B} {a} hB hb=>by
 refine hb.trans ((bR B W).grown (grownBy_putObj' W l o) (by have:=(j4.1 h.lp).1;omega) (λk e=>by cases e;omega))⟩
theorem yD {P:Program}{fn:FuncId}{tmps:Array Value}{ps:Array Tmp}{assign body:Code}{F:Fence}{m:Nat}{Q:Exit→Act→World→Prop}{a:Act}(hl:LoopAt W l D (dE fn tmps ps assign body D .ready nO))(hD:D≠l)(hb:Below W.heap.size W Wa)
  (h:∀W2,LoopAt W2 l D (dE fn tmps ps assign body D .busy nO)→RoundAt l Wa W2→body.wpIn F m P Q a W2):
  LoopAt Wa l D (dE fn tmps ps assign body D .ready nO)∧body.wpIn F m P Q a (Wa.putObj l (.loop (dE fn tmps ps assign body D .busy nO))):=
 ⟨hl.below hb,h _ ((hl.below hb).put hD _) ((hl.below hb).round _)⟩
end
end
section
open Go.RowKit
structure Ro where
  rs:Option Addr
  rc:Nat
  l:List Gc
def roV (r:Ro):Value:=U r.rs r.l.length r.rc
def roG (r:Ro):List Gs:=r.l.map Gc.g
def roB (r:Ro):Option Nat:=(roV r).ownBlock
def RoOwn (w:World)(B:Nat)(r:Ro):Prop:=w.ownsRow B 91 7 (roV r) r.l.length (aH r.l)
theorem nw:∀{l:List Gc} {k j:Nat} {u:Value} {x':Gc} (hk:k < l.length) (_:j < 7) (_:bC x'=(bC l[k]).set j u),aH (l.set k x')=(aH l).set (k * 7+j) u
  |[],k,_,_,_,hk,_,_=>absurd hk (by simp)
  |x::r,0,j,u,x',_,hj,h=>by
    have e:∀y,aH (y::r)=bC y++aH r:=λ_=>rfl
    simp only[List.getElem_cons_zero] at h
    rw[List.set_cons_zero,e,e,z5,j1,List.set_append_left _ _ (by rw[dY];exact hj),h]
  |x::r,k+1,j,u,x',hk,hj,h=>by
    have e:∀(y:Gc) (q:List Gc),aH (y::q)=bC y++aH q:=λ_ _=>rfl
    simp only[List.getElem_cons_succ] at h
    rw[List.set_cons_succ,e,e,nw (by simpa using hk) hj h,List.set_append_right _ _ (by rw[dY];omega),dY]
    congr 2
    omega
section
variable {w w':World} {B:Nat} {r:Ro}
theorem RoOwn.form (h:RoOwn w B r)(h0:0 < r.l.length):∃b,r.rs=sO ⟨b,0,nO⟩∧roB r=sO b∧B≤b∧b < w.heap.size:=by
  obtain⟨rs,rc,l⟩:=r
  rcases h.2 with⟨e,h1⟩|⟨g,cap,cur,e,hb,hg,_⟩
  · simp only at h0 h1;omega
  · simp only[roV,j0.injEq] at e
    exact⟨g,e.1,by unfold roB roV;rw[e.1];rfl,hb,(j4.1 hg).1⟩
theorem RoOwn.caps (h:RoOwn w B r):r.l.length≤r.rc∧r.rc≤maxLen:=by
  rcases h.2 with⟨e,h1⟩|⟨g,cap,cur,e,hb,hg,k1,k2,_⟩
  · simp only[roV,j0.injEq] at e
    exact⟨by omega,by rw[e.2.2];exact j9 _⟩
  · simp only[roV,j0.injEq] at e
    rw[e.2.2]
    exact⟨k1,k2⟩
theorem RoOwn.same (h:RoOwn w B r)(hs:∀b,roB r=sO b→w'.heap[b]? =w.heap[b]?):RoOwn w' B r:=dp h hs
theorem RoOwn.lt (h:RoOwn w B r){b:Nat}(hb:roB r=sO b):b < w.heap.size∧B≤b:=bo h hb
theorem RoOwn.put (h:RoOwn w B r){b:Nat}(hb:r.rs=sO ⟨b,0,nO⟩){k j:Nat}{u:Value}{x':Gc}(hk:k < r.l.length)(hj:j < 7)(hx:bC x'=(bC r.l[k]).set j u):RoOwn (w.setCell ⟨b,k * 7+j,nO⟩ u) B ⟨r.rs,r.rc,r.l.set k x'⟩:=by
  obtain⟨rs,rc,l⟩:=r
  simp only at hb hk hx
  subst hb
  have h1:=(q7.stored h (k * 7+j) u).1
  unfold RoOwn roV
  simp only[j6]
  rw[nw hk hj hx]
  exact h1
theorem RoOwn.gets (h:RoOwn w B r){S:Nat→Prop}(hg:∀x∈r.l,cd S w x):GsIn (λb=>roB r=sO b∨S b) w r.rs (roG r):=by
  intro i hi
  have hil:i < r.l.length:=by simpa[roG] using hi
  obtain⟨b,e,eb,hb,hz⟩:=h.form (by omega)
  have hx:=hg _ (gM hil)
  have ei:(roG r)[i]=r.l[i].g:=by simp[roG]
  rw[ei]
  have h1:w.ownsRow B 91 7 (U (sO ⟨b,0,nO⟩) r.l.length r.rc) r.l.length (aH r.l):=by rw[←e];exact h
  refine⟨b,0,e,.inl eb,r.l[i].ss,r.l[i].cap,⟨?_,hz⟩,hx.1.mono λq hq _=>.inr hq,hx.2.1,hx.2.2⟩
  have hc:∀j,j < 7→w.cell? ⟨b,i * 7+j,nO⟩=(bC r.l[i])[j]? :=λj hj=>by
    rw[←eI r.l i hil j hj]
    exact q7.cellAt h1 _ (by omega)
  simp only[j1]
  exact⟨hc 0 (by omega),hc 1 (by omega),hc 2 (by omega),hc 3 (by omega),hc 4 (by omega),hc 5 (by omega),hc 6 (by omega)⟩
theorem RoOwn.thaw (h:RoOwn w B r){b:Nat}(hb:r.rs=sO ⟨b,0,nO⟩)(j:Nat):w.frozen? ⟨b,j,nO⟩=false:=by
  have h1:w.ownsRow B 91 7 (U (sO ⟨b,0,nO⟩) r.l.length r.rc) r.l.length (aH r.l):=by rw[←hb];exact h
  exact q7.frozenAt h1 j
end
def Off (v:Ro)(fb:Option Nat)(L:List Ro)(b:Nat):Prop:=roB v≠sO b∧fb≠sO b∧∀r∈L,roB r≠sO b
structure PicG (T:Nat→Prop) (B:Nat) (w:World) (v:Ro) (fs:Option Addr) (fc:Nat) (L:List Ro):Prop where
  vars:RoOwn w B v
  flds:w.ownsRow B 25 1 (U fs L.length fc) L.length (L.map roV)
  rows:∀r∈L,RoOwn w B r
  sv:∀g∈v.l,cd (λb=>T b∧Off v (j0 fs L.length fc).ownBlock L b) w g
  sf:∀r∈L,∀g∈r.l,cd (λb=>T b∧Off v (j0 fs L.length fc).ownBlock L b) w g
  dv:∀b,roB v=sO b→(j0 fs L.length fc).ownBlock≠sO b∧∀r∈L,roB r≠sO b
  df:∀b,(j0 fs L.length fc).ownBlock=sO b→∀r∈L,roB r≠sO b
  dr:L.Pairwise λr q=>∀b,roB r=sO b→roB q≠sO b
def bP (n:Bool)(v:Ro)(L:List Ro):Pic:=⟨n,roG v,L.map roG⟩
section
variable {T T':Nat→Prop} {B:Nat} {w w':World} {v:Ro} {fs:Option Addr} {fc:Nat} {L:List Ro}
theorem PicG.mono (h:PicG T B w v fs fc L)(hT:∀b,T b→b < w.heap.size→T' b):PicG T' B w v fs fc L:=
  ⟨h.vars,h.flds,h.rows,λg hg=>⟨(h.sv g hg).1.mono λb hb hz=>⟨hT b hb.1 hz,hb.2⟩,(h.sv g hg).2⟩,λr hr g hg=>⟨(h.sf r hr g hg).1.mono λb hb hz=>⟨hT b hb.1 hz,hb.2⟩,(h.sf r hr g hg).2⟩,h.dv,h.df,h.dr⟩
theorem PicG.same (h:PicG T B w v fs fc L)(hs:∀b,T b∨B≤b→b < w.heap.size→w'.heap[b]? =w.heap[b]?)(hz:w.heap.size≤w'.heap.size):PicG T B w' v fs fc L:=
  ⟨h.vars.same λb hb=>hs b (.inr (h.vars.lt hb).2) (h.vars.lt hb).1,dp h.flds λb hb=>hs b (.inr (bo h.flds hb).2) (bo h.flds hb).1,λr hr=>(h.rows r hr).same λb hb=>hs b (.inr ((h.rows r hr).lt hb).2) ((h.rows r hr).lt hb).1,
   λg hg=>⟨(h.sv g hg).1.same (λb hb hlt=>hs b (.inl hb.1) hlt) hz,(h.sv g hg).2⟩,λr hr g hg=>⟨(h.sf r hr g hg).1.same (λb hb hlt=>hs b (.inl hb.1) hlt) hz,(h.sf r hr g hg).2⟩,h.dv,h.df,h.dr⟩
theorem PicG.call (h:PicG T B w v fs fc L)(hb:Below w.heap.size w w'):PicG T B w' v fs fc L:=h.same (λb _ hlt=>hb.block b hlt) hb.size
theorem PicG.fcap (h:PicG T B w v fs fc L):L.length≤fc∧fc≤maxLen:=by
  rcases h.flds.2 with⟨e,h1⟩|⟨g,cap,cur,e,hb,hg,k1,k2,_⟩
  · simp only[j0.injEq] at e
    exact⟨by omega,by rw[e.2.2];exact j9 _⟩
  · simp only[j0.injEq] at e
    rw[e.2.2]
    exact⟨k1,k2⟩
theorem PicG.fform (h:PicG T B w v fs fc L)(h0:0 < L.length):∃b,fs=sO ⟨b,0,nO⟩∧B≤b∧b < w.heap.size∧∀k (hk:k < L.length),w.cell? ⟨b,k,nO⟩=sO (roV L[k]):=by
  rcases h.flds.2 with⟨e,h1⟩|⟨g,cap,cur,e,hb,hg,k1,k2,_⟩
  · omega
  · simp only[j0.injEq] at e
    obtain⟨e1,-,e3⟩:=e
    subst e1 e3
    refine⟨g,rfl,hb,(j4.1 hg).1,λk hk=> ?_⟩
    have:=q7.cellAt h.flds k (by omega)
    rw[this]
    simp[hk]
theorem PicG.at (h:PicG T B w v fs fc L)(n:Bool):PicAt w (bP n v L) v.rs fs:=by
  refine⟨(h.vars.gets h.sv).at,λi hi=> ?_⟩
  have hil:i < L.length:=by simpa[bP] using hi
  obtain⟨b,e,hb,hz,hc⟩:=h.fform (by omega)
  have ei:(bP n v L).flds[i]=roG L[i]:=by simp[bP]
  rw[ei]
  have hm:=gM hil
  have hcp:=(h.rows _ hm).caps
  refine⟨b,0,e,hz,L[i].rs,L[i].rc,?_,by simpa[roG] using hcp.1,hcp.2,((h.rows _ hm).gets (h.sf _ hm)).at⟩
  rw[j1,hc i hil]
  simp[roV,roG]
theorem PicG.on (h:PicG T B w v fs fc L)(n:Bool):PicOn (λb=>T b∨B≤b) w (bP n v L) v.rs fs:=λw2 hs hz=>(h.same hs hz).at n
theorem PicG.vcap (h:PicG T B w v fs fc L)(n:Bool):(bP n v L).vars.length≤v.rc∧v.rc≤maxLen:=by simpa[bP,roG] using h.vars.caps
theorem PicG.fcap' (h:PicG T B w v fs fc L)(n:Bool):(bP n v L).flds.length≤fc∧fc≤maxLen:=by simpa[bP] using h.fcap
theorem pR {S:Nat→Prop}{x:Gc}{a:Addr}{u:Value}(h:cd S w x)(hs:∀b,S b→b≠a.block):cd S (w.setCell a u) x:=⟨h.1.same (λb hb _=>hSe _ _ _ _ (hs b hb)) (by simp[j5]),h.2⟩
theorem PicG.putV (h:PicG T B w v fs fc L){b:Nat}(hb:v.rs=sO ⟨b,0,nO⟩){k j:Nat}{u:Value}{x':Gc}(hk:k < v.l.length)(hj:j < 7)(hx:bC x'=(bC v.l[k]).set j u)(hg:cd (λb=>T b∧Off v (j0 fs L.length fc).ownBlock L b) w x'):
    PicG T B (w.setCell ⟨b,k * 7+j,nO⟩ u) ⟨v.rs,v.rc,v.l.set k x'⟩ fs fc L:=by
  have eb:roB v=sO b:=by unfold roB roV;rw[hb];rfl
  have eb':roB ⟨v.rs,v.rc,v.l.set k x'⟩=roB v:=by unfold roB roV;rw[hb];rfl
  have eO:∀q,Off ⟨v.rs,v.rc,v.l.set k x'⟩ (j0 fs L.length fc).ownBlock L q=Off v (j0 fs L.length fc).ownBlock L q:=λq=>by unfold Off;rw[eb']
  have hd:=h.dv b eb
  have hp:∀g,cd (λb=>T b∧Off v (j0 fs L.length fc).ownBlock L b) w g→cd (λb=>T b∧Off ⟨v.rs,v.rc,v.l.set k x'⟩ (j0 fs L.length fc).ownBlock L b) (w.setCell ⟨b,k * 7+j,nO⟩ u) g:=λg hg=>by
    simp only[eO]
    exact pR hg λq hq e=>hq.2.1 (by rw[eb];exact congrArg sO e.symm)
  refine⟨h.vars.put hb hk hj hx,dp h.flds λq hq=>hSe _ _ _ _ λe=>hd.1 (by rw[hq];exact congrArg sO e),λr hr=>(h.rows r hr).same λq hq=>hSe _ _ _ _ λe=>hd.2 r hr (by rw[hq];exact congrArg sO e),λg hgm=>hp g ?_,λr hr g hgm=>hp g (h.sf r hr g hgm),by rw[eb'];exact h.dv,h.df,h.dr⟩
  rcases J7 hgm with hgm|rfl
  · exact h.sv g hgm
  · exact hg
theorem PicG.putF (h:PicG T B w v fs fc L){s:Nat}(hs:s < L.length){b:Nat}(hb:L[s].rs=sO ⟨b,0,nO⟩){k j:Nat}{u:Value}{x':Gc}(hk:k < L[s].l.length)(hj:j < 7)(hx:bC x'=(bC L[s].l[k]).set j u)(hg:cd (λb=>T b∧Off v (j0 fs L.length fc).ownBlock L b) w x'):
    PicG T B (w.setCell ⟨b,k * 7+j,nO⟩ u) v fs fc (L.set s ⟨L[s].rs,L[s].rc,L[s].l.set k x'⟩):=by
  have hm:=gM hs
  have eb:roB L[s]=sO b:=by unfold roB roV;rw[hb];rfl
  have ebn:roB ⟨L[s].rs,L[s].rc,L[s].l.set k x'⟩=roB L[s]:=by unfold roB roV;rw[hb];rfl
  have evn:roV ⟨L[s].rs,L[s].rc,L[s].l.set k x'⟩=roV L[s]:=by unfold roV;simp
  have eL:(L.set s ⟨L[s].rs,L[s].rc,L[s].l.set k x'⟩).map roB=L.map roB:=by
    rw[x7,ebn,←q5 (f:=roB) (h:=by simpa using hs),q2]
  have eV:(L.set s ⟨L[s].rs,L[s].rc,L[s].l.set k x'⟩).map roV=L.map roV:=by
    rw[x7,evn,←q5 (f:=roV) (h:=by simpa using hs),q2]
  have allB:∀{M:List Ro} {q:Nat},(∀r∈M,roB r≠sO q)↔∀o∈M.map roB,o≠sO q:=by
    intro M q
    simp only[z8,forall_exists_index,and_imp,forall_apply_eq_imp_iff₂]
  have eO:∀q,Off v (j0 fs L.length fc).ownBlock (L.set s ⟨L[s].rs,L[s].rc,L[s].l.set k x'⟩) q↔Off v (j0 fs L.length fc).ownBlock L q:=λq=>by
    unfold Off
    rw[allB,allB,eL]
  have hp:∀g,cd (λb=>T b∧Off v (j0 fs L.length fc).ownBlock L b) w g→cd (λb=>T b∧Off v (j0 fs (L.set s ⟨L[s].rs,L[s].rc,L[s].l.set k x'⟩).length fc).ownBlock (L.set s ⟨L[s].rs,L[s].rc,L[s].l.set k x'⟩) b) (w.setCell ⟨b,k * 7+j,nO⟩ u) g:=λg hg=>by
    rw[j6]
    simp only[eO]
    exact pR hg λq hq e=>hq.2.2.2 _ hm (by rw[eb];exact congrArg sO e.symm)
  have pwB:∀{M:List Ro},M.Pairwise (λr q=>∀b,roB r=sO b→roB q≠sO b)↔(M.map roB).Pairwise λo p=>∀b,o=sO b→p≠sO b:=by
    intro M
    rw[List.pairwise_map]
  refine⟨h.vars.same λq hq=>hSe _ _ _ _ λe=>(h.dv q hq).2 _ hm (by rw[eb];exact congrArg sO e.symm),?_,λr hr=> ?_,λg hgm=>hp g (h.sv g hgm),λr hr g hgm=>hp g ?_,λq hq=> ?_,λq hq=> ?_,?_⟩
  · rw[j6,eV]
    exact dp h.flds λq hq=>hSe _ _ _ _ λe=>h.df q hq _ hm (by rw[eb];exact congrArg sO e.symm)
  · rw[J8] at hr
    obtain⟨i,hi,rfl⟩:=hr
    rw[j6] at hi
    rw[J9]
    split
    · exact(h.rows _ hm).put hb hk hj hx
    · rename_i hne
      refine(h.rows _ (gM hi)).same λq hq=>hSe _ _ _ _ λe=> ?_
      simp only at e
      subst e
      have pw:=List.pairwise_iff_getElem.1 h.dr
      rcases Nat.lt_or_gt_of_ne hne with hlt|hlt
      · exact pw s i hs hi hlt q eb hq
      · exact pw i s hi hs hlt q hq eb
  · rw[J8] at hr
    obtain⟨i,hi,rfl⟩:=hr
    rw[j6] at hi
    rw[J9] at hgm
    split at hgm
    · rcases J7 hgm with hgm|rfl
      · exact h.sf _ hm g hgm
      · exact hg
    · exact h.sf _ (gM hi) g hgm
  · rw[j6,allB,eL,←allB]
    exact h.dv q hq
  · rw[j6] at hq
    rw[allB,eL,←allB]
    exact h.df q hq
  · rw[pwB,eL,←pwB]
    exact h.dr
end
def VRow (S:Nat→Prop)(w:World)(B:Nat)(v:Value)(l:List Gc):Prop:=w.ownsRow B 91 7 v l.length (aH l)∧(∀b,v.ownBlock=sO b→S b)∧∀x∈l,cd (λb=>S b∧v.ownBlock≠sO b) w x
section
variable {S S':Nat→Prop} {w w':World} {B:Nat} {v:Value} {l:List Gc}
theorem VRow.same (h:VRow S w B v l)(hs:∀b,S b→b < w.heap.size→w'.heap[b]? =w.heap[b]?)(hz:w.heap.size≤w'.heap.size):VRow S w' B v l:=⟨dp h.1 λb hb=>hs b (h.2.1 b hb) (bo h.1 hb).1,h.2.1,λx hx=>⟨(h.2.2 x hx).1.same (λb hb hlt=>hs b hb.1 hlt) hz,(h.2.2 x hx).2⟩⟩
theorem VRow.mono (h:VRow S w B v l)(hs:∀b,S b→b < w.heap.size→S' b):VRow S' w B v l:=⟨h.1,λb hb=>hs b (h.2.1 b hb) (bo h.1 hb).1,λx hx=>⟨(h.2.2 x hx).1.mono λb hb hlt=>⟨hs b hb.1 hlt,hb.2⟩,(h.2.2 x hx).2⟩⟩
theorem VRow.call (h:VRow S w B v l)(hb:Below w.heap.size w w'):VRow S w' B v l:=h.same (λb _ hlt=>hb.block b hlt) hb.size
theorem eh {e:TypeId}{z n:Nat}{xs:List Value}{C:Nat}(h:w.ownsRow C e z v n xs)(hB:B≤C):w.ownsRow B e z v n xs:=by
 refine⟨h.1,?_⟩
 rcases h.2 with h2|⟨g,cap,cur,e1,hb,h3⟩
 ·exact .inl h2
 ·exact .inr ⟨g,cap,cur,e1,lT hB hb,h3⟩
theorem SRow.vrow (h:SRow w B v l):VRow (λb=>B≤b) w B v l:=⟨h.1,λb hb=>(bo h.1 hb).2,λx hx=>h.2 x hx⟩
theorem VRow.lower (h:VRow S w B v l){C:Nat}(hB:C≤B):VRow S w C v l:=⟨eh h.1 hB,h.2⟩
end
structure FRowS (w:World) (B:Nat) (v:Value) (L:List Ro):Prop where
 own:w.ownsRow B 25 1 v L.length (L.map roV)
 rows:∀r∈L,RoOwn w B r
 sites:∀r∈L,∀g∈r.l,cd (λb=>B≤b∧v.ownBlock≠sO b∧∀q∈L,roB q≠sO b) w g
 df:∀b,v.ownBlock=sO b→∀r∈L,roB r≠sO b
 dr:L.Pairwise λr q=>∀b,roB r=sO b→roB q≠sO b
section
variable {w w0 w':World} {B:Nat} {v v':Value} {L:List Ro}
theorem FRowS.nil (w:World)(B:Nat):FRowS w B (U nO 0 0) []:=⟨⟨rfl,.inl ⟨rfl,rfl⟩⟩,λr hr=>by simp at hr,λr hr=>by simp at hr,λb hb r hr=>by simp at hr,Q0.nil⟩
theorem FRowS.olden (h:FRowS w B v L)(hs:∀b,B≤b→b < w.heap.size→w'.heap[b]? =w.heap[b]?)(hz:w.heap.size≤w'.heap.size):FRowS w' B v L:=
 ⟨dp h.own λb hb=>hs b (bo h.own hb).2 (bo h.own hb).1,λr hr=>(h.rows r hr).same λb hb=>hs b ((h.rows r hr).lt hb).2 ((h.rows r hr).lt hb).1,λr hr g hg=>⟨(h.sites r hr g hg).1.same (λb hb hlt=>hs b hb.1 hlt) hz,(h.sites r hr g hg).2⟩,h.df,h.dr⟩
theorem FRowS.call (h:FRowS w B v L)(hb:Below w.heap.size w w'):FRowS w' B v L:=h.olden (λb _ hlt=>hb.block b hlt) hb.size
theorem FRowS.grown (h0:FRowS w0 B v L)(hb:Below w0.heap.size w0 w)(hB:B≤w0.heap.size){x:Ro}(hx:VRow (λb=>w0.heap.size≤b) w w0.heap.size (roV x) x.l)(hr:w'.ownsRow B 25 1 v' (L.length+1) (L.map roV++[roV x]))(hg:w.grownBy w' v.ownBlock)(hv:v'.ownBlock=v.ownBlock∨v'.ownBlock=sO w.heap.size):FRowS w' B v' (L++[x]):=by
 have h:=h0.call hb
 have hsz:=hb.size
 have hxo:RoOwn w w0.heap.size x:=hx.1
 have vlt:∀b,v.ownBlock=sO b→b < w0.heap.size:=λb hb=>(bo h0.own hb).1
 have rlt:∀r∈L,∀b,roB r=sO b→b < w0.heap.size:=λr hr b hb=>((h0.rows r hr).lt hb).1
 have xge:∀b,roB x=sO b→w0.heap.size≤b∧b < w.heap.size:=λb hb=>⟨(hxo.lt hb).2,(hxo.lt hb).1⟩
 have keep:∀b,b < w.heap.size→v.ownBlock≠sO b→w'.heap[b]? =w.heap[b]? :=λb hb hne=>hg.block b hb λe=>hne e.symm
 refine⟨by rw[j8,J5];exact hr,λr hr=> ?_,λr hr g hgm=> ?_,λb hb r hr=> ?_,?_⟩
 ·rcases j2.1 hr with hr|hr
  ·exact(h.rows r hr).same λb hb=>keep b ((h.rows r hr).lt hb).1 λe=>h.df b e r hr hb
  ·rw[j3.1 hr]
   exact RoOwn.same (eh hxo hB) λb hb=>keep b (xge b hb).2 λe=>by have:=vlt b e;have:=(xge b hb).1;omega
 ·rcases j2.1 hr with hr|hr
  ·have h1:cd (λb=>(B≤b∧v.ownBlock≠sO b∧∀q∈L,roB q≠sO b)∧b < w0.heap.size) w g:=⟨((h0.sites r hr g hgm).1.mono λb hb hlt=>(⟨hb,hlt⟩:_∧b < w0.heap.size)).call hb,(h0.sites r hr g hgm).2⟩
   refine⟨(h1.1.same (λb hb hlt=>keep b hlt hb.1.2.1) hg.size).mono λb hb _=>⟨hb.1.1,?_,λq hq=> ?_⟩,h1.2⟩
   ·rcases hv with e|e
    ·rw[e];exact hb.1.2.1
    ·rw[e];intro e';cases e';have:=hb.2;omega
   ·rcases j2.1 hq with hq|hq
    ·exact hb.1.2.2 q hq
    ·rw[j3.1 hq]
     intro e
     have:=(xge b e).1
     have:=hb.2
     omega
  ·rw[j3.1 hr] at hgm
   have h1:cd (λb=>(w0.heap.size≤b∧roB x≠sO b)∧b < w.heap.size) w g:=⟨(hx.2.2 g hgm).1.mono λb hb hlt=>⟨hb,hlt⟩,(hx.2.2 g hgm).2⟩
   refine⟨(h1.1.same (λb hb hlt=>keep b hlt λe=>by have:=vlt b e;have:=hb.1.1;omega) hg.size).mono λb hb _=>⟨lT hB hb.1.1,?_,λq hq=> ?_⟩,h1.2⟩
   ·rcases hv with e|e
    ·rw[e];intro e';have:=vlt b e';have:=hb.1.1;omega
    ·rw[e];intro e';cases e';have:=hb.2;omega
   ·rcases j2.1 hq with hq|hq
    ·intro e
     have:=rlt q hq b e
     have:=hb.1.1
     omega
    ·rw[j3.1 hq]
     exact hb.1.2
 ·rcases hv with e|e
  ·rw[e] at hb
   rcases j2.1 hr with hr|hr
   ·exact h0.df b hb r hr
   ·rw[j3.1 hr]
    intro e'
    have:=vlt b hb
    have:=(xge b e').1
    omega
  ·rw[e] at hb
   cases hb
   rcases j2.1 hr with hr|hr
   ·intro e'
    have:=rlt r hr _ e'
    omega
   ·rw[j3.1 hr]
    intro e'
    have:=(xge _ e').2
    omega
 ·rw[List.pairwise_append]
  refine⟨h0.dr,List.pairwise_singleton _ _,λr hr q hq b hb e=> ?_⟩
  rw[j3.1 hq] at e
  have:=rlt r hr b hb
  have:=(xge b e).1
  omega
theorem FRowS.form (h:FRowS w B v L):∃fs fc,v=U fs L.length fc:=by
 rcases h.own.2 with⟨e,h0⟩|⟨g,cap,cur,e,_⟩
 ·exact⟨nO,0,by rw[e,h0]⟩
 ·exact⟨sO ⟨g,0,nO⟩,cap,e⟩
theorem FRowS.pic {S:Nat→Prop}{C:Nat}{vs fs:Option Addr}{vc fc:Nat}{l:List Gc}(h:FRowS w B (U fs L.length fc) L)(hv:VRow S w C (U vs l.length vc) l)(hS:∀b,S b→C≤b∧b < B)(hC:C≤B):PicG (λb=>C≤b) C w ⟨vs,vc,l⟩ fs fc L:=by
 have vlt:∀b,roB ⟨vs,vc,l⟩=sO b→b < B:=λb hb=>(hS b (hv.2.1 b hb)).2
 have fge:∀b,(j0 fs L.length fc).ownBlock=sO b→B≤b:=λb hb=>(bo h.own hb).2
 have rge:∀r∈L,∀b,roB r=sO b→B≤b:=λr hr b hb=>((h.rows r hr).lt hb).2
 refine⟨hv.1,eh h.own hC,λr hr=>eh (h.rows r hr) hC,λg hg=>⟨(hv.2.2 g hg).1.mono λb hb _=>⟨(hS b hb.1).1,hb.2,λe=> ?_,λr hr e=> ?_⟩,(hv.2.2 g hg).2⟩,λr hr g hg=>⟨(h.sites r hr g hg).1.mono λb hb _=>⟨lT hC hb.1,λe=> ?_,hb.2.1,hb.2.2⟩,(h.sites r hr g hg).2⟩,λb hb=>⟨λe=> ?_,λr hr e=> ?_⟩,h.df,h.dr⟩
 ·have:=fge b e;have:=(hS b hb.1).2;omega
 ·have:=rge r hr b e;have:=(hS b hb.1).2;omega
 ·have:=vlt b e;have:=hb.1;omega
 ·have:=fge b e;have:=vlt b hb;omega
 ·have:=rge r hr b e;have:=vlt b hb;omega
end
theorem PicG.down {T:Nat→Prop}{B C:Nat}{w:World}{v:Ro}{fs:Option Addr}{fc:Nat}{L:List Ro}(h:PicG T B w v fs fc L)(hC:C≤B):PicG T C w v fs fc L:=⟨eh h.vars hC,eh h.flds hC,λr hr=>eh (h.rows r hr) hC,h.sv,h.sf,h.dv,h.df,h.dr⟩
def PicS (B:Nat)(w':World)(e:Ending)(x:Pic)(er:Int):Prop:=∃v fs fc L,x=bP x.none v L∧e=Rt (Tu #[Ag #[Bb x.none,U v.rs v.l.length v.rc,U fs L.length fc],I Y er])∧PicG (λb=>B≤b) B w' v fs fc L
def Be (w w':World)(e:Ending)(l:List Gs):Prop:=∃rs rc gl,e=Rt (U rs gl.length rc)∧Hid (gl.map Gc.g=l)∧SRow w' w.heap.size (U rs gl.length rc) gl
theorem ue (B:Nat)(w:World):PicG (λb=>B≤b) B w ⟨nO,0,[]⟩ nO 0 []:=⟨⟨rfl,.inl ⟨rfl,rfl⟩⟩,⟨rfl,.inl ⟨rfl,rfl⟩⟩,λr hr=>by simp at hr,λg hg=>by simp at hg,λr hr=>by simp at hr,λb hb=>by simp[roB,roV,Value.ownBlock] at hb,λb hb r hr=>by simp at hr,Q0.nil⟩
def Cells (w:World)(b:Nat)(cs:List Value):Prop:=(∀(j:Nat) (v:Value),cs[j]? =sO v→w.cell? ⟨b,j,nO⟩=sO v)∧b < w.heap.size∧∀j,w.frozen? ⟨b,j,nO⟩=false
section
variable {w w':World} {b:Nat} {cs:List Value}
theorem Cells.same (h:Cells w b cs)(hb:w'.heap[b]? =w.heap[b]?)(hz:w.heap.size≤w'.heap.size):Cells w' b cs:=⟨λj v hj=>by rw[j7 (a:=⟨b,j,nO⟩) hb];exact h.1 j v hj,lL h.2.1 hz,λj=>by rw[J4 (a:=⟨b,j,nO⟩) hb];exact h.2.2 j⟩
theorem Cells.call (h:Cells w b cs)(hb:Below w.heap.size w w'):Cells w' b cs:=h.same (hb.block b h.2.1) hb.size
theorem Cells.far (h:Cells w b cs){a:Addr}(ha:b≠a.block)(u:Value):Cells (w.setCell a u) b cs:=h.same (hSe _ _ _ _ ha) (by simp[j5])
theorem Cells.put (h:Cells w b cs)(j:Nat)(hj:j < cs.length)(u:Value):Cells (w.setCell ⟨b,j,nO⟩ u) b (cs.set j u):=by
 refine⟨λk v hk=> ?_,by simpa[j5] using h.2.1,λk=>by rw[x5];exact h.2.2 k⟩
 by_cases e:k=j
 ·subst e
  rw[List.getElem?_set_self hj] at hk
  cases hk
  exact x4 _ _ _ (h.1 k cs[k] (Q1 hj))
 ·rw[List.getElem?_set_ne (Ne.symm e)] at hk
  rw[q0 _ _ _ _ (by intro e';cases e';exact e rfl)]
  exact h.1 k v hk
theorem Cells.new (w:World)(t:TypeId)(cs:List Value):Cells (w.alloc (Cc cs.toArray t)) w.heap.size cs:=by
 refine⟨λj v hj=> ?_,by simp,λj=> ?_⟩
 ·have:(w.alloc (Cc cs.toArray t)).cell? ⟨w.heap.size,j,nO⟩=cs.toArray[j]? :=World.cell?_alloc_mark w cs.toArray t (0,0) j
  rw[this]
  simpa using hj
 ·have:=World.frozen?_alloc_mark w cs.toArray t 0 0 j
  rw[this]
  simp
end
def aP (i:Ins)(V F:Int)(s:Option Addr)(c:List Ins)(cap:Nat)(at_:Int)(x:Pic)(vs:Option Addr)(vc:Nat)(fs:Option Addr)(fc:Nat)(ev:Value)(wr fl:Bool):List Value:=
 [I Y i.k,I Y i.tgt,I Y i.a,I Y i.b,I Y i.n,I Y i.g,I Y V,I Y F,U s c.length cap,I Y at_,Bb x.none,U vs x.vars.length vc,U fs x.flds.length fc,ev,Bb wr,Bb fl]
structure Ed where
 tgt:Int
 pic:Pic
 vs:Option Addr
 vc:Nat
 fs:Option Addr
 fc:Nat
def dQ (e:Ed):List Value:=[I Y e.tgt,Bb e.pic.none,U e.vs e.pic.vars.length e.vc,U e.fs e.pic.flds.length e.fc]
def edG (e:Ed):Edg:=⟨e.tgt,e.pic⟩
def Cu (S:Nat→Prop)(w:World)(e:Ed):Prop:=PicOn S w e.pic e.vs e.fs∧(e.pic.vars.length≤e.vc∧e.vc≤maxLen)∧(e.pic.flds.length≤e.fc∧e.fc≤maxLen)
theorem yE (e:Ed):∀u∈dQ e,u.oneCell'=true:=by
 intro u hu
 simp only[dQ,z0,J1,or_false] at hu
 rcases hu with rfl|rfl|rfl|rfl<;>rfl
theorem o3:∀(l:List Ed) (i:Nat) (h:i < l.length) (j:Nat) (_:j < 4),(l.flatMap dQ)[i * 4+j]? =(dQ l[i])[j]?
 |[],i,h,_,_=>absurd h (by simp)
 |x::r,0,_,j,hj=>by
  rw[Q2,z5,j1,J2 (by simpa[dQ] using hj)]
  rfl
 |x::r,i+1,h,j,hj=>by
  have e4:(dQ x).length=4:=rfl
  rw[Q2,J3 (by rw[e4];omega),e4]
  have:(i+1) * 4+j - 4=i * 4+j:=by omega
  rw[this,o3 r i (by simpa using h) j hj]
  rfl
structure ERow (n sb:Nat) (w:World) (v:Value) (L:List Ed):Prop where
 own:w.ownsRow n 45 4 v L.length (L.flatMap dQ)
 off:v.ownBlock≠sO sb
 pics:∀e∈L,Cu (λb=>n≤b∧b≠sb∧v.ownBlock≠sO b) w e
section
variable {n sb:Nat} {w w':World} {v v':Value} {L:List Ed}
theorem ERow.nil (n sb:Nat)(w:World):ERow n sb w (U nO 0 0) []:=⟨⟨rfl,.inl ⟨rfl,rfl⟩⟩,(λh=>by cases h),λe he=>by simp at he⟩
theorem ERow.same (h:ERow n sb w v L)(hs:∀b,n≤b→b≠sb→b < w.heap.size→w'.heap[b]? =w.heap[b]?)(hz:w.heap.size≤w'.heap.size):ERow n sb w' v L:=
 ⟨dp h.own λb hb=>hs b (bo h.own hb).2 (λe=>h.off (by rw[hb,e])) (bo h.own hb).1,h.off,λe he=>⟨((h.pics e he).1.same (λb hb hlt=>hs b hb.1 hb.2.1 hlt) hz).mono λb hb _=>hb.1,(h.pics e he).2⟩⟩
theorem ERow.call (h:ERow n sb w v L)(hb:Below w.heap.size w w'):ERow n sb w' v L:=h.same (λb _ _ hlt=>hb.block b hlt) hb.size
theorem ERow.grown (h:ERow n sb w v L){e:Ed}(he:Cu (λb=>n≤b∧b≠sb∧v.ownBlock≠sO b) w e)(hr:w'.ownsRow n 45 4 v' (L.length+1) (L.flatMap dQ++dQ e))(hg:w.grownBy w' v.ownBlock)(hv:v'.ownBlock=v.ownBlock∨v'.ownBlock=sO w.heap.size)(hsb:sb < w.heap.size):ERow n sb w' v' (L++[e]):=by
 refine⟨by rw[j8,List.flatMap_append];simpa using hr,λe'=> ?_,λq hq=> ?_⟩
 ·rcases hv with hv|hv
  ·rw[hv] at e';exact h.off e'
  ·rw[hv] at e';cases e';exact absurd hsb (z9 _)
 ·have hq':Cu (λb=>n≤b∧b≠sb∧v.ownBlock≠sO b) w q:=by
   rcases j2.1 hq with hq|hq
   ·exact h.pics q hq
   ·rw[j3.1 hq];exact he
  refine⟨(hq'.1.same (λb hb hlt=>hg.block b hlt λe=>hb.2.2 e.symm) hg.size).mono λb hb _=>⟨hb.1.1,hb.1.2.1,?_⟩,hq'.2⟩
  rcases hv with hv|hv
  ·rw[hv];exact hb.1.2.2
  ·rw[hv];intro e;cases e;exact absurd hb.2 (z9 _)
theorem ERow.form (h:ERow n sb w v L):∃es ec,v=U es L.length ec∧L.length≤ec∧ec≤maxLen:=by
 rcases h.own.2 with⟨e,h0⟩|⟨g,cap,cur,e,_,_,k1,k2,_⟩
 ·exact⟨nO,0,by rw[e,h0],by omega,j9 _⟩
 ·exact⟨sO ⟨g,0,nO⟩,cap,e,k1,k2⟩
end
def ClT (n sb:Nat)(eb:Option Nat)(xb b:Nat):Prop:=n≤b∧b≠sb∧b≠xb∧eb≠sO b
def lk (n sb:Nat)(eb:Option Nat)(H:Nat)(w:World)(xb:Nat)(v:Ro)(gs:Option Addr)(gc:Nat)(L:List Ro)(x:Pic):Prop:=
 H≤xb∧Cells w xb [Bb false,U v.rs v.l.length v.rc,U gs L.length gc]∧PicG (ClT n sb eb xb) H w v gs gc L∧Off v (j0 gs L.length gc).ownBlock L xb∧bP false v L=x
def iQ:List Value→Nat→List Value→List Value
 |cs,_,[]=>cs
 |cs,o,y::ys=>iQ (cs.set o y) (o+1) ys
structure Put (b:Nat) (w w':World) (cs:List Value):Prop where
 cells:Cells w' b cs
 far:∀q,q≠b→w'.heap[q]? =w.heap[q]?
 size:w.heap.size≤w'.heap.size
 low:∀{B:Nat} {a:World},B≤b→Below B a w→Below B a w'
section
variable {b:Nat} {w w':World} {cs:List Value}
theorem sB:∀(ys:List Value) (o:Nat) (w:World) (cs:List Value),Cells w b cs→o+ys.length≤cs.length→Cells (cu w b o ys) b (iQ cs o ys)
 |[],_,_,_,h,_=>h
 |y::ys,o,w,cs,h,hl=>sB ys (o+1) _ _ (h.put o (by simp at hl;omega) y) (by simp at hl ⊢;omega)
theorem gP (h:Cells w b cs)(o:Nat)(ys:List Value)(e:w'=cu w b o ys)(hl:o+ys.length≤cs.length:=by simp):Put b w w' (iQ cs o ys):=by
 subst e
 exact⟨sB ys o w cs h hl,λq hq=>pV b q hq ys o w,by rw[uo];exact Nat.le_refl _,λhB hb=>mr b hB ys o w hb⟩
theorem Put.keep (p:Put b w w' cs){q:Nat}{ds:List Value}(h:Cells w q ds)(hq:q≠b:=by omega):Cells w' q ds:=h.same (p.far q hq) p.size
end
theorem iD (l:List Int)(p:Int→Bool)(k:Nat)(h:k < l.length):(l.drop k).any p=(p l[k]||(l.drop (k+1)).any p):=by
 rw[q6 h];rfl

theorem Dt (l:List Int)(x:Int)(k:Nat)(h:k < l.length):x∈l.drop k↔(x=l[k]∨x∈l.drop (k+1)):=by
 rw[q6 h,z0]

theorem AJ (x:Int)(ss:Option Addr)(cap:Nat)(l:List Int)(w:World)(hl:l.length≤9223372036854775807)(hs:IntsAt w ss l):
  Calls pG 196 #[U ss l.length cap,I Y x] w λe w'=>∃n:Int,e=Rt (I Y n)∧(0≤n↔x∈l)∧w'=w:=by
 go_enter Tryz.func196,Tryz.ntmps196
 go_wp2
 go_loop [8] (λi=>∃k:Nat,k≤l.length∧i=I Y k∧Hid (x∈l↔x∈l.drop k)) (λi=>l.length - (intOf i).toNat)
 case atStart=>exact⟨0,j9 _,rfl,Iff.rfl⟩
 case round=>
  obtain⟨k,hk,rfl,HA⟩:=hrel
  by_cases hlt:k < l.length
  ·obtain⟨b,off,rfl,hb,hc⟩:=hs.get k hlt
   have n0:(0:Int)≤(k:Int):=by omega
   have n1:(k:Int) < (l.length:Int):=by omega
   have c0:=hc k hlt
   have HN:Hid (x∈l.drop k↔(x=l[k]∨x∈l.drop (k+1))):=Dt l x k hlt
   clear hc hs
   by_cases hp:l[k]=x
   ·have HT:Hid (x∈l):=HA.out.2 (HN.out.2 (.inl hp.symm))
    clear HN HA
    have hp':(x==l[k])=true:=by simp[hp]
    go_wp2
    go_ret
    exact⟨_,rfl,⟨λ_=>HT.out,λ_=>by omega⟩,rfl⟩
   ·have HT:Hid (x∈l↔x∈l.drop (k+1)):=HA.out.trans (HN.out.trans ⟨λh=>h.resolve_left λe=>hp e.symm,.inr⟩)
    have hp':(x==l[k])=false:=by simp;exact λh=>hp h.symm
    clear HN HA
    go_wp2
    go_round
    case rel=>exact⟨k+1,by omega,by go_num,HT⟩
    case measure=>simp[intOf];omega
  ·go_wp2
   go_ret
   exact⟨_,rfl,⟨λh=>absurd h (by omega),λh=>by have:=HA.out.1 h;rw[q8 (by omega)] at this;cases this⟩,rfl⟩

theorem mX (x:Int)(ss:Option Addr)(cap:Nat)(l:List Int)(w:World)(hl:l.length≤9223372036854775807)(hs:IntsAt w ss l):
  Calls pG 144 #[U ss l.length cap,I Y x] w λe w'=>e=Rt (Bb (l.contains x))∧w'=w:=by
 go_enter Tryz.func144,Tryz.ntmps144
 go_wp2_with fail
 refine(AJ x ss cap l _ hl hs).mono ?_
 rintro e w1 ⟨n,rfl,hn,rfl⟩
 go_wp2
 go_ret
 exact⟨aI (by simp),rfl⟩
theorem tI (q:Nat)(p:Int→Bool)(ss:Option Addr)(cap:Nat)(l:List Int)(w:World)(hl:l.length≤9223372036854775807)(hs:IntsAt w ss l)
  (hF:∀x wx,Below w.heap.size w wx→Calls pG 224 #[I Y x,Pp (sO ⟨q,0,nO⟩)] wx λe w'=>e=Rt (Bb (p x))∧Below wx.heap.size wx w'):
  Calls pG 227 #[U ss l.length cap,.func (.func 224) #[] #[Pp (sO ⟨q,0,nO⟩)]] w λe w'=>∃n:Int,e=Rt (I Y n)∧decide (0≤n)=l.any p∧Below w.heap.size w w':=by
 have HF:=aa hF
 clear hF
 go_enter Tryz.func227,Tryz.ntmps227
 go_wp2
 go_loopw [8] (λi wr=>∃k:Nat,k≤l.length∧i=I Y k∧Below w.heap.size w wr∧Hid (l.any p=(l.drop k).any p)) (λi _=>l.length - (intOf i).toNat)
 case atStart=>exact⟨0,j9 _,rfl,bR _ _,rfl⟩
 case round=>
  obtain⟨k,hk,rfl,hbr,HA⟩:=hrel
  by_cases hlt:k < l.length
  ·obtain⟨b,off,rfl,hb,hc⟩:=hs.get k hlt
   have n0:(0:Int)≤(k:Int):=by omega
   have n1:(k:Int) < (l.length:Int):=by omega
   have s0:=hbr.size
   have c0:wr.cell? ⟨b,off+k,nO⟩=sO (I Y l[k]):=by rw[hbr.cell (by simpa using hb)];exact hc k hlt
   have HN:Hid ((l.drop k).any p=(p l[k]||(l.drop (k+1)).any p)):=iD l p k hlt
   clear hc hs
   go_wp2_with (go_at_call 224;fail)
   refine(HF.out _ _ hbr).mono ?_
   rintro e w1 ⟨rfl,hb1⟩
   cases hp:p l[k] with
   |true=>
    have HT:Hid (l.any p=true):=by show _=_;rw[HA.out,HN.out,hp];rfl
    clear HN HA
    go_wp2
    go_ret
    exact⟨_,rfl,by rw[HT.out];simp,hbr.trans (hb1.mono s0)⟩
   |false=>
    have HT:Hid (l.any p=(l.drop (k+1)).any p):=by show _=_;rw[HA.out,HN.out,hp];rfl
    clear HN HA
    go_wp2
    go_roundw
    case rel=>exact⟨k+1,by omega,by go_num,hbr.trans (hb1.mono s0),HT⟩
    case measure=>simp[intOf];omega
  ·go_wp2
   go_ret
   exact⟨_,rfl,by rw[HA.out,q8 (by omega)];rfl,hbr⟩

theorem oW (q:Nat)(p:Int→Bool)(ss:Option Addr)(cap:Nat)(l:List Int)(w:World)(hl:l.length≤9223372036854775807)(hs:IntsAt w ss l)
  (hF:∀x wx,Below w.heap.size w wx→Calls pG 224 #[I Y x,Pp (sO ⟨q,0,nO⟩)] wx λe w'=>e=Rt (Bb (p x))∧Below wx.heap.size wx w'):
  Calls pG 200 #[U ss l.length cap,.func (.func 224) #[] #[Pp (sO ⟨q,0,nO⟩)]] w λe w'=>e=Rt (Bb (l.any p))∧Below w.heap.size w w':=by
 have HF:=aa hF
 clear hF
 go_enter Tryz.func200,Tryz.ntmps200
 go_wp2_with (go_at_call 227;fail)
 refine(tI q p ss cap l _ hl hs HF.out).mono ?_
 rintro e w1 ⟨n,rfl,hn,hb1⟩
 go_wp2
 go_ret
 exact⟨rfl,hb1⟩
theorem vU (x:Int)(q:Nat)(V F:Int)(s:Option Addr)(c:List Ins)(cap:Nat)(w:World)(hp:PrAt w q V F s c cap)(hc:CodeAt w s c)(hl:c.length≤60):
  Calls pG 224 #[I Y x,Pp (sO ⟨q,0,nO⟩)] w λe w'=>e=Rt (Bb (!bQ c x))∧Below w.heap.size w w':=by
 obtain⟨⟨p0,p1,p2⟩,p3⟩:=hp
 have hl':(c.length:Int)≤60:=by omega
 by_cases h0:x < 0
 ·have HR:Hid (bQ c x=false):=by show _=_;unfold bQ;rw[decide_eq_false (by omega)];rfl
  go_enter Tryz.func224,Tryz.ntmps224
  go_wp2
  go_ret
  exact⟨aI (by rw[HR.out];rfl),bR _ _⟩
 by_cases h1:x < (c.length:Int)
 ·obtain⟨k,rfl⟩:=Int.eq_ofNat_of_zero_le (show 0≤x by omega)
  have hk:k < c.length:=by omega
  obtain⟨b,off,rfl,hb,hi⟩:=hc.get k hk
  obtain⟨i0,-,-,-,-,-⟩:=hi k hk
  have HR:Hid (bQ c k=decide (c[k].k=11)):=by
   show _=_
   unfold bQ
   rw[decide_eq_true (show (0:Int)≤(k:Int) by omega),decide_eq_true h1,Int.toNat_natCast,show c.getD k ⟨0,0,0,0,0,0⟩=c[k] by simp[z7,Q1 hk]]
   simp
  clear hi hc
  by_cases h11:c[k].k=11
  ·have e11:(c[k].k !=11)=false:=by simp[h11]
   have n0:(0:Int)≤(k:Int):=by omega
   go_enter Tryz.func224,Tryz.ntmps224
   go_wp2
   go_ret
   exact⟨aI (by rw[HR.out];simp[h11,hk]),bR _ _⟩
  ·have e11:(c[k].k !=11)=true:=by simpa using h11
   have n0:(0:Int)≤(k:Int):=by omega
   go_enter Tryz.func224,Tryz.ntmps224
   go_wp2
   go_ret
   exact⟨aI (by rw[HR.out];simp[h11,hk]),bR _ _⟩
 ·have HR:Hid (bQ c x=false):=by show _=_;unfold bQ;rw[decide_eq_false h1];simp
  go_enter Tryz.func224,Tryz.ntmps224
  go_wp2
  go_ret
  exact⟨aI (by rw[HR.out];rfl),bR _ _⟩

theorem oY (l:List Int)(p:Int→Bool):(l.any λx=> !p x)= !l.all p:=by
 induction l with
 |nil=>rfl
 |cons a r ih=>simp only[List.any_cons,List.all_cons,ih,Bool.not_and]

theorem rm (l:List Int):cX l=true↔∀k (h:k+1 < l.length),l[k] < l[k+1]:=by
 induction l with
 |nil=>simp[cX]
 |cons a r ih=>
  cases r with
  |nil=>simp[cX]
  |cons b t=>
   simp only[cX,Bool.and_eq_true,decide_eq_true_eq,ih]
   constructor
   ·rintro ⟨h1,h2⟩ k hk
    cases k with
    |zero=>exact h1
    |succ k=>exact h2 k (by simpa using hk)
   ·intro h
    exact⟨h 0 (by simp),λk hk=>h (k+1) (by simpa using hk)⟩

abbrev pgW (w:World)(V F:Int)(s:Option Addr)(c:List Ins)(cap:Nat)(g:Gs)(ss:Option Addr)(gc:Nat):World:=
 (w.alloc (Cc #[I Y V,I Y F,U s c.length cap] 24)).alloc (Cc #[Bb g.n,Bb g.sp.n,I Y g.sp.lo,I Y g.sp.hi,Bb g.t,Bb g.f,U ss g.s.length gc] 91)

theorem tr (V F:Int)(s:Option Addr)(c:List Ins)(cap:Nat)(g:Gs)(ss:Option Addr)(gc:Nat)(w:World)(hc:CodeAt w s c)(hl:c.length≤60)(hs:IntsAt w ss g.s)(hgl:g.s.length≤9223372036854775807):
  Calls pG 194 #[pv V F s c cap,gv g ss gc] w λe w'=>e=Rt (I Y (aC c g))∧Below w.heap.size w w':=by
 have P0:PrAt (pgW w V F s c cap g ss gc) w.heap.size V F s c cap:=(PrAt.new w V F s c cap).alloc _
 have G0:GuAt (pgW w V F s c cap g ss gc) (w.heap.size+1) 0 g ss gc:=by
  have:=GuAt.new (w.alloc (Cc #[I Y V,I Y F,U s c.length cap] 24)) g ss gc
  simpa using this
 have C0:CodeAt (pgW w V F s c cap g ss gc) s c:=(hc.alloc _).alloc _
 have I0:IntsAt (pgW w V F s c cap g ss gc) ss g.s:=(hs.alloc _).alloc _
 have B0:Below w.heap.size w (pgW w V F s c cap g ss gc):=by go_grown
 have HR:Hid (aC c g=if dd g.sp≠0 then dd g.sp else if g.s.all (bQ c)=false then 5 else if cX g.s=false then 4 else 0):=rfl
 go_enter Tryz.func194,Tryz.ntmps194
 go_wp2_with (go_at_call 195;fail)
 refine(g7 g.sp _).mono ?_
 rintro e w1 ⟨rfl,hb1⟩
 have P1:=P0.call hb1
 have G1:=G0.call hb1
 have C1:=C0.call hb1
 have I1:=I0.call hb1
 have B1:Below w.heap.size w w1:=B0.trans (hb1.mono (by simp;omega))
 clear hb1 P0 G0 C0 I0 B0 hc hs
 by_cases hsp:dd g.sp=0
 ·obtain⟨⟨g0,g1,g2,g3,g4,g5,g6⟩,gz⟩:=id G1
  rw[hsp]
  go_wp2_with (go_at_call 200;fail)
  refine(oW w.heap.size (λx=> !bQ c x) ss gc g.s _ hgl I1 λx wx hbx=>vU x w.heap.size V F s c cap wx (P1.call hbx) (C1.call hbx) hl).mono ?_
  rintro e w2 ⟨rfl,hb2⟩
  rw[oY]
  have G2:=G1.call hb2
  have I2:=I1.call hb2
  have B2:Below w.heap.size w w2:=B1.trans (hb2.mono B1.size)
  clear hb2 P1 G1 C1 I1 B1 g0 g1 g2 g3 g4 g5 g6 gz
  obtain⟨⟨g0,g1,g2,g3,g4,g5,g6⟩,gz⟩:=id G2
  cases hA:g.s.all (bQ c) with
  |false=>
   have HF:Hid (aC c g=5):=by show _=_;rw[HR.out,if_neg (by simpa using hsp),if_pos hA]
   clear HR
   go_wp2
   go_ret
   exact⟨bu HF.out.symm,B2⟩
  |true=>
   have HF:Hid (aC c g=if cX g.s=false then 4 else 0):=by show _=_;rw[HR.out,if_neg (by simpa using hsp),if_neg (by simp[hA])]
   have HQ:=aa (rm g.s)
   clear HR
   go_wp2
   go_loopw [7] (λi wr=>∃k:Nat,1≤k∧i=I Y k∧k≤g.s.length+1∧wr.cell? ⟨w.heap.size+1,6,nO⟩=sO (U ss g.s.length gc)∧IntsAt wr ss g.s∧Below w.heap.size w wr∧Hid (∀j (h:j+1 < g.s.length),j+1 < k→g.s[j] < g.s[j+1])) (λi _=>g.s.length+1 - (intOf i).toNat)
   case atStart=>exact⟨1,lR _,rfl,by omega,g6,I2,B2,λj h h'=>by omega⟩
   case round=>
    obtain⟨k,hk1,rfl,hk2,r6,IR,BR,HK⟩:=hrel
    by_cases hlt:k < g.s.length
    ·obtain⟨b,off,rfl,hb,hcell⟩:=IR.get k hlt
     have c0:=hcell (k - 1) (by omega)
     have c1:=hcell k hlt
     have t1:((k:Int) - 1).toNat=k - 1:=by omega
     have n0:(0:Int)≤(k:Int) - 1:=by omega
     have n1:(k:Int) - 1 < (g.s.length:Int):=by omega
     have n2:(0:Int)≤(k:Int):=by omega
     have n3:(k:Int) < (g.s.length:Int):=by omega
     clear hcell
     by_cases hr:g.s[k - 1] < g.s[k]
     ·go_wp2
      go_quiet (fail)
      go_wp2
      go_roundw
      case rel=>
       refine⟨k+1,by omega,by go_num,by omega,?_,IR.drewN _,below_drewN BR _,λj h h'=> ?_⟩
       ·rw[←r6];exact(below_drewN (bR (wr.heap.size+(w.heap.size+2)) wr) _).cell (by simp;omega)
       ·by_cases e:j+1=k
        ·subst e;exact hr
        ·exact HK.out j h (by omega)
      case measure=>simp[intOf];omega
     ·have HG:Hid (cX g.s=false):=by
       show _=_
       rw[Bool.eq_false_iff]
       intro hx
       have:=HQ.out.1 hx (k - 1) (by omega)
       have e:k - 1+1=k:=by omega
       simp only[e] at this
       exact hr this
      clear HQ
      go_wp2
      go_quiet (fail)
      go_wp2
      go_ret
      exact⟨bu (by rw[HF.out,if_pos HG.out]),below_drewN BR _⟩
    ·go_wp2
     go_ret
     refine⟨bu ?_,BR⟩
     rw[HF.out,if_neg]
     have:cX g.s=true:=HQ.out.2 λj h=>HK.out j h (by omega)
     simp[this]
 ·have HF:Hid (aC c g=dd g.sp):=by show _=_;rw[HR.out,if_pos hsp]
  have hne:(dd g.sp !=0)=true:=by simpa using hsp
  clear HR
  go_wp2
  go_ret
  exact⟨bu HF.out.symm,B1⟩
theorem tK (q:Nat)(p:Int→Bool)(ss:Option Addr)(cap:Nat)(l:List Int)(w:World)(hl:l.length≤9223372036854775807)(hs:IntsAt w ss l)
  (hF:∀x wx,Below w.heap.size w wx→Calls pG 199 #[I Y x,Pp (sO ⟨q,0,nO⟩)] wx λe w'=>e=Rt (Bb (p x))∧Below wx.heap.size wx w'):
  Calls pG 227 #[U ss l.length cap,.func (.func 199) #[] #[Pp (sO ⟨q,0,nO⟩)]] w λe w'=>∃n:Int,e=Rt (I Y n)∧decide (0≤n)=l.any p∧Below w.heap.size w w':=by
 have HF:=aa hF
 clear hF
 go_enter Tryz.func227,Tryz.ntmps227
 go_wp2
 go_loopw [8] (λi wr=>∃k:Nat,k≤l.length∧i=I Y k∧Below w.heap.size w wr∧Hid (l.any p=(l.drop k).any p)) (λi _=>l.length - (intOf i).toNat)
 case atStart=>exact⟨0,j9 _,rfl,bR _ _,rfl⟩
 case round=>
  obtain⟨k,hk,rfl,hbr,HA⟩:=hrel
  by_cases hlt:k < l.length
  ·obtain⟨b,off,rfl,hb,hc⟩:=hs.get k hlt
   have n0:(0:Int)≤(k:Int):=by omega
   have n1:(k:Int) < (l.length:Int):=by omega
   have s0:=hbr.size
   have c0:wr.cell? ⟨b,off+k,nO⟩=sO (I Y l[k]):=by rw[hbr.cell (by simpa using hb)];exact hc k hlt
   have HN:Hid ((l.drop k).any p=(p l[k]||(l.drop (k+1)).any p)):=iD l p k hlt
   clear hc hs
   go_wp2_with (go_at_call 199;fail)
   refine(HF.out _ _ hbr).mono ?_
   rintro e w1 ⟨rfl,hb1⟩
   cases hp:p l[k] with
   |true=>
    have HT:Hid (l.any p=true):=by show _=_;rw[HA.out,HN.out,hp];rfl
    clear HN HA
    go_wp2
    go_ret
    exact⟨_,rfl,by rw[HT.out];simp,hbr.trans (hb1.mono s0)⟩
   |false=>
    have HT:Hid (l.any p=(l.drop (k+1)).any p):=by show _=_;rw[HA.out,HN.out,hp];rfl
    clear HN HA
    go_wp2
    go_roundw
    case rel=>exact⟨k+1,by omega,by go_num,hbr.trans (hb1.mono s0),HT⟩
    case measure=>simp[intOf];omega
  ·go_wp2
   go_ret
   exact⟨_,rfl,by rw[HA.out,q8 (by omega)];rfl,hbr⟩

theorem cF (q:Nat)(p:Int→Bool)(ss:Option Addr)(cap:Nat)(l:List Int)(w:World)(hl:l.length≤9223372036854775807)(hs:IntsAt w ss l)
  (hF:∀x wx,Below w.heap.size w wx→Calls pG 199 #[I Y x,Pp (sO ⟨q,0,nO⟩)] wx λe w'=>e=Rt (Bb (p x))∧Below wx.heap.size wx w'):
  Calls pG 200 #[U ss l.length cap,.func (.func 199) #[] #[Pp (sO ⟨q,0,nO⟩)]] w λe w'=>e=Rt (Bb (l.any p))∧Below w.heap.size w w':=by
 have HF:=aa hF
 clear hF
 go_enter Tryz.func200,Tryz.ntmps200
 go_wp2_with (go_at_call 227;fail)
 refine(tK q p ss cap l _ hl hs HF.out).mono ?_
 rintro e w1 ⟨n,rfl,hn,hb1⟩
 go_wp2
 go_ret
 exact⟨rfl,hb1⟩
theorem pC (q:Nat)(p:Int→Bool)(ss:Option Addr)(cap:Nat)(l:List Int)(w:World)(hl:l.length≤9223372036854775807)(hs:IntsAt w ss l)
  (hF:∀x wx,Below w.heap.size w wx→Calls pG 234 #[I Y x,Pp (sO ⟨q,0,nO⟩)] wx λe w'=>e=Rt (Bb (p x))∧Below wx.heap.size wx w'):
  Calls pG 227 #[U ss l.length cap,.func (.func 234) #[] #[Pp (sO ⟨q,0,nO⟩)]] w λe w'=>∃n:Int,e=Rt (I Y n)∧decide (0≤n)=l.any p∧Below w.heap.size w w':=by
 have HF:=aa hF
 clear hF
 go_enter Tryz.func227,Tryz.ntmps227
 go_wp2
 go_loopw [8] (λi wr=>∃k:Nat,k≤l.length∧i=I Y k∧Below w.heap.size w wr∧Hid (l.any p=(l.drop k).any p)) (λi _=>l.length - (intOf i).toNat)
 case atStart=>exact⟨0,j9 _,rfl,bR _ _,rfl⟩
 case round=>
  obtain⟨k,hk,rfl,hbr,HA⟩:=hrel
  by_cases hlt:k < l.length
  ·obtain⟨b,off,rfl,hb,hc⟩:=hs.get k hlt
   have n0:(0:Int)≤(k:Int):=by omega
   have n1:(k:Int) < (l.length:Int):=by omega
   have s0:=hbr.size
   have c0:wr.cell? ⟨b,off+k,nO⟩=sO (I Y l[k]):=by rw[hbr.cell (by simpa using hb)];exact hc k hlt
   have HN:Hid ((l.drop k).any p=(p l[k]||(l.drop (k+1)).any p)):=iD l p k hlt
   clear hc hs
   go_wp2_with (go_at_call 234;fail)
   refine(HF.out _ _ hbr).mono ?_
   rintro e w1 ⟨rfl,hb1⟩
   cases hp:p l[k] with
   |true=>
    have HT:Hid (l.any p=true):=by show _=_;rw[HA.out,HN.out,hp];rfl
    clear HN HA
    go_wp2
    go_ret
    exact⟨_,rfl,by rw[HT.out];simp,hbr.trans (hb1.mono s0)⟩
   |false=>
    have HT:Hid (l.any p=(l.drop (k+1)).any p):=by show _=_;rw[HA.out,HN.out,hp];rfl
    clear HN HA
    go_wp2
    go_roundw
    case rel=>exact⟨k+1,by omega,by go_num,hbr.trans (hb1.mono s0),HT⟩
    case measure=>simp[intOf];omega
  ·go_wp2
   go_ret
   exact⟨_,rfl,by rw[HA.out,q8 (by omega)];rfl,hbr⟩

theorem ci (q:Nat)(p:Int→Bool)(ss:Option Addr)(cap:Nat)(l:List Int)(w:World)(hl:l.length≤9223372036854775807)(hs:IntsAt w ss l)
  (hF:∀x wx,Below w.heap.size w wx→Calls pG 234 #[I Y x,Pp (sO ⟨q,0,nO⟩)] wx λe w'=>e=Rt (Bb (p x))∧Below wx.heap.size wx w'):
  Calls pG 200 #[U ss l.length cap,.func (.func 234) #[] #[Pp (sO ⟨q,0,nO⟩)]] w λe w'=>e=Rt (Bb (l.any p))∧Below w.heap.size w w':=by
 have HF:=aa hF
 clear hF
 go_enter Tryz.func200,Tryz.ntmps200
 go_wp2_with (go_at_call 227;fail)
 refine(pC q p ss cap l _ hl hs HF.out).mono ?_
 rintro e w1 ⟨n,rfl,hn,hb1⟩
 go_wp2
 go_ret
 exact⟨rfl,hb1⟩
def fG (w:World)(b k:Nat)(x':Gc):World:=(((((((w.setCell ⟨b,k * 7,nO⟩ (Bb x'.g.n)).setCell ⟨b,k * 7+1,nO⟩ (Bb x'.g.sp.n)).setCell ⟨b,k * 7+2,nO⟩ (I Y x'.g.sp.lo)).setCell ⟨b,k * 7+3,nO⟩ (I Y x'.g.sp.hi)).setCell ⟨b,k * 7+4,nO⟩ (Bb x'.g.t)).setCell ⟨b,k * 7+5,nO⟩ (Bb x'.g.f)).setCell ⟨b,k * 7+6,nO⟩ (U x'.ss x'.g.s.length x'.cap))
section
variable {T:Nat→Prop} {B:Nat} {w w':World} {v:Ro} {fs:Option Addr} {fc:Nat} {L:List Ro}
theorem Off.same {v v':Ro}{fb:Option Nat}{L:List Ro}{b:Nat}(hv:roB v'=roB v):Off v' fb L b↔Off v fb L b:=by unfold Off;rw[hv]
theorem gZ {v:Ro}{l:List Gc}(h:l.length=v.l.length):roB ⟨v.rs,v.rc,l⟩=roB v:=by unfold roB roV;rw[h]
theorem PicG.cellV (h:PicG T B w v fs fc L){b:Nat}(hb:v.rs=sO ⟨b,0,nO⟩){k:Nat}(hk:k < v.l.length){y z:Gc}(hy:PicG T B w' ⟨v.rs,v.rc,v.l.set k y⟩ fs fc L){j:Nat}{u:Value}(hj:j < 7)(hx:bC z=(bC y).set j u)(hg:cd (λb=>T b∧Off v (j0 fs L.length fc).ownBlock L b) w' z):
  PicG T B (w'.setCell ⟨b,k * 7+j,nO⟩ u) ⟨v.rs,v.rc,v.l.set k z⟩ fs fc L:=by
 have h1:=PicG.putV hy hb (k:=k) (j:=j) (u:=u) (x':=z) (by simpa using hk) hj (by simpa using hx) ⟨hg.1.mono λq hq _=>⟨hq.1,(Off.same (gZ (by simp))).2 hq.2⟩,hg.2⟩
 simpa[Q3] using h1
theorem aE {S:Nat→Prop}{x:Gc}{b:Nat}{o:Nat}{u:Value}(h:cd S w x)(hs:¬S b):cd S (w.setCell ⟨b,o,nO⟩ u) x:=pR h λq hq e=>hs (by have e':q=b:=e;rw[←e'];exact hq)
theorem PicG.setV (h:PicG T B w v fs fc L){b:Nat}(hb:v.rs=sO ⟨b,0,nO⟩){k:Nat}(hk:k < v.l.length){x':Gc}(hg:cd (λb=>T b∧Off v (j0 fs L.length fc).ownBlock L b) w x'):PicG T B (fG w b k x') ⟨v.rs,v.rc,v.l.set k x'⟩ fs fc L:=by
 have eb:roB v=sO b:=by unfold roB roV;rw[hb];rfl
 have nb:¬(λq=>T q∧Off v (j0 fs L.length fc).ownBlock L q) b:=λq=>q.2.1 eb
 obtain⟨y,ey⟩:∃y,y=v.l[k]:=⟨_,rfl⟩
 have gy:cd (λb=>T b∧Off v (j0 fs L.length fc).ownBlock L b) w y:=by rw[ey];exact h.sv _ (gM hk)
 have h0:PicG T B w ⟨v.rs,v.rc,v.l.set k y⟩ fs fc L:=by rw[ey,q2];exact h
 unfold fG
 have h1:=h.cellV hb hk h0 (j:=0) (u:=Bb x'.g.n) (z:=⟨⟨x'.g.n,y.g.sp,y.g.t,y.g.f,y.g.s⟩,y.ss,y.cap⟩) (by omega) (by rfl) gy
 have h2:=h.cellV hb hk h1 (j:=1) (u:=Bb x'.g.sp.n) (z:=⟨⟨x'.g.n,⟨x'.g.sp.n,y.g.sp.lo,y.g.sp.hi⟩,y.g.t,y.g.f,y.g.s⟩,y.ss,y.cap⟩) (by omega) (by rfl) (aE gy nb)
 have h3:=h.cellV hb hk h2 (j:=2) (u:=I Y x'.g.sp.lo) (z:=⟨⟨x'.g.n,⟨x'.g.sp.n,x'.g.sp.lo,y.g.sp.hi⟩,y.g.t,y.g.f,y.g.s⟩,y.ss,y.cap⟩) (by omega) (by rfl) (aE (aE gy nb) nb)
 have h4:=h.cellV hb hk h3 (j:=3) (u:=I Y x'.g.sp.hi) (z:=⟨⟨x'.g.n,⟨x'.g.sp.n,x'.g.sp.lo,x'.g.sp.hi⟩,y.g.t,y.g.f,y.g.s⟩,y.ss,y.cap⟩) (by omega) (by rfl) (aE (aE (aE gy nb) nb) nb)
 have h5:=h.cellV hb hk h4 (j:=4) (u:=Bb x'.g.t) (z:=⟨⟨x'.g.n,⟨x'.g.sp.n,x'.g.sp.lo,x'.g.sp.hi⟩,x'.g.t,y.g.f,y.g.s⟩,y.ss,y.cap⟩) (by omega) (by rfl) (aE (aE (aE (aE gy nb) nb) nb) nb)
 have h6:=h.cellV hb hk h5 (j:=5) (u:=Bb x'.g.f) (z:=⟨⟨x'.g.n,⟨x'.g.sp.n,x'.g.sp.lo,x'.g.sp.hi⟩,x'.g.t,x'.g.f,y.g.s⟩,y.ss,y.cap⟩) (by omega) (by rfl) (aE (aE (aE (aE (aE gy nb) nb) nb) nb) nb)
 have h7:=h.cellV hb hk h6 (j:=6) (u:=U x'.ss x'.g.s.length x'.cap) (z:=x') (by omega) (by rfl) (aE (aE (aE (aE (aE (aE hg nb) nb) nb) nb) nb) nb)
 exact h7
theorem PicG.cellF (h:PicG T B w v fs fc L){s:Nat}(hs:s < L.length){b:Nat}(hb:L[s].rs=sO ⟨b,0,nO⟩){k:Nat}(hk:k < L[s].l.length){y z:Gc}(hy:PicG T B w' v fs fc (L.set s ⟨L[s].rs,L[s].rc,L[s].l.set k y⟩)){j:Nat}{u:Value}(hj:j < 7)(hx:bC z=(bC y).set j u)(hg:cd (λb=>T b∧Off v (j0 fs L.length fc).ownBlock L b) w' z):
  PicG T B (w'.setCell ⟨b,k * 7+j,nO⟩ u) v fs fc (L.set s ⟨L[s].rs,L[s].rc,L[s].l.set k z⟩):=by
 have eL:∀q,(∀r∈L.set s ⟨L[s].rs,L[s].rc,L[s].l.set k y⟩,roB r≠sO q)↔∀r∈L,roB r≠sO q:=λq=>by
  have e1:(L.set s ⟨L[s].rs,L[s].rc,L[s].l.set k y⟩).map roB=L.map roB:=by
   rw[x7,gZ (v:=L[s]) (by simp),←q5 (f:=roB) (h:=by simpa using hs),q2]
  have e2:∀M:List Ro,(∀r∈M,roB r≠sO q)↔∀o∈M.map roB,o≠sO q:=λM=>by simp only[z8,forall_exists_index,and_imp,forall_apply_eq_imp_iff₂]
  rw[e2,e1,←e2]
 have h1:=PicG.putF hy (s:=s) (by simpa using hs) (b:=b) (by simpa using hb) (k:=k) (j:=j) (u:=u) (x':=z) (by simpa using hk) hj (by simpa using hx) ⟨hg.1.mono λq hq _=>⟨hq.1,hq.2.1,by rw[j6];exact hq.2.2.1,(eL q).2 hq.2.2.2⟩,hg.2⟩
 simpa[Q3] using h1
theorem PicG.setF (h:PicG T B w v fs fc L){s:Nat}(hs:s < L.length){b:Nat}(hb:L[s].rs=sO ⟨b,0,nO⟩){k:Nat}(hk:k < L[s].l.length){x':Gc}(hg:cd (λb=>T b∧Off v (j0 fs L.length fc).ownBlock L b) w x'):PicG T B (fG w b k x') v fs fc (L.set s ⟨L[s].rs,L[s].rc,L[s].l.set k x'⟩):=by
 have hm:=gM hs
 have eb:roB L[s]=sO b:=by unfold roB roV;rw[hb];rfl
 have nb:¬(λq=>T q∧Off v (j0 fs L.length fc).ownBlock L q) b:=λq=>q.2.2.2 _ hm eb
 obtain⟨y,ey⟩:∃y,y=L[s].l[k]:=⟨_,rfl⟩
 have gy:cd (λb=>T b∧Off v (j0 fs L.length fc).ownBlock L b) w y:=by rw[ey];exact h.sf _ hm _ (gM hk)
 have h0:PicG T B w v fs fc (L.set s ⟨L[s].rs,L[s].rc,L[s].l.set k y⟩):=by
  rw[ey,q2]
  have:(⟨L[s].rs,L[s].rc,L[s].l⟩:Ro)=L[s]:=rfl
  rw[this,q2]
  exact h
 unfold fG
 have h1:=h.cellF hs hb hk h0 (j:=0) (u:=Bb x'.g.n) (z:=⟨⟨x'.g.n,y.g.sp,y.g.t,y.g.f,y.g.s⟩,y.ss,y.cap⟩) (by omega) (by rfl) gy
 have h2:=h.cellF hs hb hk h1 (j:=1) (u:=Bb x'.g.sp.n) (z:=⟨⟨x'.g.n,⟨x'.g.sp.n,y.g.sp.lo,y.g.sp.hi⟩,y.g.t,y.g.f,y.g.s⟩,y.ss,y.cap⟩) (by omega) (by rfl) (aE gy nb)
 have h3:=h.cellF hs hb hk h2 (j:=2) (u:=I Y x'.g.sp.lo) (z:=⟨⟨x'.g.n,⟨x'.g.sp.n,x'.g.sp.lo,y.g.sp.hi⟩,y.g.t,y.g.f,y.g.s⟩,y.ss,y.cap⟩) (by omega) (by rfl) (aE (aE gy nb) nb)
 have h4:=h.cellF hs hb hk h3 (j:=3) (u:=I Y x'.g.sp.hi) (z:=⟨⟨x'.g.n,⟨x'.g.sp.n,x'.g.sp.lo,x'.g.sp.hi⟩,y.g.t,y.g.f,y.g.s⟩,y.ss,y.cap⟩) (by omega) (by rfl) (aE (aE (aE gy nb) nb) nb)
 have h5:=h.cellF hs hb hk h4 (j:=4) (u:=Bb x'.g.t) (z:=⟨⟨x'.g.n,⟨x'.g.sp.n,x'.g.sp.lo,x'.g.sp.hi⟩,x'.g.t,y.g.f,y.g.s⟩,y.ss,y.cap⟩) (by omega) (by rfl) (aE (aE (aE (aE gy nb) nb) nb) nb)
 have h6:=h.cellF hs hb hk h5 (j:=5) (u:=Bb x'.g.f) (z:=⟨⟨x'.g.n,⟨x'.g.sp.n,x'.g.sp.lo,x'.g.sp.hi⟩,x'.g.t,x'.g.f,y.g.s⟩,y.ss,y.cap⟩) (by omega) (by rfl) (aE (aE (aE (aE (aE gy nb) nb) nb) nb) nb)
 have h7:=h.cellF hs hb hk h6 (j:=6) (u:=U x'.ss x'.g.s.length x'.cap) (z:=x') (by omega) (by rfl) (aE (aE (aE (aE (aE (aE hg nb) nb) nb) nb) nb) nb)
 exact h7
theorem nR {b k q:Nat}{x':Gc}(h:q≠b):(fG w b k x').heap[q]? =w.heap[q]? :=by
 unfold fG
 rw[hSe _ _ _ _ h,hSe _ _ _ _ h,hSe _ _ _ _ h,hSe _ _ _ _ h,hSe _ _ _ _ h,hSe _ _ _ _ h,hSe _ _ _ _ h]
theorem nJ {b k:Nat}{x':Gc}:(fG w b k x').heap.size=w.heap.size:=by simp[fG,j5]
theorem iz {A:Nat}{w0:World}{b k:Nat}{x':Gc}(h:Below A w0 w)(hb:A≤b):Below A w0 (fG w b k x'):=by
 unfold fG
 exact((((((h.setCell hb _).setCell hb _).setCell hb _).setCell hb _).setCell hb _).setCell hb _).setCell hb _
end
theorem DH (w:World):
  Calls pG 152 #[Ag #[I Y 2,I Y 1]] w λe w'=>e=Rt (.string ⟨#[116,114,117,101]⟩)∧Below w.heap.size w w':=by
 have c0:=cell_regrown (w:=(w.alloc (Cc #[I Y 2,I Y 1] 82))) (a:=⟨w.heap.size,0,nO⟩) (v:=I Y 2) (by simp[go_sem])
 have c1:=cell_regrown (w:=(w.alloc (Cc #[I Y 2,I Y 1] 82))) (a:=⟨w.heap.size,1,nO⟩) (v:=I Y 1) (by simp[go_sem])
 have t0:(b8 false).k=2:=rfl
 have t1:(b8 false).n=0:=rfl
 have t2:(b8 true).k=2:=rfl
 have t3:(b8 true).n=1:=rfl
 have hb0:Below w.heap.size w (w.alloc (Cc #[I Y 2,I Y 1] 82)):=by go_grown
 go_enter Tryz.func152,Tryz.ntmps152
 go_wp2
 refine wp_region_quiet_below (by kernel_rfl) (by kernel_rfl) ?_
 repeat (quiet_step (first|exact Calls.regrown_of (cP false _)|exact Calls.regrown_of (cP true _)))
 refine wpQuiet_nil ?_
 intro _ hw'
 obtain⟨⟨dq,osq⟩,hw''⟩:=hw'
 subst hw''
 go_wp2
 go_ret
 exact⟨rfl,Below.trans (by go_grown) ((below_regrown _ dq osq).mono (by go_size))⟩

theorem sA {p:Prop}(h:p:=by
 have c0:=cell_regrown d0
 have c1:=cell_regrown d1
 go_wp2
 refine wp_region_quiet_below (by kernel_rfl) (by kernel_rfl) ?_
 repeat (quiet_step (first|exact Calls.regrown_of (cP false _)|exact Calls.regrown_of (cP true _)))
 refine wpQuiet_nil ?_
 intro _ hw'
 obtain⟨⟨dq,osq⟩,hw''⟩:=hw'
 subst hw''
 go_wp2
 go_ret
 exact⟨rfl,hb1.trans ((below_regrown _ dq osq).mono hb1.size)⟩):p:=h
theorem AN (w:World):
  Calls pG 152 #[Ag #[I Y 2,I Y 0]] w λe w'=>e=Rt (.string ⟨#[102,97,108,115,101]⟩)∧Below w.heap.size w w':=by
 have c0:=cell_regrown (w:=(w.alloc (Cc #[I Y 2,I Y 0] 82))) (a:=⟨w.heap.size,0,nO⟩) (v:=I Y 2) (by simp[go_sem])
 have c1:=cell_regrown (w:=(w.alloc (Cc #[I Y 2,I Y 0] 82))) (a:=⟨w.heap.size,1,nO⟩) (v:=I Y 0) (by simp[go_sem])
 have t0:(b8 false).k=2:=rfl
 have t1:(b8 false).n=0:=rfl
 have t2:(b8 true).k=2:=rfl
 have t3:(b8 true).n=1:=rfl
 have hb0:Below w.heap.size w (w.alloc (Cc #[I Y 2,I Y 0] 82)):=by go_grown
 go_enter Tryz.func152,Tryz.ntmps152
 go_wp2
 refine wp_region_quiet_below (by kernel_rfl) (by kernel_rfl) ?_
 repeat (quiet_step (first|exact Calls.regrown_of (cP false _)|exact Calls.regrown_of (cP true _)))
 refine wpQuiet_nil ?_
 intro _ hw'
 obtain⟨⟨dq,osq⟩,hw''⟩:=hw'
 subst hw''
 have hb1:=hb0.trans ((below_regrown (w.alloc (Cc #[I Y 2,I Y 0] 82)) dq osq).mono (by go_size))
 have d0:=c0 dq osq
 have d1:=c1 dq osq
 clear c0 c1
 generalize Go.Sort.grow (redrawn (w.alloc (Cc #[I Y 2,I Y 0] 82)) dq) osq=w2 at *
 exact sA

theorem Di (w:World):
  Calls pG 152 #[Ag #[I Y 0,I Y 0]] w λe w'=>e=Rt (.string ⟨#[110,117,108,108]⟩)∧Below w.heap.size w w':=by
 have c0:=cell_regrown (w:=(w.alloc (Cc #[I Y 0,I Y 0] 82))) (a:=⟨w.heap.size,0,nO⟩) (v:=I Y 0) (by simp[go_sem])
 have c1:=cell_regrown (w:=(w.alloc (Cc #[I Y 0,I Y 0] 82))) (a:=⟨w.heap.size,1,nO⟩) (v:=I Y 0) (by simp[go_sem])
 have t0:(b8 false).k=2:=rfl
 have t1:(b8 false).n=0:=rfl
 have t2:(b8 true).k=2:=rfl
 have t3:(b8 true).n=1:=rfl
 have hb0:Below w.heap.size w (w.alloc (Cc #[I Y 0,I Y 0] 82)):=by go_grown
 go_enter Tryz.func152,Tryz.ntmps152
 go_wp2
 refine wp_region_quiet_below (by kernel_rfl) (by kernel_rfl) ?_
 repeat (quiet_step (first|exact Calls.regrown_of (cP false _)|exact Calls.regrown_of (cP true _)))
 refine wpQuiet_nil ?_
 intro _ hw'
 obtain⟨⟨dq,osq⟩,hw''⟩:=hw'
 subst hw''
 have hb1:=hb0.trans ((below_regrown (w.alloc (Cc #[I Y 0,I Y 0] 82)) dq osq).mono (by go_size))
 have d0:=c0 dq osq
 have d1:=c1 dq osq
 clear c0 c1
 generalize Go.Sort.grow (redrawn (w.alloc (Cc #[I Y 0,I Y 0] 82)) dq) osq=w2 at *
 exact sA

theorem BE (n:Int)(w:World):
  Calls pG 152 #[Ag #[I Y 3,I Y n]] w λe w'=>e=Rt (.string ⟨#[116,104,105,110,103]⟩)∧Below w.heap.size w w':=by
 go_enter Tryz.func152,Tryz.ntmps152
 go_wp2
 go_ret
 exact⟨rfl,by go_grown⟩
theorem Fs (n:Int)(w:World)(hf:kZ n)(ht:Tab w):
  Calls pG 152 #[Ag #[I Y 1,I Y n]] w λe w'=>e=Rt (.string (fI n))∧Below w.heap.size w w':=by
 have hb0:Below w.heap.size w (w.alloc (Cc #[I Y 1,I Y n] 82)):=by go_grown
 go_enter Tryz.func152,Tryz.ntmps152
 go_wp2_with (go_at_call 118;fail)
 refine(kU n _ hf (ht.below hb0)).mono ?_
 rintro e w1 ⟨rfl,hb1⟩
 go_wp2
 go_ret
 exact⟨rfl,hb0.trans (hb1.mono hb0.size)⟩
theorem Fx (T:Nat)(k n:Int)(w:World)(h:bF T ⟨k,n⟩=true)(ht:Tab w):
  Calls pG 152 #[Ag #[I Y k,I Y n]] w λe w'=>e=Rt (.string (iO ⟨k,n⟩))∧Below w.heap.size w w':=by
 by_cases h1:k=1
 ·subst h1
  have hb: -2147483648≤n∧n≤2147483647:=by simpa[bF,btw] using h
  have e:iO ⟨1,n⟩=fI n:=by simp[iO]
  rw[e]
  exact Fs n w ⟨by omega,by omega⟩ ht
 by_cases h3:k=3
 ·subst h3
  have e:iO ⟨3,n⟩=⟨#[116,104,105,110,103]⟩:=by simp[iO]
  rw[e]
  exact BE n w
 by_cases h2:k=2
 ·subst h2
  have hb:0≤n∧n≤1:=by simpa[bF,btw] using h
  by_cases n1:n=1
  ·subst n1
   exact DH w
  ·obtain rfl:n=0:=by omega
   exact AN w
 by_cases h0:k=0
 ·subst h0
  obtain rfl:n=0:=by simpa[bF] using h
  exact Di w
 ·have:bF T ⟨k,n⟩=false:=by simp[bF,h0,h1,h2,h3]
  rw[this] at h
  cases h
end
section
open Go.RowKit
attribute [local go_sem ↓] Go.wp_at_zero Go.wp_at_succ
theorem IE (m B x:Nat)(s:St)(vv tv lv:Value)(fv:List Value)(t b n g:Int)(w:World)(h:OwnRun w B m s vv tv lv fv)(hB:B≤w.heap.size)(hx:x < s.vars.length)(T:Nat)(hv:bS T s.vars[x])(hT:Tab w)(hln:(s.lines.length+1) * 16≤140737488355328):
  Calls pG 86 #[Pp (sO ⟨m,0,nO⟩),Ag #[I Y 18,I Y t,I Y x,I Y b,I Y n,I Y g]] w λe w'=>e=Rt (I Y 0)∧MStep w w' B m (ag m vv tv lv fv) {s with lines:=s.lines++[iO s.vars[x]]}:=by
 have hm:m < w.heap.size:=h.lt (by simp[ag])
 have z1:m < w.heap.size+1:=by omega
 obtain⟨gb,cap,rfl,hg1,hg2,hcell,hfz⟩:=h.form (by omega)
 have am:m≠gb:=h.vars_apart rfl m (by simp)
 have ah:w.heap.size≠gb:=by omega
 have q1:=h.vars_
 have z2:gb < w.heap.size+1:=by omega
 obtain⟨kx0,kx1⟩:=hcell x hx
 have nx0:(0:Int)≤(x:Int):=by omega
 have nx1:(x:Int) < (s.vars.length:Int):=by omega
 have q4:=h.lines_
 have K1:∀wx,Below (w.heap.size+1) (w.alloc (Cc #[I Y 18,I Y t,I Y x,I Y b,I Y n,I Y g] 100)) wx→wx.cell? ⟨m,1,nO⟩=sO (U (sO ⟨gb,0,nO⟩) s.vars.length cap)∧wx.cell? ⟨m,4,nO⟩=sO lv∧wx.cell? ⟨w.heap.size,2,nO⟩=sO (I Y x)∧wx.cell? ⟨gb,x * 2,nO⟩=sO (I Y s.vars[x].k)∧wx.cell? ⟨gb,x * 2+1,nO⟩=sO (I Y s.vars[x].n):=by
  intro wx hb
  rw[hb.cell (by simpa using z1),hb.cell (by simpa using z1),hb.cell (by simp),hb.cell (by simpa using z2),hb.cell (by simpa using z2)]
  simp[go_sem,hm,q1,q4,hg2,kx0,kx1]
 obtain⟨ti,hi,hz0,hz1,hz2⟩:=info_parts wM
 have hG:Below w.heap.size w (w.alloc (Cc #[I Y 18,I Y t,I Y x,I Y b,I Y n,I Y g] 100)).drew:=by go_grown
 have HX:=aF (Fx T s.vars[x].k s.vars[x].n (w.alloc (Cc #[I Y 18,I Y t,I Y x,I Y b,I Y n,I Y g] 100)).drew (okValB_iff.2 hv) (hT.below hG))
 clear hcell hfz
 generalize iO s.vars[x]=sh at *
 go_enter Tryz.func86,Tryz.ntmps86
 go_wp2
 refine au (S:=(λwx=>wx.cell? ⟨m,1,nO⟩=sO (U (sO ⟨gb,0,nO⟩) s.vars.length cap)∧wx.cell? ⟨m,4,nO⟩=sO lv∧wx.cell? ⟨w.heap.size,2,nO⟩=sO (I Y x)∧wx.cell? ⟨gb,x * 2,nO⟩=sO (I Y s.vars[x].k)∧wx.cell? ⟨gb,x * 2+1,nO⟩=sO (I Y s.vars[x].n))) [21] (by kernel_rfl) (K1 _ (bR _ _).drew) (λhHeld=> ?_)
 refine vZ 0 ?_ ?_
 refine vZ 1 ?_ ?_
 refine vZ 2 ?_ ?_
 refine vZ 3 ?_ ?_
 refine vZ 4 ?_ ?_
 refine vZ 5 ?_ ?_
 refine vZ 6 ?_ ?_
 refine vZ 7 ?_ ?_
 refine vZ 8 ?_ ?_
 refine vZ 9 ?_ ?_
 refine vZ 10 ?_ ?_
 refine vZ 11 ?_ ?_
 refine vZ 12 ?_ ?_
 refine vZ 13 ?_ ?_
 refine vZ 14 ?_ ?_
 refine an (i:=15) rfl (by kernel_rfl) (λK hK=> ?_)
 go_simp
 go_at_call 152
 refine(HX.out).mono ?_
 rintro e w1 ⟨rfl,hb1⟩
 have HB1:Below (w.heap.size+1) (w.alloc (Cc #[I Y 18,I Y t,I Y x,I Y b,I Y n,I Y g] 100)) w1:=Below.trans (bR _ _).drew (Below.mono hb1 (by simp))
 go_wp2_with fail
 refine hK.out _ _ (K1 _ HB1) (λhHeld=> ?_)
 clear hK K
 (try simp only[stp,q9])
 refine an (i:=16) rfl (by kernel_rfl) (λK hK=> ?_)
 go_simp
 have HB2:Below (w.heap.size+1) (w.alloc (Cc #[I Y 18,I Y t,I Y x,I Y b,I Y n,I Y g] 100)) (w1.alloc (Cc #[.string sh] 9)):=HB1.alloc (by have:=HB1.size;simpa using this) _
 refine hK.out _ _ (K1 _ HB2) (λhHeld=> ?_)
 clear hK K
 (try simp only[stp,q9])
 refine an (i:=17) rfl (by kernel_rfl) (λK hK=> ?_)
 have o1:OwnRun w1 B m s (U (sO ⟨gb,0,nO⟩) s.vars.length cap) tv lv fv:=h.below (hG.trans (hb1.mono hG.size))
 have hba:Below w1.heap.size w1 (w1.alloc (Cc #[.string sh] 9)):=by go_grown
 have o2:=o1.below hba
 obtain⟨p1,p2,p3,p4,p5⟩:=o2.parted
 refine step_append_lies _ rfl _ _ 31 rfl B 9 ti (.string ⟨#[]⟩) 1 16 Tryz.underlying31 hi hz0 hz1 hz2 rfl (by decide) _ _ _ rfl o2.lines ⟨w1.heap.size,0,nO⟩ 1 1 [.string sh] rfl rfl (λj u hj=>World.news_of_block (heap_alloc_new _ _) j u hj) (by simp[Value.oneCell']) (by omega) (by unfold maxLen;omega) hln (by have:=o2.lt (k:=m) (by simp[ag]);have:=h.low;omega) _ rfl ?_
 intro gl cl w3 hown hgrow hat hlt
 have hwz:w.heap.size+1≤w1.heap.size:=by have:=HB1.size;simpa using this
 have far:∀b j,b < w.heap.size+1→sO b≠lv.ownBlock→w3.cell? ⟨b,j,nO⟩=(w1.alloc (Cc #[.string sh] 9)).cell? ⟨b,j,nO⟩:=λb j h1 h2=>hgrow.cell_far ⟨b,j,nO⟩ (by simp;omega) h2
 have nm:sO m≠lv.ownBlock:=λe=>p1 m (by rw[e];simp) rfl
 have ng:sO gb≠lv.ownBlock:=λe=>p2 gb rfl (by rw[e];simp)
 have nb:sO w.heap.size≠lv.ownBlock:=λe=>by have:=h.lt (k:=w.heap.size) (by rw[e];simp[ag]);omega
 have hS3:w3.cell? ⟨m,1,nO⟩=sO (U (sO ⟨gb,0,nO⟩) s.vars.length cap)∧w3.cell? ⟨m,4,nO⟩=sO lv∧w3.cell? ⟨w.heap.size,2,nO⟩=sO (I Y x)∧w3.cell? ⟨gb,x * 2,nO⟩=sO (I Y s.vars[x].k)∧w3.cell? ⟨gb,x * 2+1,nO⟩=sO (I Y s.vars[x].n):=by
  obtain⟨s1,s2,s3,s4,s5⟩:=K1 _ HB2
  refine⟨?_,?_,?_,?_,?_⟩
  ·rw[far m _ z1 nm];exact s1
  ·rw[far m _ z1 nm];exact s2
  ·rw[far _ _ (by omega) nb];exact s3
  ·rw[far gb _ z2 ng];exact s4
  ·rw[far gb _ z2 ng];exact s5
 refine hK.out _ _ hS3 (λhHeld=> ?_)
 clear hK K
 (try simp only[stp,q9])
 refine vZ 18 ?_ ?_
 refine vZ 19 ?_ ?_
 refine vZ 20 ?_ ?_
 refine aL (i:=21) rfl (by kernel_rfl) (by kernel_rfl) (λK hK=> ?_)
 have c4:w3.cell? ⟨m,4,nO⟩=sO lv:=hS3.2.1
 have d4:w3.frozen? ⟨m,4,nO⟩=false:=by rw[hgrow.frozen_far ⟨m,4,nO⟩ (by simp;omega) nm];exact o2.thaw 4
 go_simp
 refine hK.out _ _ ?_
 clear hK K
 (try simp only[stp,q9])
 refine aq (by kernel_rfl) ?_ _
 go_wp2
 go_ret
 have hBm:B≤m:=h.low
 have HW:Below B w w3:=Below.grown (((hG.mono hB).trans (hb1.mono (by have:=hG.size;omega))).trans (hba.mono (by omega))) hgrow (by simp;omega) (λk hk=>(aM o2.lines hk).2)
 refine⟨rfl,⟨_,_,_,_,o2.grow_lines (by simp;omega) hown hgrow (hat.imp id (λe=>by rw[e];exact lR _))⟩,HW.setCell hBm _,λj hj=> ?_,cE (cJ ((hG.trans (hb1.mono hG.size)).trans (hba.mono (by omega)))) (by simp;omega) (sG hgrow (λk hk=>by have e:lv.ownBlock=sO k:=hk;unfold ag;rw[e];simp) (by simp[ag]) _ _)⟩
 rw[q0 _ _ _ _ (by intro e;cases e;omega),far m _ z1 nm,hba.cell (by simp;omega),hb1.cell (by simp;omega),hG.cell (by simpa using hm)]
end
end Go.Proofs.YtmapdpcfanecdabGreatDoor
