import Derived.WalkKit
import Derived.WalkSpells
import Derived.WalkLawsBesides
import Derived.Handy
import Derived.Test.YtmapdpcfanecdabGreatDoorR03
import Derived.Lib.ItoaNum
import Derived.Lib.ItoaLen
import Derived.Deep.AppendLies
import Derived.Laws.OwnMore
import Derived.BigQuiet
import Derived.Deep.RegionHeld3
import Derived.Lib.QuietBelow
import Derived.WalkSmall
import Derived.RangeFuncNested
import Derived.RangeFuncLeaves
import Derived.Deep.QuietTactic
import Derived.Deep.RegionHeld
import Derived.OwnWalk
import Derived.OrdersIn
import Derived.TacticsIn
import Derived.Laws.CopyRow
import Derived.Lib.SlBuf
import Derived.Deep.DeepCutAuto
import Derived.Laws.MakeOwn
import Derived.Laws.CopyOwn
import Derived.Deep.DrawnRows
open Array renaming getElem?_eq_some_iff→j3
open Bool renaming and_eq_true→q2
open Go.Ending renaming returned→Rt
open Go.Obj renaming cells→Cc
open Go.Proofs.Tryz renaming prog→pG
open Go.RowKit.Below renaming heap_setCell→hSe,refl→bR
open Go.Value renaming agg→Ag,bool→Bb,cells→j7,int→I,pointer→Pp,slice→U,tuple→Tu
open Go.World renaming alloc_heap_new→Q5,block_lt_of_cell?→Q0,cell?→z3,cell?_of_block→j9,cell?_setCell_same→Q4,setCell→j5,size_alloc→zA
open Int renaming eq_ofNat_of_zero_le→x3
open List renaming drop_eq_getElem_cons→q7,drop_eq_nil_of_le→q9,getD→z5,getElem?_append_left→Q2,getElem?_eq_some_iff→x7,getElem_mem→gM,getElem_replicate→Q6,length_append→j4,length_cons→q8,length_drop→J8,length_eq_zero_iff→x6,length_map→Q1,map_append→J7,mem_append→q6,mem_cons→q5,mem_cons_of_mem→q0,mem_cons_self→x5,mem_flatMap→Q3,mem_singleton→j8,range→x4,replicate→j0,take_of_length_le→z8,zipWith→q4
open Nat renaming le_refl→lR,le_trans→lT,lt_of_lt_of_le→lL,min→j1,min_le_left→Q7,min_le_right→J5,zero_add→j2,zero_le→j6
open Option renaming none→nO,some→sO
open Go.Proofs.Tryz
set_option linter.unusedSimpArgs false
set_option linter.unusedVariables false
set_option maxHeartbeats 8000000
set_option maxRecDepth 100000
namespace Go.Proofs.YtmapdpcfanecdabGreatDoor
section
def btw (n l m:Int):Bool:=decide (l<=n/\n<=m)
theorem wG {n l m:Int}(h1:l<=n)(h2:n<=m):btw n l m=true:=by simp[btw,h1,h2]
theorem Wk {n l m:Int}(h:¬l<=n):btw n l m=false:=by simp[btw,h]
theorem WD {n l m:Int}(h:¬n<=m):btw n l m=false:=by simp[btw,h]

theorem tO {k:Int}(h:btw k 1 19=true):k=1\/k=2\/k=3\/k=4\/k=5\/k=6\/k=7\/k=8\/k=9\/k=10\/k=11\/k=12\/k=13\/k=14\/k=15\/k=16\/k=17\/k=18\/k=19:=by
 simp[btw] at h;omega

theorem WT (k:Int):btw k 1 19=(decide (1<=k)&&decide (k<=19)):=by simp[btw]

def nTo (k:Int):Bool:=btw k 1 12||decide (k=14)
def nA (k:Int):Bool:=btw k 4 10||decide (k=12)||decide (k=13)||decide (k=15)||decide (k=17)||decide (k=18)
def nB (k:Int):Bool:=btw k 5 9||decide (k=13)
def nN (k:Int):Bool:=decide (k=1)||decide (k=2)||btw k 12 14
def nG (k:Int):Bool:=decide (k=15)||decide (k=16)

structure Ins where
 k:Int
 tgt:Int
 a:Int
 b:Int
 n:Int
 g:Int

def bn (V F L:Int)(i:Ins):Int:=
 if btw i.k 1 19=false then 6
 else if (nTo i.k&& !btw i.tgt 0 (V - 1))||(nA i.k&& !btw i.a 0 (V - 1))||(nB i.k&& !btw i.b 0 (V - 1))||((decide (i.k=12)||decide (i.k=13))&& !btw i.n 0 (F - 1))||(nG i.k&& !btw i.g 0 L) then 5
 else if (decide (i.k=1)&& !btw i.n (-2147483648) 2147483647)||(decide (i.k=2)&& !btw i.n 0 1)||(decide (i.k=14)&& !btw i.n 0 1000000) then 3
 else if (!nTo i.k&&decide (i.tgt≠0))||(!nA i.k&&decide (i.a≠0))||(!nB i.k&&decide (i.b≠0))||(!nN i.k&&decide (i.n≠0))||(!nG i.k&&decide (i.g≠0)) then 1
 else 0

def fQ (V F L:Int):List Ins->Int
 |[]=>0
 |i::r=>if bn V F L i=0 then fQ V F L r else bn V F L i

def au (V F:Int)(c:List Ins):Int:=
 if btw V 1 8=false||btw F 0 3=false then 3 else if 60 < c.length then 2 else fQ V F c.length c

def aL:Int->ByteArray
 |1=>⟨#[110,117,109,98,101,114]⟩
 |2=>⟨#[116,114,117,116,104]⟩
 |3=>⟨#[110,117,108,108]⟩
 |4=>⟨#[99,111,112,121]⟩
 |5=>⟨#[97,100,100]⟩
 |6=>⟨#[115,117,98]⟩
 |7=>⟨#[109,117,108]⟩
 |8=>⟨#[108,101,115,115]⟩
 |9=>⟨#[115,97,109,101]⟩
 |10=>⟨#[110,111,116]⟩
 |11=>⟨#[110,101,119]⟩
 |12=>⟨#[103,101,116]⟩
 |13=>⟨#[112,117,116]⟩
 |14=>⟨#[105,110,112,117,116]⟩
 |15=>⟨#[105,102]⟩
 |16=>⟨#[103,111,116,111]⟩
 |17=>⟨#[101,120,112,101,99,116]⟩
 |18=>⟨#[112,114,105,110,116]⟩
 |19=>⟨#[101,110,100]⟩
 |_=>⟨#[]⟩

theorem Cd {k:Int}(h:btw k 1 19=false):aL k=⟨#[]⟩:=by
 have:¬(1<=k/\k<=19):=by simpa[btw] using h
 unfold aL;split<;>first|rfl|omega
abbrev lI:=List Ins
abbrev bl (w w':Go.World):Prop:=Go.RowKit.Below w.heap.size w w'
theorem aa {p:Prop}(h:p:=by omega):p:=h
theorem ae {p:Prop}(h:p:=by kernel_rfl):p:=h
theorem ah {p:Prop}(h:p:=by simp):p:=h
theorem am {p:Prop}(h:p:=by go_grown):p:=h
theorem ai {p:Prop}(h:p:=by decide):p:=h
theorem ap {p:Prop}(h:p:=by simp;omega):p:=h
theorem aw {p:Prop}(h:p:=by simp only;omega):p:=h
theorem aF {p:Prop}(h:p:=by go_num):p:=h
theorem aK {p:Prop}(h:p:=by simp[intOf];omega):p:=h
theorem aT {p:Prop}(h:p:=by cases h):p:=h
theorem aX {p:Prop}(h:p:=by simp[go_sem]):p:=h
theorem bu {p:Prop}(h:p:=by rfl):p:=h
theorem bH {p:Prop}(h:p:=by simp[World.setCell]):p:=h
theorem cq {p:Prop}(h:p:=by simpa using h):p:=h
theorem cr {p:Prop}(h:p:=by assumption):p:=h
theorem cG {p:Prop}(h:p:=by rw[HKK.out];decide):p:=h
theorem cO {p:Prop}(h:p:=by unfold maxLen;omega):p:=h
theorem dg {p:Prop}(h:p:=by rw[ByteArray.toList_eq];rfl):p:=h
theorem dn {p:Prop}(h:p:=by simpa using hlt):p:=h
theorem dM {p:Prop}(h:p:=by simp only[List.length_set,List.length_cons,List.length_nil];omega):p:=h
theorem gR {p:Prop}(h:p:=by show _=_;simp):p:=h
theorem eP {p:Prop}(h:p:=by simp[results,results59,go_sem]):p:=h
theorem fr {p:Prop}(h:p:=by simpa using hz):p:=h
theorem fK {p:Prop}(h:p:=by decide+kernel):p:=h
theorem fN {p:Prop}(h:p:=by simpa using hi):p:=h
theorem fM {p:Prop}(h:p:=by rintro e w' ⟨rfl,rfl⟩;exact⟨rfl,0,rfl⟩):p:=h
theorem oJ {p:Prop}(h:p:=by rw[HR.out];rfl):p:=h
theorem gx {p:Prop}(h:p:=by rw[World.size_alloc];exact hat):p:=h
theorem gT {p:Prop}(h:p:=by simpa using h1):p:=h
theorem kk {p:Prop}(h:p:=by show _=_;rw[HA.out,HN.out,hp];rfl):p:=h
theorem kq {p:Prop}(h:p:=by rw[kj];exact Nat.le_refl _):p:=h
theorem iJ {p:Prop}(h:p:=by cases ha):p:=h
theorem iG {p:Prop}(h:p:=by simpa using hk):p:=h
theorem ku {p:Prop}(h:p:=by simp[Value.ownBlock]):p:=h
theorem iw {p:Prop}(h:p:=by rw[Below.heap_setCell _ _ _ _ hq,Below.heap_setCell _ _ _ _ hq,Below.heap_setCell _ _ _ _ hq,Below.heap_setCell _ _ _ _ hq,Below.heap_setCell _ _ _ _ hq,Below.heap_setCell _ _ _ _ hq,Below.heap_setCell _ _ _ _ hq]):p:=h
theorem ir {p:Prop}(h:p:=by rw[hk];rfl):p:=h
theorem UP {p:Prop}(h:p:=by rw[HA.out,List.drop_eq_nil_of_le (by omega)];rfl):p:=h
theorem oO {p:Prop}(h:p:=by simpa using h0):p:=h
theorem kr {p:Prop}(h:p:=by simp at hx;subst hx;rfl):p:=h
theorem kl {p:Prop}(h:p:=by simp;have:=hbr1.size;omega):p:=h
theorem kv {p:Prop}(h:p:=by rw[World.size_alloc];have:=HW5.size;omega):p:=h
theorem ki {p:Prop}(h:p:=by simp only;have:=EQB.out;omega):p:=h
theorem kn {p:Prop}(h:p:=by simp[results,results115,go_sem,r0,r1,r2,r3,r4,r5,r6]):p:=h
theorem lG {p:Prop}(h:p:=by simpa using hB):p:=h
theorem oy {p:Prop}(h:p:=by go_size):p:=h
theorem kX {p:Prop}(h:p:=by simpa using h2):p:=h
theorem MP {p:Prop}(h:p:=by rw[HT.out];simp):p:=h
theorem lz {p:Prop}(h:p:=by simpa using hg):p:=h
theorem kQ {p:Prop}(h:p:=by simpa using e):p:=h
theorem lu {p:Prop}(h:p:=by simp only;have:=EQB.out;have:=hbr.size;omega):p:=h
theorem mH {p:Prop}(h:p:=by have:=hb1.size;simp at this;omega):p:=h
theorem mO {p:Prop}(h:p:=by unfold roB roV;rw[hb];rfl):p:=h
theorem mM {p:Prop}(h:p:=by simp at hr):p:=h
theorem mK {p:Prop}(h:p:=by simp[results,results183,go_sem,r0,r1,r2,z2]):p:=h
theorem M9 {p:Prop}(h:p:=by have h:=lY gg ss cp wz;rw[hng.out] at h;exact h):p:=h
theorem UT {p:Prop}(h:p:=by rw[HKK.out];rfl):p:=h
theorem Nl {p:Prop}(h:p:=by simpa using a.1.1):p:=h
theorem Nd {p:Prop}(h:p:=by simpa using a.2.1.1):p:=h
theorem VV {p:Prop}(h:p:=by rw[HKAV.out,it hkax]):p:=h
theorem VW {p:Prop}(h:p:=by have:=K.a1;have:=K.lens;omega):p:=h
theorem Va {p:Prop}(h:p:=by have:=hS.2.1;omega):p:=h
theorem mG {p:Prop}(h:p:=by simp[results,results98,go_sem,d0,d1,d2,d3,d4,d5,d6]):p:=h
theorem oT {p:Prop}(h:p:=by simpa using hn):p:=h
theorem oF {p:Prop}(h:p:=by rw[HY.out];simp_all):p:=h
theorem oD {p:Prop}(h:p:=by first|rfl|(rw[List.length_append];rfl)):p:=h
theorem oC {p:Prop}(h:p:=by intro u hu;rw[List.mem_singleton.1 hu];rfl):p:=h
theorem oX {p:Prop}(h:p:=by rw[Below.heap_setCell _ _ _ _ hb,Below.heap_setCell _ _ _ _ hb,Below.heap_setCell _ _ _ _ hb]):p:=h
theorem MS {p:Prop}(h:p:=by unfold xv;rw[hn]):p:=h
theorem oB {p:Prop}(h:p:=by simp[results,results102,go_sem]):p:=h
theorem Mn {p:Prop}(h:p:=by show _=_;rw[hgg];simp[aA,aZ,HK.out.kx.none,HKK.out]):p:=h
theorem oR {p:Prop}(h:p:=by simp[results,results115,go_sem,r0,r1,r2,r3,r4,r5,r6,noneG]):p:=h
theorem oW {p:Prop}(h:p:=by rw[HK.out.kx.none];decide):p:=h
theorem ox {p:Prop}(h:p:=by have:=HSB.out;omega):p:=h
theorem oS {p:Prop}(h:p:=by simp[go_sem,kP,nu,h0]):p:=h
theorem oL {p:Prop}(h:p:=by simp[go_sem,kP,nu,h1]):p:=h
theorem oG {p:Prop}(h:p:=by simp[go_sem,kP,nu,h2]):p:=h
theorem oP {p:Prop}(h:p:=by simp[go_sem,kP,nu,h3]):p:=h
theorem oU {p:Prop}(h:p:=by simp[go_sem,kP,nu,h4]):p:=h
theorem oV {p:Prop}(h:p:=by simp[go_sem,kP,nu,h5]):p:=h
theorem o9 {p:Prop}(h:p:=by simp[go_sem,hf]):p:=h
theorem Vc {p:Prop}(h:p:=by rw[HRd.out,hho]):p:=h
theorem uP {p:Prop}(h:p:=by rw[hb1.cell (by simp)];simp[go_sem]):p:=h
theorem u9 {p:Prop}(h:p:=by go_grown;exact below_drewN (by go_grown) _):p:=h
theorem uN {p:Prop}(h:p:=by simp at hi;omega):p:=h
theorem uT {p:Prop}(h:p:=by rw[eb];exact congrArg some e.symm):p:=h
theorem uu {p:Prop}(h:p:=by rw[hn];decide):p:=h
theorem uQ {p:Prop}(h:p:=by simp[bp]<;>omega):p:=h
theorem vh {p:Prop}(h:p:=by split<;>omega):p:=h
theorem uC {p:Prop}(h:p:=by simp[nonePic]):p:=h
theorem ut {p:Prop}(h:p:=by have:=HL.out;omega):p:=h
theorem uI {p:Prop}(h:p:=by have:=HF.out;omega):p:=h
theorem uv {p:Prop}(h:p:=by simpa[World.setCell] using z4):p:=h
theorem uB {p:Prop}(h:p:=by simp[results,results164,go_sem,r0,r1,r2,r3,r4,r5,r6]):p:=h
theorem uD {p:Prop}(h:p:=by unfold maxLen;have:=LL.out;omega):p:=h
theorem uU {p:Prop}(h:p:=by have:=LL.out;omega):p:=h
theorem uM {p:Prop}(h:p:=by simpa[World.setCell] using z7):p:=h
theorem MB {p:Prop}(h:p:=by first|exact HB.out.size|(simp;omega)|omega):p:=h
theorem uW {p:Prop}(h:p:=by have:=B2.size;omega):p:=h
theorem uS {p:Prop}(h:p:=by rw[<-EX] at hkx;simpa[aV,roG] using hkx):p:=h
theorem uw {p:Prop}(h:p:=by have h:=hktx;rw[EPV.out] at h;simpa[aV,roG] using h):p:=h
theorem ur {p:Prop}(h:p:=by rw[hng.out];decide):p:=h
theorem uX {p:Prop}(h:p:=by simp only[List.length_set];exact OS):p:=h
theorem uR {p:Prop}(h:p:=by show _=_;simp[hgg,dm]):p:=h
theorem uL {p:Prop}(h:p:=by rw[IntKind.wrap_i64];omega):p:=h
theorem Ve {p:Prop}(h:p:=by show _=_;rw[<-hal,So]):p:=h
theorem VJ {p:Prop}(h:p:=by show _=_;rw[HC.out,ek,List.take_length]):p:=h
theorem vg {p:Prop}(h:p:=by rw[HWr.out];rfl):p:=h
theorem ux {p:Prop}(h:p:=by simp[results,results115,go_sem,Go.Proofs.YtmapdpcfanecdabGreatDoor.iX,r0,r1,r2,r3,r4,r5,r6]):p:=h
theorem uZ {p:Prop}(h:p:=by show _=_;unfold bZ;simp only[e1,e2];simp;try omega):p:=h
theorem uE {p:Prop}(h:p:=by rw[hch b (by omega)];exact M2.2 b hb hne):p:=h
theorem uK {p:Prop}(h:p:=by simp[results,results15,go_sem]):p:=h
theorem uJ {p:Prop}(h:p:=by simp[fO]):p:=h
theorem uG {p:Prop}(h:p:=by have:=lO hown5 e.symm;omega):p:=h
theorem u7 {p:Prop}(h:p:=by simp[World.cell?,rb]):p:=h
theorem Eh {p:Prop}(h:p:=by rw[hbr.cell (by simp)];simp[go_sem]):p:=h
theorem Do {p:Prop}(h:p:=by simpa[World.setCell] using h6):p:=h
theorem DS {p:Prop}(h:p:=by rw[World.frozen?_setCell];exact h7 j):p:=h
theorem Vj {p:Prop}(h:p:=by rw[hbr.cell (by simpa using hb)];exact hc k hlt):p:=h
theorem Dq {p:Prop}(h:p:=by simp[results,results172,go_sem,r0,r1,r2]):p:=h
theorem M0 {p:Prop}(h:p:=by rw[Below.heap_setCell _ _ _ _ hq,Below.heap_setCell _ _ _ _ hq,Below.heap_setCell _ _ _ _ hq]):p:=h
theorem DV {p:Prop}(h:p:=by show _=_;rw[List.map_append,HL.out,List.replicate_succ'];rfl):p:=h
theorem Du {p:Prop}(h:p:=by rw[HNN.out];exact Nat.le_refl _):p:=h
theorem Ei {p:Prop}(h:p:=by rw[World.size_alloc];have:=HW7.size;omega):p:=h
theorem DQ {p:Prop}(h:p:=by rw[K.hi];unfold bL;simp[List.getD,hm]):p:=h
theorem MF {p:Prop}(h:p:=by have h:=sL i.k wx;rw[hnA] at h;exact h):p:=h
theorem Nj {p:Prop}(h:p:=by have h:=mk i.k wx;rw[hnB] at h;exact h):p:=h
theorem VB {p:Prop}(h:p:=by show _=_;rw[World.size_alloc,HZ1.out]):p:=h
theorem Dv {p:Prop}(h:p:=by show _=_;simp[aA,HK.out.kx.none,HKK.out]):p:=h
theorem DO {p:Prop}(h:p:=by rw[World.size_alloc];have:=HD.size;omega):p:=h
theorem DD {p:Prop}(h:p:=by show _=_;rw[<-Hy.out,<-HA.out];simp):p:=h
theorem Ef {p:Prop}(h:p:=by rw[if_pos rfl,oK (by omega) hn]):p:=h
theorem Eb {p:Prop}(h:p:=by rw[oK (by omega) hn];rfl):p:=h
theorem Ec {p:Prop}(h:p:=by have:=R5.ln;have:=R5.xs.len;omega):p:=h
theorem Dl {p:Prop}(h:p:=by have:=HLEN.out.1;omega):p:=h
theorem Dm {p:Prop}(h:p:=by(intro w _;go_simp;first|done|omega)):p:=h
theorem DA {p:Prop}(h:p:=by have:=hb3.size;simp at this;omega):p:=h
theorem DP {p:Prop}(h:p:=by simp[results,results174,go_sem,e0,e1,e2]):p:=h
theorem Dt {p:Prop}(h:p:=by have:=lO hown5 hj;omega):p:=h
theorem DX {p:Prop}(h:p:=by simp[cR,Value.oneCell']):p:=h
theorem Dg {p:Prop}(h:p:=by simp[results,results25,go_sem]):p:=h
theorem DH {p:Prop}(h:p:=by rw[List.length_drop,ci];exact Nat.le_refl _):p:=h
theorem Dp {p:Prop}(h:p:=by show _=_;rw[HNX.out,HX.out];rfl):p:=h
theorem Mw {p:Prop}(h:p:=by have:=HR.out;rw[List.drop_eq_nil_of_le (by omega)] at this;exact this):p:=h
theorem MA {p:Prop}(h:p:=by first|exact hb1|exact HB.trans (hb1.mono HB.size)):p:=h
theorem ML {p:Prop}(h:p:=by rw[hb.cell (World.block_lt_of_cell? w _ hm)];exact hm):p:=h
theorem My {p:Prop}(h:p:=by show s.data.toList.length=s.data.size;exact Array.length_toList):p:=h
theorem Nk {p:Prop}(h:p:=by rw[World.cell?_setCell_other _ _ _ _ (by intro e;cases e)];exact h0):p:=h
theorem Mq {p:Prop}(h:p:=by rw[World.cell?_setCell_other _ _ _ _ (by intro e;cases e)];exact h2):p:=h
theorem Mj {p:Prop}(h:p:=by rw[World.cell?_setCell_other _ _ _ _ (by intro e;cases e)];exact h1):p:=h
theorem Nh {p:Prop}(h:p:=by simp[results,results202,go_sem,r0,r1,r2,dh]):p:=h
theorem Mo {p:Prop}(h:p:=by rw[HR.out];first|(simp;done)|(simp;omega)):p:=h
theorem MD {p:Prop}(h:p:=by have h:=HE.out;rwa [List.take_of_length_le (by omega),List.take_of_length_le (by have:=HL.out;omega)] at h):p:=h
theorem Mp {p:Prop}(h:p:=by show JnAt _ _ _ _ _ _ _ _ _;rw[HWD.out];have h:=HYE.out;(try simp only[Int.ofNat_le] at h |-);rw[<-h];exact⟨A9,J9,JC1,JC2,B9⟩):p:=h
theorem MQ {p:Prop}(h:p:=by show _=_;have:=congrArg List.length HL.out;simpa using this):p:=h
theorem MN {p:Prop}(h:p:=by simp[results,results114,go_sem,r0,r1,r2,r3,r4,r5,r6]):p:=h
theorem Ns {p:Prop}(h:p:=by first|exact A7.same (e7 _ (by omega)) s7|(simpa using A7.same (e7 _ (by omega)) s7)):p:=h
theorem Mz {p:Prop}(h:p:=by first|exact C7.same (e7 _ (by omega)) s7|(simpa using C7.same (e7 _ (by omega)) s7)):p:=h
theorem MG {p:Prop}(h:p:=by first|exact S7.old (λb hb=>e7 b (by omega)) s7|(simpa using S7.old (λb hb=>e7 b (by omega)) s7)):p:=h
theorem V2 {p:Prop}(h:p:=by rw[hwo.cell (by simp only;exact zp1)];exact C1):p:=h
theorem Nm {p:Prop}(h:p:=by have:=a3 _ (List.getElem_mem h);have:=b3 _ (List.getElem_mem h');omega):p:=h
theorem Md {p:Prop}(h:p:=by first|exact U7.put2 _|(rw[List.length_append];exact U7.put2 _)):p:=h
theorem MI {p:Prop}(h:p:=by simp[results,results164,go_sem,r0,r1,r2,r3,r4,r5,r6,bG]):p:=h
theorem Mh {p:Prop}(h:p:=by show _=_;rw[Hal.out,Hlt.out,decide_eq_true (p:=x1≠x2) hne];simp):p:=h
theorem Vh {p:Prop}(h:p:=by simpa using(GuAt.put7 a.2.2.2.2.1 (by have:=a.2.2.2.2.2.2.2;omega)).1):p:=h
theorem Mx {p:Prop}(h:p:=by have h:=HKK.out;unfold nTo btw;simp;omega):p:=h
theorem Ms {p:Prop}(h:p:=by have:=GAI.2.1;have:=GAI.2.2;unfold maxLen at *;omega):p:=h
theorem Na {p:Prop}(h:p:=by show _=_;unfold bN;rw[<-hfn,<-hft,<-hff,<-hfp];cases fn<;>cases ft<;>cases ff<;>cases fp<;>rfl):p:=h
theorem Ml {p:Prop}(h:p:=by cases fn<;>cases ft<;>(have dv4:=hv4.out;simp at dv4;subst dv4;rfl)):p:=h
theorem Nc {p:Prop}(h:p:=by cases fn<;>cases ft<;>cases ff<;>(have dv8:=hv8.out;simp at dv8;subst dv8;rfl)):p:=h
theorem Ng {p:Prop}(h:p:=by cases fn<;>cases ft<;>cases ff<;>cases fp<;>(have dv14:=hv14.out;simp at dv14;subst dv14;rfl)):p:=h
theorem Mf {p:Prop}(h:p:=by rw[show (⟨fg,none,0⟩:Gc).g.s=[] from hfs];exact Nat.le_refl _):p:=h
theorem VS {p:Prop}(h:p:=by have h:=vR x.vq[ka] sska gcka wx;rw[HY.out,HN.out] at h;exact h):p:=h
theorem No {p:Prop}(h:p:=by have:=HSB.out;have:=HZ1.out;simp only;omega):p:=h
theorem Mg {p:Prop}(h:p:=by unfold aU;rw[if_pos h0];unfold cV;rw[if_pos hx0];unfold cV;rw[if_pos hy0];rfl):p:=h
theorem Ni {p:Prop}(h:p:=by rw[ex];exact HXO.out.ck _ (List.getElem_mem hxl)):p:=h
theorem Nu {p:Prop}(h:p:=by show _=_;rw[HA.out,HN.out,<-HD.out,hp];rfl):p:=h
theorem MK {p:Prop}(h:p:=by simp[results,results175,go_sem,lP,ke,dD,r0,r1,r2,r3,r4,r5]):p:=h
theorem Nr {p:Prop}(h:p:=by rw[hb4.block j (by omega)];exact hsame j hj' (by omega)):p:=h
theorem MC {p:Prop}(h:p:=by rw[hb5.block j (by have:=hb4.size;omega),hb4.block j hj]):p:=h
theorem Nn {p:Prop}(h:p:=by simp[results,results60,go_sem,e0,e1,e2,ez,Nat.ne_of_lt ez]):p:=h
theorem V6 {p:Prop}(h:p:=by have:=tm hq;exact⟨by omega,by omega⟩):p:=h
theorem Mm {p:Prop}(h:p:=by have:=hU (c:=c) (L:=aI V F c m) (k:=c.length);omega):p:=h
theorem MZ {p:Prop}(h:p:=by rw[beq_eq_false_iff_ne];intro e;rw[e] at hb;revert hb;decide):p:=h
theorem Mi {p:Prop}(h:p:=by simp[results,results67,go_sem,ke,dD,r0,r1,r2,r3,r4,r5]):p:=h
theorem pW {p:Prop}(h:p:=by exact(show btw V 1 8=true from wG hV hV')):p:=h
theorem rB {p:Prop}(h:p:=by exact(show btw F 0 3=true from wG hF hF')):p:=h
theorem bA {p:Prop}(h:p:=by exact(show (0:Int)<=(k:Int) from aa)):p:=h
theorem gF {p:Prop}(h:p:=by exact(show (k:Int) < (c.length:Int) from aa)):p:=h
theorem wS {p:Prop}(h:p:=by exact(show∀e,(Instr.checkKey e 10000 kt (.int .i64 k)).run P w=.ok () w from λe=>MapKept.run_checkKey (k:=.int .i64 k) hk rfl e 9999)):p:=h
theorem sx {p:Prop}(h:p:=by exact(show¬b=c from λe=>h (by simp[e]))):p:=h
theorem KW {p:Prop}(h:p:=by exact(show ([c]:List UInt8).isPrefixOf (b::l)=false from by simp[List.isPrefixOf,Ne.symm hb])):p:=h
theorem yQ {p:Prop}(h:p:=by exact(show decide (bk hi)=true from by simpa using h')):p:=h
theorem FY {p:Prop}(h:p:=by exact(show Below w.heap.size w (w.alloc (.cells #[.bool n,.int .i64 lo,.int .i64 hi] 89)) from am)):p:=h
theorem yM {p:Prop}(h:p:=by exact(show∀j,w'.cell? ⟨b,j,none⟩=w.cell? ⟨b,j,none⟩ from λj=>World.cell?_of_block (a:=⟨b,j,none⟩) hb)):p:=h
theorem Kc {p:Prop}(h:p:=by exact(show∀j,w'.frozen? ⟨b,j,none⟩=w.frozen? ⟨b,j,none⟩ from λj=>World.frozen?_of_block (a:=⟨b,j,none⟩) hb)):p:=h
theorem Km {p:Prop}(h:p:=by exact(show w.ownsRow B 91 7 (.slice (some ⟨b,0,none⟩) r.l.length r.rc) r.l.length (aS r.l) from by rw[<-hb];exact h)):p:=h
theorem An {p:Prop}(h:p:=by exact(show k < x.fq.length from by simpa[Go.Proofs.YtmapdpcfanecdabGreatDoor.tt] using h)):p:=h
theorem ID {p:Prop}(h:p:=by exact(show q∈(x.fq.modify s.toNat λr=>r.set n.toNat g)[k]'(by simpa using h') from hq)):p:=h
theorem yI {p:Prop}(h:p:=by exact(show k < x.fq.length from by simpa[Go.Proofs.YtmapdpcfanecdabGreatDoor.gQ] using h)):p:=h
theorem Ku {p:Prop}(h:p:=by exact(show q∈(x.fq.modify at_.toNat λr=>r.map λg=>{g with n:=true})[k]'(by simpa using h') from hq)):p:=h
theorem mZ {p:Prop}(h:p:=by exact(show (k:Int) < (l.length:Int) from aa)):p:=h
theorem FV {p:Prop}(h:p:=by exact(show Hid (x∈l.drop k↔(x=l[k]\/x∈l.drop (k+1))) from RL l x k hlt)):p:=h
theorem Gj {p:Prop}(h:p:=by exact(show Hid (x∈l↔x∈l.drop (k+1)) from HA.out.trans (HN.out.trans ⟨λh=>h.resolve_left λe=>hp e.symm,.inr⟩))):p:=h
theorem yl {p:Prop}(h:p:=by exact(show wr.cell? ⟨b,off+k,none⟩=some (.int .i64 l[k]) from Vj)):p:=h
theorem wV {p:Prop}(h:p:=by exact(show Hid ((l.drop k).any p=(p l[k]||(l.drop (k+1)).any p)) from DZ l p k hlt)):p:=h
theorem yD {p:Prop}(h:p:=by exact(show Hid (l.any p=(l.drop (k+1)).any p) from kk)):p:=h
theorem gk {p:Prop}(h:p:=by exact(P0.call hb1)):p:=h
theorem mS {p:Prop}(h:p:=by exact(PrAt.new w V F s c cap)):p:=h
theorem ic {p:Prop}(h:p:=by exact(show Below w.heap.size w (w.alloc (.cells #[.int .i64 V,.int .i64 F,.slice s c.length cap] 24)) from am)):p:=h
theorem gC {p:Prop}(h:p:=by exact(show (k:Int) < (L.length:Int) from aa)):p:=h
theorem Hk {p:Prop}(h:p:=by exact(IR.alloc (.cells #[.bool L[k].n,.bool L[k].sp.n,.int .i64 L[k].sp.lo,.int .i64 L[k].sp.hi,.bool L[k].t,.bool L[k].f,.slice ss L[k].s.length gc] 91))):p:=h
theorem rS {p:Prop}(h:p:=by exact(show (au V F c !=0)=true from oO)):p:=h
theorem fw {p:Prop}(h:p:=by exact(show bl w w1 from(Tq ⟨n,lo,hi⟩ ⟨n',lo',hi'⟩ dh w).trans (hb1.mono ap))):p:=h
theorem sM {p:Prop}(h:p:=by exact(show bl w w2 from H1.trans (hb2.mono aa))):p:=h
theorem Gr {p:Prop}(h:p:=by exact(show Below w.heap.size w ((w.alloc (.cells #[.bool n,.int .i64 lo,.int .i64 hi] 89)).alloc (.cells #[.bool n',.int .i64 lo',.int .i64 hi'] 89)) from am)):p:=h
theorem Kp {p:Prop}(h:p:=by exact(show (⟨w.heap.size,0,none⟩:Addr).add j=⟨w.heap.size,j,none⟩ from by unfold Addr.add;split<;>simp_all)):p:=h
theorem Hj {p:Prop}(h:p:=by exact(show bl W w5 from(hbr.alloc hbr.size _).trans (hb5.mono (by simp;have:=hbr.size;omega)))):p:=h
theorem Hq {p:Prop}(h:p:=by exact(show Hid (cd g=((!g.sp.n&& !decide (g.sp.lo=0/\g.sp.hi=0))||(g.t||decide (0 < g.s.length)))) from rfl)):p:=h
theorem p7 {p:Prop}(h:p:=by exact(show (0:Int) < (s.length:Int) from by omega)):p:=h
theorem yO {p:Prop}(h:p:=by exact(show¬(0:Int) < (s.length:Int) from by omega)):p:=h
theorem KQ {p:Prop}(h:p:=by exact(show Hid ((L.drop k).any p=(p L[k]||(L.drop (k+1)).any p)) from DN L p k hlt)):p:=h
theorem yZ {p:Prop}(h:p:=by exact(show ((s.length:Int)==0)=true from by simp only[beq_iff_eq];omega)):p:=h
theorem yi {p:Prop}(h:p:=by exact(show ((s.length:Int)==0)=false from by simp only[beq_eq_false_iff_ne];omega)):p:=h
theorem sy {p:Prop}(h:p:=by exact(show Below w.heap.size w ((w.alloc (.cells #[.bool g.n,.bool g.sp.n,.int .i64 g.sp.lo,.int .i64 g.sp.hi,.bool g.t,.bool g.f,.slice ss g.s.length gc] 91)).alloc (.cells #[.bool h.n,.bool h.sp.n,.int .i64 h.sp.lo,.int .i64 h.sp.hi,.bool h.t,.bool h.f,.slice st h.s.length hc] 91)) from am)):p:=h
theorem yh {p:Prop}(h:p:=by exact((GuAt.new w g ss gc).alloc (.cells #[.bool h.n,.bool h.sp.n,.int .i64 h.sp.lo,.int .i64 h.sp.hi,.bool h.t,.bool h.f,.slice st h.s.length hc] 91))):p:=h
theorem yq {p:Prop}(h:p:=by exact(GuAt.new (w.alloc (.cells #[.bool g.n,.bool g.sp.n,.int .i64 g.sp.lo,.int .i64 g.sp.hi,.bool g.t,.bool g.f,.slice ss g.s.length gc] 91)) h st hc)):p:=h
theorem gO {p:Prop}(h:p:=by exact(B0.trans (hb1.mono B0.size))):p:=h
theorem gH {p:Prop}(h:p:=by exact(B1.trans (hb2.mono B1.size))):p:=h
theorem yK {p:Prop}(h:p:=by exact(show¬((0:Int) < (s.length:Int)) from aa)):p:=h
theorem pL {p:Prop}(h:p:=by exact(show (W.alloc O).heap.size=W.heap.size+1 from World.size_alloc _ _)):p:=h
theorem Hw {p:Prop}(h:p:=by exact(show bl w W4 from(n5.alloc aa O).grown hgrow aa (λk hk=>by cases hk;omega))):p:=h
theorem cC {p:Prop}(h:p:=by exact(ag hx)):p:=h
theorem lw {p:Prop}(h:p:=by exact(show¬(k:Int) < (c.length:Int) from by omega)):p:=h
theorem iS {p:Prop}(h:p:=by exact(show k=c.length from aa)):p:=h
theorem Gk {p:Prop}(h:p:=by exact(HN.out.pr.kept (World.grownBy_alloc wr (.cells #[.bool true,.slice none 0 0,.slice none 0 0] 28) none) (.inr ku))):p:=h
theorem dk {p:Prop}(h:p:=by exact(show (0:Int)<=(k:Int) from by omega)):p:=h
theorem Ai {p:Prop}(h:p:=by exact(show¬(k:Int) < (a.length:Int) from by omega)):p:=h
theorem IF {p:Prop}(h:p:=by exact(show ((a.length:Int)!=(b.length:Int))=true from by simpa using λh=>hl aa)):p:=h
theorem dB {p:Prop}(h:p:=by exact(show bl wr wr.drew from(Below.refl _ _).drew)):p:=h
theorem nw {p:Prop}(h:p:=by exact(show bl wr w5 from HD.trans (hb5.mono HD.size))):p:=h
theorem ny {p:Prop}(h:p:=by exact(hb0.trans (hb1.mono hb0.size))):p:=h
theorem KY {p:Prop}(h:p:=by exact(show Cells (((w8.setCell ⟨yb,0,none⟩ (.bool Y.none)).setCell ⟨yb,1,none⟩ (.slice js Y.vq.length jc)).setCell ⟨yb,2,none⟩ (.slice ks Y.fq.length kc)) yb [.bool Y.none,.slice js Y.vq.length jc,.slice ks Y.fq.length kc] from((A8.put 0 ah _).put 1 ah _).put 2 ah _)):p:=h
theorem GM {p:Prop}(h:p:=by exact(show bl wr (((w8.setCell ⟨yb,0,none⟩ (.bool Y.none)).setCell ⟨yb,1,none⟩ (.slice js Y.vq.length jc)).setCell ⟨yb,2,none⟩ (.slice ks Y.fq.length kc)) from((B8.setCell zyb _).setCell zyb _).setCell zyb _)):p:=h
theorem KD {p:Prop}(h:p:=by exact(show∀q,q≠yb->(((w8.setCell ⟨yb,0,none⟩ (.bool Y.none)).setCell ⟨yb,1,none⟩ (.slice js Y.vq.length jc)).setCell ⟨yb,2,none⟩ (.slice ks Y.fq.length kc)).heap[q]? =w8.heap[q]? from λq hq=>M0)):p:=h
theorem Ir {p:Prop}(h:p:=by exact(show w8.heap.size<=(((w8.setCell ⟨yb,0,none⟩ (.bool Y.none)).setCell ⟨yb,1,none⟩ (.slice js Y.vq.length jc)).setCell ⟨yb,2,none⟩ (.slice ks Y.fq.length kc)).heap.size from bH)):p:=h
theorem KF {p:Prop}(h:p:=by exact(show PicOn (λb=>b≠g) (((w8.setCell ⟨yb,0,none⟩ (.bool Y.none)).setCell ⟨yb,1,none⟩ (.slice js Y.vq.length jc)).setCell ⟨yb,2,none⟩ (.slice ks Y.fq.length kc)) Y js ks from(J8.same (λb hb _=>hch b hb.2) hcz).mono λb hb _=>hb.1.1)):p:=h
theorem sD {p:Prop}(h:p:=by exact(show (k:Int) < (c.length:Int)+1 from aa)):p:=h
theorem kg {p:Prop}(h:p:=by exact(show (0:Int)<=(q:Int) from aa)):p:=h
theorem Hz {p:Prop}(h:p:=by exact(show bM (v:Int) (f:Int) c=⟨false,List.replicate v dm,List.replicate c.length (List.replicate f noneG)⟩ from by simp[bM])):p:=h
theorem pX {p:Prop}(h:p:=by exact(show Hid (∀wx,Calls Tryz.prog 111 #[] wx λe w'=>e=.returned (.agg #[.bool false,.bool true,.int .i64 0,.int .i64 0,.bool false,.bool false,.slice none 0 0])/\bl wx w') from λwx=>fD wx)):p:=h
theorem He {p:Prop}(h:p:=by exact(show Below w2.heap.size w2 (w2.alloc (.cells #[.bool true,.bool true,.int .i64 0,.int .i64 0,.bool false,.bool false,.slice none 0 0] 91)) from am)):p:=h
theorem sj {p:Prop}(h:p:=by exact(hb2.trans (hb3.mono hb2.size))):p:=h
theorem y9 {p:Prop}(h:p:=by exact(show N<=wr.heap.size from Nat.le_trans zr hbo.size)):p:=h
theorem G8 {p:Prop}(h:p:=by exact(show Below N w9 w10 from((Below.refl _ w9).alloc z9 _).grown hgrow ap (λk hk=>(aR F10.1 hk).2))):p:=h
theorem Ao {p:Prop}(h:p:=by exact(show N<=w10.heap.size from Nat.le_trans z9 hb10.size)):p:=h
theorem KN {p:Prop}(h:p:=by exact(show∀wx,GuAt wx (w.heap.size+1) 0 g ss gc->GuAt wx (w.heap.size+1+1) 0 h st hc->SpAt wx jb J->Ea w jb g ss gc h st hc J wx from λwx a b c=>⟨by simpa using a.1,by simpa using b.1,c.1⟩)):p:=h
theorem eT {p:Prop}(h:p:=by exact((G0.alloc _).call hb1)):p:=h
theorem fE {p:Prop}(h:p:=by exact((H0.alloc _).call hb1)):p:=h
theorem gD {p:Prop}(h:p:=by exact((R0.alloc _).call hb1)):p:=h
theorem gG {p:Prop}(h:p:=by exact(show Fr7 w1 (w.heap.size+1+1+1) from(F0.alloc _).call hb1)):p:=h
theorem eX {p:Prop}(h:p:=by exact(show bl w w1 from(B0.alloc B0.size _).trans (hb1.mono ap))):p:=h
theorem KO {p:Prop}(h:p:=by exact(G3.alloc (.cells #[.bool g.n,.bool g.sp.n,.int .i64 g.sp.lo,.int .i64 g.sp.hi,.bool g.t,.bool g.f,.slice ss g.s.length gc,.bool h.n,.bool h.sp.n,.int .i64 h.sp.lo,.int .i64 h.sp.hi,.bool h.t,.bool h.f,.slice st h.s.length hc] 91))):p:=h
theorem Kw {p:Prop}(h:p:=by exact(H3.alloc (.cells #[.bool g.n,.bool g.sp.n,.int .i64 g.sp.lo,.int .i64 g.sp.hi,.bool g.t,.bool g.f,.slice ss g.s.length gc,.bool h.n,.bool h.sp.n,.int .i64 h.sp.lo,.int .i64 h.sp.hi,.bool h.t,.bool h.f,.slice st h.s.length hc] 91))):p:=h
theorem Kf {p:Prop}(h:p:=by exact(R3.alloc (.cells #[.bool g.n,.bool g.sp.n,.int .i64 g.sp.lo,.int .i64 g.sp.hi,.bool g.t,.bool g.f,.slice ss g.s.length gc,.bool h.n,.bool h.sp.n,.int .i64 h.sp.lo,.int .i64 h.sp.hi,.bool h.t,.bool h.f,.slice st h.s.length hc] 91))):p:=h
theorem Ha {p:Prop}(h:p:=by exact(F3.alloc (.cells #[.bool g.n,.bool g.sp.n,.int .i64 g.sp.lo,.int .i64 g.sp.hi,.bool g.t,.bool g.f,.slice ss g.s.length gc,.bool h.n,.bool h.sp.n,.int .i64 h.sp.lo,.int .i64 h.sp.hi,.bool h.t,.bool h.f,.slice st h.s.length hc] 91))):p:=h
theorem dQ {p:Prop}(h:p:=by exact(NE w V F s c cap g ss gc h st hc)):p:=h
theorem dW {p:Prop}(h:p:=by exact(show CodeAt (nE w V F s c cap g ss gc h st hc) s c from hcd.below B0 (Nat.le_refl _))):p:=h
theorem d7 {p:Prop}(h:p:=by exact(show IntsAt (nE w V F s c cap g ss gc h st hc) ss g.s from hs.below B0 (Nat.le_refl _))):p:=h
theorem dV {p:Prop}(h:p:=by exact(show IntsAt (nE w V F s c cap g ss gc h st hc) st h.s from ht.below B0 (Nat.le_refl _))):p:=h
theorem fB {p:Prop}(h:p:=by exact(GsAt.new2 (nE w V F s c cap g ss gc h st hc) g ss gc h st hc I0 h1 h2 J0 h3 h4)):p:=h
theorem gh {p:Prop}(h:p:=by exact((I0.alloc _).call hb1)):p:=h
theorem gd {p:Prop}(h:p:=by exact((J0.alloc _).call hb1)):p:=h
theorem GT {p:Prop}(h:p:=by exact(show IntsAt (Ee w V F s c cap g ss gc h st hc) ss g.s from hs.below B0 (Nat.le_refl _))):p:=h
theorem Ho {p:Prop}(h:p:=by exact(show IntsAt (Ee w V F s c cap g ss gc h st hc) st h.s from ht.below B0 (Nat.le_refl _))):p:=h
theorem Kj {p:Prop}(h:p:=by exact(GsAt.new2 (Ee w V F s c cap g ss gc h st hc) g ss gc h st hc I0 h1 h2 J0 h3 h4)):p:=h
theorem Hi {p:Prop}(h:p:=by exact(ag (eR V F s c cap (some ⟨w.heap.size+1+1+1,0,none⟩) [g,h] 2 _ ((hcd.below B0 (Nat.le_refl _)).alloc _) L0 ah))):p:=h
theorem IL {p:Prop}(h:p:=by exact(G0.alloc (.cells #[.bool false,.bool false,.int .i64 0,.int .i64 0,.bool false,.bool false,.slice none 0 0] 91))):p:=h
theorem Ht {p:Prop}(h:p:=by exact(H0.alloc (.cells #[.bool false,.bool false,.int .i64 0,.int .i64 0,.bool false,.bool false,.slice none 0 0] 91))):p:=h
theorem Hr {p:Prop}(h:p:=by exact(B0.alloc B0.size (.cells #[.bool false,.bool false,.int .i64 0,.int .i64 0,.bool false,.bool false,.slice none 0 0] 91))):p:=h
theorem Gn {p:Prop}(h:p:=by exact(show Fr7 (((w.alloc (.cells #[.bool g.n,.bool g.sp.n,.int .i64 g.sp.lo,.int .i64 g.sp.hi,.bool g.t,.bool g.f,.slice ss g.s.length gc] 91)).alloc (.cells #[.bool h.n,.bool h.sp.n,.int .i64 h.sp.lo,.int .i64 h.sp.hi,.bool h.t,.bool h.f,.slice st h.s.length hc] 91)).alloc (.cells #[.bool false,.bool false,.int .i64 0,.int .i64 0,.bool false,.bool false,.slice none 0 0] 91)) (w.heap.size+1+1) from⟨λj=>aX,ah⟩)):p:=h
theorem ij {p:Prop}(h:p:=by exact(congrArg List.length HL.out)):p:=h
theorem pk {p:Prop}(h:p:=by exact(LR.trans (HB7.mono aa))):p:=h
theorem sk {p:Prop}(h:p:=by exact(show (0:Int)<=(k2:Int) from by omega)):p:=h
theorem KB {p:Prop}(h:p:=by exact(show wr.cell? ⟨p1,q1+k2,none⟩=some (.slice r1 fx[k2].length rc1) from V2)):p:=h
theorem lB {p:Prop}(h:p:=by exact(show bl w w.drew from(Below.refl _ _).drew)):p:=h
theorem rv {p:Prop}(h:p:=by exact(B1.trans (hb2.mono (B1.size)))):p:=h
theorem cS {p:Prop}(h:p:=by exact(show m < c.length from aa)):p:=h
theorem rt {p:Prop}(h:p:=by exact(show xv x vs vc fs fc=.agg #[.bool false,.slice vs x.vq.length vc,.slice fs x.fq.length fc] from MS)):p:=h
theorem Aj {p:Prop}(h:p:=by exact(show Below w.heap.size w ((w.alloc (.cells #[.int .i64 V,.int .i64 F,.slice s c.length cap] 24)).alloc (.cells #[.bool false,.slice vs x.vq.length vc,.slice fs x.fq.length fc] 28)) from am)):p:=h
theorem yt {p:Prop}(h:p:=by exact(show Cells ((w.alloc (.cells #[.int .i64 V,.int .i64 F,.slice s c.length cap] 24)).alloc (.cells #[.bool false,.slice vs x.vq.length vc,.slice fs x.fq.length fc] 28)) w.heap.size [.int .i64 V,.int .i64 F,.slice s c.length cap] from(Cells.new w 24 [.int .i64 V,.int .i64 F,.slice s c.length cap]).call am)):p:=h
theorem wR {p:Prop}(h:p:=by exact(show Hid (((w.alloc (.cells #[.int .i64 V,.int .i64 F,.slice s c.length cap] 24)).alloc (.cells #[.bool false,.slice vs x.vq.length vc,.slice fs x.fq.length fc] 28)).heap.size=w.heap.size+1+1) from gR)):p:=h
theorem gj {p:Prop}(h:p:=by exact(show (0:Int)<=(m:Int) from aa)):p:=h
theorem rP {p:Prop}(h:p:=by exact(show (m:Int) < (c.length:Int) from aa)):p:=h
theorem Gd {p:Prop}(h:p:=by exact(show Hid (∀wx,Calls Tryz.prog 108 #[.int .i64 i.k] wx λe w'=>e=.returned (.bool false)/\w'=wx) from λwx=>Nj)):p:=h
theorem c7 {p:Prop}(h:p:=by exact(show (m:Int)<=60 from aa)):p:=h
theorem wQ {p:Prop}(h:p:=by exact(show Below w1.heap.size w1 (w1.alloc (.cells #[.int .i64 i.k,.int .i64 i.tgt,.int .i64 i.a,.int .i64 i.b,.int .i64 i.n,.int .i64 i.g] 100)) from am)):p:=h
theorem yJ {p:Prop}(h:p:=by exact(show Cells (w1.alloc (.cells #[.int .i64 i.k,.int .i64 i.tgt,.int .i64 i.a,.int .i64 i.b,.int .i64 i.n,.int .i64 i.g] 100)) w1.heap.size [.int .i64 i.k,.int .i64 i.tgt,.int .i64 i.a,.int .i64 i.b,.int .i64 i.n,.int .i64 i.g] from Cells.new w1 100 [.int .i64 i.k,.int .i64 i.tgt,.int .i64 i.a,.int .i64 i.b,.int .i64 i.n,.int .i64 i.g])):p:=h
theorem Ad {p:Prop}(h:p:=by exact(show Hid ((w1.alloc (.cells #[.int .i64 i.k,.int .i64 i.tgt,.int .i64 i.a,.int .i64 i.b,.int .i64 i.n,.int .i64 i.g] 100)).heap.size=w.heap.size+1+1+1) from VB)):p:=h
theorem lE {p:Prop}(h:p:=by exact(hb1.trans (hb2.mono hb1.size))):p:=h
theorem yG {p:Prop}(h:p:=by exact(show Below w3.heap.size w3 (w3.alloc (.cells #[.bool false,.slice v.rs v.l.length v.rc,.slice gs L.length gc] 28)) from am)):p:=h
theorem yC {p:Prop}(h:p:=by exact(show Cells (w3.alloc (.cells #[.bool false,.slice v.rs v.l.length v.rc,.slice gs L.length gc] 28)) w3.heap.size [.bool false,.slice v.rs v.l.length v.rc,.slice gs L.length gc] from Cells.new w3 28 [.bool false,.slice v.rs v.l.length v.rc,.slice gs L.length gc])):p:=h
theorem wP {p:Prop}(h:p:=by exact(show Hid ((w3.alloc (.cells #[.bool false,.slice v.rs v.l.length v.rc,.slice gs L.length gc] 28)).heap.size=w3.heap.size+1) from gR)):p:=h
theorem Ab {p:Prop}(h:p:=by exact(show Below w4.heap.size w4 (w4.alloc (.cells #[.int .i64 ((m:Int)+1),.bool false,.slice v.rs v.l.length v.rc,.slice gs L.length gc] 45)) from am)):p:=h
theorem wW {p:Prop}(h:p:=by exact(show Cells (w4.alloc (.cells #[.int .i64 ((m:Int)+1),.bool false,.slice v.rs v.l.length v.rc,.slice gs L.length gc] 45)) w4.heap.size [.int .i64 ((m:Int)+1),.bool false,.slice v.rs v.l.length v.rc,.slice gs L.length gc] from Cells.new w4 45 [.int .i64 ((m:Int)+1),.bool false,.slice v.rs v.l.length v.rc,.slice gs L.length gc])):p:=h
theorem wM {p:Prop}(h:p:=by exact(show Below w7.heap.size w7 ((w7.alloc (.cells #[.bool false,.bool true,.int .i64 0,.int .i64 0,.bool false,.bool false,.slice none 0 0] 91)).alloc (.cells #[.bool false,.bool true,.int .i64 0,.int .i64 0,.bool false,.bool false,.slice none 0 0] 91)) from am)):p:=h
theorem ye {p:Prop}(h:p:=by exact(show Cells ((w7.alloc (.cells #[.bool false,.bool true,.int .i64 0,.int .i64 0,.bool false,.bool false,.slice none 0 0] 91)).alloc (.cells #[.bool false,.bool true,.int .i64 0,.int .i64 0,.bool false,.bool false,.slice none 0 0] 91)) w7.heap.size [.bool false,.bool true,.int .i64 0,.int .i64 0,.bool false,.bool false,.slice none 0 0] from(Cells.new w7 91 [.bool false,.bool true,.int .i64 0,.int .i64 0,.bool false,.bool false,.slice none 0 0]).call am)):p:=h
theorem wB {p:Prop}(h:p:=by exact(show bl w4 w8 from hb5.trans (((hb6.trans (hb7.mono hb6.size)).trans (hb8.mono (hb6.trans (hb7.mono hb6.size)).size)).mono hb5.size))):p:=h
theorem yA {p:Prop}(h:p:=by exact(show bl w2 w8 from(hb3.trans (hb4.mono hb3.size)).trans (hb48.mono (hb3.trans (hb4.mono hb3.size)).size))):p:=h
theorem Ap {p:Prop}(h:p:=by exact(show bl w3 w8 from hb4.trans (hb48.mono hb4.size))):p:=h
theorem yk {p:Prop}(h:p:=by exact(O5.call ((hb6.trans (hb7.mono hb6.size)).trans (hb8.mono (hb6.trans (hb7.mono hb6.size)).size)))):p:=h
theorem yL {p:Prop}(h:p:=by exact(show Below w11.heap.size w11 (w11.alloc (.cells #[.bool false,.bool true,.int .i64 0,.int .i64 0,.bool false,.bool false,.slice none 0 0] 91)) from am)):p:=h
theorem wL {p:Prop}(h:p:=by exact(show Cells (w11.alloc (.cells #[.bool false,.bool true,.int .i64 0,.int .i64 0,.bool false,.bool false,.slice none 0 0] 91)) w11.heap.size [.bool false,.bool true,.int .i64 0,.int .i64 0,.bool false,.bool false,.slice none 0 0] from Cells.new w11 91 [.bool false,.bool true,.int .i64 0,.int .i64 0,.bool false,.bool false,.slice none 0 0])):p:=h
theorem yU {p:Prop}(h:p:=by exact(show bl w10 (w11.alloc (.cells #[.bool false,.bool true,.int .i64 0,.int .i64 0,.bool false,.bool false,.slice none 0 0] 91)) from hb11.trans (hb12.mono hb11.size))):p:=h
theorem FT {p:Prop}(h:p:=by exact(show Hid (∀wx,Calls Tryz.prog 107 #[.int .i64 i.k] wx λe w'=>e=.returned (.bool true)/\w'=wx) from λwx=>MF)):p:=h
theorem dS {p:Prop}(h:p:=by exact(ag eka)):p:=h
theorem kf {p:Prop}(h:p:=by exact(show (0:Int)<=(ka:Int) from aa)):p:=h
theorem yW {p:Prop}(h:p:=by exact(show (ka:Int) < (x.vq.length:Int) from aa)):p:=h
theorem Al {p:Prop}(h:p:=by exact(show (kb:Int) < (x.vq.length:Int) from aa)):p:=h
theorem dF {p:Prop}(h:p:=by exact(show (0:Int)<=(m:Int) from K.a0)):p:=h
theorem dK {p:Prop}(h:p:=by exact(show (m:Int) < (c.length:Int) from K.a1)):p:=h
theorem dJ {p:Prop}(h:p:=by exact(ag EPV0)):p:=h
theorem dH {p:Prop}(h:p:=by exact(IP.1 0 _ rfl)):p:=h
theorem go {p:Prop}(h:p:=by exact(show bl w1 w1.drew from(Below.refl _ _).drew)):p:=h
theorem wX {p:Prop}(h:p:=by exact(show∀(fn:Fn) (first cp:Array Value) (w:World),(Instr.makeFunc fn first cp).run Tryz.prog w=.ok (.func fn first cp) w from λ_ _ _ _=>rfl)):p:=h
theorem lD {p:Prop}(h:p:=by exact(show Below w.heap.size w ((w.alloc (.cells #[.int .i64 V,.int .i64 F,.slice s c.length cap] 24)).alloc (.cells #[.bool x.none,.slice vs x.vq.length vc,.slice fs x.fq.length fc] 28)) from am)):p:=h
theorem lg {p:Prop}(h:p:=by exact(hcd.below B0 (Nat.le_refl _))):p:=h
theorem so {p:Prop}(h:p:=by exact(show Below w.heap.size w (((w.alloc (.cells #[.int .i64 V,.int .i64 F,.slice s c.length cap] 24)).alloc (.cells #[.bool x.none,.slice vs1 x.vq.length vc1,.slice fs1 x.fq.length fc1] 28)).alloc (.cells #[.bool y.none,.slice vs2 y.vq.length vc2,.slice fs2 y.fq.length fc2] 28)) from am)):p:=h
theorem yr {p:Prop}(h:p:=by exact((PrAt.new w V F s c cap).call (w':=(((w.alloc (.cells #[.int .i64 V,.int .i64 F,.slice s c.length cap] 24)).alloc (.cells #[.bool x.none,.slice vs1 x.vq.length vc1,.slice fs1 x.fq.length fc1] 28)).alloc (.cells #[.bool y.none,.slice vs2 y.vq.length vc2,.slice fs2 y.fq.length fc2] 28))) am)):p:=h
theorem yB {p:Prop}(h:p:=by exact((XAt.new (w.alloc (.cells #[.int .i64 V,.int .i64 F,.slice s c.length cap] 24)) x vs1 vc1 fs1 fc1).call (w':=(((w.alloc (.cells #[.int .i64 V,.int .i64 F,.slice s c.length cap] 24)).alloc (.cells #[.bool x.none,.slice vs1 x.vq.length vc1,.slice fs1 x.fq.length fc1] 28)).alloc (.cells #[.bool y.none,.slice vs2 y.vq.length vc2,.slice fs2 y.fq.length fc2] 28))) am)):p:=h
theorem yj {p:Prop}(h:p:=by exact(XAt.new ((w.alloc (.cells #[.int .i64 V,.int .i64 F,.slice s c.length cap] 24)).alloc (.cells #[.bool x.none,.slice vs1 x.vq.length vc1,.slice fs1 x.fq.length fc1] 28)) y vs2 vc2 fs2 fc2)):p:=h
theorem nj {p:Prop}(h:p:=by exact(hx.below B0 (Nat.le_refl _))):p:=h
theorem mY {p:Prop}(h:p:=by exact(hy.below B0 (Nat.le_refl _))):p:=h
theorem yH {p:Prop}(h:p:=by exact(ag (mb V F s c cap (some ⟨(((w.alloc (.cells #[.int .i64 V,.int .i64 F,.slice s c.length cap] 24)).alloc (.cells #[.bool x.none,.slice vs1 x.vq.length vc1,.slice fs1 x.fq.length fc1] 28)).alloc (.cells #[.bool y.none,.slice vs2 y.vq.length vc2,.slice fs2 y.fq.length fc2] 28)).heap.size,0,none⟩) [x,y] 2 ((((w.alloc (.cells #[.int .i64 V,.int .i64 F,.slice s c.length cap] 24)).alloc (.cells #[.bool x.none,.slice vs1 x.vq.length vc1,.slice fs1 x.fq.length fc1] 28)).alloc (.cells #[.bool y.none,.slice vs2 y.vq.length vc2,.slice fs2 y.fq.length fc2] 28)).alloc (.cells #[.bool x.none,.slice vs1 x.vq.length vc1,.slice fs1 x.fq.length fc1,.bool y.none,.slice vs2 y.vq.length vc2,.slice fs2 y.fq.length fc2] 28)) (C0.call am) (XsAt.new2 (((w.alloc (.cells #[.int .i64 V,.int .i64 F,.slice s c.length cap] 24)).alloc (.cells #[.bool x.none,.slice vs1 x.vq.length vc1,.slice fs1 x.fq.length fc1] 28)).alloc (.cells #[.bool y.none,.slice vs2 y.vq.length vc2,.slice fs2 y.fq.length fc2] 28)) x vs1 vc1 fs1 fc1 y vs2 vc2 fs2 fc2 PX h1 h2 PY h3 h4) ah))):p:=h
theorem wE {p:Prop}(h:p:=by exact(show Below (((w.alloc (.cells #[.int .i64 V,.int .i64 F,.slice s c.length cap] 24)).alloc (.cells #[.bool x.none,.slice vs1 x.vq.length vc1,.slice fs1 x.fq.length fc1] 28)).alloc (.cells #[.bool y.none,.slice vs2 y.vq.length vc2,.slice fs2 y.fq.length fc2] 28)).heap.size (((w.alloc (.cells #[.int .i64 V,.int .i64 F,.slice s c.length cap] 24)).alloc (.cells #[.bool x.none,.slice vs1 x.vq.length vc1,.slice fs1 x.fq.length fc1] 28)).alloc (.cells #[.bool y.none,.slice vs2 y.vq.length vc2,.slice fs2 y.fq.length fc2] 28)) ((((w.alloc (.cells #[.int .i64 V,.int .i64 F,.slice s c.length cap] 24)).alloc (.cells #[.bool x.none,.slice vs1 x.vq.length vc1,.slice fs1 x.fq.length fc1] 28)).alloc (.cells #[.bool y.none,.slice vs2 y.vq.length vc2,.slice fs2 y.fq.length fc2] 28)).alloc (.cells #[.bool x.none,.slice vs1 x.vq.length vc1,.slice fs1 x.fq.length fc1,.bool y.none,.slice vs2 y.vq.length vc2,.slice fs2 y.fq.length fc2] 28)) from am)):p:=h
theorem yX {p:Prop}(h:p:=by exact(show (((w.alloc (.cells #[.int .i64 V,.int .i64 F,.slice s c.length cap] 24)).alloc (.cells #[.bool x.none,.slice vs1 x.vq.length vc1,.slice fs1 x.fq.length fc1] 28)).alloc (.cells #[.bool y.none,.slice vs2 y.vq.length vc2,.slice fs2 y.fq.length fc2] 28)).heap.size=w.heap.size+1+1+1 from ah)):p:=h
theorem K6 {p:Prop}(h:p:=by exact(show Below (((w.alloc (.cells #[.int .i64 V,.int .i64 F,.slice s c.length cap] 24)).alloc (.cells #[.bool x.none,.slice vs1 x.vq.length vc1,.slice fs1 x.fq.length fc1] 28)).alloc (.cells #[.bool y.none,.slice vs2 y.vq.length vc2,.slice fs2 y.fq.length fc2] 28)).heap.size (((w.alloc (.cells #[.int .i64 V,.int .i64 F,.slice s c.length cap] 24)).alloc (.cells #[.bool x.none,.slice vs1 x.vq.length vc1,.slice fs1 x.fq.length fc1] 28)).alloc (.cells #[.bool y.none,.slice vs2 y.vq.length vc2,.slice fs2 y.fq.length fc2] 28)) w1 from HB.out.trans (hb1.mono MB))):p:=h
theorem rh {p:Prop}(h:p:=by exact(B0.trans (hb01.mono B0.size))):p:=h
theorem H8 {p:Prop}(h:p:=by exact(show bl w1 w9 from((hbr.trans (HB7.mono hbr.size)).alloc z17 _).grown hgrow ap (λk hk=>(aR S8.1 hk).2))):p:=h
theorem rF {p:Prop}(h:p:=by exact(show Below w.heap.size w ((((w.alloc (.cells #[.int .i64 V,.int .i64 F,.slice s c.length cap] 24)).alloc (.cells #[.bool x.none,.slice vs1 x.vq.length vc1,.slice fs1 x.fq.length fc1] 28)).alloc (.cells #[.bool y.none,.slice vs2 y.vq.length vc2,.slice fs2 y.fq.length fc2] 28)).alloc (.cells #[.bool false,.slice none 0 0,.slice none 0 0] 28)) from am)):p:=h
theorem Hm {p:Prop}(h:p:=by exact((PrAt.new w V F s c cap).call (w':=((((w.alloc (.cells #[.int .i64 V,.int .i64 F,.slice s c.length cap] 24)).alloc (.cells #[.bool x.none,.slice vs1 x.vq.length vc1,.slice fs1 x.fq.length fc1] 28)).alloc (.cells #[.bool y.none,.slice vs2 y.vq.length vc2,.slice fs2 y.fq.length fc2] 28)).alloc (.cells #[.bool false,.slice none 0 0,.slice none 0 0] 28))) am)):p:=h
theorem Kt {p:Prop}(h:p:=by exact((XAt.new (w.alloc (.cells #[.int .i64 V,.int .i64 F,.slice s c.length cap] 24)) x vs1 vc1 fs1 fc1).call (w':=((((w.alloc (.cells #[.int .i64 V,.int .i64 F,.slice s c.length cap] 24)).alloc (.cells #[.bool x.none,.slice vs1 x.vq.length vc1,.slice fs1 x.fq.length fc1] 28)).alloc (.cells #[.bool y.none,.slice vs2 y.vq.length vc2,.slice fs2 y.fq.length fc2] 28)).alloc (.cells #[.bool false,.slice none 0 0,.slice none 0 0] 28))) am)):p:=h
theorem Ik {p:Prop}(h:p:=by exact((XAt.new ((w.alloc (.cells #[.int .i64 V,.int .i64 F,.slice s c.length cap] 24)).alloc (.cells #[.bool x.none,.slice vs1 x.vq.length vc1,.slice fs1 x.fq.length fc1] 28)) y vs2 vc2 fs2 fc2).call (w':=((((w.alloc (.cells #[.int .i64 V,.int .i64 F,.slice s c.length cap] 24)).alloc (.cells #[.bool x.none,.slice vs1 x.vq.length vc1,.slice fs1 x.fq.length fc1] 28)).alloc (.cells #[.bool y.none,.slice vs2 y.vq.length vc2,.slice fs2 y.fq.length fc2] 28)).alloc (.cells #[.bool false,.slice none 0 0,.slice none 0 0] 28))) am)):p:=h
theorem sH {p:Prop}(h:p:=by exact(X3.new (((w.alloc (.cells #[.int .i64 V,.int .i64 F,.slice s c.length cap] 24)).alloc (.cells #[.bool x.none,.slice vs1 x.vq.length vc1,.slice fs1 x.fq.length fc1] 28)).alloc (.cells #[.bool y.none,.slice vs2 y.vq.length vc2,.slice fs2 y.fq.length fc2] 28)) 28 (.bool false) (.slice none 0 0) (.slice none 0 0))):p:=h
theorem If {p:Prop}(h:p:=by exact(ag (mb V F s c cap (some ⟨((((w.alloc (.cells #[.int .i64 V,.int .i64 F,.slice s c.length cap] 24)).alloc (.cells #[.bool x.none,.slice vs1 x.vq.length vc1,.slice fs1 x.fq.length fc1] 28)).alloc (.cells #[.bool y.none,.slice vs2 y.vq.length vc2,.slice fs2 y.fq.length fc2] 28)).alloc (.cells #[.bool false,.slice none 0 0,.slice none 0 0] 28)).heap.size,0,none⟩) [x,y] 2 (((((w.alloc (.cells #[.int .i64 V,.int .i64 F,.slice s c.length cap] 24)).alloc (.cells #[.bool x.none,.slice vs1 x.vq.length vc1,.slice fs1 x.fq.length fc1] 28)).alloc (.cells #[.bool y.none,.slice vs2 y.vq.length vc2,.slice fs2 y.fq.length fc2] 28)).alloc (.cells #[.bool false,.slice none 0 0,.slice none 0 0] 28)).alloc (.cells #[.bool x.none,.slice vs1 x.vq.length vc1,.slice fs1 x.fq.length fc1,.bool y.none,.slice vs2 y.vq.length vc2,.slice fs2 y.fq.length fc2] 28)) (C0.call am) (XsAt.new2 ((((w.alloc (.cells #[.int .i64 V,.int .i64 F,.slice s c.length cap] 24)).alloc (.cells #[.bool x.none,.slice vs1 x.vq.length vc1,.slice fs1 x.fq.length fc1] 28)).alloc (.cells #[.bool y.none,.slice vs2 y.vq.length vc2,.slice fs2 y.fq.length fc2] 28)).alloc (.cells #[.bool false,.slice none 0 0,.slice none 0 0] 28)) x vs1 vc1 fs1 fc1 y vs2 vc2 fs2 fc2 PX h1 h2 PY h3 h4) ah))):p:=h
theorem Gh {p:Prop}(h:p:=by exact(show Below ((((w.alloc (.cells #[.int .i64 V,.int .i64 F,.slice s c.length cap] 24)).alloc (.cells #[.bool x.none,.slice vs1 x.vq.length vc1,.slice fs1 x.fq.length fc1] 28)).alloc (.cells #[.bool y.none,.slice vs2 y.vq.length vc2,.slice fs2 y.fq.length fc2] 28)).alloc (.cells #[.bool false,.slice none 0 0,.slice none 0 0] 28)).heap.size ((((w.alloc (.cells #[.int .i64 V,.int .i64 F,.slice s c.length cap] 24)).alloc (.cells #[.bool x.none,.slice vs1 x.vq.length vc1,.slice fs1 x.fq.length fc1] 28)).alloc (.cells #[.bool y.none,.slice vs2 y.vq.length vc2,.slice fs2 y.fq.length fc2] 28)).alloc (.cells #[.bool false,.slice none 0 0,.slice none 0 0] 28)) (((((w.alloc (.cells #[.int .i64 V,.int .i64 F,.slice s c.length cap] 24)).alloc (.cells #[.bool x.none,.slice vs1 x.vq.length vc1,.slice fs1 x.fq.length fc1] 28)).alloc (.cells #[.bool y.none,.slice vs2 y.vq.length vc2,.slice fs2 y.fq.length fc2] 28)).alloc (.cells #[.bool false,.slice none 0 0,.slice none 0 0] 28)).alloc (.cells #[.bool x.none,.slice vs1 x.vq.length vc1,.slice fs1 x.fq.length fc1,.bool y.none,.slice vs2 y.vq.length vc2,.slice fs2 y.fq.length fc2] 28)) from am)):p:=h
theorem rT {p:Prop}(h:p:=by exact(show ((((w.alloc (.cells #[.int .i64 V,.int .i64 F,.slice s c.length cap] 24)).alloc (.cells #[.bool x.none,.slice vs1 x.vq.length vc1,.slice fs1 x.fq.length fc1] 28)).alloc (.cells #[.bool y.none,.slice vs2 y.vq.length vc2,.slice fs2 y.fq.length fc2] 28)).alloc (.cells #[.bool false,.slice none 0 0,.slice none 0 0] 28)).heap.size=w.heap.size+1+1+1+1 from ah)):p:=h
theorem Gb {p:Prop}(h:p:=by exact(show Below ((((w.alloc (.cells #[.int .i64 V,.int .i64 F,.slice s c.length cap] 24)).alloc (.cells #[.bool x.none,.slice vs1 x.vq.length vc1,.slice fs1 x.fq.length fc1] 28)).alloc (.cells #[.bool y.none,.slice vs2 y.vq.length vc2,.slice fs2 y.fq.length fc2] 28)).alloc (.cells #[.bool false,.slice none 0 0,.slice none 0 0] 28)).heap.size ((((w.alloc (.cells #[.int .i64 V,.int .i64 F,.slice s c.length cap] 24)).alloc (.cells #[.bool x.none,.slice vs1 x.vq.length vc1,.slice fs1 x.fq.length fc1] 28)).alloc (.cells #[.bool y.none,.slice vs2 y.vq.length vc2,.slice fs2 y.fq.length fc2] 28)).alloc (.cells #[.bool false,.slice none 0 0,.slice none 0 0] 28)) w1 from HB.out.trans (hb1.mono MB))):p:=h
theorem sN {p:Prop}(h:p:=by exact(show bl w2 w2.drew from(Below.refl _ _).drew)):p:=h
theorem fH {p:Prop}(h:p:=by exact(B2.trans (hb3.mono B2.size))):p:=h
theorem Ie {p:Prop}(h:p:=by exact(show Hid (∀(x:Value) b,b≠zb->(w7.setCell ⟨zb,2,none⟩ x).heap[b]? =w7.heap[b]?) from λx b hb=>Below.heap_setCell _ _ _ _ hb)):p:=h
theorem IE {p:Prop}(h:p:=by exact(show Hid (∀(x:Value),w7.heap.size<=(w7.setCell ⟨zb,2,none⟩ x).heap.size) from λx=>bH)):p:=h
theorem pB {p:Prop}(h:p:=by exact(B2.trans (hb3.mono (B2.size)))):p:=h
theorem rX {p:Prop}(h:p:=by exact(show bl wx wx.drew from(Below.refl _ _).drew)):p:=h
theorem ri {p:Prop}(h:p:=by exact(show xb≠vb from λe=>OF.1 (by rw[eb1,e]))):p:=h
theorem rE {p:Prop}(h:p:=by exact(show (k:Int) < (v.l.length:Int) from aa)):p:=h
theorem sP {p:Prop}(h:p:=by exact(show Hid (∀wz,Calls Tryz.prog 116 #[.agg #[.bool gg.n,.bool gg.sp.n,.int .i64 gg.sp.lo,.int .i64 gg.sp.hi,.bool gg.t,.bool gg.f,.slice ss gg.s.length cp]] wz λe w'=>e=.returned (.bool false)/\bl wz w') from λwz=>M9)):p:=h
theorem lf {p:Prop}(h:p:=by exact(BX.trans (hby.mono BX.size))):p:=h
theorem nc {p:Prop}(h:p:=by exact(YWX.trans (hby.mono YWX.size))):p:=h
theorem lm {p:Prop}(h:p:=by exact(ag (IntsIn.call HGI.out hby))):p:=h
theorem yE {p:Prop}(h:p:=by exact(GOW.same (w':=wy) (λb _ hlt=>YWY.block b hlt) YWY.size)):p:=h
theorem pI {p:Prop}(h:p:=by exact(VO (T:=T) (y:=⟨gg,ss,cp⟩) GOW aa aa HGY.out HCP.out.1 HCP.out.2)):p:=h
theorem sh {p:Prop}(h:p:=by exact((GP.mono (T':=λb=>T b\/w.heap.size<=b) λb hb _=>.inr hb))):p:=h
theorem rO {p:Prop}(h:p:=by exact(GP.vq.gu evb (k:=kt) hktv)):p:=h
theorem pK {p:Prop}(h:p:=by exact(show (0:Int)<=(kt:Int) from aa)):p:=h
theorem p6 {p:Prop}(h:p:=by exact(show (kt:Int) < (v.l.length:Int) from aa)):p:=h
theorem Ak {p:Prop}(h:p:=by exact(show Cells (cj wy vb kt ⟨gg,ss,cp⟩) w4.heap.size [.int .i64 ((m:Int)+1),.bool false,.slice v.rs v.l.length v.rc,.slice gs L.length gc] from OY.same (dN aa) kq)):p:=h
theorem rM {p:Prop}(h:p:=by exact(show bl w (cj wy vb kt ⟨gg,ss,cp⟩) from fi BY aa)):p:=h
theorem rA {p:Prop}(h:p:=by exact(ag (And.intro HF.out BS))):p:=h
theorem rj {p:Prop}(h:p:=by exact(show Hid (aA i (m:Int) x=if an gg then([],false,false) else([⟨(m:Int)+1,aY x i.tgt gg⟩],false,false)) from Mn)):p:=h
theorem mV {p:Prop}(h:p:=by exact(ag (And.intro hgg (And.intro hss hcp)))):p:=h
theorem KK {p:Prop}(h:p:=by exact(GhAt.new2 ((w.alloc (.cells #[.bool g.n,.bool g.sp.n,.int .i64 g.sp.lo,.int .i64 g.sp.hi,.bool g.t,.bool g.f,.slice ss g.s.length gc] 91)).alloc (.cells #[.bool h.n,.bool h.sp.n,.int .i64 h.sp.lo,.int .i64 h.sp.hi,.bool h.t,.bool h.f,.slice st h.s.length hc] 91)) g ss gc h st hc)):p:=h
theorem KH {p:Prop}(h:p:=by exact(ag (λlc wx hL=>oM (some ⟨w.heap.size+1+1,0,none⟩) [g,h] lc wx ah hL))):p:=h
theorem li {p:Prop}(h:p:=by exact(B3.trans (hb4.mono B3.size))):p:=h
theorem k8 {p:Prop}(h:p:=by exact(ag (eR V F s c cap (some ⟨w.heap.size+1+1+1+1,0,none⟩) [g,h] 2 _ (C0.alloc _) L0 ah))):p:=h
theorem pR {p:Prop}(h:p:=by exact(B5.trans (hb6.mono B5.size))):p:=h
theorem kY {p:Prop}(h:p:=by exact(B4.trans (hb5.mono B4.size))):p:=h
theorem Iq {p:Prop}(h:p:=by exact(show k=4\/k=5\/k=6\/k=7\/k=8\/k=9\/k=10 from aa)):p:=h
theorem ie {p:Prop}(h:p:=by exact(ag (λw=>lY g ss gc w))):p:=h
theorem iq {p:Prop}(h:p:=by exact(ag (λw=>lY h st hc w))):p:=h
theorem Ky {p:Prop}(h:p:=by exact(show (g.f=true/\h.f=true)\/g.f=false\/(g.f=true/\h.f=false) from by cases g.f<;>cases h.f<;>simp)):p:=h
theorem pD {p:Prop}(h:p:=by exact(show Hid (∀w,Calls Tryz.prog 169 #[sv g.sp,sv h.sp] w λe w'=>e=.returned (.agg #[.bool (aM g.sp h.sp).n,.int .i64 (aM g.sp h.sp).lo,.int .i64 (aM g.sp h.sp).hi])/\bl w w') from λw=>Iv g.sp h.sp w)):p:=h
theorem pM {p:Prop}(h:p:=by exact(ag (λw=>AX g ss gc w))):p:=h
theorem su {p:Prop}(h:p:=by exact(ag (λw=>AX h st hc w))):p:=h
theorem rr {p:Prop}(h:p:=by exact(show Hid (al=(decide (bT g < 0)||(decide (bT g≠bT h)||@decide _ (@instDecidableNot _ (g.sp.dq h.sp))))) from Ve)):p:=h
theorem sq {p:Prop}(h:p:=by exact(show∀wx:World,(Instr.field 89 (.agg #[.bool ms.n,.int .i64 ms.lo,.int .i64 ms.hi]) 0).run Tryz.prog wx=.ok (.bool ms.n) wx from λ_=>ae)):p:=h
theorem re {p:Prop}(h:p:=by exact(hs.below DR.2.2.2.2.2.2.1 (Nat.le_refl _))):p:=h
theorem rZ {p:Prop}(h:p:=by exact(show Hid (cb=g.s.any λx=>h.s.contains x) from VJ)):p:=h
theorem sd {p:Prop}(h:p:=by exact(show∀{o:Gs} wx,DG w g ss gc h st hc ob o wx->sA w.heap.size g ss gc h st hc wx from λwx a=>⟨Nl,Nd⟩)):p:=h
theorem Ig {p:Prop}(h:p:=by exact(show∀wx,DG w g ss gc h st hc ob o wx->DT w.heap.size ob g ss gc h st hc o wx from λwx a=>⟨Nl,Nd,by simpa using a.2.2.2.2.1.1⟩)):p:=h
theorem IB {p:Prop}(h:p:=by exact(show∀wx,DG w g ss gc h st hc ob o wx->DT w.heap.size ob g ss gc h st hc o (Go.Proofs.YtmapdpcfanecdabGreatDoor.iX wx (w.heap.size+1+1) (.bool o.n) (.bool o.sp.n) (.int .i64 o.sp.lo) (.int .i64 o.sp.hi) (.bool o.t) (.bool o.f) (.slice none o.s.length 0)) from λwx a=>⟨by simpa using(GuAt.put7 a.1 (by omega)).1,by simpa using(GuAt.put7 a.2.1 (by omega)).1,Vh⟩)):p:=h
theorem rI {p:Prop}(h:p:=by exact(ag (λw=>tu g ss gc w))):p:=h
theorem sR {p:Prop}(h:p:=by exact(ag (λw=>tu h st hc w))):p:=h
theorem pQ {p:Prop}(h:p:=by exact(show Hid (wr=(og||oh)) from HWr0.out.symm)):p:=h
theorem Kb {p:Prop}(h:p:=by exact(show Hid (∀wz,Calls Tryz.prog 116 #[.agg #[.bool gg.n,.bool gg.sp.n,.int .i64 gg.sp.lo,.int .i64 gg.sp.hi,.bool gg.t,.bool gg.f,.slice ss gg.s.length cp]] wz λe w'=>e=.returned (.bool true)/\bl wz w') from λwz=>M9)):p:=h
theorem ll {p:Prop}(h:p:=by exact(show gAt x i.a=x.vq[ka] from VV)):p:=h
theorem rl {p:Prop}(h:p:=by exact(HK.out.kx.gv _ (List.getElem_mem hkax))):p:=h
theorem KZ {p:Prop}(h:p:=by exact(show IntsIn (λb=>T b/\b < w.heap.size) wx sska x.vq[ka].s from(GAI.1.mono (S':=λb=>T b/\b < w.heap.size) λb hb hlt=>⟨hb,hlt⟩).same (λb hb hlt=>hb'.block b hlt) hb'.size)):p:=h
theorem Gp {p:Prop}(h:p:=by exact(show∀l:List Ro,(∀r∈l,roB r≠some q)↔∀o∈l.map roB,o≠some q from λl=>ah)):p:=h
theorem GO {p:Prop}(h:p:=by exact(show Below w.heap.size wx wx.drew from hdr.mono (Nat.le_trans hb0.size (Nat.le_refl _)))):p:=h
theorem IW {p:Prop}(h:p:=by exact(show Hid (wx.drew.cell? ⟨xb,1,none⟩=some (.slice (some ⟨vb,0,none⟩) v.l.length v.rc)/\wx.drew.cell? ⟨pb,0,none⟩=some (.pointer (some ⟨sb,0,none⟩))/\wx.drew.cell? ⟨sb,2,none⟩=some (.int .i64 (k:Int))) from⟨A1,P1,S1⟩)):p:=h
theorem Kr {p:Prop}(h:p:=by exact(show¬(λq=>ClT n sb eb xb q/\Off v (Value.slice gs L.length gcc).ownBlock L q) vb from λq=>q.2.1 eb1)):p:=h
theorem rJ {p:Prop}(h:p:=by exact(show Below w.heap.size w (w.alloc (.cells #[.pointer (some ⟨sb,0,none⟩)] 150)) from am)):p:=h
theorem rN {p:Prop}(h:p:=by exact(show Cells (w.alloc (.cells #[.pointer (some ⟨sb,0,none⟩)] 150)) w.heap.size [.pointer (some ⟨sb,0,none⟩)] from Cells.new w 150 [.pointer (some ⟨sb,0,none⟩)])):p:=h
theorem Io {p:Prop}(h:p:=by exact(show Hid (∀wx,bl w wx->Calls Tryz.prog 95 #[.pointer (some ⟨sb,0,none⟩)] wx λe w'=>e=.returned (.tuple #[.bool (cd (gAt x i.a)),.bool (cQ (gAt x i.a))])/\bl wx w') from λwx hb=>AL sb i V F s c cap at_ x vs vc fs fc _ wr fl wx (hS.call hb) (hc0.below (hB0.trans (hb.mono hB0.size)) (Nat.le_refl _)) (hx0.below (hB0.trans (hb.mono hB0.size)) (Nat.le_refl _)) K hA)):p:=h
theorem Gx {p:Prop}(h:p:=by exact(show Hid (Cells w sb (aW i V F s c cap at_ x vs vc fs fc (.slice es EL.length ec) wr fl)/\ERow sb sb w (.slice es EL.length ec) EL) from⟨hS,hER⟩)):p:=h
theorem ld {p:Prop}(h:p:=by exact(show at_<=1000 from VW)):p:=h
theorem Il {p:Prop}(h:p:=by exact(show Hid (cM sb w3 (λev'=>aW i V F s c cap at_ x vs vc fs fc ev' wr fl) EL [⟨at_+1,xx⟩]) from⟨ev',[q],C3,E3,by simp[eq3]⟩)):p:=h
theorem i7 {p:Prop}(h:p:=by exact(show (0:Int)<=(j:Int) from by omega)):p:=h
theorem K5 {p:Prop}(h:p:=by exact(show (gAt x i.a).s.length<=60 from da (ckGs_iff.1 hck).2.2 (dx h60 hck).1)):p:=h
theorem pE {p:Prop}(h:p:=by exact(show (0:Int)<=(p:Int) from aa)):p:=h
theorem GG {p:Prop}(h:p:=by exact(show x.vq[ka].s.length<=60 from da (ckGs_iff.1 hcka).2.2 (dx h60 hcka).1)):p:=h
theorem Ac {p:Prop}(h:p:=by exact(show Hid (w11.heap.size < wp.heap.size) from TP.2.1)):p:=h
theorem Ic {p:Prop}(h:p:=by exact(show Hid (∀wx,Calls Tryz.prog 112 #[.agg #[.bool x.vq[ka].n,.bool x.vq[ka].sp.n,.int .i64 x.vq[ka].sp.lo,.int .i64 x.vq[ka].sp.hi,.bool x.vq[ka].t,.bool x.vq[ka].f,.slice sska x.vq[ka].s.length gcka]] wx λe w'=>e=.returned (.tuple #[.bool yb,.bool nb])/\bl wx w') from λwx=>VS)):p:=h
theorem pA {p:Prop}(h:p:=by exact(show Below w.heap.size w (w.alloc (.cells #[.int .i64 (q:Int),.bool z.none,.slice zs z.vq.length zc,.slice gs z.fq.length gc] 45)) from am)):p:=h
theorem ru {p:Prop}(h:p:=by exact(show Cells (w.alloc (.cells #[.int .i64 (q:Int),.bool z.none,.slice zs z.vq.length zc,.slice gs z.fq.length gc] 45)) w.heap.size [.int .i64 (q:Int),.bool z.none,.slice zs z.vq.length zc,.slice gs z.fq.length gc] from Cells.new w _ [_,_,_,_])):p:=h
theorem nk {p:Prop}(h:p:=by exact(show pb < w.heap.size from hP.choose_spec.1.2.1)):p:=h
theorem y7 {p:Prop}(h:p:=by exact(show (w.alloc (.cells #[.int .i64 (q:Int),.bool z.none,.slice zs z.vq.length zc,.slice gs z.fq.length gc] 45)).heap.size=w.heap.size+1 from World.size_alloc _ _)):p:=h
theorem Hx {p:Prop}(h:p:=by exact(show Hid (Calls Tryz.prog 165 #[.pointer (some ⟨sb,0,none⟩),.agg #[.int .i64 (q:Int),.bool z.none,.slice zs z.vq.length zc,.slice gs z.fq.length gc],.func (.func 32) #[] #[]] (w.alloc (.cells #[.int .i64 (q:Int),.bool z.none,.slice zs z.vq.length zc,.slice gs z.fq.length gc] 45)) λe w'=>(∃v,e=.returned v)/\PRow S w' pb (L.set q r)/\(∀b,b≠pb->b < (w.alloc (.cells #[.int .i64 (q:Int),.bool z.none,.slice zs z.vq.length zc,.slice gs z.fq.length gc] 45)).heap.size->w'.heap[b]? =(w.alloc (.cells #[.int .i64 (q:Int),.bool z.none,.slice zs z.vq.length zc,.slice gs z.fq.length gc] 45)).heap[b]?)/\(w.alloc (.cells #[.int .i64 (q:Int),.bool z.none,.slice zs z.vq.length zc,.slice gs z.fq.length gc] 45)).heap.size<=w'.heap.size/\∀{B:Nat} {a:World},B<=pb->B<=(w.alloc (.cells #[.int .i64 (q:Int),.bool z.none,.slice zs z.vq.length zc,.slice gs z.fq.length gc] 45)).heap.size->Below B a (w.alloc (.cells #[.int .i64 (q:Int),.bool z.none,.slice zs z.vq.length zc,.slice gs z.fq.length gc] 45))->Below B a w') from Gu V F s c cap sb pb pc q _ L z zs zc gs gc 32 r _ (enters_of func32 ae rfl) ST1 PR1 (λb hb=>(hS b hb).1) (λb hb=>hS2 b aa) hq (λwx vx vxc fx fxc hb k1 k2 k3=>hHow wx vx vxc fx fxc (B1.trans (hb.mono B1.size)) k1 k2 k3))):p:=h
theorem H9 {p:Prop}(h:p:=by exact(show Hid (∀wx,bl w2 wx->wx.cell? ⟨sb,4,none⟩=some (.slice (some ⟨db,0,none⟩) D.length dc)/\wx.cell? ⟨w.heap.size,0,none⟩=some (.int .i64 (q:Int))/\wx.cell? ⟨db,q,none⟩=some (.int .i64 D[q])) from λwx hb=>⟨(ST3.call hb).1 4 _ rfl,(X3.call hb).1 0 _ rfl,(DR3.call hb).get hqD⟩)):p:=h
theorem IM {p:Prop}(h:p:=by exact(Cells.new (w.alloc (.cells #[.bool false,.bool false,.int .i64 0,.int .i64 0,.bool false,.bool false,.slice none 0 0] 91)) 89 [.bool true,.int .i64 0,.int .i64 0])):p:=h
theorem kZ {p:Prop}(h:p:=by exact(show Below w.heap.size w ((w.alloc (.cells #[.bool false,.bool false,.int .i64 0,.int .i64 0,.bool false,.bool false,.slice none 0 0] 91)).alloc (.cells #[.bool true,.int .i64 0,.int .i64 0] 89)) from am)):p:=h
theorem lq {p:Prop}(h:p:=by exact(show Cells ((w.alloc (.cells #[.bool false,.bool false,.int .i64 0,.int .i64 0,.bool false,.bool false,.slice none 0 0] 91)).alloc (.cells #[.bool true,.int .i64 0,.int .i64 0] 89)) w.heap.size [.bool false,.bool false,.int .i64 0,.int .i64 0,.bool false,.bool false,.slice none 0 0] from(Cells.new w 91 [.bool false,.bool false,.int .i64 0,.int .i64 0,.bool false,.bool false,.slice none 0 0]).call am)):p:=h
theorem dG {p:Prop}(h:p:=by exact(hS.1 0 _ rfl)):p:=h
theorem la {p:Prop}(h:p:=by exact(show w.heap.size≠sb from Va)):p:=h
theorem pj {p:Prop}(h:p:=by exact(ModS.of (hb1.trans (hdr.mono hb1.size)) HSB.out)):p:=h
theorem nl {p:Prop}(h:p:=by exact(C2.same (hch sb (Ne.symm HNE.out)) hcz)):p:=h
theorem Ix {p:Prop}(h:p:=by exact((hB0.trans (hb1.mono hB0.size)).trans (hb.mono (hB0.trans (hb1.mono hB0.size)).size))):p:=h
theorem Ib {p:Prop}(h:p:=by exact(ag (And.intro hc0 (And.intro hx0 (And.intro hz0 (And.intro hB0 (And.intro K hA))))))):p:=h
theorem p9 {p:Prop}(h:p:=by exact(show Cells ((w.alloc (.cells #[.int .i64 V,.int .i64 F,.slice s c.length cap] 24)).alloc (.cells #[.bool x.none,.slice vs x.vq.length vc,.slice fs x.fq.length fc] 28)) w.heap.size [.int .i64 V,.int .i64 F,.slice s c.length cap] from(Cells.new w 24 [.int .i64 V,.int .i64 F,.slice s c.length cap]).call am)):p:=h
theorem rk {p:Prop}(h:p:=by exact(ag (Ou V F s c cap x vs vc fs fc ((w.alloc (.cells #[.int .i64 V,.int .i64 F,.slice s c.length cap] 24)).alloc (.cells #[.bool x.none,.slice vs x.vq.length vc,.slice fs x.fq.length fc] 28)) (hc.below hb0 (Nat.le_refl _)) (hx.below hb0 (Nat.le_refl _)) h1 h2))):p:=h
theorem kh {p:Prop}(h:p:=by exact((fe h0).2.2)):p:=h
theorem Ip {p:Prop}(h:p:=by exact(show lN V F c (k:Int) x=0 from by unfold lN;rw[if_pos hu,if_neg (by omega)])):p:=h
theorem FL {p:Prop}(h:p:=by exact(show mr V F c (k:Int) x=aA (bL c k) k x from by unfold mr;rw[if_pos e0])):p:=h
theorem y8 {p:Prop}(h:p:=by exact(show Cells (w.alloc (.cells #[.int .i64 V,.int .i64 F,.slice s c.length cap] 24)) w.heap.size [.int .i64 V,.int .i64 F,.slice s c.length cap] from Cells.new w _ [_,_,_])):p:=h
theorem Ko {p:Prop}(h:p:=by exact(show Below w1.heap.size w1 (w1.alloc (.cells #[.bool bg.none,.slice bs bg.vq.length bc,.slice bf bg.fq.length be] 28)) from am)):p:=h
theorem yu {p:Prop}(h:p:=by exact(show¬(k:Int) < (A.length:Int) from by omega)):p:=h
theorem nz {p:Prop}(h:p:=by exact(show¬(4000:Int) < (s.size:Int) from aa)):p:=h
theorem iV {p:Prop}(h:p:=by exact(show Below w.heap.size w (w.alloc (.cells #[.int .i64 0,.int .i64 0,.slice none 0 0] 24)) from am)):p:=h
theorem Kh {p:Prop}(h:p:=by exact(show Below w1.heap.size w1 (w1.alloc (.cells #[.int .i64 V,.int .i64 F,.slice sl c.length cap] 24)) from am)):p:=h
theorem Hv {p:Prop}(h:p:=by exact(show Below w.heap.size w (w.alloc (.cells #[.int .i64 0,.int .i64 0,.int .i64 0,.int .i64 0,.int .i64 0,.int .i64 0] 100)) from am)):p:=h
theorem nf {p:Prop}(h:p:=by exact(hbr.trans (hb5.mono hbr.size))):p:=h
theorem nC {p:Prop}(h:p:=by exact(HR.trans (hb5.mono HR.size))):p:=h
theorem ya {p:Prop}(h:p:=by exact(show Below w.heap.size w w1 from hb0.trans (hb1.mono oy))):p:=h
theorem II {p:Prop}(h:p:=by exact(show bl w2 w3 from(Below.alloc (Below.refl _ w2) (Nat.le_refl _) _).trans (hb3.mono ah))):p:=h
theorem Kk {p:Prop}(h:p:=by exact(show wr.heap[w.heap.size]? =some (.cells #[.int .i64 0,.int .i64 0,.slice none 0 0] 24 (0,0)) from by rw[hbr.block _ z2];exact r2)):p:=h
theorem KJ {p:Prop}(h:p:=by exact(show∀z∈y::r,(10:UInt8)∉z from λz hz=>hfree z (List.mem_cons_of_mem _ hz))):p:=h
theorem pa {p:Prop}(h:p:=by exact(show (4000:Int) < (s.size:Int) from aa)):p:=h
theorem Hd {p:Prop}(h:p:=by exact(show Hid ((aD s).2.2=0->au (aD s).1.1 (aD s).1.2.1 (aD s).1.2.2=0) from EO aa)):p:=h
theorem In {p:Prop}(h:p:=by exact(show Hid (∀q∈aN c (aI V F c m) c.length,kF q.1) from λq hq=>V6)):p:=h
theorem FM {p:Prop}(h:p:=by exact(show Hid (∀k,k<=A.length->(cH (A.take k)).size<=40 * k) from λk hk=>tR HFI.out hk)):p:=h
theorem Ae {p:Prop}(h:p:=by exact(show∀j,j < wr.heap.size->w5.heap[j]? =wr.heap[j]? from λj hj=>hb5.block j hj)):p:=h
theorem Gl {p:Prop}(h:p:=by exact(show w1.heap.size+1<=((w5.alloc (.cells #[.int .i64 i2.k,.int .i64 i2.tgt,.int .i64 i2.a,.int .i64 i2.b,.int .i64 i2.n,.int .i64 i2.g] 100)).alloc (.cells #[.int .i64 i2.k,.int .i64 i2.tgt,.int .i64 i2.a,.int .i64 i2.b,.int .i64 i2.n,.int .i64 i2.g] 100)).heap.size from ap)):p:=h
theorem Gq {p:Prop}(h:p:=by exact(bB hownC (λj hj=>hb5.block j (cn hownC hj).1))):p:=h
theorem nF {p:Prop}(h:p:=by exact(show Hid (ps=((0,0,[]),1,1)) from HPE.out 1 Vc)):p:=h
theorem wH {p:Prop}(h:p:=by exact(show Below w2.heap.size w2 (w2.alloc (.cells #[.int .i64 V,.int .i64 F,.slice sa c.length sc] 24)) from am)):p:=h
theorem cZ {p:Prop}(h:p:=by exact(⟨rfl,am⟩)):p:=h
theorem ii {p:Prop}(h:p:=by exact(⟨rfl,rfl⟩)):p:=h
theorem nD {p:Prop}(h:p:=by exact(⟨rfl,Below.refl _ _⟩)):p:=h
theorem yx {p:Prop}(h:p:=by exact(⟨bF (by simp<;>omega),rfl⟩)):p:=h
theorem rU {p:Prop}(h:p:=by exact(⟨hc 0 aa,hc 1 aa,hc 2 aa,hc 3 aa,hc 4 aa,hc 5 aa,hc 6 aa⟩)):p:=h
theorem i6 {p:Prop}(h:p:=by exact(List.mem_singleton.1 he)):p:=h
theorem lk {p:Prop}(h:p:=by exact(⟨_,rfl,MP,hbr.trans (hb1.mono s0)⟩)):p:=h
theorem im {p:Prop}(h:p:=by exact(⟨_,rfl,UP,hbr⟩)):p:=h
theorem fA {p:Prop}(h:p:=by exact(⟨rfl,hb1⟩)):p:=h
theorem fu {p:Prop}(h:p:=by exact(Uj (s:=⟨n,lo,hi⟩) (t:=⟨n',lo',hi'⟩) (r:=dh) hb1 ah)):p:=h
theorem kR {p:Prop}(h:p:=by exact((((H1.setCell ap _).setCell ap _).setCell ap _).alloc ap _)):p:=h
theorem wK {p:Prop}(h:p:=by exact(((H1.setCell ap _).setCell ap _).setCell ap _)):p:=h
theorem ip {p:Prop}(h:p:=by exact(IntsAt.own hown)):p:=h
theorem fZ {p:Prop}(h:p:=by exact(fe h0)):p:=h
theorem kd {p:Prop}(h:p:=by exact(info_parts Tryz.info_guess)):p:=h
theorem mX {p:Prop}(h:p:=by exact(info_parts Tryz.info_row)):p:=h
theorem wC {p:Prop}(h:p:=by exact((FX.olden (w':=wz) (λb hb hlt=>hs b aa hlt) hz).rows)):p:=h
theorem ym {p:Prop}(h:p:=by exact(⟨(GX.same (λb hS hlt=>hs b (by have:=hS.1;omega) hlt) hz).at,RW0⟩)):p:=h
theorem dj {p:Prop}(h:p:=by exact(Or.inr ⟨rfl,rfl⟩)):p:=h
theorem dR {p:Prop}(h:p:=by exact(Vq w V F s c cap g ss gc h st hc)):p:=h
theorem yT {p:Prop}(h:p:=by exact(⟨rfl,(B0.alloc B0.size _).trans (hb1.mono ap)⟩)):p:=h
theorem iZ {p:Prop}(h:p:=by exact(⟨Ej oJ rfl,B1⟩)):p:=h
theorem wD {p:Prop}(h:p:=by exact((hc.below hb1 (Nat.le_refl _)).get m hm)):p:=h
theorem rm {p:Prop}(h:p:=by exact(⟨none,0,rfl,EdsOn.nil⟩)):p:=h
theorem p5 {p:Prop}(h:p:=by exact(⟨rfl,B0.trans (hb1.mono B0.size)⟩)):p:=h
theorem yN {p:Prop}(h:p:=by exact(((B1.setCell aw _).setCell aw _).setCell aw _)):p:=h
theorem k9 {p:Prop}(h:p:=by exact(GOW.vq.form aa)):p:=h
theorem kV {p:Prop}(h:p:=by exact(HK.out.varTo UT)):p:=h
theorem iU {p:Prop}(h:p:=by exact(⟨by rw[<-Hnn.out];first|done|rfl|simp,D2⟩)):p:=h
theorem mU {p:Prop}(h:p:=by exact(bC D2.2.2.2.2.2.2.1 aa)):p:=h
theorem ph {p:Prop}(h:p:=by exact(Int.eq_ofNat_of_zero_le h.1)):p:=h
theorem FP {p:Prop}(h:p:=by exact(⟨es,ec,by rw[List.length_map],ER.eds.mono λb hb _=>.inr aa⟩)):p:=h
theorem Ki {p:Prop}(h:p:=by exact(((((((HR5.setCell (Nat.le_refl _) _).setCell (Nat.le_refl _) _).setCell (Nat.le_refl _) _).setCell (Nat.le_refl _) _).setCell (Nat.le_refl _) _).setCell (Nat.le_refl _) _))):p:=h
theorem KX {p:Prop}(h:p:=by exact(((HB4.setCell (Nat.le_refl _) _).setCell (Nat.le_refl _) _).setCell (Nat.le_refl _) _)):p:=h
theorem Kz {p:Prop}(h:p:=by exact(⟨by show (-9223372036854775808:Int)<=0;decide,by show (0:Int)<=9223372036854775807;decide⟩)):p:=h
theorem mR {p:Prop}(h:p:=by exact(⟨_,rfl,World.ownsRow_nil _ _ _ _⟩)):p:=h
abbrev oA:=Option Go.Addr
open Go.RowKit

theorem bF {a b:Bool}(h:a=b):Ending.returned (Bb a)=Rt (Bb b):=by rw[h]
theorem bQ {k:IntKind}{a b:Int}(h:a=b):Ending.returned (.int k a)=Rt (.int k b):=by rw[h]
theorem uy {a b:ByteArray}(h:a=b):Ending.returned (.string a)=Rt (.string b):=by rw[h]

theorem FI {W w1:World}(hb:Below W.heap.size W w1):(∀b o,b < W.heap.size->w1.cell? ⟨b,o,nO⟩=W.cell? ⟨b,o,nO⟩)/\(∀b o,b < W.heap.size->w1.frozen? ⟨b,o,nO⟩=W.frozen? ⟨b,o,nO⟩):=
 ⟨λb o h=>hb.cell (p:=⟨b,o,nO⟩) h,λb o h=>hb.frozen (p:=⟨b,o,nO⟩) h⟩

theorem eC (n l m:Int)(w:World):
  Calls pG 57 #[I .i64 n,I .i64 l,I .i64 m] w λe w'=>e=Rt (Bb (btw n l m))/\w'=w:=by
 by_cases h1:l<=n
 ·by_cases h2:n<=m
  ·have hb:=wG h1 h2
   go_enter func57,ntmps57;go_wp2;go_ret;exact⟨bF hb.symm,rfl⟩
  ·have hb:=WD (l:=l) h2
   go_enter func57,ntmps57;go_wp2;go_ret;exact⟨rfl,rfl⟩
 ·have hb:=Wk (m:=m) h1
  go_enter func57,ntmps57;go_wp2;go_ret;exact⟨rfl,rfl⟩
end
section
open Go.RowKit
theorem mD {p:Prop}(h:p:=by
 go_wp2_with (go_at_call 57;refine(eC _ _ _ _).mono ?_;rintro e w' ⟨rfl,rfl⟩);all_goals go_ret
 all_goals exact⟨bF (by simp_all[BEq.beq]),rfl⟩):p:=h
theorem vD (k:Int)(w:World):
  Calls pG 106 #[I .i64 k] w λe w'=>e=Rt (Bb (nTo k))/\w'=w:=by
 unfold nTo;go_enter func106,ntmps106;exact mD

theorem sL (k:Int)(w:World):
  Calls pG 107 #[I .i64 k] w λe w'=>e=Rt (Bb (nA k))/\w'=w:=by
 unfold nA;go_enter func107,ntmps107;exact mD

theorem mk (k:Int)(w:World):
  Calls pG 108 #[I .i64 k] w λe w'=>e=Rt (Bb (nB k))/\w'=w:=by
 unfold nB;go_enter func108,ntmps108;exact mD

theorem Cz (k:Int)(w:World):
  Calls pG 110 #[I .i64 k] w λe w'=>e=Rt (Bb (nN k))/\w'=w:=by
 unfold nN;go_enter func110,ntmps110;exact mD

theorem ma (k:Int)(w:World):
  Calls pG 109 #[I .i64 k] w λe w'=>e=Rt (Bb (nG k))/\w'=w:=by
 unfold nG;go_enter func109,ntmps109;go_wp2;all_goals go_ret
 all_goals exact⟨bF (by simp_all[BEq.beq]),rfl⟩
def InsAt (w:World)(b o:Nat)(i:Ins):Prop:=
 w.cell? ⟨b,o,nO⟩=sO (I .i64 i.k)/\w.cell? ⟨b,o+1,nO⟩=sO (I .i64 i.tgt)/\w.cell? ⟨b,o+2,nO⟩=sO (I .i64 i.a)/\
 w.cell? ⟨b,o+3,nO⟩=sO (I .i64 i.b)/\w.cell? ⟨b,o+4,nO⟩=sO (I .i64 i.n)/\w.cell? ⟨b,o+5,nO⟩=sO (I .i64 i.g)

def CodeAt (w:World)(s:oA)(c:lI):Prop:=
 c=[]\/∃b off,s=sO ⟨b,off,nO⟩/\b < w.heap.size/\∀k (h:k < c.length),InsAt w b (off+k * 6) c[k]

theorem InsAt.below {B:Nat}{w w':World}{b o:Nat}{i:Ins}(h:InsAt w b o i)(hb:Below B w w')(hB:b < B):InsAt w' b o i:=by
 obtain⟨h0,h1,h2,h3,h4,h5⟩:=h;refine⟨?_,?_,?_,?_,?_,?_⟩<;>rw[hb.cell lG]<;>assumption

theorem CodeAt.below {B:Nat}{w w':World}{s:oA}{c:lI}(h:CodeAt w s c)(hb:Below B w w')(hB:w.heap.size<=B):CodeAt w' s c:=by
 rcases h with h|⟨b,off,hs,hlt,hi⟩
 ·exact .inl h
 ·exact .inr ⟨b,off,hs,lL hlt hb.size,λk h=>(hi k h).below hb aa⟩

def IntsAt (w:World)(s:oA)(l:List Int):Prop:=
 l=[]\/∃b off,s=sO ⟨b,off,nO⟩/\b < w.heap.size/\∀k (h:k < l.length),w.cell? ⟨b,off+k,nO⟩=sO (I .i64 l[k])

theorem IntsAt.below {B:Nat}{w w':World}{s:oA}{l:List Int}(h:IntsAt w s l)(hb:Below B w w')(hB:w.heap.size<=B):IntsAt w' s l:=by
 rcases h with h|⟨b,off,hs,hlt,hi⟩
 ·exact .inl h
 ·exact .inr ⟨b,off,hs,lL hlt hb.size,λk h=>by rw[hb.cell (by simp;omega)];exact hi k h⟩
theorem KC (k:Int)(w:World):
  Calls pG 105 #[I .i64 k] w λe w'=>e=Rt (.string (aL k))/\bl w w':=by
 by_cases h:btw k 1 19=true
 ·rcases tO h with rfl|rfl|rfl|rfl|rfl|rfl|rfl|rfl|rfl|rfl|rfl|rfl|rfl|rfl|rfl|rfl|rfl|rfl|rfl
  all_goals
   go_enter func105,ntmps105;go_wp2_with (go_at_call 57;refine(eC _ _ _ _).mono ?_;rintro e w' ⟨rfl,rfl⟩);go_ret;exact cZ
 ·have h:btw k 1 19=false:=by simpa using h
  have hw:=Cd h;go_enter func105,ntmps105;go_wp2_with (go_at_call 57;refine(eC _ _ _ _).mono ?_;rintro e w' ⟨rfl,rfl⟩);go_ret;exact⟨uy hw.symm,am⟩
theorem bU {p:Prop}(h:p:=by
 go_enter func58,ntmps58;go_wp2_with (first
  |(go_at_call 57;refine(eC _ _ _ _).mono ?_;rintro e w' ⟨rfl,rfl⟩)
  |(go_at_call 106;refine(vD _ _).mono ?_;rintro e w' ⟨rfl,rfl⟩)
  |(go_at_call 107;refine(sL _ _).mono ?_;rintro e w' ⟨rfl,rfl⟩)
  |(go_at_call 108;refine(mk _ _).mono ?_;rintro e w' ⟨rfl,rfl⟩)
  |(go_at_call 110;refine(Cz _ _).mono ?_;rintro e w' ⟨rfl,rfl⟩)
  |(go_at_call 109;refine(ma _ _).mono ?_;rintro e w' ⟨rfl,rfl⟩)
  |(go_at_call 105;refine(KC _ _).mono ?_;rintro e w1 ⟨rfl,hb1⟩;obtain⟨hc1,hf1⟩:=FI hb1))
 all_goals clear hc1 hf1
 all_goals go_ret
 all_goals exact⟨bQ (by simp_all[bn,WT]),Below.trans am (hb1.mono oy)⟩):p:=h
theorem ud:∃j,Tryz.prog.info? 122=sO j/\j.size=2:=by
 obtain⟨j,hj,hjs⟩:=Option.map_eq_some_iff.1 Tryz.Builder_Extra_169.sizeBuilder;exact⟨j,hj,hjs⟩

theorem Ek (b:Nat)(w:World)(h0:w.cell? ⟨b,0,nO⟩=sO (Pp (sO ⟨b,0,nO⟩))):
  Calls pG 119 #[Pp (sO ⟨b,0,nO⟩)] w λe w'=>e=Rt (Tu #[])/\w'=w:=by
 obtain⟨j,hj,_⟩:=ud;go_enter func119,ntmps119;go_wp2;rw[Lib.run_neq_ptr_same w _ underlying119 hj];go_wp2;go_end0;exact ii

theorem Cb (b:Nat)(w:World)(h0:w.cell? ⟨b,0,nO⟩=sO (Pp nO))(hsh:w.shape? b=sO (122,2))(hfz:w.frozen? ⟨b,0,nO⟩=false):
  Calls pG 119 #[Pp (sO ⟨b,0,nO⟩)] w λe w'=>e=Rt (Tu #[])/\w'=w.setCell ⟨b,0,nO⟩ (Pp (sO ⟨b,0,nO⟩)):=by
 obtain⟨j,hj,hjs⟩:=ud;go_enter func119,ntmps119;go_wp2;rw[Lib.run_to_unsafe w ⟨b,0,nO⟩ underlying119 underlying219 hj (by rw[hjs];decide) hsh (Nat.zero_lt_succ 1)];simp only[Result.andThen];rw[Oper.upon_value];go_wp2;rw[run_callFunc_extern func177 ae ae ae (e:=Extern.AbiNoEscape.same) ae];rw[Lib.run_noEscape];simp only[Result.andThen];rw[Oper.upon_value];go_wp2;rw[Lib.run_from_unsafe w ⟨b,0,nO⟩ underlying219 underlying119 hj hsh Tryz.Builder_Extra_169.liesBuilder];simp only[Result.andThen];rw[Oper.upon_value];go_wp2;go_end0;exact ii

theorem Fj (B b:Nat)(bs:List Value)(w:World)(h:Lib.IsBuilder 122 5 B b bs w):
  Calls pG 119 #[Pp (sO ⟨b,0,nO⟩)] w λe w'=>e=Rt (Tu #[])/\(Lib.BuilderAt 122 5 B b (Pp (sO ⟨b,0,nO⟩)) bs w'/\Below B w w'):=by
 rcases h with h|h
 ·refine(Cb b w h.cell0 h.shape h.frozen0).mono ?_
  rintro e w' ⟨rfl,rfl⟩;exact⟨rfl,h.used _,(bR B w).setCell (p:=⟨b,0,nO⟩) h.1 _⟩
 ·refine(Ek b w h.cell0).mono ?_
  rintro e w' ⟨rfl,rfl⟩;exact⟨rfl,h,bR B _⟩

theorem Bk (B b:Nat)(bs:List Value)(s:ByteArray)(w:World)(h:Lib.IsBuilder 122 5 B b bs w)(hlen:bs.length+s.size<=140737488355328)(hBw:B<=w.heap.size):
  Calls pG 62 #[Pp (sO ⟨b,0,nO⟩),.string s] w λe w'=>e=Rt (Tu #[I .i64 s.size,.nilIface])/\(Lib.BuilderAt 122 5 B b (Pp (sO ⟨b,0,nO⟩)) (bs++Lib.strCells s) w'/\Below B w w'):=by
 obtain⟨ti,hi,hz0,hz1,hz2⟩:=info_parts Tryz.Builder_Extra_169.infoByte;go_enter func62,ntmps62;go_wp2_with (go_at_call 119;refine(Fj B b bs _ h).mono ?_);rintro e w1 ⟨rfl,h1,hb1⟩;obtain⟨hB,v,hbk,hown,hne⟩:=h1;have c0:w1.cell? ⟨b,0,nO⟩=sO (Pp (sO ⟨b,0,nO⟩)):=by rw[Lib.cell_of_heap hbk];rfl
 have c1:w1.cell? ⟨b,1,nO⟩=sO v:=by rw[Lib.cell_of_heap hbk];rfl
 go_wp2_with (at_builtin;refine Lib.wpList_append_own_string _ rfl _ _ 120 9 rfl B 5 ti underlying120 underlying9 hi hz0 hz1 hz2 _ _ _ rfl hown s rfl ?c3 ?c4 ?c5 ?_)
 case c3=>unfold maxLen;omega
 case c4=>omega
 case c5=>have:=hb1.size;omega
 intro v' w2 hown' hgrow _;have hlt:b < w1.heap.size:=(j3.1 hbk).1;have hb2:w2.heap[b]? =sO (Cc #[Pp (sO ⟨b,0,nO⟩),v] 122 (0,0)):=by
  rw[hgrow.block b hlt (λe=>hne e.symm)];exact hbk
 have d0:w2.cell? ⟨b,0,nO⟩=sO (Pp (sO ⟨b,0,nO⟩)):=by rw[Lib.cell_of_heap hb2];rfl
 have d1:w2.cell? ⟨b,1,nO⟩=sO v:=by rw[Lib.cell_of_heap hb2];rfl
 have f1:w2.frozen? ⟨b,1,nO⟩=false:=Lib.frozen_of_heap hb2 1;obtain⟨ao,n',cap,rfl⟩:∃ao n' cap,v'=U ao n' cap:=by
  rcases hown'.2 with⟨hv,_⟩|⟨g,cap,cur,hv,_⟩
  ·exact⟨_,_,_,hv⟩
  ·exact⟨_,_,_,hv⟩
 go_wp2
 go_ret2
 refine⟨rfl,?_,?_⟩
 ·exact Lib.BuilderAt.put (T:=122) (e:=5) hB hb2 (bs':=bs++Lib.strCells s) (by simpa[Lib.strCells_length] using hown') Tryz.Builder_Extra_169.neB5
 ·exact(hb1.grown hgrow (by have:=hb1.size;omega) (λk hk=>(hown.lt k hk).1)).setCell (p:=⟨b,1,nO⟩) hB _
def dz (z:Int):ByteArray:=⟨(Lib.decDigits z.toNat).toArray⟩
theorem oE (z:Int)(h0:0<=z)(h1:z<=9223372036854775807):(dz z).size<=20:=by
 have:(dz z).size=(Lib.decDigits z.toNat).length:=rfl;rw[this,Lib.decDigits_length];exact Lib.nDigits_le20 _ aa
theorem MO (z:Int)(h:10<=z):dz (z / 10)++dz (z % 10)=dz z:=by
 have e1:(z / 10).toNat=z.toNat / 10:=aa;have e2:(z % 10).toNat=z.toNat % 10:=aa;have hd:Lib.decDigits z.toNat=Lib.decDigits (z.toNat / 10)++Lib.decDigits (z.toNat % 10):=by
  rw[Lib.decDigits_one (i:=z.toNat % 10) aa];conv=>lhs;rw[Lib.decDigits,dif_neg aa]
 unfold dz;rw[hd,e1,e2];apply ByteArray.ext;simp

theorem NZ (n:Nat)(w:World)(h:n < 10):
  Calls pG 27 #[I .i64 n] w λe w'=>e=Rt (.string (dz n))/\bl w w':=by
 have:n=0\/n=1\/n=2\/n=3\/n=4\/n=5\/n=6\/n=7\/n=8\/n=9:=aa;have hd:dz n=⟨#[UInt8.ofNat (48+n)]⟩:=by unfold dz;rw[show (n:Int).toNat=n by omega,Lib.decDigits_one h]
 rw[hd];have hcv:=λ(c:Int) (wx:World) (hc:wx.cell? ⟨w.heap.size,0,nO⟩=sO (.int .u8 c))=>run_convert_bytes_arg (P:=pG) (w:=wx) 120 5 underlying120 underlying5 w.heap.size 0 1 1 [c] rfl;rcases this with rfl|rfl|rfl|rfl|rfl|rfl|rfl|rfl|rfl|rfl;all_goals
  go_enter func27,ntmps27;go_wp2;go_ret;exact⟨uy rfl,am⟩

theorem LK (z:Int)(w:World)(h:10<=z)(h63:z<=9223372036854775807)
  (ih:∀(k:Int) (w:World),0<=k->k < z->Calls pG 27 #[I .i64 k] w λe w'=>e=Rt (.string (dz k))/\bl w w'):
  Calls pG 27 #[I .i64 z] w λe w'=>e=Rt (.string (dz z))/\bl w w':=by
 have hd:Hid (dz (z / 10)++dz (z % 10)=dz z):=MO z h;have l1:=oE (z / 10) aa aa;have l2:=oE (z % 10) aa aa;have s1:¬9223372036854775807 < (dz (z / 10)).size+(dz (z % 10)).size:=aa;go_enter func27,ntmps27;go_wp2_with (go_at_call 27;refine(ih _ _ ?h1 ?h2).mono ?_;(case h1=>omega);(case h2=>omega);rintro e w1 ⟨rfl,hb1⟩;have HB:bl w w1:=MA);go_ret;exact⟨uy hd.out,HB⟩

theorem Bp (z:Int)(w:World)(h0:0<=z)(h63:z<=9223372036854775807):
  Calls pG 27 #[I .i64 z] w λe w'=>e=Rt (.string (dz z))/\bl w w':=by
 obtain⟨n,rfl⟩:=x3 h0;induction n using Nat.strongRecOn generalizing w with
 |ind n ih=>
  by_cases h:n < 10
  ·exact NZ n w h
  ·refine LK n w aa h63 λk wk hk hlt=> ?_
   obtain⟨j,rfl⟩:=x3 hk;exact ih j aa wk aa aa

theorem ui (z:Int)(h0:z < 0):(⟨#[45]⟩:ByteArray)++dz (-z)=⟨(Lib.itoa z).toArray⟩:=by
 unfold dz Lib.itoa;rw[if_pos h0,show (-z).toNat=z.natAbs by omega];apply ByteArray.ext;simp

theorem Ck {p:Prop}(h:p:=by
 go_enter func27,ntmps27;go_wp2_with (go_at_call 27;refine(Bp _ _ ?h1 ?h2).mono ?_;(case h1=>omega);(case h2=>omega);rintro e w1 ⟨rfl,hb1⟩;have HB:bl w w1:=MA);go_ret;exact⟨uy hd.out,HB⟩):p:=h
theorem NM (z:Int)(w:World)(h0:z < 0)(h10: -10 < z):
  Calls pG 27 #[I .i64 z] w λe w'=>e=Rt (.string ⟨(Lib.itoa z).toArray⟩)/\bl w w':=by
 have hd:Hid ((⟨#[45]⟩:ByteArray)++dz (-z)=⟨(Lib.itoa z).toArray⟩):=ui z h0;have l1:=oE (-z) aa aa;have s0:(⟨#[45]⟩:ByteArray).size=1:=rfl;have s1:¬9223372036854775807 < (⟨#[45]⟩:ByteArray).size+(dz (-z)).size:=aa;exact Ck

theorem N7 (z:Int)(w:World)(h0:z<= -10)(h63: -9223372036854775808<=z):
  Calls pG 27 #[I .i64 z] w λe w'=>e=Rt (.string ⟨(Lib.itoa z).toArray⟩)/\bl w w':=by
 have e1:wrap64 (-z.tdiv 10)= -z / 10:=by
  have: -z.tdiv 10= -z / 10:=by rw[<-Int.neg_tdiv,Int.tdiv_eq_ediv_of_nonneg (by omega)]
  rw[this];unfold wrap64;omega
 have e2:wrap64 (-z.tmod 10)= -z % 10:=by
  have: -z.tmod 10= -z % 10:=by rw[<-Int.neg_tmod,Int.tmod_eq_emod_of_nonneg (by omega)]
  rw[this];unfold wrap64;omega
 have hd:Hid ((⟨#[45]⟩:ByteArray)++dz (-z / 10)++dz (-z % 10)=⟨(Lib.itoa z).toArray⟩):=by
  show _=_;rw[ByteArray.append_assoc,MO (-z) aa];exact ui z aa
 have l1:=oE (-z / 10) aa aa;have l2:=oE (-z % 10) aa aa;have s1:¬9223372036854775807 < 1+(dz (-z / 10)).size:=aa;have s2:¬9223372036854775807 < 1+(dz (-z / 10)).size+(dz (-z % 10)).size:=aa;exact Ck

theorem Pa (z:Int)(w:World)(h0: -9223372036854775808<=z)(h1:z<=9223372036854775807):
  Calls pG 27 #[I .i64 z] w λe w'=>e=Rt (.string ⟨(Lib.itoa z).toArray⟩)/\bl w w':=by
 by_cases hz:0<=z
 ·have:(⟨(Lib.itoa z).toArray⟩:ByteArray)=dz z:=by unfold Lib.itoa dz;rw[if_neg aa]
  rw[this];exact Bp z w hz h1
 ·by_cases hl: -10 < z
  ·exact NM z w aa hl
  ·exact N7 z w aa h0
theorem cn {w:World}{B:Nat}{e:TypeId}{z:Nat}{v:Value}{n:Nat}{xs:List Value}(h:w.ownsRow B e z v n xs){k:Nat}(hk:v.ownBlock=sO k):k < w.heap.size/\B<=k:=by
 rcases h.2 with⟨rfl,_⟩|⟨g,cap,cur,rfl,hb,hg,_⟩
 ·cases hk
 ·cases hk
  exact⟨(j3.1 hg).1,hb⟩

theorem bB {w w':World}{B:Nat}{e:TypeId}{z:Nat}{v:Value}{n:Nat}{xs:List Value}(h:w.ownsRow B e z v n xs)(hb:∀k,v.ownBlock=sO k->w'.heap[k]? =w.heap[k]?):w'.ownsRow B e z v n xs:=by
 obtain⟨h1,h2⟩:=h;refine⟨h1,?_⟩;rcases h2 with h2|⟨g,cap,cur,hv,hB,hg,r⟩
 ·exact .inl h2
 ·exact .inr ⟨g,cap,cur,hv,hB,by rw[hb g (by rw[hv];rfl)];exact hg,r⟩
theorem Tryz.info_int:(Tryz.prog.info? 3).map (λi=>(i.zero,i.size,i.bytes))=sO (sO (I .i64 0),1,8):=ae

theorem lO {w:World}{B:Nat}{e:TypeId}{z:Nat}{v:Value}{n:Nat}{xs:List Value}(h:w.ownsRow B e z v n xs){k:Nat}(hk:v.ownBlock=sO k):B<=k:=by
 rcases h.2 with⟨rfl,_⟩|⟨g,cap,cur,rfl,hb,hg,_⟩
 ·cases hk
 ·cases hk
  exact hb
end
section
structure Sp where
 n:Bool
 lo:Int
 hi:Int
def Sp.dq(s t:Sp):Decidable (s=t):=decidable_of_iff (s.n=t.n/\s.lo=t.lo/\s.hi=t.hi) (by cases s;cases t;simp)

abbrev bk (x:Int):Prop:= -2147483648<=x/\x<=2147483647

def cE (s:Sp):Int:=
 if¬(bk s.lo/\bk s.hi) then 3 else if s.n=true/\¬(s.lo=0/\s.hi=0) then 1 else if s.hi < s.lo then 4 else 0

def bx (s t:Sp):Int:=if cE s=0 then cE t else cE s

def Sp.Ok (s:Sp):Prop:=bk s.lo/\bk s.hi/\(s.n=true->s.lo=0/\s.hi=0)/\s.lo<=s.hi

theorem ckSp_ok {s:Sp}:cE s=0↔s.Ok:=by
 unfold cE Sp.Ok;by_cases h1:bk s.lo/\bk s.hi
 ·rw[if_neg (not_not_intro h1)]
  by_cases h2:s.n=true/\¬(s.lo=0/\s.hi=0)
  ·rw[if_pos h2]
   refine⟨λh=>absurd h (by decide),λh=>absurd (h.2.2.1 h2.1) h2.2⟩
  ·rw[if_neg h2]
   have h3:s.n=true->s.lo=0/\s.hi=0:=λhn=>Decidable.not_not.1 λhc=>h2 ⟨hn,hc⟩;by_cases h4:s.hi < s.lo
   ·rw[if_pos h4]
    exact⟨λh=>absurd h (by decide),λh=>absurd h.2.2.2 (by omega)⟩
   ·rw[if_neg h4]
    exact⟨λ_=>⟨h1.1,h1.2,h3,by omega⟩,λ_=>rfl⟩
 ·rw[if_pos h1]
  exact⟨λh=>absurd h (by decide),λh=>absurd ⟨h.1,h.2.1⟩ h1⟩

theorem ckSps_ok {s t:Sp}:bx s t=0↔s.Ok/\t.Ok:=by
 unfold bx;by_cases h:cE s=0
 ·rw[if_pos h,ckSp_ok]
  exact⟨λht=>⟨ckSp_ok.1 h,ht⟩,λht=>ht.2⟩
 ·rw[if_neg h]
  exact⟨λht=>absurd ht h,λht=>absurd (ckSp_ok.2 ht.1) h⟩

def Sp.has (s:Sp)(x:Int):Bool:= !s.n&&(decide (s.lo<=x)&&decide (x<=s.hi))
def bj (s t:Sp):Sp:=if s.n then t else if t.n then s else⟨false,min s.lo t.lo,max s.hi t.hi⟩
def bp (s t:Sp):Sp:=if s.n then t else if t.n then s else⟨false,if t.lo < s.lo then -2147483648 else s.lo,if s.hi < t.hi then 2147483647 else s.hi⟩
def aM (s t:Sp):Sp:=if s.n||t.n||decide (min s.hi t.hi < max s.lo t.lo) then⟨true,0,0⟩ else⟨false,max s.lo t.lo,min s.hi t.hi⟩
def fI (s t:Sp):Bool:=s.n||(t.has s.lo&&t.has s.hi)

def tW (k x y:Int):Int:=if k=5 then x+y else if k=6 then x - y else x * y
def dZ (a b c d:Int):Int:=min (min (min a b) c) d
def dX (a b c d:Int):Int:=max (max (max a b) c) d
def gW (a b c d:Int):Sp:=if bk (dZ a b c d)/\bk (dX a b c d) then⟨false,dZ a b c d,dX a b c d⟩ else⟨false,-2147483648,2147483647⟩
def cu (k:Int)(s t:Sp):Sp:=if s.n||t.n then⟨true,0,0⟩ else gW (tW k s.lo t.lo) (tW k s.lo t.hi) (tW k s.hi t.lo) (tW k s.hi t.hi)

def dh:Sp:=⟨false,0,0⟩
theorem WM {k:Int}{s t:Sp}(hs:s.Ok)(ht:t.Ok):(cu k s t).Ok:=by
 unfold cu;split
 ·exact⟨by decide,by decide,λ_=>⟨rfl,rfl⟩,Int.le_refl _⟩
 ·unfold gW
  split
  ·rename_i h
   refine⟨h.1,h.2,λhn=>(by cases hn),?_⟩;unfold dZ dX;simp only;omega
  ·exact⟨by decide,by decide,λhn=>(by cases hn),by decide⟩

theorem VC {s t:Sp}(hs:s.Ok)(ht:t.Ok):(bj s t).Ok:=by
 unfold bj;split
 ·exact ht
 ·split
  ·exact hs
  ·obtain⟨a,b,_,d⟩:=hs
   obtain⟨a',b',_,d'⟩:=ht;unfold bk at a b a' b';refine⟨?_,?_,λhn=>(by cases hn),?_⟩<;>(try unfold bk)<;>simp only<;>omega

theorem VA {s t:Sp}(hs:s.Ok)(ht:t.Ok):(bp s t).Ok:=by
 unfold bp;split
 ·exact ht
 ·split
  ·exact hs
  ·obtain⟨a,b,_,d⟩:=hs
   obtain⟨a',b',_,d'⟩:=ht;unfold bk at a b a' b';refine⟨?_,?_,λhn=>(by cases hn),?_⟩<;>(try unfold bk)<;>simp only<;>(repeat' split)<;>omega
structure Gs where
 n:Bool
 sp:Sp
 t:Bool
 f:Bool
 s:List Int

def cc (c:List Ins)(x:Int):Bool:=decide (0<=x)&&(decide (x < c.length)&&decide ((c.getD x.toNat ⟨0,0,0,0,0,0⟩).k=11))

def di:List Int->Bool
 |[]=>true
 |[_]=>true
 |a::b::r=>decide (a < b)&&di (b::r)

def aE (c:List Ins)(g:Gs):Int:=if cE g.sp≠0 then cE g.sp else if g.s.all (cc c)=false then 5 else if di g.s=false then 4 else 0

def b9 (c:List Ins):List Gs->Int
 |[]=>0
 |g::r=>if aE c g=0 then b9 c r else aE c g

def ba (V F:Int)(c:List Ins)(l:List Gs):Int:=if au V F c=0 then b9 c l else au V F c

def ix (a b:List Int):List Int:=((x4 60).map λn:Nat=>(n:Int)).filter λx=>a.contains x||b.contains x

def aj (wide:Bool)(g h:Gs):Gs:=⟨g.n||h.n,if wide then bp g.sp h.sp else bj g.sp h.sp,g.t||h.t,g.f||h.f,ix g.s h.s⟩
def dp (g h:Gs):Bool:= !(g.n&& !h.n)&&(!(g.t&& !h.t)&&(!(g.f&& !h.f)&&(fI g.sp h.sp&&g.s.all λx=>h.s.contains x)))
def cd (g:Gs):Bool:=(!g.sp.n&& !decide (g.sp.lo=0/\g.sp.hi=0))||(g.t||decide (0 < g.s.length))
def cQ (g:Gs):Bool:=g.sp.has 0||(g.n||g.f)
def aP (g:Gs):Bool:=g.n||(g.t||(g.f||decide (0 < g.s.length)))
def an (g:Gs):Bool:=g.sp.n&& !aP g
def noneG:Gs:=⟨false,⟨true,0,0⟩,false,false,[]⟩
def bG:Gs:=⟨false,⟨false,0,0⟩,false,false,[]⟩
def b2n (b:Bool):Nat:=if b then 1 else 0
def fF (g:Gs):Bool:=decide (b2n g.n+b2n (!g.sp.n)+b2n g.t+b2n g.f=1)&&(decide (g.sp.lo=g.sp.hi)&&decide (g.s.length=0))
def cX (g h:Gs):Bool:=fF g&&(fF h&&(g.n==h.n&&(@decide _ (g.sp.dq h.sp)&&(g.t==h.t&&g.f==h.f))))

def cK (k:Int)(g h:Gs):Gs×Bool:=
 if k=4 then(g,false)
 else if k=10 then(⟨false,⟨true,0,0⟩,cQ g,cd g,[]⟩,false)
 else if an g||an h then(noneG,false)
 else if k=9 then(⟨false,⟨true,0,0⟩,(g.n&&h.n)||(!(aM g.sp h.sp).n||((g.t&&h.t)||((g.f&&h.f)||g.s.any λx=>h.s.contains x))),!cX g h,[]⟩,false)
 else if k=8 then(⟨false,⟨true,0,0⟩,!(g.sp.n||h.sp.n)&&decide (g.sp.lo < h.sp.hi),!(g.sp.n||h.sp.n)&&decide (h.sp.lo<=g.sp.hi),[]⟩,aP g||aP h)
 else(⟨false,cu k g.sp h.sp,false,false,[]⟩,aP g||aP h)
end
section
open Go.RowKit
abbrev sv (s:Sp):Value:=Ag #[Bb s.n,I .i64 s.lo,I .i64 s.hi]

theorem iI (n:Int)(w:World):
  Calls pG 225 #[I .i64 n] w λe w'=>e=Rt (Bb (!decide (bk n)))/\w'=w:=by
 have e1:decide (bk n)=(decide (-2147483648<=n)&&decide (n<=2147483647)):=by unfold bk;exact Bool.decide_and _ _
 rw[e1];by_cases h1:n < -2147483648
 ·go_enter func225,ntmps225
  go_wp2;go_ret;exact yx
 ·by_cases h2:n > 2147483647
  ·go_enter func225,ntmps225
   go_wp2;go_ret;exact yx
  ·go_enter func225,ntmps225
   go_wp2;go_ret;exact yx

theorem DU (w:World):
  Calls pG 226 #[] w λe w'=>e=Rt (sv ⟨true,0,0⟩)/\w'=w.alloc (Cc #[Bb true,I .i64 0,I .i64 0] 89):=by
 go_enter func226,ntmps226;go_wp2
 go_returns
 exact⟨rfl,aX⟩

theorem Tj (w:World):
  Calls pG 226 #[] w λe w'=>e=Rt (sv ⟨true,0,0⟩)/\bl w w':=by
 refine(DU w).mono ?_;rintro e w' ⟨rfl,rfl⟩;exact cZ

theorem PL (w:World):
  Calls pG 245 #[] w λe w'=>e=Rt (sv ⟨false,-2147483648,2147483647⟩)/\w'=w.alloc (Cc #[Bb false,I .i64 (-2147483648),I .i64 2147483647] 89):=by
 go_enter func245,ntmps245;go_wp2
 go_returns
 exact⟨rfl,aX⟩

theorem uq (n m:Int)(w:World)(h:wrap64 (n+m)=n+m):
  Calls pG 229 #[I .i64 n,I .i64 m] w λe w'=>e=Rt (I .i64 (n+m))/\w'=w:=by
 go_enter func229,ntmps229;go_wp2;go_ret;exact⟨bQ h,rfl⟩

theorem uY (n m:Int)(w:World)(h:wrap64 (n - m)=n - m):
  Calls pG 230 #[I .i64 n,I .i64 m] w λe w'=>e=Rt (I .i64 (n - m))/\w'=w:=by
 go_enter func230,ntmps230;go_wp2;go_ret;exact⟨bQ h,rfl⟩

theorem uF (n m:Int)(w:World)(h:wrap64 (n * m)=n * m):
  Calls pG 231 #[I .i64 n,I .i64 m] w λe w'=>e=Rt (I .i64 (n * m))/\w'=w:=by
 go_enter func231,ntmps231;go_wp2;go_ret;exact⟨bQ h,rfl⟩

theorem AN {p:Prop}(h:p:=by
 go_enter func195,ntmps195;go_wp2_with (go_at_call 225;refine(iI _ _).mono ?_;rintro e w' ⟨rfl,rfl⟩);go_ret;exact⟨rfl,am⟩):p:=h
theorem VQ (n:Bool)(lo hi:Int)(w:World)(h:¬bk lo):
  Calls pG 195 #[sv ⟨n,lo,hi⟩] w λe w'=>e=Rt (I .i64 3)/\bl w w':=by
 have h1:decide (bk lo)=false:=cq;exact AN

theorem UU (n:Bool)(lo hi:Int)(w:World)(h:bk lo)(h':¬bk hi):
  Calls pG 195 #[sv ⟨n,lo,hi⟩] w λe w'=>e=Rt (I .i64 3)/\bl w w':=by
 have h1:decide (bk lo)=true:=cq;have h2:decide (bk hi)=false:=by simpa using h'
 exact AN

theorem sI {p:Prop}(h:p:=by
 go_enter func195,ntmps195;go_wp2_with (go_at_call 225;refine(iI _ _).mono ?_;rintro e w' ⟨rfl,rfl⟩);refine wp_region_quiet_below ae ae ?_;repeat (quiet_step (exact Calls.regrown_of (Tj _)))
 refine wpQuiet_nil ?_;intro _ hw';obtain⟨⟨dq,osq⟩,hw''⟩:=hw';subst hw'';go_wp2;go_ret;exact⟨rfl,Below.trans am ((below_regrown _ dq osq).mono oy)⟩):p:=h
theorem Um (lo hi:Int)(w:World)(h:bk lo)(h':bk hi)(hz:(lo==0)=false):
  Calls pG 195 #[sv ⟨true,lo,hi⟩] w λe w'=>e=Rt (I .i64 1)/\bl w w':=by
 have h1:decide (bk lo)=true:=cq;have h2:=yQ;have c0:=cell_regrown (w:=w.alloc (Cc #[Bb true,I .i64 lo,I .i64 hi] 89)) (a:=⟨w.heap.size,0,nO⟩) (v:=Bb true) aX;have c1:=cell_regrown (w:=w.alloc (Cc #[Bb true,I .i64 lo,I .i64 hi] 89)) (a:=⟨w.heap.size,1,nO⟩) (v:=I .i64 lo) aX;have c2:=cell_regrown (w:=w.alloc (Cc #[Bb true,I .i64 lo,I .i64 hi] 89)) (a:=⟨w.heap.size,2,nO⟩) (v:=I .i64 hi) aX;exact sI

theorem Tg (hi:Int)(w:World)(h':bk hi)(hz:(hi==0)=false):
  Calls pG 195 #[sv ⟨true,0,hi⟩] w λe w'=>e=Rt (I .i64 1)/\bl w w':=by
 have h1:decide (bk 0)=true:=ai;have h2:=yQ;have c0:=cell_regrown (w:=w.alloc (Cc #[Bb true,I .i64 0,I .i64 hi] 89)) (a:=⟨w.heap.size,0,nO⟩) (v:=Bb true) aX;have c1:=cell_regrown (w:=w.alloc (Cc #[Bb true,I .i64 0,I .i64 hi] 89)) (a:=⟨w.heap.size,1,nO⟩) (v:=I .i64 0) aX;have c2:=cell_regrown (w:=w.alloc (Cc #[Bb true,I .i64 0,I .i64 hi] 89)) (a:=⟨w.heap.size,2,nO⟩) (v:=I .i64 hi) aX;exact sI

theorem Vn (w:World):
  Calls pG 195 #[sv ⟨true,0,0⟩] w λe w'=>e=Rt (I .i64 0)/\bl w w':=by
 have h1:decide (bk 0)=true:=ai;have c0:=cell_regrown (w:=w.alloc (Cc #[Bb true,I .i64 0,I .i64 0] 89)) (a:=⟨w.heap.size,0,nO⟩) (v:=Bb true) aX;have c1:=cell_regrown (w:=w.alloc (Cc #[Bb true,I .i64 0,I .i64 0] 89)) (a:=⟨w.heap.size,1,nO⟩) (v:=I .i64 0) aX;have c2:=cell_regrown (w:=w.alloc (Cc #[Bb true,I .i64 0,I .i64 0] 89)) (a:=⟨w.heap.size,2,nO⟩) (v:=I .i64 0) aX;exact sI

theorem Cm {p:Prop}(h:p:=by
 have h1:decide (bk lo)=true:=cq;have h2:=yQ;go_enter func195,ntmps195;go_wp2_with (go_at_call 225;refine(iI _ _).mono ?_;rintro e w' ⟨rfl,rfl⟩)
 go_quiet (fail)
 go_wp2;go_ret;exact⟨rfl,below_drewN am _⟩):p:=h
theorem UV (lo hi:Int)(w:World)(h:bk lo)(h':bk hi)(hz:hi < lo):
  Calls pG 195 #[sv ⟨false,lo,hi⟩] w λe w'=>e=Rt (I .i64 4)/\bl w w':=Cm

theorem VF (lo hi:Int)(w:World)(h:bk lo)(h':bk hi)(hz:¬hi < lo):
  Calls pG 195 #[sv ⟨false,lo,hi⟩] w λe w'=>e=Rt (I .i64 0)/\bl w w':=Cm

theorem kw (s:Sp)(w:World):
  Calls pG 195 #[sv s] w λe w'=>e=Rt (I .i64 (cE s))/\bl w w':=by
 obtain⟨n,lo,hi⟩:=s;unfold cE;by_cases h:bk lo
 ·by_cases h':bk hi
  ·rw[if_neg (by simp[h,h'])]
   cases n with
   |true=>
    by_cases hz:lo=0
    ·subst hz
     by_cases hz':hi=0
     ·subst hz'
      rw[if_neg ah,if_neg ah];exact Vn w
     ·rw[if_pos (by simp[hz'])]
      exact Tg hi w h' (by simpa using hz')
    ·rw[if_pos (by simp[hz])]
     exact Um lo hi w h h' fr
   |false=>
    rw[if_neg ah];by_cases hz:hi < lo
    ·rw[if_pos hz]
     exact UV lo hi w h h' hz
    ·rw[if_neg hz]
     exact VF lo hi w h h' hz
  ·rw[if_pos (by simp[h'])]
   exact UU n lo hi w h h'
 ·rw[if_pos (by simp[h])]
  exact VQ n lo hi w h
theorem yo {B:Nat}{n:Bool}{lo hi:Int}{w w1:World}(hb:Below B (w.alloc (Cc #[Bb n,I .i64 lo,I .i64 hi] 89)) w1)(hB:w.heap.size < B):w1.cell? ⟨w.heap.size,0,nO⟩=sO (Bb n)/\w1.cell? ⟨w.heap.size,1,nO⟩=sO (I .i64 lo)/\w1.cell? ⟨w.heap.size,2,nO⟩=sO (I .i64 hi):=by
 rw[hb.cell lG,hb.cell lG,hb.cell lG];simp[go_sem]

theorem tI {B:Nat}{n n':Bool}{lo hi lo' hi':Int}{w w1:World}(hb:Below B ((w.alloc (Cc #[Bb n,I .i64 lo,I .i64 hi] 89)).alloc (Cc #[Bb n',I .i64 lo',I .i64 hi'] 89)) w1)(hB:w.heap.size+1 < B):w1.cell? ⟨w.heap.size,0,nO⟩=sO (Bb n)/\w1.cell? ⟨w.heap.size,1,nO⟩=sO (I .i64 lo)/\w1.cell? ⟨w.heap.size,2,nO⟩=sO (I .i64 hi)/\w1.cell? ⟨w.heap.size+1,0,nO⟩=sO (Bb n')/\w1.cell? ⟨w.heap.size+1,1,nO⟩=sO (I .i64 lo')/\w1.cell? ⟨w.heap.size+1,2,nO⟩=sO (I .i64 hi'):=by
 rw[hb.cell ap,hb.cell ap,hb.cell ap,hb.cell lG,hb.cell lG,hb.cell lG];simp[go_sem]

theorem MV {a b:Bool}{v:Value}(h:a=b):Ending.returned (Tu #[Bb a,v])=Rt (Tu #[Bb b,v]):=by rw[h]

theorem Vy (s:Sp)(x:Int)(w:World)(h:cE s≠0):
  Calls pG 143 #[sv s,I .i64 x] w λe w'=>e=Rt (Tu #[Bb false,I .i64 (cE s)])/\bl w w':=by
 obtain⟨n,lo,hi⟩:=s;have h0:=FY;go_enter func143,ntmps143;go_wp2_with (go_at_call 195;refine(kw ⟨n,lo,hi⟩ _).mono ?_;rintro e w1 ⟨rfl,hb1⟩)
 go_ret2
 exact⟨rfl,h0.trans (hb1.mono ah)⟩

theorem rL {p:Prop}(h:p:=by
 go_wp2
 go_ret2
 exact⟨MV (by simp[Sp.has, *]),h0.trans (hb1.mono ah)⟩):p:=h
theorem Wn (s:Sp)(x:Int)(w:World)(h:cE s=0):
  Calls pG 143 #[sv s,I .i64 x] w λe w'=>e=Rt (Tu #[Bb (s.has x),I .i64 0])/\bl w w':=by
 obtain⟨n,lo,hi⟩:=s;have h0:=FY;go_enter func143,ntmps143;go_wp2_with fail;refine(kw ⟨n,lo,hi⟩ _).mono ?_;rintro e w1 ⟨rfl,hb1⟩;rw[h];obtain⟨c0,c1,c2⟩:=yo hb1 ah;have s1:w.heap.size < w1.heap.size:=mH;cases n with
 |true=>
  exact rL
 |false=>
  by_cases hl:lo<=x
  ·have d1:decide (lo<=x)=true:=by simpa using hl
   exact rL
  ·have d1:decide (lo<=x)=false:=by simpa using hl
   exact rL

theorem Vm (s:Sp)(x:Int)(w:World):
  Calls pG 143 #[sv s,I .i64 x] w λe w'=>e=Rt (Tu #[Bb (decide (cE s=0)&&s.has x),I .i64 (cE s)])/\bl w w':=by
 by_cases h:cE s=0
 ·have:=Wn s x w h
  rw[h];simpa using this
 ·have:=Vy s x w h
  simpa[h] using this

theorem eQ (s t:Sp)(w:World):
  Calls pG 219 #[sv s,sv t] w λe w'=>e=Rt (I .i64 (bx s t))/\bl w w':=by
 have e0:bx s t=if cE s=0 then cE t else cE s:=rfl
 obtain⟨n,lo,hi⟩:=s;obtain⟨n',lo',hi'⟩:=t;by_cases h:cE ⟨n,lo,hi⟩=0
 ·rw[if_pos h] at e0
  rw[e0];go_enter func219,ntmps219;go_wp2_with fail;refine(kw ⟨n,lo,hi⟩ _).mono ?_;rintro e w1 ⟨rfl,hb1⟩;rw[h];obtain⟨c0,c1,c2,d0,d1,d2⟩:=tI hb1 ah;have s1:w.heap.size+1 < w1.heap.size:=mH;go_wp2_with fail;refine(kw ⟨n',lo',hi'⟩ _).mono ?_;rintro e w2 ⟨rfl,hb2⟩;go_wp2;go_ret;refine⟨rfl,?_⟩;exact(Below.trans am (hb1.mono ap)).trans (hb2.mono aa)
 ·rw[if_neg h] at e0
  rw[e0];go_enter func219,ntmps219;go_wp2_with fail;refine(kw ⟨n,lo,hi⟩ _).mono ?_;rintro e w1 ⟨rfl,hb1⟩;go_wp2;go_ret;refine⟨rfl,?_⟩;exact Below.trans am (hb1.mono ap)

theorem ia {n:Bool}{lo hi:Int}{t:Sp}(h:t=⟨n,lo,hi⟩):Ending.returned (Ag #[Bb n,I .i64 lo,I .i64 hi])=Rt (sv t):=by rw[h]

theorem Is (s t:Sp)(w:World):
  Calls pG 182 #[sv s,sv t] w λe w'=>e=Rt (sv (bj s t))/\bl w w':=by
 obtain⟨n,lo,hi⟩:=s;obtain⟨n',lo',hi'⟩:=t;cases n with
 |true=>
  go_enter func182,ntmps182;go_wp2
  go_returns
  exact cZ
 |false=>
  cases n' with
  |true=>
   go_enter func182,ntmps182;go_wp2
   go_returns
   exact cZ
  |false=>
   go_enter func182,ntmps182;go_wp2;all_goals go_returns
   all_goals exact⟨ia (by simp[bj]<;>omega),am⟩

theorem Rb {lo hi lo' hi':Int}(h:min hi hi' < max lo lo'):aM ⟨false,lo,hi⟩ ⟨false,lo',hi'⟩=⟨true,0,0⟩:=by
 unfold aM;rw[if_pos (by simp only[Bool.false_or];exact decide_eq_true h)]
theorem Nf {lo hi lo' hi' a b:Int}(ha:a=max lo lo')(hb:b=min hi hi')(h:a<=b):aM ⟨false,lo,hi⟩ ⟨false,lo',hi'⟩=⟨false,a,b⟩:=by
 subst ha hb;unfold aM;rw[if_neg (by simp only[Bool.false_or,decide_eq_true_eq];omega)]

theorem SI (s t:Sp)(w:World):
  Calls pG 197 #[sv s,sv t] w λe w'=>e=Rt (sv (aM s t))/\bl w w':=by
 obtain⟨n,lo,hi⟩:=s;obtain⟨n',lo',hi'⟩:=t;have h0:Below w.heap.size w (((w.alloc (Cc #[Bb n,I .i64 lo,I .i64 hi] 89)).alloc (Cc #[Bb n',I .i64 lo',I .i64 hi'] 89)).alloc (Cc #[Bb false,I .i64 0,I .i64 0] 89)):=am;rcases Int.lt_or_le lo lo' with h1|h1<;>rcases Int.lt_or_le hi' hi with h2|h2<;>cases n<;>cases n'
 all_goals
  go_enter func197,ntmps197;go_wp2
  go_quiet (fail)
  go_wp2_with (go_at_call 226;refine(DU _).mono ?_;rintro e w1 ⟨rfl,rfl⟩)
 all_goals go_returns
 all_goals exact⟨ia (by first|rfl|exact meet_n _ _ _ _ _|exact Nf (by omega) (by omega) (by omega)|exact Rb (by omega)),u9⟩
def SpAt (w:World)(b:Nat)(s:Sp):Prop:=(w.cell? ⟨b,0,nO⟩=sO (Bb s.n)/\w.cell? ⟨b,1,nO⟩=sO (I .i64 s.lo)/\w.cell? ⟨b,2,nO⟩=sO (I .i64 s.hi))/\b < w.heap.size

theorem SpAt.below {B b:Nat}{s:Sp}{w w':World}(h:SpAt w b s)(hb:Below B w w')(hB:w.heap.size<=B):SpAt w' b s:=by
 obtain⟨⟨h0,h1,h2⟩,hz⟩:=h;refine⟨?_,lL hz hb.size⟩;rw[hb.cell ap,hb.cell ap,hb.cell ap];exact⟨h0,h1,h2⟩
theorem SpAt.call {b:Nat}{s:Sp}{w w':World}(h:SpAt w b s)(hb:bl w w'):SpAt w' b s:=h.below hb (lR _)
theorem SpAt.alloc {b:Nat}{s:Sp}{w:World}(h:SpAt w b s)(o:Obj):SpAt (w.alloc o) b s:=h.below (Below.alloc (bR _ _) (lR _) o) (lR _)
theorem SpAt.drew {b:Nat}{s:Sp}{w:World}(h:SpAt w b s):SpAt w.drew b s:=h
theorem SpAt.new (w:World)(s:Sp):SpAt (w.alloc (Cc #[Bb s.n,I .i64 s.lo,I .i64 s.hi] 89)) w.heap.size s:=⟨aX,ah⟩
theorem ag {p:Prop}(h:p):Hid p:=h

theorem IntsAt.get {w:World}{ss:oA}{l:List Int}(h:IntsAt w ss l)(k:Nat)(hk:k < l.length):
  ∃b off,ss=sO ⟨b,off,nO⟩/\b < w.heap.size/\∀k (h:k < l.length),w.cell? ⟨b,off+k,nO⟩=sO (I .i64 l[k]):=by
 rcases h with rfl|h
 ·exact absurd hk ah
 ·exact h
theorem IntsAt.call {w w':World}{ss:oA}{l:List Int}(h:IntsAt w ss l)(hb:bl w w'):IntsAt w' ss l:=h.below hb (lR _)
theorem IntsAt.alloc {w:World}{ss:oA}{l:List Int}(h:IntsAt w ss l)(o:Obj):IntsAt (w.alloc o) ss l:=h.call (Below.alloc (bR _ _) (lR _) o)
theorem IntsAt.drew {w:World}{ss:oA}{l:List Int}(h:IntsAt w ss l):IntsAt w.drew ss l:=h
theorem IntsAt.drewN {w:World}{ss:oA}{l:List Int}(h:IntsAt w ss l)(n:Nat):IntsAt (w.drewN n) ss l:=h.call (below_drewN (bR _ _) n)
theorem CodeAt.get {w:World}{s:oA}{c:lI}(h:CodeAt w s c)(k:Nat)(hk:k < c.length):
  ∃b off,s=sO ⟨b,off,nO⟩/\b < w.heap.size/\∀k (h:k < c.length),InsAt w b (off+k * 6) c[k]:=by
 rcases h with rfl|h
 ·exact absurd hk ah
 ·exact h
theorem CodeAt.call {w w':World}{s:oA}{c:lI}(h:CodeAt w s c)(hb:bl w w'):CodeAt w' s c:=h.below hb (lR _)
theorem CodeAt.alloc {w:World}{s:oA}{c:lI}(h:CodeAt w s c)(o:Obj):CodeAt (w.alloc o) s c:=h.call (Below.alloc (bR _ _) (lR _) o)

abbrev gv (g:Gs)(ss:oA)(cap:Nat):Value:=Ag #[Bb g.n,Bb g.sp.n,I .i64 g.sp.lo,I .i64 g.sp.hi,Bb g.t,Bb g.f,U ss g.s.length cap]
abbrev pv (V F:Int)(s:oA)(c:lI)(cap:Nat):Value:=Ag #[I .i64 V,I .i64 F,U s c.length cap]

def GuAt (w:World)(b o:Nat)(g:Gs)(ss:oA)(cap:Nat):Prop:=
 (w.cell? ⟨b,o,nO⟩=sO (Bb g.n)/\w.cell? ⟨b,o+1,nO⟩=sO (Bb g.sp.n)/\w.cell? ⟨b,o+2,nO⟩=sO (I .i64 g.sp.lo)/\w.cell? ⟨b,o+3,nO⟩=sO (I .i64 g.sp.hi)/\w.cell? ⟨b,o+4,nO⟩=sO (Bb g.t)/\w.cell? ⟨b,o+5,nO⟩=sO (Bb g.f)/\w.cell? ⟨b,o+6,nO⟩=sO (U ss g.s.length cap))/\b < w.heap.size
theorem GuAt.below {B:Nat}{w w':World}{b o:Nat}{g:Gs}{ss:oA}{cap:Nat}(h:GuAt w b o g ss cap)(hb:Below B w w')(hB:w.heap.size<=B):GuAt w' b o g ss cap:=by
 obtain⟨⟨h0,h1,h2,h3,h4,h5,h6⟩,hz⟩:=h;refine⟨⟨?_,?_,?_,?_,?_,?_,?_⟩,lL hz hb.size⟩<;>rw[hb.cell ap]<;>assumption
theorem GuAt.call {w w':World}{b o:Nat}{g:Gs}{ss:oA}{cap:Nat}(h:GuAt w b o g ss cap)(hb:bl w w'):GuAt w' b o g ss cap:=h.below hb (lR _)
theorem GuAt.alloc {w:World}{b o:Nat}{g:Gs}{ss:oA}{cap:Nat}(h:GuAt w b o g ss cap)(x:Obj):GuAt (w.alloc x) b o g ss cap:=h.call (Below.alloc (bR _ _) (lR _) x)
theorem GuAt.drew {w:World}{b o:Nat}{g:Gs}{ss:oA}{cap:Nat}(h:GuAt w b o g ss cap):GuAt w.drew b o g ss cap:=h
theorem GuAt.new (w:World)(g:Gs)(ss:oA)(cap:Nat):GuAt (w.alloc (Cc #[Bb g.n,Bb g.sp.n,I .i64 g.sp.lo,I .i64 g.sp.hi,Bb g.t,Bb g.f,U ss g.s.length cap] 91)) w.heap.size 0 g ss cap:=⟨aX,ah⟩

def PrAt (w:World)(b:Nat)(V F:Int)(s:oA)(c:lI)(cap:Nat):Prop:=
 (w.cell? ⟨b,0,nO⟩=sO (I .i64 V)/\w.cell? ⟨b,1,nO⟩=sO (I .i64 F)/\w.cell? ⟨b,2,nO⟩=sO (U s c.length cap))/\b < w.heap.size
theorem PrAt.below {B:Nat}{w w':World}{b:Nat}{V F:Int}{s:oA}{c:lI}{cap:Nat}(h:PrAt w b V F s c cap)(hb:Below B w w')(hB:w.heap.size<=B):PrAt w' b V F s c cap:=by
 obtain⟨⟨h0,h1,h2⟩,hz⟩:=h;refine⟨⟨?_,?_,?_⟩,lL hz hb.size⟩<;>rw[hb.cell ap]<;>assumption
theorem PrAt.call {w w':World}{b:Nat}{V F:Int}{s:oA}{c:lI}{cap:Nat}(h:PrAt w b V F s c cap)(hb:bl w w'):PrAt w' b V F s c cap:=h.below hb (lR _)
theorem PrAt.alloc {w:World}{b:Nat}{V F:Int}{s:oA}{c:lI}{cap:Nat}(h:PrAt w b V F s c cap)(x:Obj):PrAt (w.alloc x) b V F s c cap:=h.call (Below.alloc (bR _ _) (lR _) x)
theorem PrAt.new (w:World)(V F:Int)(s:oA)(c:lI)(cap:Nat):PrAt (w.alloc (Cc #[I .i64 V,I .i64 F,U s c.length cap] 24)) w.heap.size V F s c cap:=⟨aX,ah⟩

def GsAt (w:World)(ls:oA)(L:List Gs):Prop:=
 ∀i (h:i < L.length),∃b off,ls=sO ⟨b,off,nO⟩/\∃ss cap,GuAt w b (off+i * 7) L[i] ss cap/\IntsAt w ss L[i].s/\L[i].s.length<=cap/\cap<=maxLen
theorem GsAt.below {B:Nat}{w w':World}{ls:oA}{L:List Gs}(h:GsAt w ls L)(hb:Below B w w')(hB:w.heap.size<=B):GsAt w' ls L:=by
 intro i hi;obtain⟨b,off,e,ss,cap,h1,h2,h3,h4⟩:=h i hi;exact⟨b,off,e,ss,cap,h1.below hb hB,h2.below hb hB,h3,h4⟩
theorem GsAt.call {w w':World}{ls:oA}{L:List Gs}(h:GsAt w ls L)(hb:bl w w'):GsAt w' ls L:=h.below hb (lR _)
theorem GsAt.alloc {w:World}{ls:oA}{L:List Gs}(h:GsAt w ls L)(o:Obj):GsAt (w.alloc o) ls L:=h.call (Below.alloc (bR _ _) (lR _) o)

def GhAt (w:World)(ls:oA)(L:List Gs):Prop:=
 ∀i (h:i < L.length),∃b off,ls=sO ⟨b,off,nO⟩/\∃ss cap,GuAt w b (off+i * 7) L[i] ss cap
theorem GhAt.below {B:Nat}{w w':World}{ls:oA}{L:List Gs}(h:GhAt w ls L)(hb:Below B w w')(hB:w.heap.size<=B):GhAt w' ls L:=by
 intro i hi;obtain⟨b,off,e,ss,cap,h1⟩:=h i hi;exact⟨b,off,e,ss,cap,h1.below hb hB⟩
theorem GhAt.call {w w':World}{ls:oA}{L:List Gs}(h:GhAt w ls L)(hb:bl w w'):GhAt w' ls L:=h.below hb (lR _)

theorem GsAt.new1 (w:World)(g:Gs)(ss:oA)(gc:Nat)(hs:IntsAt w ss g.s)(h1:g.s.length<=gc)(h2:gc<=maxLen):
  GsAt (w.alloc (Cc #[Bb g.n,Bb g.sp.n,I .i64 g.sp.lo,I .i64 g.sp.hi,Bb g.t,Bb g.f,U ss g.s.length gc] 91)) (sO ⟨w.heap.size,0,nO⟩) [g]:=by
 intro i hi;obtain rfl:i=0:=uN;exact⟨w.heap.size,0,rfl,ss,gc,GuAt.new w g ss gc,hs.alloc _,h1,h2⟩

theorem GhAt.new1 (w:World)(g:Gs)(ss:oA)(gc:Nat):
  GhAt (w.alloc (Cc #[Bb g.n,Bb g.sp.n,I .i64 g.sp.lo,I .i64 g.sp.hi,Bb g.t,Bb g.f,U ss g.s.length gc] 91)) (sO ⟨w.heap.size,0,nO⟩) [g]:=by
 intro i hi;obtain rfl:i=0:=uN;exact⟨w.heap.size,0,rfl,ss,gc,GuAt.new w g ss gc⟩

abbrev uk (w:World)(g:Gs)(ss:oA)(gc:Nat)(h:Gs)(st:oA)(hc:Nat):World:=
 w.alloc (Cc #[Bb g.n,Bb g.sp.n,I .i64 g.sp.lo,I .i64 g.sp.hi,Bb g.t,Bb g.f,U ss g.s.length gc,Bb h.n,Bb h.sp.n,I .i64 h.sp.lo,I .i64 h.sp.hi,Bb h.t,Bb h.f,U st h.s.length hc] 91)
theorem GuAt.two0 (w:World)(g:Gs)(ss:oA)(gc:Nat)(h:Gs)(st:oA)(hc:Nat):GuAt (uk w g ss gc h st hc) w.heap.size 0 g ss gc:=⟨aX,ah⟩
theorem GuAt.two1 (w:World)(g:Gs)(ss:oA)(gc:Nat)(h:Gs)(st:oA)(hc:Nat):GuAt (uk w g ss gc h st hc) w.heap.size 7 h st hc:=⟨aX,ah⟩
theorem GsAt.new2 (w:World)(g:Gs)(ss:oA)(gc:Nat)(h:Gs)(st:oA)(hc:Nat)(hs:IntsAt w ss g.s)(h1:g.s.length<=gc)(h2:gc<=maxLen)(ht:IntsAt w st h.s)(h3:h.s.length<=hc)(h4:hc<=maxLen):
  GsAt (uk w g ss gc h st hc) (sO ⟨w.heap.size,0,nO⟩) [g,h]:=by
 intro i hi;by_cases e:i=0
 ·subst e;exact⟨w.heap.size,0,rfl,ss,gc,GuAt.two0 w g ss gc h st hc,hs.alloc _,h1,h2⟩
 ·obtain rfl:i=1:=by simp at hi;omega
  exact⟨w.heap.size,0,rfl,st,hc,GuAt.two1 w g ss gc h st hc,ht.alloc _,h3,h4⟩
theorem GhAt.new2 (w:World)(g:Gs)(ss:oA)(gc:Nat)(h:Gs)(st:oA)(hc:Nat):GhAt (uk w g ss gc h st hc) (sO ⟨w.heap.size,0,nO⟩) [g,h]:=by
 intro i hi;by_cases e:i=0
 ·subst e;exact⟨w.heap.size,0,rfl,ss,gc,GuAt.two0 w g ss gc h st hc⟩
 ·obtain rfl:i=1:=by simp at hi;omega
  exact⟨w.heap.size,0,rfl,st,hc,GuAt.two1 w g ss gc h st hc⟩
end
section
structure Pic where
 none:Bool
 vq:List Gs
 fq:List (List Gs)

def nonePic:Pic:=⟨true,[],[]⟩
def fO:Pic:=⟨false,[],[]⟩
def bP (x:Pic):List Gs:=x.vq++x.fq.flatten
def dP (g h:Gs):Bool:=g.n==h.n&&(@decide _ (g.sp.dq h.sp)&&(g.t==h.t&&(g.f==h.f&&decide (g.s=h.s))))
theorem sameGs_iff {g h:Gs}:dP g h=true↔g=h:=by
 obtain⟨a,b,c,d,e⟩:=g;obtain⟨a',b',c',d',e'⟩:=h;simp only[dP,q2,beq_iff_eq,decide_eq_true_eq,Gs.mk.injEq]
def cY (g:Gs):Bool:= !dP g noneG
def bK (V F:Int)(c:List Ins)(x:Pic):Bool:=
 if x.none then decide (x.vq.length=0)&&decide (x.fq.length=0)
 else decide ((x.vq.length:Int)=V)&&(decide (x.fq.length=c.length)&& !(x.fq.any λr=> !decide ((r.length:Int)=F)))
def dU (c:List Ins)(p:Gs->Bool):Nat->List (List Gs)->Bool
 |_,[]=>false
 |i,r::l=>(!cc c i&&r.any p)||dU c p (i+1) l
def aO (V F:Int)(c:List Ins)(x:Pic):Int:=
 if bK V F c x=false then 1 else if b9 c (bP x)≠0 then b9 c (bP x) else if dU c (λg=> !an g) 0 x.fq then 4 else 0
def cV (V F:Int)(c:List Ins):List Pic->Int
 |[]=>0
 |x::l=>if aO V F c x=0 then cV V F c l else aO V F c x
def aU (V F:Int)(c:List Ins)(l:List Pic):Int:=if au V F c=0 then cV V F c l else au V F c

def dm:Gs:=⟨true,⟨true,0,0⟩,false,false,[]⟩
def bM (V F:Int)(c:List Ins):Pic:=⟨false,j0 V.toNat dm,j0 c.length (j0 F.toNat noneG)⟩
def aQ (j:Gs->Gs->Gs)(a b:List Gs):List Gs:=q4 j a b
def aH (j:Gs->Gs->Gs)(x y:Pic):Pic:=if x.none then y else if y.none then x else⟨false,aQ j x.vq y.vq,q4 (aQ j) x.fq y.fq⟩
def gp (a b:List Gs):Bool:=(q4 dp a b).all id
def bJ (x y:Pic):Bool:=x.none||(!y.none&&(gp x.vq y.vq&&(q4 gp x.fq y.fq).all id))

theorem tJ {c:List Ins}:∀{l:List Gs},b9 c l=0->∀g∈l,aE c g=0
 |[],_,g,hg=>by simp at hg
 |a::r,h,g,hg=>by
  unfold b9 at h;split at h
  ·rename_i h1
   rcases q5.1 hg with rfl|hg
   ·exact h1
   ·exact tJ h g hg
  ·contradiction
theorem Sn {c:List Ins}{g:Gs}(h:aE c g=0):cY g= !an g:=by
 have hs:cE g.sp=0:=by
  unfold aE at h;split at h
  ·exact h
  ·rename_i h1;simpa using h1
 have hok:=ckSp_ok.1 hs;obtain⟨n,⟨sn,lo,hi⟩,t,f,s⟩:=g;have h3:=hok.2.2.1;simp only at h3;unfold cY an aP dP noneG;cases sn with
 |false=>simp
 |true=>
  obtain⟨e1,e2⟩:=h3 rfl;subst e1 e2;cases n<;>cases t<;>cases f<;>cases s<;>simp
theorem sX {c:List Ins}{p q:Gs->Bool}:∀{l:List (List Gs)} {i:Nat},(∀r∈l,∀g∈r,p g=q g)->dU c p i l=dU c q i l
 |[],_,_=>rfl
 |r::l,i,h=>by
  unfold dU;rw[sX (l:=l) λr' hr'=>h r' (q0 _ hr')];have:r.any p=r.any q:=by
   have h1:=h r x5;clear h;induction r with
   |nil=>rfl
   |cons a r ih=>
    simp only[List.any_cons];rw[h1 a x5,ih λg hg=>h1 g (q0 _ hg)]
  rw[this]
theorem NS (V F:Int)(c:List Ins)(x:Pic):aO V F c x=if bK V F c x=false then 1 else if b9 c (bP x)≠0 then b9 c (bP x) else if dU c cY 0 x.fq then 4 else 0:=by
 unfold aO;by_cases h1:bK V F c x=false
 ·rw[if_pos h1,if_pos h1]
 rw[if_neg h1,if_neg h1];by_cases h2:b9 c (bP x)≠0
 ·rw[if_pos h2,if_pos h2]
 rw[if_neg h2,if_neg h2];have h3:b9 c (bP x)=0:=by simpa using h2
 rw[sX (p:=cY) (q:=λg=> !an g) λr hr g hg=>Sn (tJ h3 g ?_)];unfold bP;rw[q6,List.mem_flatten];exact .inr ⟨r,hr,hg⟩
end
section
open Go.RowKit
def IntsIn (S:Nat->Prop)(w:World)(ss:oA)(l:List Int):Prop:=
 l=[]\/∃b off,ss=sO ⟨b,off,nO⟩/\S b/\b < w.heap.size/\∀k (h:k < l.length),w.cell? ⟨b,off+k,nO⟩=sO (I .i64 l[k])
section
variable {S S':Nat->Prop} {w w':World} {ss:oA} {l:List Int}
theorem IntsIn.at (h:IntsIn S w ss l):IntsAt w ss l:=by
 rcases h with h|⟨b,off,e,-,hb,hc⟩
 ·exact .inl h
 ·exact .inr ⟨b,off,e,hb,hc⟩
theorem IntsAt.inAll (h:IntsAt w ss l):IntsIn (λb=>b < w.heap.size) w ss l:=by
 rcases h with h|⟨b,off,e,hb,hc⟩
 ·exact .inl h
 ·exact .inr ⟨b,off,e,hb,hb,hc⟩
theorem IntsIn.same (h:IntsIn S w ss l)(hs:∀b,S b->b < w.heap.size->w'.heap[b]? =w.heap[b]?)(hz:w.heap.size<=w'.heap.size):IntsIn S w' ss l:=by
 rcases h with h|⟨b,off,e,hS,hb,hc⟩
 ·exact .inl h
 ·exact .inr ⟨b,off,e,hS,lL hb hz,λk hk=>by rw[j9 (a:=⟨b,off+k,nO⟩) (hs b hS hb)];exact hc k hk⟩
theorem IntsIn.mono (h:IntsIn S w ss l)(hs:∀b,S b->b < w.heap.size->S' b):IntsIn S' w ss l:=by
 rcases h with h|⟨b,off,e,hS,hb,hc⟩
 ·exact .inl h
 ·exact .inr ⟨b,off,e,hs b hS hb,hb,hc⟩
theorem IntsIn.call (h:IntsIn S w ss l)(hb:bl w w'):IntsIn S w' ss l:=h.same (λb _ hlt=>hb.block b hlt) hb.size
end

theorem aR {w:World}{B:Nat}{e:TypeId}{z:Nat}{v:Value}{n:Nat}{xs:List Value}(h:w.ownsRow B e z v n xs){k:Nat}(hk:v.ownBlock=sO k):k < w.heap.size/\B<=k:=by
 rcases h.2 with⟨rfl,_⟩|⟨g,cap,cur,rfl,hb,hg,_⟩
 ·cases hk
 ·cases hk
  exact⟨(j3.1 hg).1,hb⟩
theorem dy {w w':World}{B:Nat}{e:TypeId}{z:Nat}{v:Value}{n:Nat}{xs:List Value}(h:w.ownsRow B e z v n xs)(hb:∀k,v.ownBlock=sO k->w'.heap[k]? =w.heap[k]?):w'.ownsRow B e z v n xs:=by
 obtain⟨hl,h2⟩:=h;rcases h2 with h2|⟨g,cap,cur,rfl,h1,hg,hr⟩
 ·exact⟨hl,.inl h2⟩
 ·exact⟨hl,.inr ⟨g,cap,cur,rfl,h1,by rw[hb g rfl];exact hg,hr⟩⟩
theorem AB {w w':World}{B:Nat}{e:TypeId}{z:Nat}{v:Value}{n:Nat}{xs:List Value}(h:w.ownsRow B e z v n xs)(hb:bl w w'):w'.ownsRow B e z v n xs:=dy h λk hk=>hb.block k (aR h hk).1

structure Gc where
 g:Gs
 ss:oA
 cap:Nat
def br (x:Gc):List Value:=[Bb x.g.n,Bb x.g.sp.n,I .i64 x.g.sp.lo,I .i64 x.g.sp.hi,Bb x.g.t,Bb x.g.f,U x.ss x.g.s.length x.cap]
def aS (l:List Gc):List Value:=l.flatMap br
def bS (S:Nat->Prop)(w:World)(x:Gc):Prop:=IntsIn S w x.ss x.g.s/\x.g.s.length<=x.cap/\x.cap<=maxLen
theorem fk (x:Gc):(br x).length=7:=rfl
theorem nr (l:List Gc):(aS l).length=l.length * 7:=by
 induction l with
 |nil=>rfl
 |cons x r ih=>
  have:aS (x::r)=br x++aS r:=rfl;rw[this,j4,ih,fk,q8];omega
theorem kJ (a b:List Gc):aS (a++b)=aS a++aS b:=by simp[aS]
theorem dE (x:Gc):∀u∈br x,u.oneCell'=true:=by
 intro u hu;simp only[br,q5,List.not_mem_nil,or_false] at hu;rcases hu with rfl|rfl|rfl|rfl|rfl|rfl|rfl<;>rfl
theorem fG:∀(l:List Gc) (i:Nat) (h:i < l.length) (j:Nat) (_:j < 7),(aS l)[i * 7+j]? =(br l[i])[j]?
 |[],i,h,_,_=>absurd h ah
 |x::r,0,_,j,hj=>by
  have e:aS (x::r)=br x++aS r:=rfl;rw[e,Nat.zero_mul,j2,Q2 (by rw[fk];exact hj)];rfl
 |x::r,i+1,h,j,hj=>by
  have e:aS (x::r)=br x++aS r:=rfl;rw[e,List.getElem?_append_right (by rw[fk];omega),fk];have:(i+1) * 7+j - 7=i * 7+j:=aa;rw[this,fG r i cq j hj];rfl

def GRow (w:World)(B:Nat)(v:Value)(l:List Gc):Prop:=w.ownsRow B 91 7 v l.length (aS l)/\∀x∈l,bS (λb=>v.ownBlock≠sO b) w x
section
variable {w w':World} {B:Nat} {v v':Value} {l:List Gc}
theorem GRow.at (h:GRow w B v l):∃rs rc,v=U rs l.length rc/\l.length<=rc/\rc<=maxLen/\GsAt w rs (l.map Gc.g)/\∀a,rs=sO a->B<=a.block:=by
 obtain⟨h1,h2⟩:=h;rcases h1.2 with⟨rfl,h0⟩|⟨g,cap,cur,rfl,hb,hg,k1,k2,k3,k4⟩
 ·have:l=[]:=x6.1 h0
  subst this;exact⟨nO,0,rfl,lR _,cO,λi hi=>absurd hi ah,λa ha=>iJ⟩
 ·refine⟨sO ⟨g,0,nO⟩,cap,rfl,k1,k2,λi hi=> ?_,λa ha=>by cases ha;exact hb⟩
  have hil:i < l.length:=fN;have e:(l.map Gc.g)[i]=l[i].g:=ah;rw[e];have hx:=h2 l[i] (gM hil);refine⟨g,0,rfl,l[i].ss,l[i].cap,⟨?_,(j3.1 hg).1⟩,hx.1.at,hx.2.1,hx.2.2⟩;have hc:∀j,j < 7->w.cell? ⟨g,i * 7+j,nO⟩=(br l[i])[j]? :=λj hj=>by
   have:=h1.cellAt (i * 7+j) aa;rw[<-fG l i hil j hj];exact this
  simp only[j2];exact rU
end

def RowsAt (w:World)(fs:oA)(L:List (List Gs)):Prop:=
 ∀i (h:i < L.length),∃b off,fs=sO ⟨b,off,nO⟩/\b < w.heap.size/\∃rs rc,w.cell? ⟨b,off+i,nO⟩=sO (U rs L[i].length rc)/\L[i].length<=rc/\rc<=maxLen/\GsAt w rs L[i]
theorem RowsAt.below {B:Nat}{w w':World}{fs:oA}{L:List (List Gs)}(h:RowsAt w fs L)(hb:Below B w w')(hB:w.heap.size<=B):RowsAt w' fs L:=by
 intro i hi;obtain⟨b,off,e,hz,rs,rc,h1,h2,h3,h4⟩:=h i hi;exact⟨b,off,e,lL hz hb.size,rs,rc,by rw[hb.cell (by simp;omega)];exact h1,h2,h3,h4.below hb hB⟩
def PicAt (w:World)(x:Pic)(vs fs:oA):Prop:=GsAt w vs x.vq/\RowsAt w fs x.fq
theorem PicAt.below {B:Nat}{w w':World}{x:Pic}{vs fs:oA}(h:PicAt w x vs fs)(hb:Below B w w')(hB:w.heap.size<=B):PicAt w' x vs fs:=⟨h.1.below hb hB,h.2.below hb hB⟩
theorem PicAt.call {w w':World}{x:Pic}{vs fs:oA}(h:PicAt w x vs fs)(hb:bl w w'):PicAt w' x vs fs:=h.below hb (lR _)
abbrev xv (x:Pic)(vs:oA)(vc:Nat)(fs:oA)(fc:Nat):Value:=Ag #[Bb x.none,U vs x.vq.length vc,U fs x.fq.length fc]
def Wy (x:Pic):Prop:=x.vq.length<=maxLen/\x.fq.length<=maxLen
def XAt (w:World)(b:Nat)(x:Pic)(vs:oA)(vc:Nat)(fs:oA)(fc:Nat):Prop:=
 (w.cell? ⟨b,0,nO⟩=sO (Bb x.none)/\w.cell? ⟨b,1,nO⟩=sO (U vs x.vq.length vc)/\w.cell? ⟨b,2,nO⟩=sO (U fs x.fq.length fc))/\b < w.heap.size/\∀j,w.frozen? ⟨b,j,nO⟩=false
section
variable {w w':World} {b:Nat} {x:Pic} {vs fs:oA} {vc fc:Nat}
theorem Ct {p:Prop}(h:p:=by
 have hc:=yM;have hf:=Kc;obtain⟨⟨h0,h1,h2⟩,h6,h7⟩:=h;exact⟨⟨(hc _).trans h0,(hc _).trans h1,(hc _).trans h2⟩,Nat.lt_of_lt_of_le h6 hz,λj=>(hf j).trans (h7 j)⟩):p:=h
theorem XAt.same (h:XAt w b x vs vc fs fc)(hb:w'.heap[b]? =w.heap[b]?)(hz:w.heap.size<=w'.heap.size):XAt w' b x vs vc fs fc:=Ct
theorem XAt.call (h:XAt w b x vs vc fs fc)(hb:bl w w'):XAt w' b x vs vc fs fc:=h.same (hb.block b h.2.1) hb.size
theorem XAt.new (w:World)(x:Pic)(vs:oA)(vc:Nat)(fs:oA)(fc:Nat):XAt (w.alloc (Cc #[Bb x.none,U vs x.vq.length vc,U fs x.fq.length fc] 28)) w.heap.size x vs vc fs fc:=by
 refine⟨⟨?_,?_,?_⟩,ah,λj=> ?_⟩<;>simp[go_sem]
end
section
variable {w w':World} {B:Nat} {v v':Value} {l l2:List Gc}
theorem GsAt.gcs {ls:oA}{L:List Gs}(h:GsAt w ls L):∃l:List Gc,l.map Gc.g=L/\(∀ad,ls=sO ad->∀j u,(aS l)[j]? =sO u->w.cell? (ad.add j)=sO u)/\(ls=none->l=[])/\∀y∈l,bS (λb=>b < w.heap.size) w y:=by
 have h1:∀i,i < L.length->∃x:Gc,∃b off,ls=sO ⟨b,off,nO⟩/\(x.g=L.getD i noneG)/\(∀j,j < 7->w.cell? ⟨b,off+i * 7+j,nO⟩=(br x)[j]?)/\bS (λb=>b < w.heap.size) w x:=by
  intro i hi;obtain⟨b,off,e,ss,cap,⟨⟨c0,c1,c2,c3,c4,c5,c6⟩,hz⟩,hI,k1,k2⟩:=h i hi;have eg:L.getD i noneG=L[i]:=by simp[z5,hi]
  refine⟨⟨L[i],ss,cap⟩,b,off,e,eg.symm,λj hj=> ?_,hI.inAll,k1,k2⟩
  match j,hj with
  |0,_=>exact c0
  |1,_=>exact c1
  |2,_=>exact c2
  |3,_=>exact c3
  |4,_=>exact c4
  |5,_=>exact c5
  |6,_=>exact c6
  |j+7,hj=>omega
 have h2:∃f:Nat->Gc,∀i,i < L.length->∃b off,ls=sO ⟨b,off,nO⟩/\((f i).g=L.getD i noneG)/\(∀j,j < 7->w.cell? ⟨b,off+i * 7+j,nO⟩=(br (f i))[j]?)/\bS (λb=>b < w.heap.size) w (f i):=by
  refine⟨λi=>if hi:i < L.length then Classical.choose (h1 i hi) else⟨noneG,nO,0⟩,λi hi=> ?_⟩;simp only[dif_pos hi];exact Classical.choose_spec (h1 i hi)
 obtain⟨f,hf⟩:=h2;refine⟨(x4 L.length).map f,?_,?_,?_,?_⟩
 ·refine List.ext_getElem ah λi hi1 hi2=> ?_
  obtain⟨_,_,_,e,_⟩:=hf i hi2;simp only[List.getElem_map,List.getElem_range];rw[e];simp[z5,hi2]
 ·intro ad had j u hju
  have hj:j < L.length * 7:=by
   have:=(x7.1 hju).1;rw[nr] at this;simpa using this
  have e1:j=j / 7 * 7+j % 7:=aa;have hi:j / 7 < L.length:=aa;rw[e1] at hju;rw[fG _ (j / 7) fN (j % 7) aa] at hju;obtain⟨b,off,e,_,hc,_⟩:=hf (j / 7) hi;rw[had] at e;cases e;have:=hc (j % 7) aa;rw[Addr.add_lit];have e2:off+j=off+j / 7 * 7+j % 7:=aa;rw[e2,this];simpa using hju
 ·intro h0
  cases L with
  |nil=>rfl
  |cons a r=>
   obtain⟨_,_,e,_⟩:=hf 0 ah;rw[h0] at e;cases e
 ·intro y hy
  rw[List.mem_map] at hy;obtain⟨i,hi,rfl⟩:=hy;obtain⟨_,_,_,_,_,hx⟩:=hf i fN;exact hx

def CRow (w:World)(B:Nat)(v:Value)(l:List Gc):Prop:=w.ownsRow B 91 7 v l.length (aS l)/\∀x∈l,bS (λb=>b < B) w x
theorem CRow.grown (h:CRow w B v l)(hx:∀x∈l2,bS (λb=>b < B) w x)(hr:w'.ownsRow B 91 7 v' (l.length+l2.length) (aS l++aS l2))(hg:w.grownBy w' v.ownBlock):CRow w' B v' (l++l2):=by
 refine⟨by rw[j4,kJ];exact hr,λy hy=> ?_⟩;have hy':bS (λb=>b < B) w y:=by
  rcases q6.1 hy with hy|hy
  ·exact h.2 y hy
  ·exact hx y hy
 exact⟨hy'.1.same (λb hS hb=>hg.block b hb (λe=>by have:=(aR h.1 e.symm).2;omega)) hg.size,hy'.2⟩
theorem CRow.at (h:CRow w B v l):∃rs rc,v=U rs l.length rc/\l.length<=rc/\rc<=maxLen/\GsAt w rs (l.map Gc.g)/\∀a,rs=sO a->B<=a.block:=by
 refine GRow.at (B:=B) ⟨h.1,λx hx=>⟨(h.2 x hx).1.mono λb hb _ e=> ?_,(h.2 x hx).2⟩⟩;have:=(aR h.1 e).2;omega
end
theorem Ia (l:List Gc):∀u∈aS l,u.oneCell'=true:=by
 intro u hu;unfold aS at hu;rw[Q3] at hu;obtain⟨x,-,hx⟩:=hu;exact dE x u hx
theorem GsAt.gcsTo {w w':World}{ls:oA}{L:List Gs}(h:GsAt w ls L)(hb:bl w w'):∃l:List Gc,l.map Gc.g=L/\(∀ad,ls=sO ad->∀j u,(aS l)[j]? =sO u->w'.cell? (ad.add j)=sO u)/\(ls=none->L.length=0)/\(∀y∈l,bS (λb=>b < w.heap.size) w' y)/\(aS l).length=L.length * 7:=by
 obtain⟨l,e,h1,h2,h3⟩:=h.gcs;refine⟨l,e,λad ha j u hj=> ?_,λh0=>by rw[<-e,h2 h0];rfl,λy hy=>⟨(h3 y hy).1.call hb,(h3 y hy).2⟩,by rw[nr,<-e,Q1]⟩;have:=h1 ad ha j u hj;rw[hb.cell (Q0 w _ this)];exact this
theorem IV (c:lI)(p:Gs->Bool)(L:List (List Gs))(k:Nat)(h:k < L.length):dU c p k (L.drop k)=((!cc c k&&L[k].any p)||dU c p (k+1) (L.drop (k+1))):=by
 rw[q7 h];rfl
theorem oQ {α:Type}(l:List α)(p:α->Bool)(k:Nat)(h:k < l.length):(l.drop k).any p=(p l[k]||(l.drop (k+1)).any p):=by
 rw[q7 h];rfl
theorem Tryz.info_guess:(Tryz.prog.info? 91).map (λi=>(i.zero,i.size,i.bytes))=sO (sO (Ag #[Bb false,Bb false,I .i64 0,I .i64 0,Bb false,Bb false,U nO 0 0]),7,64):=ae
theorem rR {α:Type}{n:Nat}:∀{L:List (List α)},(∀r∈L,r.length=n)->L.flatten.length=L.length * n
 |[],_=>ah
 |r::L,h=>by
  rw[List.flatten_cons,j4,h r x5,rR λr' hr'=>h r' (q0 _ hr'),q8,Nat.add_mul];omega
theorem un {α:Type}(L:List (List α))(k:Nat)(h:k < L.length):(L.take (k+1)).flatten=(L.take k).flatten++L[k]:=by
 rw[List.take_succ_eq_append_getElem h,List.flatten_append];simp
def GsIn (S:Nat->Prop)(w:World)(ls:oA)(L:List Gs):Prop:=
 ∀i (h:i < L.length),∃b off,ls=sO ⟨b,off,nO⟩/\S b/\∃ss cap,GuAt w b (off+i * 7) L[i] ss cap/\IntsIn S w ss L[i].s/\L[i].s.length<=cap/\cap<=maxLen
section
variable {S S':Nat->Prop} {w w':World} {ls:oA} {L:List Gs} {B z:Nat} {v v':Value} {l:List Gc}
theorem GsIn.at (h:GsIn S w ls L):GsAt w ls L:=by
 intro i hi;obtain⟨b,off,e,_,ss,cap,h1,h2,h3⟩:=h i hi;exact⟨b,off,e,ss,cap,h1,h2.at,h3⟩
theorem GsAt.inAll (h:GsAt w ls L):GsIn (λb=>b < w.heap.size) w ls L:=by
 intro i hi;obtain⟨b,off,e,ss,cap,h1,h2,h3⟩:=h i hi;exact⟨b,off,e,h1.2,ss,cap,h1,h2.inAll,h3⟩
theorem GuAt.same {b o:Nat}{g:Gs}{ss:oA}{cap:Nat}(h:GuAt w b o g ss cap)(hb:w'.heap[b]? =w.heap[b]?)(hz:w.heap.size<=w'.heap.size):GuAt w' b o g ss cap:=by
 obtain⟨⟨h0,h1,h2,h3,h4,h5,h6⟩,h7⟩:=h;have hc:=yM;exact⟨⟨(hc _).trans h0,(hc _).trans h1,(hc _).trans h2,(hc _).trans h3,(hc _).trans h4,(hc _).trans h5,(hc _).trans h6⟩,lL h7 hz⟩
theorem GsIn.same (h:GsIn S w ls L)(hs:∀b,S b->b < w.heap.size->w'.heap[b]? =w.heap[b]?)(hz:w.heap.size<=w'.heap.size):GsIn S w' ls L:=by
 intro i hi;obtain⟨b,off,e,hS,ss,cap,h1,h2,h3⟩:=h i hi;exact⟨b,off,e,hS,ss,cap,h1.same (hs b hS h1.2) hz,h2.same hs hz,h3⟩
theorem GsIn.mono (h:GsIn S w ls L)(hs:∀b,S b->b < w.heap.size->S' b):GsIn S' w ls L:=by
 intro i hi;obtain⟨b,off,e,hS,ss,cap,h1,h2,h3⟩:=h i hi;exact⟨b,off,e,hs b hS h1.2,ss,cap,h1,h2.mono hs,h3⟩
theorem GsIn.call (h:GsIn S w ls L)(hb:bl w w'):GsIn S w' ls L:=h.same (λb _ hlt=>hb.block b hlt) hb.size

def SRow (w:World)(B:Nat)(v:Value)(l:List Gc):Prop:=w.ownsRow B 91 7 v l.length (aS l)/\∀x∈l,bS (λb=>B<=b/\v.ownBlock≠sO b) w x
theorem SRow.nil (w:World)(B:Nat):SRow w B (U nO 0 0) []:=⟨⟨rfl,.inl ⟨rfl,rfl⟩⟩,λx hx=>by simp at hx⟩
theorem SRow.call (h:SRow w B v l)(hb:bl w w'):SRow w' B v l:=⟨AB h.1 hb,λx hx=>⟨(h.2 x hx).1.call hb,(h.2 x hx).2⟩⟩
theorem SRow.old (h:SRow w B v l)(hs:∀b,B<=b->w'.heap[b]? =w.heap[b]?)(hz:w.heap.size<=w'.heap.size):SRow w' B v l:=⟨dy h.1 λk hk=>hs k (aR h.1 hk).2,λx hx=>⟨(h.2 x hx).1.same (λb hS _=>hs b hS.1) hz,(h.2 x hx).2⟩⟩
theorem Bw {p:Prop}(h:p:=by
 refine⟨(hm.same (λb hS hb=>hg.block b hb (λe=>hS.1.2 e.symm)) hg.size).mono λb hb _=>⟨hb.1.1,?_⟩,hy'.2⟩;rcases hv with hv|hv
 ·rw[hv];exact hb.1.2
 ·rw[hv]
  intro e;cases e;exact absurd hb.2 (Nat.lt_irrefl _)):p:=h
theorem SRow.grown (h:SRow w B v l){x:Gc}(hx:bS (λb=>B<=b/\v.ownBlock≠sO b) w x)(hr:w'.ownsRow B 91 7 v' (l.length+1) (aS l++br x))(hg:w.grownBy w' v.ownBlock)(hv:v'.ownBlock=v.ownBlock\/v'.ownBlock=sO w.heap.size):SRow w' B v' (l++[x]):=by
 refine⟨by rw[j4,kJ];simpa[aS] using hr,λy hy=> ?_⟩;have hy':bS (λb=>B<=b/\v.ownBlock≠sO b) w y:=by
  rcases q6.1 hy with hy|hy
  ·exact h.2 y hy
  ·rw[j8.1 hy];exact hx
 have hm:IntsIn (λb=>(B<=b/\v.ownBlock≠sO b)/\b < w.heap.size) w y.ss y.g.s:=hy'.1.mono λb h1 h2=>⟨h1,h2⟩;exact Bw
theorem SRow.in (h:SRow w B v l):∃rs rc,v=U rs l.length rc/\l.length<=rc/\rc<=maxLen/\GsIn (λb=>B<=b) w rs (l.map Gc.g):=by
 obtain⟨h1,h2⟩:=h;rcases h1.2 with⟨rfl,h0⟩|⟨g,cap,cur,rfl,hb,hg,k1,k2,k3,k4⟩
 ·have:l=[]:=x6.1 h0
  subst this;exact⟨nO,0,rfl,lR _,cO,λi hi=>absurd hi ah⟩
 ·refine⟨sO ⟨g,0,nO⟩,cap,rfl,k1,k2,λi hi=> ?_⟩
  have hil:i < l.length:=fN;have e:(l.map Gc.g)[i]=l[i].g:=ah;rw[e];have hx:=h2 l[i] (gM hil);refine⟨g,0,rfl,hb,l[i].ss,l[i].cap,⟨?_,(j3.1 hg).1⟩,hx.1.mono λb h _=>h.1,hx.2.1,hx.2.2⟩;have hc:∀j,j < 7->w.cell? ⟨g,i * 7+j,nO⟩=(br l[i])[j]? :=λj hj=>by
   have:=h1.cellAt (i * 7+j) aa;rw[<-fG l i hil j hj];exact this
  simp only[j2];exact rU
end

structure Rw where
 rs:oA
 rc:Nat
 l:List Gs
def rwV (x:Rw):Value:=U x.rs x.l.length x.rc
def uh (S:Nat->Prop)(w:World)(x:Rw):Prop:=GsIn S w x.rs x.l/\x.l.length<=x.rc/\x.rc<=maxLen
def FRow (w:World)(B:Nat)(v:Value)(L:List Rw):Prop:=w.ownsRow B 25 1 v L.length (L.map rwV)/\∀x∈L,uh (λb=>B<=b/\v.ownBlock≠sO b) w x
section
variable {w w':World} {B:Nat} {v v':Value} {L:List Rw}
theorem FRow.nil (w:World)(B:Nat):FRow w B (U nO 0 0) []:=⟨⟨rfl,.inl ⟨rfl,rfl⟩⟩,λx hx=>by simp at hx⟩
theorem FRow.call (h:FRow w B v L)(hb:bl w w'):FRow w' B v L:=⟨AB h.1 hb,λx hx=>⟨(h.2 x hx).1.call hb,(h.2 x hx).2⟩⟩
theorem FRow.old (h:FRow w B v L)(hs:∀b,B<=b->w'.heap[b]? =w.heap[b]?)(hz:w.heap.size<=w'.heap.size):FRow w' B v L:=⟨dy h.1 λk hk=>hs k (aR h.1 hk).2,λx hx=>⟨(h.2 x hx).1.same (λb hS _=>hs b hS.1) hz,(h.2 x hx).2⟩⟩
theorem FRow.grown (h:FRow w B v L){x:Rw}(hx:uh (λb=>B<=b/\v.ownBlock≠sO b) w x)(hr:w'.ownsRow B 25 1 v' (L.length+1) (L.map rwV++[rwV x]))(hg:w.grownBy w' v.ownBlock)(hv:v'.ownBlock=v.ownBlock\/v'.ownBlock=sO w.heap.size):FRow w' B v' (L++[x]):=by
 refine⟨by rw[j4,J7];exact hr,λy hy=> ?_⟩;have hy':uh (λb=>B<=b/\v.ownBlock≠sO b) w y:=by
  rcases q6.1 hy with hy|hy
  ·exact h.2 y hy
  ·rw[j8.1 hy];exact hx
 have hm:GsIn (λb=>(B<=b/\v.ownBlock≠sO b)/\b < w.heap.size) w y.rs y.l:=hy'.1.mono λb h1 h2=>⟨h1,h2⟩;exact Bw
theorem FRow.rows (h:FRow w B v L):∃fs fc,v=U fs L.length fc/\L.length<=fc/\fc<=maxLen/\RowsAt w fs (L.map Rw.l):=by
 obtain⟨h1,h2⟩:=h;rcases h1.2 with⟨rfl,h0⟩|⟨g,cap,cur,rfl,hb,hg,k1,k2,k3,k4⟩
 ·have:L=[]:=x6.1 h0
  subst this;exact⟨nO,0,rfl,lR _,cO,λi hi=>absurd hi ah⟩
 ·refine⟨sO ⟨g,0,nO⟩,cap,rfl,k1,k2,λi hi=> ?_⟩
  have hil:i < L.length:=fN;have e:(L.map Rw.l)[i]=L[i].l:=ah;rw[e];have hx:=h2 L[i] (gM hil);have:=h1.cellAt i aa;refine⟨g,0,rfl,(j3.1 hg).1,L[i].rs,L[i].rc,?_,hx.2.1,hx.2.2,hx.1.at⟩;rw[j2,this];simp[hil,rwV]
end
def X3 (w:World)(b:Nat)(x0 x1 x2:Value):Prop:=(w.cell? ⟨b,0,nO⟩=sO x0/\w.cell? ⟨b,1,nO⟩=sO x1/\w.cell? ⟨b,2,nO⟩=sO x2)/\b < w.heap.size/\∀j,w.frozen? ⟨b,j,nO⟩=false
section
variable {w w':World} {b:Nat} {x0 x1 x2:Value}
theorem X3.same (h:X3 w b x0 x1 x2)(hb:w'.heap[b]? =w.heap[b]?)(hz:w.heap.size<=w'.heap.size):X3 w' b x0 x1 x2:=Ct
theorem X3.call (h:X3 w b x0 x1 x2)(hb:bl w w'):X3 w' b x0 x1 x2:=h.same (hb.block b h.2.1) hb.size
theorem X3.far (h:X3 w b x0 x1 x2){a:Addr}(ha:b≠a.block)(y:Value):X3 (w.setCell a y) b x0 x1 x2:=h.same (hSe _ _ _ _ ha) bH
theorem X3.new (w:World)(t:TypeId)(x0 x1 x2:Value):X3 (w.alloc (Cc #[x0,x1,x2] t)) w.heap.size x0 x1 x2:=by
 refine⟨⟨?_,?_,?_⟩,ah,λj=> ?_⟩<;>simp[go_sem]
theorem X3.put1 (h:X3 w b x0 x1 x2)(y:Value):X3 (w.setCell ⟨b,1,nO⟩ y) b x0 y x2:=by
 obtain⟨⟨h0,h1,h2⟩,h6,h7⟩:=h;exact⟨⟨Nk,Q4 _ _ _ h1,Mq⟩,Do,λj=>DS⟩
theorem X3.put2 (h:X3 w b x0 x1 x2)(y:Value):X3 (w.setCell ⟨b,2,nO⟩ y) b x0 x1 y:=by
 obtain⟨⟨h0,h1,h2⟩,h6,h7⟩:=h;exact⟨⟨Nk,Mj,Q4 _ _ _ h2⟩,Do,λj=>DS⟩
end
theorem PrAt.low {w w':World}{B b:Nat}{V F:Int}{s:oA}{c:lI}{cap:Nat}(h:PrAt w b V F s c cap)(hb:Below B w w')(hB:b < B):PrAt w' b V F s c cap:=by
 obtain⟨⟨h0,h1,h2⟩,hz⟩:=h;exact⟨⟨by rw[hb.cell hB];exact h0,by rw[hb.cell hB];exact h1,by rw[hb.cell hB];exact h2⟩,lL hz hb.size⟩
theorem PrAt.far {w:World}{b:Nat}{V F:Int}{s:oA}{c:lI}{cap:Nat}(h:PrAt w b V F s c cap){a:Addr}(ha:b≠a.block)(y:Value):PrAt (w.setCell a y) b V F s c cap:=by
 have hc:∀j,(w.setCell a y).cell? ⟨b,j,nO⟩=w.cell? ⟨b,j,nO⟩:=λj=>j9 (a:=⟨b,j,nO⟩) (hSe _ _ _ _ ha);obtain⟨⟨h0,h1,h2⟩,hz⟩:=h;exact⟨⟨(hc _).trans h0,(hc _).trans h1,(hc _).trans h2⟩,by simpa[j5] using hz⟩
theorem nV (w:World)(x:Gc)(cs:Array Value)(t:TypeId)(hcs:cs.toList=br x):∀ad,sO (⟨w.heap.size,0,nO⟩:Addr)=sO ad->∀j u,(br x)[j]? =sO u->(w.alloc (Cc cs t)).cell? (ad.add j)=sO u:=by
 intro ad e j u hj;cases e;rw[Addr.add_lit,j2];rw[<-hcs] at hj;simpa[go_sem] using hj
theorem BI (w:World)(x:Value)(t:TypeId):∀ad,sO (⟨w.heap.size,0,nO⟩:Addr)=sO ad->∀j u,([x]:List Value)[j]? =sO u->(w.alloc (Cc #[x] t)).cell? (ad.add j)=sO u:=by
 intro ad e j u hj;cases e;rw[Addr.add_lit,j2];simpa[go_sem] using hj
theorem Tryz.info_row:(Tryz.prog.info? 25).map (λi=>(i.zero,i.size,i.bytes))=sO (sO (U nO 0 0),1,24):=ae
theorem uA {w:World}{a:Addr}{B:Nat}(h:a.block < B)(x:Value):(∀b,B<=b->(w.setCell a x).heap[b]? =w.heap[b]?)/\w.heap.size<=(w.setCell a x).heap.size:=⟨λb hb=>hSe _ _ _ _ aa,bH⟩
theorem GuAt.low {w w':World}{B b o:Nat}{g:Gs}{ss:oA}{cap:Nat}(h:GuAt w b o g ss cap)(hb:Below B w w')(hB:b < B):GuAt w' b o g ss cap:=h.same (hb.block b hB) hb.size
theorem oH {w:World}{b off:Nat}{L:List Gs}(h:GsAt w (sO ⟨b,off,nO⟩) L)(k:Nat)(hk:k < L.length):b < w.heap.size:=by
 obtain⟨b',off',e,ss,cap,h1,_⟩:=h k hk;cases e;exact h1.2
def WX (w':World)(e:Ending)(x:Pic)(er:Int):Prop:=∃vs vc fs fc,e=Rt (Tu #[Ag #[Bb x.none,U vs x.vq.length vc,U fs x.fq.length fc],I .i64 er])/\PicAt w' x vs fs/\(x.vq.length<=vc/\vc<=maxLen)/\(x.fq.length<=fc/\fc<=maxLen)
theorem FRow.olden {w w':World}{B:Nat}{v:Value}{L:List Rw}(h:FRow w B v L)(hs:∀b,B<=b->b < w.heap.size->w'.heap[b]? =w.heap[b]?)(hz:w.heap.size<=w'.heap.size):FRow w' B v L:=⟨dy h.1 λk hk=>hs k (aR h.1 hk).2 (aR h.1 hk).1,λx hx=>⟨(h.2 x hx).1.same (λb hS hlt=>hs b hS.1 hlt) hz,(h.2 x hx).2⟩⟩
def PicOn (S:Nat->Prop)(w:World)(x:Pic)(vs fs:oA):Prop:=∀w2:World,(∀b,S b->b < w.heap.size->w2.heap[b]? =w.heap[b]?)->w.heap.size<=w2.heap.size->PicAt w2 x vs fs
section
variable {S S':Nat->Prop} {w w':World} {x:Pic} {vs fs:oA}
theorem PicOn.at (h:PicOn S w x vs fs):PicAt w x vs fs:=h w (λ_ _ _=>rfl) (lR _)
theorem PicOn.same (h:PicOn S w x vs fs)(hs:∀b,S b->b < w.heap.size->w'.heap[b]? =w.heap[b]?)(hz:w.heap.size<=w'.heap.size):PicOn (λb=>S b/\b < w.heap.size) w' x vs fs:=λw2 h2 hz2=>h w2 (λb hb hlt=>by rw[h2 b ⟨hb,hlt⟩ (by omega),hs b hb hlt]) (lT hz hz2)
theorem PicOn.mono (h:PicOn S w x vs fs)(hs:∀b,S b->b < w.heap.size->S' b):PicOn S' w x vs fs:=λw2 h2 hz2=>h w2 (λb hb hlt=>h2 b (hs b hb hlt) hlt) hz2
theorem PicOn.call (h:PicOn S w x vs fs)(hb:bl w w'):PicOn S w' x vs fs:=(h.same (λb _ hlt=>hb.block b hlt) hb.size).mono λb hb _=>hb.1
theorem PicAt.same (h:PicAt w x vs fs)(hs:∀b,b < w.heap.size->w'.heap[b]? =w.heap[b]?)(hz:w.heap.size<=w'.heap.size):PicAt w' x vs fs:=by
 refine⟨(h.1.inAll.same (λb _ hb=>hs b hb) hz).at,λi hi=> ?_⟩;obtain⟨b,off,e,hb,rs,rc,h1,h2,h3,h4⟩:=h.2 i hi;exact⟨b,off,e,lL hb hz,rs,rc,by rw[j9 (a:=⟨b,off+i,nO⟩) (hs b hb)];exact h1,h2,h3,(h4.inAll.same (λb _ hb=>hs b hb) hz).at⟩
end
def UE (B:Nat)(w':World)(e:Ending)(x:Pic):Prop:=∃vs vc fs fc,e=Rt (Ag #[Bb x.none,U vs x.vq.length vc,U fs x.fq.length fc])/\PicOn (λb=>B<=b) w' x vs fs/\(x.vq.length<=vc/\vc<=maxLen)/\(x.fq.length<=fc/\fc<=maxLen)
end
section
open Go.RowKit Go
def dY (fn:FuncId)(tmps:Array Value)(ps:Array Tmp)(assign body:Code)(D:Nat)(st:LoopState)(pe:Option Code):Loop:={state:=st,pending:=pe,fn:=fn,tmps:=tmps,params:=ps,assign:=assign,body:=body,defers:=D}
structure LoopAt (W:World) (l D:Nat) (r:Loop):Prop where
 lp:W.heap[l]? =sO (.loop r)
 dfr:W.heap[D]? =sO (.deferred (sO []))
theorem LoopAt.below {W W':World}{l D:Nat}{r:Loop}(h:LoopAt W l D r)(hb:Below W.heap.size W W'):LoopAt W' l D r:=⟨(hb.block l (j3.1 h.lp).1).trans h.lp,(hb.block D (j3.1 h.dfr).1).trans h.dfr⟩
section
variable {P:Program} {n:Nat} {fn:FuncId} {g:Operand} {ps:Array Tmp} {assign body:Code} {Q:Exit->Act->World->Prop} {a:Act} {w:World}
theorem OL {gf:Nat}{lb:Array Value}(hg:a.eval g=.func (.func gf) #[] lb)(eg:∀args w,(callFunc gf args).run P w=.ok (.enter gf args) w)
  (J:Nat->Nat->Loop->World->Prop)(Jx:Nat->Nat->Loop->Code->World->Prop)
  (hit:∀fn W1,LoopAt W1 (w.heap.size+1) w.heap.size (dY fn a.tmps ps assign body w.heap.size .ready nO)->Below w.heap.size w W1->CallsIn Fence.wide (n - 1) P gf (#[.func (.yield (w.heap.size+1)) #[] #[]]++lb) W1 λe W'=>(∃v,e=Rt v)/\((LoopAt W' (w.heap.size+1) w.heap.size (dY fn a.tmps ps assign body w.heap.size .ready nO)/\J (w.heap.size+1) w.heap.size (dY fn a.tmps ps assign body w.heap.size .ready nO) W')\/∃c,LoopAt W' (w.heap.size+1) w.heap.size (dY fn a.tmps ps assign body w.heap.size .done (sO c))/\Jx (w.heap.size+1) w.heap.size (dY fn a.tmps ps assign body w.heap.size .done (sO c)) c W'))
  (hdone:∀r W,LoopAt W (w.heap.size+1) w.heap.size r->J (w.heap.size+1) w.heap.size r W->∀r',Q .normal {a with defers:={target:=.collected w.heap.size,args:=#[]}::a.defers} (W.putObj (w.heap.size+1) r'))
  (hstop:∀r c W,LoopAt W (w.heap.size+1) w.heap.size r->Jx (w.heap.size+1) w.heap.size r c W->∀r',c.wpIn Fence.wide n P Q {a with defers:={target:=.collected w.heap.size,args:=#[]}::a.defers} (W.putObj (w.heap.size+1) r')):
  (Code.rangeFunc g ps assign body).wpIn Fence.wide n P Q a w:=by
 refine wpIn_rangeFunc λfn _=> ?_;have hs:(w.alloc (.deferred (sO []))).heap.size=w.heap.size+1:=zA _ _;obtain⟨W1,hW1⟩:∃W1,W1=(w.alloc (.deferred (sO []))).alloc (.loop (dY fn a.tmps ps assign body w.heap.size .ready nO)):=⟨_,rfl⟩;have hb:Below w.heap.size w W1:=by rw[hW1];exact((bR _ w).alloc (lR _) _).alloc (by rw[hs];omega) _
 have h1:LoopAt W1 (w.heap.size+1) w.heap.size (dY fn a.tmps ps assign body w.heap.size .ready nO):=by
  rw[hW1];refine⟨?_,(Below.heap_alloc _ _ _ (by rw[hs];omega)).trans (Q5 w _)⟩;have:=Q5 (w.alloc (.deferred (sO []))) (.loop (dY fn a.tmps ps assign body w.heap.size .ready nO));rwa [hs] at this
 refine⟨w.heap.size+1,[{target:=.collected w.heap.size,args:=#[]}],W1,{target:=.fn (.func gf) lb,args:=#[.func (.yield (w.heap.size+1)) #[] #[]]},W1,gf,#[.func (.yield (w.heap.size+1)) #[] #[]]++lb,W1,?_,?_,λ_ _=>trivial,?_,λh=>(by cases h),?_⟩
 ·rw[hW1]
  exact run_enterLoop_outer _ _ _ _ _
 ·simp only[resolve,hg]
  simp[go_sem]
 ·simp[invoke,go_sem,eg]
 ·refine(hit fn _ h1 hb).mono ?_
  rintro e W' ⟨⟨v,rfl⟩,⟨hl,hj⟩|⟨c,hl,hj⟩⟩
  ·exact⟨nO,_,run_endLoop hl.lp (by simp[dY]),hdone _ _ hl hj _⟩
  ·exact⟨sO c,_,run_endLoop hl.lp (by simp[dY]),hstop _ c _ hl hj _⟩
theorem TC {l D m:Nat}{args:Array Value}{tmps:Array Value}{W:World}{R:Ending->World->Prop}(hl:LoopAt W l D (dY fn tmps ps assign body D .ready nO))(hz:args.size=ps.size)
  (h:assign.wpIn (Fence.wide.inRound l) m P (Exit.then (λa₁ W₁=>LoopAt W₁ l D (dY fn tmps ps assign body D .ready nO)/\body.wpIn (Fence.wide.inRound l) m P (λe _ W₃=>LoopAt W₃ l D (dY fn tmps ps assign body D .busy nO)/\(match e with
    |.normal=>R (Rt (Bb true)) (W₃.putObj l (.loop (dY fn tmps ps assign body D .ready nO)))
    |.ret=>R (Rt (Bb false)) (W₃.putObj l (.loop (dY fn tmps ps assign body D .done (sO .ret))))
    |.exit i=>R (Rt (Bb false)) (W₃.putObj l (.loop (dY fn tmps ps assign body D .done (sO (.exit i)))))
    |_=>False)) a₁ (W₁.putObj l (.loop (dY fn tmps ps assign body D .busy nO)))) (λ_ _ _=>False)) {tmps:=(ps.zip args).foldl (λt (p,v)=>t.setIfInBounds p v) tmps,defers:=[]} W):
  YieldAt Fence.wide m P l args W R:=by
 refine⟨fn,_,assign,body,run_yield hl.lp hz,roundIn_of_wpIn trivial (wpIn_mono h ?_)⟩;intro e a1 W1 q;cases e with
 |normal=>
  obtain⟨hl1,hb⟩:=q;refine⟨_,run_beginRound hl1.lp rfl,wpIn_mono hb ?_⟩;intro e a3 W3 q3;obtain⟨hl3,q3⟩:=q3;cases e with
  |normal=>exact⟨_,_,run_endRound nO hl3.lp,q3⟩
  |ret=>exact⟨_,_,run_endRound (sO .ret) hl3.lp,q3⟩
  |exit i=>exact⟨_,_,run_endRound (sO (.exit i)) hl3.lp,q3⟩
  |goto t=>exact q3.elim
  |panic ch=>exact q3.elim
  |outgrown=>exact q3.elim
 |ret=>exact q
 |exit i=>exact q
 |goto t=>exact q
 |panic ch=>exact q
 |outgrown=>exact q
end
end
section
open Go.RowKit
theorem DZ (l:List Int)(p:Int->Bool)(k:Nat)(h:k < l.length):(l.drop k).any p=(p l[k]||(l.drop (k+1)).any p):=by
 rw[q7 h];rfl

theorem RL (l:List Int)(x:Int)(k:Nat)(h:k < l.length):x∈l.drop k↔(x=l[k]\/x∈l.drop (k+1)):=by
 rw[q7 h,q5]

theorem Ot (x:Int)(ss:oA)(cap:Nat)(l:List Int)(w:World)(hl:l.length<=9223372036854775807)(hs:IntsAt w ss l):
  Calls pG 196 #[U ss l.length cap,I .i64 x] w λe w'=>∃n:Int,e=Rt (I .i64 n)/\(0<=n↔x∈l)/\w'=w:=by
 go_enter func196,ntmps196;go_wp2
 go_loop [8] (λi=>∃k:Nat,k<=l.length/\i=I .i64 k/\Hid (x∈l↔x∈l.drop k)) (λi=>l.length - (intOf i).toNat)
 case atStart=>exact⟨0,j6 _,rfl,Iff.rfl⟩
 case round=>
  obtain⟨k,hk,rfl,HA⟩:=hrel;by_cases hlt:k < l.length
  ·obtain⟨b,off,rfl,hb,hc⟩:=hs.get k hlt
   have n0:=bA;have n1:=mZ;have c0:=hc k hlt;have HN:=FV;clear hc hs;by_cases hp:l[k]=x
   ·have HT:Hid (x∈l):=HA.out.2 (HN.out.2 (.inl hp.symm))
    clear HN HA;have hp':(x==l[k])=true:=by simp[hp]
    go_wp2;go_ret;exact⟨_,rfl,⟨λ_=>HT.out,λ_=>aa⟩,rfl⟩
   ·have HT:=Gj
    have hp':(x==l[k])=false:=by simp;exact λh=>hp h.symm
    clear HN HA;go_wp2
    go_round
    case rel=>exact⟨k+1,aa,aF,HT⟩
    case measure=>exact aK
  ·go_wp2
   go_ret;exact⟨_,rfl,⟨λh=>absurd h aa,λh=>by have:=HA.out.1 h;rw[q9 (by omega)] at this;cases this⟩,rfl⟩

theorem Fw (x:Int)(ss:oA)(cap:Nat)(l:List Int)(w:World)(hl:l.length<=9223372036854775807)(hs:IntsAt w ss l):
  Calls pG 144 #[U ss l.length cap,I .i64 x] w λe w'=>e=Rt (Bb (l.contains x))/\w'=w:=by
 go_enter func144,ntmps144;go_wp2_with fail;refine(Ot x ss cap l _ hl hs).mono ?_;rintro e w1 ⟨n,rfl,hn,rfl⟩;go_wp2;go_ret;exact⟨bF ah,rfl⟩
theorem Dr (q:Nat)(p:Int->Bool)(ss:oA)(cap:Nat)(l:List Int)(w:World)(hl:l.length<=9223372036854775807)(hs:IntsAt w ss l)
  (hF:∀x wx,bl w wx->Calls pG 224 #[I .i64 x,Pp (sO ⟨q,0,nO⟩)] wx λe w'=>e=Rt (Bb (p x))/\bl wx w'):
  Calls pG 227 #[U ss l.length cap,.func (.func 224) #[] #[Pp (sO ⟨q,0,nO⟩)]] w λe w'=>∃n:Int,e=Rt (I .i64 n)/\decide (0<=n)=l.any p/\bl w w':=by
 have HF:=ag hF;clear hF;go_enter func227,ntmps227;go_wp2;go_loopw [8] (λi wr=>∃k:Nat,k<=l.length/\i=I .i64 k/\bl w wr/\Hid (l.any p=(l.drop k).any p)) (λi _=>l.length - (intOf i).toNat)
 case atStart=>exact⟨0,j6 _,rfl,bR _ _,rfl⟩
 case round=>
  obtain⟨k,hk,rfl,hbr,HA⟩:=hrel;by_cases hlt:k < l.length
  ·obtain⟨b,off,rfl,hb,hc⟩:=hs.get k hlt
   have n0:=bA;have n1:=mZ;have s0:=hbr.size;have c0:=yl;have HN:=wV;clear hc hs;go_wp2_with fail;refine(HF.out _ _ hbr).mono ?_;rintro e w1 ⟨rfl,hb1⟩;cases hp:p l[k] with
   |true=>
    have HT:Hid (l.any p=true):=kk;clear HN HA;go_wp2;go_ret;exact lk
   |false=>
    have HT:=yD;clear HN HA;go_wp2;go_roundw
    case rel=>exact⟨k+1,aa,aF,hbr.trans (hb1.mono s0),HT⟩
    case measure=>exact aK
  ·go_wp2
   go_ret;exact im

theorem vt (q:Nat)(p:Int->Bool)(ss:oA)(cap:Nat)(l:List Int)(w:World)(hl:l.length<=9223372036854775807)(hs:IntsAt w ss l)
  (hF:∀x wx,bl w wx->Calls pG 224 #[I .i64 x,Pp (sO ⟨q,0,nO⟩)] wx λe w'=>e=Rt (Bb (p x))/\bl wx w'):
  Calls pG 200 #[U ss l.length cap,.func (.func 224) #[] #[Pp (sO ⟨q,0,nO⟩)]] w λe w'=>e=Rt (Bb (l.any p))/\bl w w':=by
 have HF:=ag hF;clear hF;go_enter func200,ntmps200;go_wp2_with fail;refine(Dr q p ss cap l _ hl hs HF.out).mono ?_;rintro e w1 ⟨n,rfl,hn,hb1⟩;go_wp2;go_ret;exact fA
theorem gN {p:Prop}(h:p:=by
 go_enter func209,ntmps209;go_wp2_with (go_at_call 57;refine(eC _ _ _ _).mono ?_;rintro e w' ⟨rfl,rfl⟩);go_ret;exact⟨rfl,am⟩):p:=h
theorem sS (s:Sp)(w:World):
  Calls pG 209 #[sv s] w λe w'=>e=Rt (I .i64 (cE s))/\bl w w':=by
 obtain⟨n,lo,hi⟩:=s;have e0:cE ⟨n,lo,hi⟩=if¬(bk lo/\bk hi) then 3 else if n=true/\¬(lo=0/\hi=0) then 1 else if hi < lo then 4 else 0:=rfl
 rw[e0];clear e0;by_cases h:bk lo
 ·have b1:btw lo (-2147483648) 2147483647=true:=decide_eq_true h
  by_cases h':bk hi
  ·have b2:btw hi (-2147483648) 2147483647=true:=decide_eq_true h'
   rw[if_neg (by simp[h,h'])];clear h h';cases n with
   |true=>
    by_cases hz:lo=0
    ·subst hz
     by_cases hz':hi=0
     ·subst hz'
      rw[if_neg ah,if_neg ah];exact gN
     ·have q:(hi==0)=false:=by simpa using hz'
      rw[if_pos (by simp[hz'])];exact gN
    ·have q:(lo==0)=false:=by simpa using hz
     rw[if_pos (by simp[hz])];exact gN
   |false=>
    rw[if_neg ah];by_cases hz:hi < lo
    ·rw[if_pos hz]
     exact gN
    ·rw[if_neg hz]
     exact gN
  ·have b2:btw hi (-2147483648) 2147483647=false:=decide_eq_false h'
   rw[if_pos (by simp[h'])];clear h h';exact gN
 ·have b1:btw lo (-2147483648) 2147483647=false:=decide_eq_false h
  rw[if_pos (by simp[h])];clear h;exact gN

theorem CI (s:Sp)(x:Int)(w:World):
  Calls pG 113 #[sv s,I .i64 x] w λe w'=>e=Rt (Bb (s.has x))/\bl w w':=by
 obtain⟨n,lo,hi⟩:=s;have e0:btw x lo hi=(decide (lo<=x)&&decide (x<=hi)):=by unfold btw;exact Bool.decide_and _ _
 have e1:Sp.has ⟨n,lo,hi⟩ x=(!n&&btw x lo hi):=by rw[e0];rfl
 rw[e1];cases n with
 |true=>
  go_enter func113,ntmps113;go_wp2;go_ret;exact cZ
 |false=>
  clear e0 e1;generalize hB:btw x lo hi=B;go_enter func113,ntmps113;go_wp2_with (go_at_call 57;refine(eC _ _ _ _).mono ?_;rintro e w' ⟨rfl,rfl⟩);go_ret;exact⟨bF (by simp[hB]),am⟩

theorem Hs (g c:Nat)(x y:Int)(w:World)(h0:w.cell? ⟨g,0,nO⟩=sO (I .i64 x))(h1:w.cell? ⟨g,1,nO⟩=sO (I .i64 y)):
  Calls pG 207 #[U (sO ⟨g,0,nO⟩) 2 c] w λe w'=>e=Rt (I .i64 (min x y))/\w'=w:=by
 go_enter func207,ntmps207;go_wp2
 go_rounds 2
 all_goals go_ret
 all_goals exact⟨bQ aa,rfl⟩

theorem RG (g c:Nat)(x y z u:Int)(w:World)(h0:w.cell? ⟨g,0,nO⟩=sO (I .i64 x))(h1:w.cell? ⟨g,1,nO⟩=sO (I .i64 y))(h2:w.cell? ⟨g,2,nO⟩=sO (I .i64 z))(h3:w.cell? ⟨g,3,nO⟩=sO (I .i64 u)):
  Calls pG 207 #[U (sO ⟨g,0,nO⟩) 4 c] w λe w'=>e=Rt (I .i64 (dZ x y z u))/\w'=w:=by
 go_enter func207,ntmps207;go_wp2
 go_rounds 4
 all_goals go_ret
 all_goals exact⟨bQ (by unfold dZ;omega),rfl⟩

theorem OJ (g c:Nat)(x y:Int)(w:World)(h0:w.cell? ⟨g,0,nO⟩=sO (I .i64 x))(h1:w.cell? ⟨g,1,nO⟩=sO (I .i64 y)):
  Calls pG 208 #[U (sO ⟨g,0,nO⟩) 2 c] w λe w'=>e=Rt (I .i64 (max x y))/\w'=w:=by
 go_enter func208,ntmps208;go_wp2
 go_rounds 2
 all_goals go_ret
 all_goals exact⟨bQ aa,rfl⟩

theorem UG (g c:Nat)(x y z u:Int)(w:World)(h0:w.cell? ⟨g,0,nO⟩=sO (I .i64 x))(h1:w.cell? ⟨g,1,nO⟩=sO (I .i64 y))(h2:w.cell? ⟨g,2,nO⟩=sO (I .i64 z))(h3:w.cell? ⟨g,3,nO⟩=sO (I .i64 u)):
  Calls pG 208 #[U (sO ⟨g,0,nO⟩) 4 c] w λe w'=>e=Rt (I .i64 (dX x y z u))/\w'=w:=by
 go_enter func208,ntmps208;go_wp2
 go_rounds 4
 all_goals go_ret
 all_goals exact⟨bQ (by unfold dX;omega),rfl⟩
end
section
open Go
section
variable {P:Program} {ops:Array Oper} {Q:Exit->Act->World->Prop} {md:Region.Mode} {S:World->Prop} {zs:List Nat}

def cF (P:Program)(md:Region.Mode)(ops:Array Oper)(Q:Exit->Act->World->Prop)(S:World->Prop)(zs:List Nat):Nat->Array Bool->Act->World->Prop
 |0,listed,a,w=>Region.ready md ops listed=[]/\Q .normal a w
 |fuel+1,listed,a,w=>
  (Region.ready md ops listed=[]->Q .normal a w)/\
  ∀i∈Region.ready md ops listed,wpOp P ops Q i (λa' w'=>(i∉zs->S w->S w')/\cF P md ops Q S zs fuel (listed.setIfInBounds i true) a' w') a w

theorem pH:∀(fuel:Nat) (listed:Array Bool) (a:Act) (w:World),cF P md ops Q S zs fuel listed a w->wpAny P md ops Q fuel listed a w
 |0,_,_,_,h=>h
 |fuel+1,_,_,_,h=>⟨h.1,λi hi=>wpOp_mono (λa' w' h'=>pH fuel _ a' w' h'.2) (h.2 i hi)⟩

def Dx (md:Region.Mode)(ops:Array Oper)(i:Nat):Nat->List Nat->List Nat
 |0,ws=>ws
 |n+1,ws=>Dx md ops i n ((x4 ops.size).filter λx=>((ops[x]?).map λo=>o.after.any λe=>Region.binds md e&&(e.on==i||ws.contains e.on)).getD false)
def Mu (md:Region.Mode)(ops:Array Oper)(listed:Array Bool)(i:Nat)(ws:List Nat):Bool:=
 ws.all λx=> !(listed.getD x true)&&((ops[x]?).map λo=>o.after.any λe=>Region.binds md e&&(e.on==i||ws.contains e.on)).getD false
def zOk (md:Region.Mode)(ops:Array Oper)(listed:Array Bool)(i:Nat)(zs:List Nat):Bool:=
 !zs.contains i&&(let ws:=Dx md ops i 8 [];Mu md ops listed i ws&&zs.all λz=>listed.getD z true||ws.contains z)

theorem It {i:Nat}{oi:Oper}{v:Value}(hi:ops[i]? =sO oi)(hsel:∀(j:Nat) (o:Oper) cs b,ops[j]? =sO o->o.op≠.select cs b)
  (hQ:∀c a w,Q (.panic c) (a.put oi.dst v) w->Q (.panic c) a w)(hiz:i∉zs)(ws:List Nat)
  (hws:∀x∈ws,∀o,ops[x]? =sO o->∃e∈o.after,Region.binds md e=true/\(e.on=i\/e.on∈ws)):
  ∀(fuel:Nat) (listed:Array Bool) (a:Act) (w:World),
   (∀j oj,ops[j]? =sO oj->j≠i->listed.getD j true=false->(∀e∈oj.after,Region.binds md e=true->e.on≠i)->oi.apart ops oj=true)->
   (∀x∈ws,listed.getD x true=false)->(∀z∈zs,listed.getD z true=true\/z∈ws)->
   i∈Region.ready md ops listed->YieldsIf P ops S oi v a->S w->
   cF P md ops Q S zs fuel (listed.setIfInBounds i true) (a.put oi.dst v) w->cF P md ops Q S zs (fuel+1) listed a w:=by
 intro fuel;induction fuel with
 |zero=>
  intro listed a w _ _ _ hr hy hS H;refine⟨λh=>(by rw[h] at hr;cases hr),λj hj=> ?_⟩;by_cases hji:j=i
  ·subst hji;exact hy.wpOp hi hS ⟨λ_ _=>hS,H⟩
  ·have:=ready_mono hj hji
   rw[H.1] at this;cases this
 |succ fuel ih=>
  intro listed a w hfree hun hzs hr hy hS H;refine⟨λh=>(by rw[h] at hr;cases hr),λj hj=> ?_⟩;by_cases hji:j=i
  ·subst hji;exact hy.wpOp hi hS ⟨λ_ _=>hS,H⟩
  ·have h1:=H.2 j (ready_mono hj hji)
   obtain⟨hjun,oj,hoj,hall⟩:=mem_ready.1 hj;have h0:=(mem_ready.1 hr).1;have hf:∀x,listed.getD x true=false->listed.getD x false=false:=λx hx=>by
    rcases Nat.lt_or_ge x listed.size with h'|h'
    ·simp[h'] at hx |-;exact hx
    ·simp[Array.getElem?_eq_none h'] at hx
   have hjw:j∉ws:=λhj'=>by
    obtain⟨e,he,hb,hon⟩:=hws j hj' oj hoj;have h2:=hall e he hb;rcases hon with hon|hon
    ·rw[hon,hf i h0] at h2;cases h2
    ·rw[hf _ (hun _ hon)] at h2;cases h2
   have hjz:j∉zs:=λhj'=>by
    rcases hzs j hj' with h|h
    ·rw[h] at hjun;cases hjun
    ·exact hjw h
   have hnot:∀e∈oj.after,Region.binds md e=true->e.on≠i:=λe he hb heq=>by
    have h2:=hall e he hb;rw[heq,hf i h0] at h2;cases h2
   have h2:=wpOp_putIf hoj (hfree j oj hoj hji hjun hnot) (λcs b=>hsel i oi cs b hi) (λcs b=>hsel j oj cs b hoj) hQ hy h1;have hset:∀k,(listed.setIfInBounds j true).getD k true=false->listed.getD k true=false:=λk hk=>by
    by_cases hjk:j=k
    ·subst hjk;exact hjun
    ·rw[getD_set_ne true hjk] at hk;exact hk
   have hfree':∀k ok,ops[k]? =sO ok->k≠i->(listed.setIfInBounds j true).getD k true=false->
     (∀e∈ok.after,Region.binds md e=true->e.on≠i)->oi.apart ops ok=true:=λk ok hk hki hun' hno=>hfree k ok hk hki (hset k hun') hno
   refine wpOp_mono (λa' w' h3=>⟨h3.2.1,ih (listed.setIfInBounds j true) a' w' hfree' (λx hx=> ?_) (λz hz=> ?_) (ready_mono hr (Ne.symm hji)) h3.1 (h3.2.1 hjz hS) ?_⟩) h2
   ·rw[getD_set_ne true (λe=>hjw (by rw[e];exact hx))];exact hun x hx
   ·rcases hzs z hz with h|h
    ·left
     by_cases hjk:j=z
     ·exact absurd (hjk ▸ hz) hjz
     ·rw[getD_set_ne true hjk];exact h
    ·exact .inr h
   ·rw[Array.setIfInBounds_comm _ _ hji]
    exact h3.2.2

theorem LX {i:Nat}{oi:Oper}{v:Value}(hi:ops[i]? =sO oi)(hsel:∀(j:Nat) (o:Oper) cs b,ops[j]? =sO o->o.op≠.select cs b)
  (hQ:∀c a w,Q (.panic c) (a.put oi.dst v) w->Q (.panic c) a w):
  ∀(fuel:Nat) (listed:Array Bool) (a:Act) (w:World),
   (∀j oj,ops[j]? =sO oj->j≠i->listed.getD j true=false->(∀e∈oj.after,Region.binds md e=true->e.on≠i)->oi.apart ops oj=true)->
   i∈Region.ready md ops listed->YieldsIf P ops (λ_=>True) oi v a->
   cF P md ops Q S zs fuel (listed.setIfInBounds i true) (a.put oi.dst v) w->cF P md ops Q S zs (fuel+1) listed a w:=by
 intro fuel;induction fuel with
 |zero=>
  intro listed a w _ hr hy H;refine⟨λh=>(by rw[h] at hr;cases hr),λj hj=> ?_⟩;by_cases hji:j=i
  ·subst hji;exact hy.wpOp hi trivial ⟨λ_ h=>h,H⟩
  ·have:=ready_mono hj hji
   rw[H.1] at this;cases this
 |succ fuel ih=>
  intro listed a w hfree hr hy H;refine⟨λh=>(by rw[h] at hr;cases hr),λj hj=> ?_⟩;by_cases hji:j=i
  ·subst hji;exact hy.wpOp hi trivial ⟨λ_ h=>h,H⟩
  ·have h1:=H.2 j (ready_mono hj hji)
   obtain⟨hjun,oj,hoj,hall⟩:=mem_ready.1 hj;have h0:=(mem_ready.1 hr).1;have hf:∀x,listed.getD x true=false->listed.getD x false=false:=λx hx=>by
    rcases Nat.lt_or_ge x listed.size with h'|h'
    ·simp[h'] at hx |-;exact hx
    ·simp[Array.getElem?_eq_none h'] at hx
   have hnot:∀e∈oj.after,Region.binds md e=true->e.on≠i:=λe he hb heq=>by
    have h2:=hall e he hb;rw[heq,hf i h0] at h2;cases h2
   have h2:=wpOp_putIf hoj (hfree j oj hoj hji hjun hnot) (λcs b=>hsel i oi cs b hi) (λcs b=>hsel j oj cs b hoj) hQ hy h1;have hset:∀k,(listed.setIfInBounds j true).getD k true=false->listed.getD k true=false:=λk hk=>by
    by_cases hjk:j=k
    ·subst hjk;exact hjun
    ·rw[getD_set_ne true hjk] at hk;exact hk
   have hfree':∀k ok,ops[k]? =sO ok->k≠i->(listed.setIfInBounds j true).getD k true=false->
     (∀e∈ok.after,Region.binds md e=true->e.on≠i)->oi.apart ops ok=true:=λk ok hk hki hun' hno=>hfree k ok hk hki (hset k hun') hno
   refine wpOp_mono (λa' w' h3=>⟨h3.2.1,ih (listed.setIfInBounds j true) a' w' hfree' (ready_mono hr (Ne.symm hji)) h3.1 ?_⟩) h2;rw[Array.setIfInBounds_comm _ _ hji];exact h3.2.2
theorem Ly {i:Nat}{oi:Oper}{v:Value}{fuel:Nat}{listed:Array Bool}{a:Act}{w:World}(hi:ops[i]? =sO oi)
  (hs:Region.noSelect ops=true)(hf:Region.free md ops listed i=true)(hr:(Region.ready md ops listed).contains i=true)
  (hQ:∀c a w,Q (.panic c) (a.put oi.dst v) w->Q (.panic c) a w)(hy:YieldsIf P ops (λ_=>True) oi v a)
  (h:cF P md ops Q S zs fuel (listed.setIfInBounds i true) (a.put oi.dst v) w):cF P md ops Q S zs (fuel+1) listed a w:=
 LX hi (Region.noSelect_spec hs) hQ fuel listed a w (Region.free_spec hi hf) (by simpa using hr) hy h

theorem vu {i:Nat}{oi:Oper}{v:Value}{fuel:Nat}{listed:Array Bool}{a:Act}{w:World}(hi:ops[i]? =sO oi)
  (hs:Region.noSelect ops=true)(hf:(Region.free md ops listed i&&zOk md ops listed i zs)=true)(hr:(Region.ready md ops listed).contains i=true)
  (hQ:∀c a w,Q (.panic c) (a.put oi.dst v) w->Q (.panic c) a w)(hy:YieldsIf P ops S oi v a)(hS:S w)
  (h:cF P md ops Q S zs fuel (listed.setIfInBounds i true) (a.put oi.dst v) w):cF P md ops Q S zs (fuel+1) listed a w:=by
 rw[q2] at hf;obtain⟨hf,hz⟩:=hf;simp only[zOk,q2,Mu,List.all_eq_true,Bool.not_eq_true',Bool.or_eq_true] at hz;obtain⟨hz1,hz2,hz3⟩:=hz;refine It hi (Region.noSelect_spec hs) hQ (by simpa using hz1) (Dx md ops i 8 []) (λx hx o ho=> ?_) fuel listed a w (Region.free_spec hi hf) (λx hx=>(hz2 x hx).1) (λz hz=> ?_) (by simpa using hr) hy hS h
 ·have:=(hz2 x hx).2
  rw[ho] at this;simp only[Option.map_some,Option.getD_some,Array.any_eq_true,q2,Bool.or_eq_true,beq_iff_eq] at this;obtain⟨k,hk,hb,hon⟩:=this;exact⟨_,Array.getElem_mem hk,hb,hon.imp id (by simp)⟩
 ·rcases hz3 z hz with h|h
  ·exact .inl h
  ·exact .inr (by simpa using h)

theorem aC {listed:Array Bool}{a:Act}{w:World}(hr:Region.ready md ops listed=[])(h:Q .normal a w):
  ∀fuel,cF P md ops Q S zs fuel listed a w
 |0=>⟨hr,h⟩
 |_+1=>⟨λ_=>h,by rw[hr];simp⟩

theorem aB {i:Nat}{o:Oper}{fuel:Nat}{listed:Array Bool}{a:Act}{w:World}(ho:ops[i]? =sO o)(hr:Region.ready md ops listed=[i])
  (h:∀K':Act->World->Prop,Shut (∀a w,S w->(S w->cF P md ops Q S zs fuel (listed.setIfInBounds i true) a w)->K' a w)->if Region.wanted o (yielded ops a.tmps)=true then Oper.wp P o a w K' Q else K' (a.put o.dst undef) w):
  cF P md ops Q S zs (fuel+1) listed a w:=by
 refine⟨λh0=>(by rw[hr] at h0;cases h0),λj hj=> ?_⟩;rw[hr] at hj;obtain rfl:j=i:=by simpa using hj
 exact wpOp_step ho (λK' hK=>h K' (λa w hS hW=>hK a w ⟨λ_ _=>hS,hW hS⟩))
theorem O6 {i j:Nat}{oi oj:Oper}{fuel:Nat}{listed:Array Bool}{a:Act}{w:World}(hoi:ops[i]? =sO oi)(hoj:ops[j]? =sO oj)(hr:Region.ready md ops listed=[i,j])
  (h:∀K':Act->World->Prop,Shut (∀a w,S w->(S w->cF P md ops Q S zs fuel (listed.setIfInBounds i true) a w)->K' a w)->if Region.wanted oi (yielded ops a.tmps)=true then Oper.wp P oi a w K' Q else K' (a.put oi.dst undef) w)
  (h':∀K':Act->World->Prop,Shut (∀a w,S w->(S w->cF P md ops Q S zs fuel (listed.setIfInBounds j true) a w)->K' a w)->if Region.wanted oj (yielded ops a.tmps)=true then Oper.wp P oj a w K' Q else K' (a.put oj.dst undef) w):
  cF P md ops Q S zs (fuel+1) listed a w:=by
 refine⟨λh0=>(by rw[hr] at h0;cases h0),λk hk=> ?_⟩;rw[hr] at hk;rcases q5.1 hk with rfl|hk
 ·exact wpOp_step hoi (λK' hK=>h K' (λa w hS hW=>hK a w ⟨λ_ _=>hS,hW hS⟩))
 ·obtain rfl:k=j:=by simpa using hk
  exact wpOp_step hoj (λK' hK=>h' K' (λa w hS hW=>hK a w ⟨λ_ _=>hS,hW hS⟩))
theorem bE {i:Nat}{o:Oper}{fuel:Nat}{listed:Array Bool}{a:Act}{w:World}(ho:ops[i]? =sO o)(hr:Region.ready md ops listed=[i])(hz:zs.contains i=true)
  (h:∀K':Act->World->Prop,Shut (∀a w,cF P md ops Q S zs fuel (listed.setIfInBounds i true) a w->K' a w)->if Region.wanted o (yielded ops a.tmps)=true then Oper.wp P o a w K' Q else K' (a.put o.dst undef) w):
  cF P md ops Q S zs (fuel+1) listed a w:=by
 refine⟨λh0=>(by rw[hr] at h0;cases h0),λj hj=> ?_⟩;rw[hr] at hj;obtain rfl:j=i:=by simpa using hj
 exact wpOp_step ho (λK' hK=>h K' (λa w hW=>hK a w ⟨λhn=>absurd (by simpa using hz) hn,hW⟩))

theorem aG {id:Nat}{a:Act}{w:World}(zs:List Nat)(hm:P.follows .mixedOrders=true)(hS:S w.drew)
  (h:S w.drew->cF P .any ops Q S zs ops.size (Array.replicate ops.size false) a w.drew):(Code.region id ops true).wp P Q a w:=
 wp_region_any hm (pH _ _ _ _ (h hS))
end
theorem sm {p q:Prop}(h:q)(e:q->p:=by(intro h;(try simp only[Act.put,List.getElem_toArray,List.getElem_cons_zero,List.getElem_cons_succ,List.setIfInBounds_toArray,List.set_cons_zero,List.set_cons_succ]);exact h)):p:=e h
section
variable {P:Program} {ops:Array Oper} {Q:Exit->Act->World->Prop} {md:Region.Mode} {S:World->Prop} {zs:List Nat}
theorem tZ (i:Nat){oi:Oper}(v:Value){fuel:Nat}{listed:Array Bool}{a:Act}{w:World}
  (h:cF P md ops Q S zs fuel (listed.setIfInBounds i true) (a.put oi.dst v) w)(hi:ops[i]? =some oi:=by rfl)(hy:∀w,S w->(execOp a.eval oi).run P w=.ok (.value v) w:=by(intro w hSw;(try dsimp only at hSw);first|(go_simp;done)|(go_simp;with_reducible rfl)))
  (hs:Region.noSelect ops=true:=by kernel_rfl)(hf:(Region.free md ops listed i&&zOk md ops listed i zs)=true:=by kernel_rfl)(hr:(Region.ready md ops listed).contains i=true:=by kernel_rfl)
  (hQ:∀c a w,Q (.panic c) (a.put oi.dst v) w->Q (.panic c) a w:=by exact λ_ _ _ h=>h)(hw:Region.wanted oi (yielded ops a.tmps)=true:=by rfl)(hS:S w:=by assumption):cF P md ops Q S zs (fuel+1) listed a w:=
 vu hi hs hf hr hQ (.inl ⟨hw,hy⟩) hS h
theorem tH (i:Nat){oi:Oper}(v:Value){fuel:Nat}{listed:Array Bool}{a:Act}{w:World}
  (h:wpAnyH P md ops Q S fuel (listed.setIfInBounds i true) (a.put oi.dst v) w)(hi:ops[i]? =some oi:=by rfl)(hy:∀w,S w->(execOp a.eval oi).run P w=.ok (.value v) w:=by(intro w hSw;(try dsimp only at hSw);first|(go_simp;done)|(go_simp;with_reducible rfl)))
  (hs:Region.noSelect ops=true:=by kernel_rfl)(hf:Region.free md ops listed i=true:=by kernel_rfl)(hr:(Region.ready md ops listed).contains i=true:=by kernel_rfl)
  (hQ:∀c a w,Q (.panic c) (a.put oi.dst v) w->Q (.panic c) a w:=by exact λ_ _ _ h=>h)(hw:Region.wanted oi (yielded ops a.tmps)=true:=by rfl)(hS:S w:=by assumption):wpAnyH P md ops Q S (fuel+1) listed a w:=
 wpAnyH_take hi hs hf hr hQ (.inl ⟨hw,hy⟩) hS h
theorem uH (i:Nat){oi:Oper}{fuel:Nat}{listed:Array Bool}{a:Act}{w:World}
  (h:wpAnyH P md ops Q S fuel (listed.setIfInBounds i true) (a.put oi.dst undef) w)(hi:ops[i]? =some oi:=by rfl)
  (hs:Region.noSelect ops=true:=by kernel_rfl)(hf:Region.free md ops listed i=true:=by kernel_rfl)(hr:(Region.ready md ops listed).contains i=true:=by kernel_rfl)
  (hQ:∀c a w,Q (.panic c) (a.put oi.dst undef) w->Q (.panic c) a w:=by exact λ_ _ _ h=>h)(hw:Region.wanted oi (yielded ops a.tmps)=false:=by rfl)(hS:S w:=by assumption):wpAnyH P md ops Q S (fuel+1) listed a w:=
 wpAnyH_take hi hs hf hr hQ (.inr ⟨hw,rfl⟩) hS h
theorem pZ (i:Nat){oi:Oper}(v:Value){fuel:Nat}{listed:Array Bool}{a:Act}{w:World}
  (h:cF P md ops Q S zs fuel (listed.setIfInBounds i true) (a.put oi.dst v) w)(hi:ops[i]? =some oi:=by rfl)(hy:∀w,True->(execOp a.eval oi).run P w=.ok (.value v) w:=by(intro w _;first|(go_simp;done)|(go_simp;with_reducible rfl)))
  (hs:Region.noSelect ops=true:=by kernel_rfl)(hf:Region.free md ops listed i=true:=by kernel_rfl)(hr:(Region.ready md ops listed).contains i=true:=by kernel_rfl)
  (hQ:∀c a w,Q (.panic c) (a.put oi.dst v) w->Q (.panic c) a w:=by exact λ_ _ _ h=>h)(hw:Region.wanted oi (yielded ops a.tmps)=true:=by rfl):cF P md ops Q S zs (fuel+1) listed a w:=
 Ly hi hs hf hr hQ (.inl ⟨hw,hy⟩) h
end
section
variable {P:Program} {ops:Array Oper} {Q:Exit->Act->World->Prop} {md:Region.Mode} {S:World->Prop} {zs:List Nat}
theorem vZ (i:Nat){oi:Oper}(v:Value){fuel:Nat}{listed:Array Bool}{a:Act}{w:World}{q:Prop}
  (h:q)(hi:ops[i]? =some oi:=by rfl)(hy:∀w,S w->(execOp a.eval oi).run P w=.ok (.value v) w:=by(intro w hSw;(try dsimp only at hSw);first|(go_simp;done)|(go_simp;with_reducible rfl)))
  (hs:Region.noSelect ops=true:=by kernel_rfl)(hf:(Region.free md ops listed i&&zOk md ops listed i zs)=true:=by kernel_rfl)(hr:(Region.ready md ops listed).contains i=true:=by kernel_rfl)
  (hQ:∀c a w,Q (.panic c) (a.put oi.dst v) w->Q (.panic c) a w:=by exact λ_ _ _ h=>h)(hw:Region.wanted oi (yielded ops a.tmps)=true:=by rfl)(hS:S w:=by assumption)
  (e:q->cF P md ops Q S zs fuel (listed.setIfInBounds i true) (a.put oi.dst v) w:=by(intro h;(try simp only[Act.put,List.getElem_toArray,List.getElem_cons_zero,List.getElem_cons_succ,List.setIfInBounds_toArray,List.set_cons_zero,List.set_cons_succ]);exact h)):cF P md ops Q S zs (fuel+1) listed a w:=
 vu hi hs hf hr hQ (.inl ⟨hw,hy⟩) hS (e h)
theorem vH (i:Nat){oi:Oper}(v:Value){fuel:Nat}{listed:Array Bool}{a:Act}{w:World}{q:Prop}
  (h:q)(hi:ops[i]? =some oi:=by rfl)(hy:∀w,S w->(execOp a.eval oi).run P w=.ok (.value v) w:=by(intro w hSw;(try dsimp only at hSw);first|(go_simp;done)|(go_simp;with_reducible rfl)))
  (hs:Region.noSelect ops=true:=by kernel_rfl)(hf:Region.free md ops listed i=true:=by kernel_rfl)(hr:(Region.ready md ops listed).contains i=true:=by kernel_rfl)
  (hQ:∀c a w,Q (.panic c) (a.put oi.dst v) w->Q (.panic c) a w:=by exact λ_ _ _ h=>h)(hw:Region.wanted oi (yielded ops a.tmps)=true:=by rfl)(hS:S w:=by assumption)
  (e:q->wpAnyH P md ops Q S fuel (listed.setIfInBounds i true) (a.put oi.dst v) w:=by(intro h;(try simp only[Act.put,List.getElem_toArray,List.getElem_cons_zero,List.getElem_cons_succ,List.setIfInBounds_toArray,List.set_cons_zero,List.set_cons_succ]);exact h)):wpAnyH P md ops Q S (fuel+1) listed a w:=
 wpAnyH_take hi hs hf hr hQ (.inl ⟨hw,hy⟩) hS (e h)
end
theorem rH1 {P:Program}{ops:Array Oper}{Q:Exit->Act->World->Prop}{md:Region.Mode}{S:World->Prop}(i:Nat){o:Oper}{fuel:Nat}{listed:Array Bool}{a:Act}{w:World}(h:∀K':Act->World->Prop,Shut (∀a w,S w->(S w->wpAnyH P md ops Q S fuel (listed.setIfInBounds i true) a w)->K' a w)->if Region.wanted o (yielded ops a.tmps)=true then Oper.wp P o a w K' Q else K' (a.put o.dst undef) w)(ho:ops[i]? =some o:=by rfl)(hr:Region.ready md ops listed=[i]:=by kernel_rfl):wpAnyH P md ops Q S (fuel+1) listed a w:=wpAnyH_ready hr (by simp) (AllReadyH.cons ho h AllReadyH.nil)
section
variable {P:Program} (w:World)
theorem DF (t ty:TypeId)(base:Nat)(e:TypeId)(i:TypeInfo)(z:Value)(size bytes:Nat)(ht:P.underlying t=sO (.slice e))(hi:P.info? e=sO i)(hz:i.zero=sO z)
  (hsize:i.size=size)(hby:i.bytes=bytes)(hzs:z.cells.size=size)(hsz:0 < size)
  (v:Value)(n:Nat)(xs:List Value)(hown:w.ownsRow base e size v n xs)
  (ao:Option Addr)(m c:Nat)(news:List Value)(hl:news.length=m * size)(hao:ao=none->m=0)(hnews:∀ad,ao=sO ad->∀j u,news[j]? =sO u->w.cell? (ad.add j)=sO u)(h1:∀u∈news,u.oneCell'=true)
  (h63:n+m<=maxLen)(hbytes:(n+m) * bytes<=140737488355328)(hbase:base<=w.heap.size):
  ∃v' w',(Builtin.append_ #[t,t] ty #[v,U ao m c]).run P w=.ok v' w'/\w'.ownsRow base e size v' (n+m) (xs++news)/\w.grownBy w' v.ownBlock/\(v'.ownBlock=v.ownBlock\/v'.ownBlock=sO w.heap.size):=by
 cases ao with
 |some ad=>
  obtain⟨v',w',hr,h2,h3,_,h5⟩:=run_append_own_at (P:=P) w base t ty e i z size bytes ht hi hz hsize hby hzs hsz v n xs hown ad m c news hl (hnews ad rfl) h1 h63 hbytes hbase;exact⟨v',w',hr,h2,h3,h5⟩
 |none=>
  obtain rfl:=hao rfl;obtain rfl:news=[]:=List.eq_nil_of_length_eq_zero (by simpa using hl);refine⟨v,w,?_,by simpa using hown,⟨rfl,rfl,rfl,lR _,λ_ _ _=>rfl⟩,.inl rfl⟩;rcases hown.2 with⟨rfl,rfl⟩|⟨g,cap,cur,rfl,_,_,hnc,_⟩
  ·simp[Builtin.append_,run_underlying ht,sizeOf,typeInfo,hi,Builtin.lenOf,Builtin.firstCells]
  ·simp[Builtin.append_,run_underlying ht,sizeOf,typeInfo,hi,Builtin.lenOf,Builtin.firstCells,hnc,storeCells]

theorem sZ {o:Oper}{a:Act}{K:Act->World->Prop}{Q:Exit->Act->World->Prop}(s x:Operand)(t:TypeId)
  (ho:o.op=.call {callee:=.builtin .append,args:=#[s,x],argTypes:=#[t,t]})
  (base:Nat)(e:TypeId)(i:TypeInfo)(z:Value)(size bytes:Nat)(ht:P.underlying t=sO (.slice e))(hi:P.info? e=sO i)(hz:i.zero=sO z)
  (hsize:i.size=size)(hby:i.bytes=bytes)(hzs:z.cells.size=size)(hsz:0 < size)
  (v:Value)(n:Nat)(xs:List Value)(hs:a.eval s=v)(hown:w.ownsRow base e size v n xs)
  (ao:Option Addr)(m c:Nat)(news:List Value)(hx:a.eval x=U ao m c)(hl:news.length=m * size)(hao:ao=none->m=0)(hnews:∀ad,ao=sO ad->∀j u,news[j]? =sO u->w.cell? (ad.add j)=sO u)(h1:∀u∈news,u.oneCell'=true)
  (h63:n+m<=maxLen)(hbytes:(n+m) * bytes<=140737488355328)(hbase:base<=w.heap.size)
  (h:∀v' w',w'.ownsRow base e size v' (n+m) (xs++news)->w.grownBy w' v.ownBlock->(v'.ownBlock=v.ownBlock\/v'.ownBlock=sO w.heap.size)->K (a.put o.dst v') w'):o.wp P a w K Q:=by
 obtain⟨v',w',hr,h2,h3,h4⟩:=DF (P:=P) w t o.type base e i z size bytes ht hi hz hsize hby hzs hsz v n xs hown ao m c news hl hao hnews h1 h63 hbytes hbase;unfold Oper.wp execOp;simp only[ho,resolve,invoke,builtin,Sem.run_bind,Sem.run_pure,Result.andThen_ok,List.map_toArray,List.map_cons,List.map_nil,hs,hx,hr];exact h v' w' h2 h3 h4

theorem bh {ops:Array Oper}{rest:List Oper}{o:Oper}{a:Act}{Q:Exit->Act->World->Prop}(hgd:o.guard=nO)(s x:Operand)(t:TypeId)
  (ho:o.op=.call {callee:=.builtin .append,args:=#[s,x],argTypes:=#[t,t]})
  (base:Nat)(e:TypeId)(i:TypeInfo)(z:Value)(size bytes:Nat)(ht:P.underlying t=sO (.slice e))(hi:P.info? e=sO i)(hz:i.zero=sO z)
  (hsize:i.size=size)(hby:i.bytes=bytes)(hzs:z.cells.size=size)(hsz:0 < size)
  (v:Value)(n:Nat)(xs:List Value)(hs:a.eval s=v)(hown:w.ownsRow base e size v n xs)
  (ao:Option Addr)(m c:Nat)(news:List Value)(hx:a.eval x=U ao m c)(hl:news.length=m * size)(hao:ao=none->m=0)(hnews:∀ad,ao=sO ad->∀j u,news[j]? =sO u->w.cell? (ad.add j)=sO u)(h1:∀u∈news,u.oneCell'=true)
  (h63:n+m<=maxLen)(hbytes:(n+m) * bytes<=140737488355328)(hbase:base<=w.heap.size)
  (h:∀v' w',w'.ownsRow base e size v' (n+m) (xs++news)->w.grownBy w' v.ownBlock->(v'.ownBlock=v.ownBlock\/v'.ownBlock=sO w.heap.size)->wpList P ops Q rest (a.put o.dst v') w'):wpList P ops Q (o::rest) a w:=
 wpList_plain hgd λ_ hK=>sZ w s x t ho base e i z size bytes ht hi hz hsize hby hzs hsz v n xs hs hown ao m c news hx hl hao hnews h1 h63 hbytes hbase λv' w' h2 h3 h4=>hK _ _ (h v' w' h2 h3 h4)

theorem eK {ops:Array Oper}{o:Oper}{a:Act}{K:Act->World->Prop}{Q:Exit->Act->World->Prop}{E:Prop}(hgd:o.guard=nO)(s x:Operand)(t:TypeId)
  (ho:o.op=.call {callee:=.builtin .append,args:=#[s,x],argTypes:=#[t,t]})
  (base:Nat)(e:TypeId)(i:TypeInfo)(z:Value)(size bytes:Nat)(ht:P.underlying t=sO (.slice e))(hi:P.info? e=sO i)(hz:i.zero=sO z)
  (hsize:i.size=size)(hby:i.bytes=bytes)(hzs:z.cells.size=size)(hsz:0 < size)
  (v:Value)(n:Nat)(xs:List Value)(hs:a.eval s=v)(hown:w.ownsRow base e size v n xs)
  (ao:Option Addr)(m c:Nat)(news:List Value)(hx:a.eval x=U ao m c)(hl:news.length=m * size)(hao:ao=none->m=0)(hnews:∀ad,ao=sO ad->∀j u,news[j]? =sO u->w.cell? (ad.add j)=sO u)(h1:∀u∈news,u.oneCell'=true)
  (h63:n+m<=maxLen)(hbytes:(n+m) * bytes<=140737488355328)(hbase:base<=w.heap.size)
  (h:∀v' w',w'.ownsRow base e size v' (n+m) (xs++news)->w.grownBy w' v.ownBlock->(v'.ownBlock=v.ownBlock\/v'.ownBlock=sO w.heap.size)->K (a.put o.dst v') w'):
  if Region.wanted o (yielded ops a.tmps)=true then Oper.wp P o a w K Q else E:=by
 have hw:Region.wanted o (yielded ops a.tmps)=true:=by simp[Region.wanted,hgd]
 rw[if_pos hw];exact sZ w s x t ho base e i z size bytes ht hi hz hsize hby hzs hsz v n xs hs hown ao m c news hx hl hao hnews h1 h63 hbytes hbase h
end
end
section
open Go.RowKit
theorem FQ (s1 s2:oA)(c1 c2:Nat)(w:World):
  Calls pG 184 #[U s1 0 c1,U s2 0 c2] w λe w'=>e=Rt (Bb true)/\bl w w':=by
 go_enter func184,ntmps184;go_wp2
 go_rounds 1
 go_ret;exact nD
abbrev w3 (s t r:Sp)(w:World):World:=((w.alloc (Cc #[Bb s.n,I .i64 s.lo,I .i64 s.hi] 89)).alloc (Cc #[Bb t.n,I .i64 t.lo,I .i64 t.hi] 89)).alloc (Cc #[Bb r.n,I .i64 r.lo,I .i64 r.hi] 89)

theorem Uj {B:Nat}{s t r:Sp}{w w1:World}(hb:Below B (w3 s t r w) w1)(hB:w.heap.size+2 < B):(w1.cell? ⟨w.heap.size,0,nO⟩=sO (Bb s.n)/\w1.cell? ⟨w.heap.size,1,nO⟩=sO (I .i64 s.lo)/\w1.cell? ⟨w.heap.size,2,nO⟩=sO (I .i64 s.hi))/\(w1.cell? ⟨w.heap.size+1,0,nO⟩=sO (Bb t.n)/\w1.cell? ⟨w.heap.size+1,1,nO⟩=sO (I .i64 t.lo)/\w1.cell? ⟨w.heap.size+1,2,nO⟩=sO (I .i64 t.hi))/\(w1.cell? ⟨w.heap.size+1+1,0,nO⟩=sO (Bb r.n)/\w1.cell? ⟨w.heap.size+1+1,1,nO⟩=sO (I .i64 r.lo)/\w1.cell? ⟨w.heap.size+1+1,2,nO⟩=sO (I .i64 r.hi))/\(w1.frozen? ⟨w.heap.size+1+1,0,nO⟩=false/\w1.frozen? ⟨w.heap.size+1+1,1,nO⟩=false/\w1.frozen? ⟨w.heap.size+1+1,2,nO⟩=false)/\(w.heap.size < w1.heap.size/\w.heap.size+1 < w1.heap.size/\w.heap.size+1+1 < w1.heap.size):=by
 have hs:=hb.size;rw[hb.cell ap,hb.cell ap,hb.cell ap,hb.cell ap,hb.cell ap,hb.cell ap,hb.cell ap,hb.cell ap,hb.cell ap,hb.frozen ap,hb.frozen ap,hb.frozen ap];simp[go_sem] at hs |-;omega

theorem Tq (s t r:Sp)(w:World):Below w.heap.size w (w3 s t r w):=am

theorem vi {lo hi lo' hi' a b:Int}(ha:a=min lo lo')(hb:b=max hi hi'):bj ⟨false,lo,hi⟩ ⟨false,lo',hi'⟩=⟨false,a,b⟩:=by
 subst ha hb;rfl

theorem R9 (s t:Sp)(w:World):
  Calls pG 183 #[sv s,sv t] w λe w'=>e=Rt (sv (bp s t))/\bl w w':=by
 obtain⟨n,lo,hi⟩:=s;obtain⟨n',lo',hi'⟩:=t;go_enter func183,ntmps183;go_wp2_with fail;refine(Is ⟨n,lo,hi⟩ ⟨n',lo',hi'⟩ _).mono ?_;rintro e w1 ⟨rfl,hb1⟩;obtain⟨⟨c0,c1,c2⟩,⟨d0,d1,d2⟩,⟨r0,r1,r2⟩,⟨f0,f1,f2⟩,z0,z1,z2⟩:=fu;have H1:=fw;clear hb1;simp only[dh] at r0 r1 r2;cases n with
 |true=>
  have e0:bj ⟨true,lo,hi⟩ ⟨n',lo',hi'⟩=⟨n',lo',hi'⟩:=rfl;rw[e0];go_wp2;refine bodyPost_ret (v:=sv ⟨n',lo',hi'⟩) mK rfl ⟨rfl,?_⟩;exact kR
 |false=>
  cases n' with
  |true=>
   have e0:bj ⟨false,lo,hi⟩ ⟨true,lo',hi'⟩=⟨false,lo,hi⟩:=rfl;rw[e0];go_wp2;refine bodyPost_ret (v:=sv ⟨false,lo,hi⟩) mK rfl ⟨rfl,?_⟩;exact kR
  |false=>
  rcases Int.lt_or_le lo' lo with h1|h1<;>rcases Int.lt_or_le hi hi' with h2|h2
  ·have e0:bj ⟨false,lo,hi⟩ ⟨false,lo',hi'⟩=⟨false,lo',hi'⟩:=vi aa aa
   rw[e0];go_wp2;refine bodyPost_ret (v:=sv ⟨false,-2147483648,2147483647⟩) mK rfl ⟨?_,?_⟩
   ·exact ia uQ
   ·exact kR
  ·have e0:bj ⟨false,lo,hi⟩ ⟨false,lo',hi'⟩=⟨false,lo',hi⟩:=vi aa aa
   rw[e0];go_wp2;refine bodyPost_ret (v:=sv ⟨false,-2147483648,hi⟩) mK rfl ⟨?_,?_⟩
   ·exact ia uQ
   ·exact kR
  ·have e0:bj ⟨false,lo,hi⟩ ⟨false,lo',hi'⟩=⟨false,lo,hi'⟩:=vi aa aa
   rw[e0];go_wp2;refine bodyPost_ret (v:=sv ⟨false,lo,2147483647⟩) mK rfl ⟨?_,?_⟩
   ·exact ia uQ
   ·exact kR
  ·have e0:bj ⟨false,lo,hi⟩ ⟨false,lo',hi'⟩=⟨false,lo,hi⟩:=vi aa aa
   rw[e0];go_wp2;refine bodyPost_ret (v:=sv ⟨false,lo,hi⟩) mK rfl ⟨?_,?_⟩
   ·exact ia uQ
   ·exact kR

theorem m9 (F:Nat)(s t:Sp)(w:World)(h:bx s t≠0):
  Calls pG 181 #[sv s,sv t,.func (.func F) #[] #[]] w λe w'=>e=Rt (Tu #[sv dh,I .i64 (bx s t)])/\bl w w':=by
 obtain⟨n,lo,hi⟩:=s;obtain⟨n',lo',hi'⟩:=t;go_enter func181,ntmps181;go_wp2_with fail;refine(eQ ⟨n,lo,hi⟩ ⟨n',lo',hi'⟩ _).mono ?_;rintro e w1 ⟨rfl,hb1⟩;obtain⟨⟨c0,c1,c2⟩,⟨d0,d1,d2⟩,⟨r0,r1,r2⟩,⟨f0,f1,f2⟩,z0,z1,z2⟩:=fu;have H1:=fw;clear hb1;simp only[dh] at r0 r1 r2;go_wp2;refine bodyPost_ret (v:=Tu #[sv dh,I .i64 (bx ⟨n,lo,hi⟩ ⟨n',lo',hi'⟩)]) (by simp[results,results181,go_sem,r0,r1,r2,dh]) rfl ⟨rfl,?_⟩;exact wK

theorem pC {p:Prop}(h:p:=by
 obtain⟨rn,rlo,rhi⟩:=r;go_wp2;refine bodyPost_ret (v:=.tuple #[sv ⟨rn,rlo,rhi⟩,.int .i64 0]) (by simp[results,results181,go_sem,g0,g1,g2]) rfl ⟨by rw[hr],?_⟩;exact((H2.setCell ap _).setCell ap _).setCell ap _):p:=h
theorem Fz (s t:Sp)(w:World)(h:bx s t=0):
  Calls pG 181 #[sv s,sv t,.func (.func 182) #[] #[]] w λe w'=>e=Rt (Tu #[sv (bj s t),I .i64 0])/\bl w w':=by
 obtain⟨n,lo,hi⟩:=s;obtain⟨n',lo',hi'⟩:=t;go_enter func181,ntmps181;go_wp2_with fail;refine(eQ ⟨n,lo,hi⟩ ⟨n',lo',hi'⟩ _).mono ?_;rintro e w1 ⟨rfl,hb1⟩;obtain⟨⟨c0,c1,c2⟩,⟨d0,d1,d2⟩,⟨r0,r1,r2⟩,⟨f0,f1,f2⟩,z0,z1,z2⟩:=fu;have H1:=fw;rw[h];simp only[dh] at r0 r1 r2;clear hb1;go_wp2_with fail;refine(Is ⟨n,lo,hi⟩ ⟨n',lo',hi'⟩ _).mono ?_;rintro e w2 ⟨rfl,hb2⟩;have g0:=r0;have g1:=r1;have g2:=r2;have k0:=f0;have k1:=f1;have k2:=f2
 rw[<-hb2.cell z2] at g0 g1 g2;rw[<-hb2.frozen z2] at k0 k1 k2;have H2:=sM;clear r0 r1 r2 f0 f1 f2 hb2 c0 c1 c2 d0 d1 d2;generalize hr:bj ⟨n,lo,hi⟩ ⟨n',lo',hi'⟩=r;exact pC

theorem Ff (s t:Sp)(w:World)(h:bx s t=0):
  Calls pG 181 #[sv s,sv t,.func (.func 197) #[] #[]] w λe w'=>e=Rt (Tu #[sv (aM s t),I .i64 0])/\bl w w':=by
 obtain⟨n,lo,hi⟩:=s;obtain⟨n',lo',hi'⟩:=t;go_enter func181,ntmps181;go_wp2_with fail;refine(eQ ⟨n,lo,hi⟩ ⟨n',lo',hi'⟩ _).mono ?_;rintro e w1 ⟨rfl,hb1⟩;obtain⟨⟨c0,c1,c2⟩,⟨d0,d1,d2⟩,⟨r0,r1,r2⟩,⟨f0,f1,f2⟩,z0,z1,z2⟩:=fu;have H1:=fw;rw[h];simp only[dh] at r0 r1 r2;clear hb1;go_wp2_with fail;refine(SI ⟨n,lo,hi⟩ ⟨n',lo',hi'⟩ _).mono ?_;rintro e w2 ⟨rfl,hb2⟩;have g0:=r0;have g1:=r1;have g2:=r2;have k0:=f0;have k1:=f1;have k2:=f2
 rw[<-hb2.cell z2] at g0 g1 g2;rw[<-hb2.frozen z2] at k0 k1 k2;have H2:=sM;clear r0 r1 r2 f0 f1 f2 hb2 c0 c1 c2 d0 d1 d2;generalize hr:aM ⟨n,lo,hi⟩ ⟨n',lo',hi'⟩=r;exact pC

theorem DB (s t:Sp)(w:World)(h:bx s t=0):
  Calls pG 181 #[sv s,sv t,.func (.func 183) #[] #[]] w λe w'=>e=Rt (Tu #[sv (bp s t),I .i64 0])/\bl w w':=by
 obtain⟨n,lo,hi⟩:=s;obtain⟨n',lo',hi'⟩:=t;go_enter func181,ntmps181;go_wp2_with fail;refine(eQ ⟨n,lo,hi⟩ ⟨n',lo',hi'⟩ _).mono ?_;rintro e w1 ⟨rfl,hb1⟩;obtain⟨⟨c0,c1,c2⟩,⟨d0,d1,d2⟩,⟨r0,r1,r2⟩,⟨f0,f1,f2⟩,z0,z1,z2⟩:=fu;have H1:=fw;rw[h];simp only[dh] at r0 r1 r2;clear hb1;go_wp2_with fail;refine(R9 ⟨n,lo,hi⟩ ⟨n',lo',hi'⟩ _).mono ?_;rintro e w2 ⟨rfl,hb2⟩;have g0:=r0;have g1:=r1;have g2:=r2;have k0:=f0;have k1:=f1;have k2:=f2
 rw[<-hb2.cell z2] at g0 g1 g2;rw[<-hb2.frozen z2] at k0 k1 k2;have H2:=sM;clear r0 r1 r2 f0 f1 f2 hb2 c0 c1 c2 d0 d1 d2;generalize hr:bp ⟨n,lo,hi⟩ ⟨n',lo',hi'⟩=r;exact pC
theorem DK (q:Nat)(p:Int->Bool)(ss:oA)(cap:Nat)(l:List Int)(w:World)(hl:l.length<=9223372036854775807)(hs:IntsAt w ss l)
  (hF:∀x wx,bl w wx->Calls pG 199 #[I .i64 x,Pp (sO ⟨q,0,nO⟩)] wx λe w'=>e=Rt (Bb (p x))/\bl wx w'):
  Calls pG 227 #[U ss l.length cap,.func (.func 199) #[] #[Pp (sO ⟨q,0,nO⟩)]] w λe w'=>∃n:Int,e=Rt (I .i64 n)/\decide (0<=n)=l.any p/\bl w w':=by
 have HF:=ag hF;clear hF;go_enter func227,ntmps227;go_wp2;go_loopw [8] (λi wr=>∃k:Nat,k<=l.length/\i=I .i64 k/\bl w wr/\Hid (l.any p=(l.drop k).any p)) (λi _=>l.length - (intOf i).toNat)
 case atStart=>exact⟨0,j6 _,rfl,bR _ _,rfl⟩
 case round=>
  obtain⟨k,hk,rfl,hbr,HA⟩:=hrel;by_cases hlt:k < l.length
  ·obtain⟨b,off,rfl,hb,hc⟩:=hs.get k hlt
   have n0:=bA;have n1:=mZ;have s0:=hbr.size;have c0:=yl;have HN:=wV;clear hc hs;go_wp2_with fail;refine(HF.out _ _ hbr).mono ?_;rintro e w1 ⟨rfl,hb1⟩;cases hp:p l[k] with
   |true=>
    have HT:Hid (l.any p=true):=kk;clear HN HA;go_wp2;go_ret;exact lk
   |false=>
    have HT:=yD;clear HN HA;go_wp2;go_roundw
    case rel=>exact⟨k+1,aa,aF,hbr.trans (hb1.mono s0),HT⟩
    case measure=>exact aK
  ·go_wp2
   go_ret;exact im

theorem cP (q:Nat)(p:Int->Bool)(ss:oA)(cap:Nat)(l:List Int)(w:World)(hl:l.length<=9223372036854775807)(hs:IntsAt w ss l)
  (hF:∀x wx,bl w wx->Calls pG 199 #[I .i64 x,Pp (sO ⟨q,0,nO⟩)] wx λe w'=>e=Rt (Bb (p x))/\bl wx w'):
  Calls pG 200 #[U ss l.length cap,.func (.func 199) #[] #[Pp (sO ⟨q,0,nO⟩)]] w λe w'=>e=Rt (Bb (l.any p))/\bl w w':=by
 have HF:=ag hF;clear hF;go_enter func200,ntmps200;go_wp2_with fail;refine(DK q p ss cap l _ hl hs HF.out).mono ?_;rintro e w1 ⟨n,rfl,hn,hb1⟩;go_wp2;go_ret;exact fA
theorem yc (q:Nat)(p:Int->Bool)(ss:oA)(cap:Nat)(l:List Int)(w:World)(hl:l.length<=9223372036854775807)(hs:IntsAt w ss l)
  (hF:∀x wx,bl w wx->Calls pG 234 #[I .i64 x,Pp (sO ⟨q,0,nO⟩)] wx λe w'=>e=Rt (Bb (p x))/\bl wx w'):
  Calls pG 227 #[U ss l.length cap,.func (.func 234) #[] #[Pp (sO ⟨q,0,nO⟩)]] w λe w'=>∃n:Int,e=Rt (I .i64 n)/\decide (0<=n)=l.any p/\bl w w':=by
 have HF:=ag hF;clear hF;go_enter func227,ntmps227;go_wp2;go_loopw [8] (λi wr=>∃k:Nat,k<=l.length/\i=I .i64 k/\bl w wr/\Hid (l.any p=(l.drop k).any p)) (λi _=>l.length - (intOf i).toNat)
 case atStart=>exact⟨0,j6 _,rfl,bR _ _,rfl⟩
 case round=>
  obtain⟨k,hk,rfl,hbr,HA⟩:=hrel;by_cases hlt:k < l.length
  ·obtain⟨b,off,rfl,hb,hc⟩:=hs.get k hlt
   have n0:=bA;have n1:=mZ;have s0:=hbr.size;have c0:=yl;have HN:=wV;clear hc hs;go_wp2_with fail;refine(HF.out _ _ hbr).mono ?_;rintro e w1 ⟨rfl,hb1⟩;cases hp:p l[k] with
   |true=>
    have HT:Hid (l.any p=true):=kk;clear HN HA;go_wp2;go_ret;exact lk
   |false=>
    have HT:=yD;clear HN HA;go_wp2;go_roundw
    case rel=>exact⟨k+1,aa,aF,hbr.trans (hb1.mono s0),HT⟩
    case measure=>exact aK
  ·go_wp2
   go_ret;exact im

theorem cy (q:Nat)(p:Int->Bool)(ss:oA)(cap:Nat)(l:List Int)(w:World)(hl:l.length<=9223372036854775807)(hs:IntsAt w ss l)
  (hF:∀x wx,bl w wx->Calls pG 234 #[I .i64 x,Pp (sO ⟨q,0,nO⟩)] wx λe w'=>e=Rt (Bb (p x))/\bl wx w'):
  Calls pG 200 #[U ss l.length cap,.func (.func 234) #[] #[Pp (sO ⟨q,0,nO⟩)]] w λe w'=>e=Rt (Bb (l.any p))/\bl w w':=by
 have HF:=ag hF;clear hF;go_enter func200,ntmps200;go_wp2_with fail;refine(yc q p ss cap l _ hl hs HF.out).mono ?_;rintro e w1 ⟨n,rfl,hn,hb1⟩;go_wp2;go_ret;exact fA
end
section
open Go.RowKit Go
section
variable {P:Program} {ops:Array Oper} {Q:Exit->Act->World->Prop} {a:Act} {w:World} {rest:List Oper} {o:Oper}
theorem tL (v:Value)(h:wpList P ops Q rest (a.put o.dst v) w)(hy:(execOp a.eval o).run P w=.ok (.value v) w:=by first|(go_simp;done)|(go_simp;with_reducible rfl))(hw:Region.wanted o (yielded ops a.tmps)=true:=by rfl):wpList P ops Q (o::rest) a w:=by
 unfold wpList;rw[if_pos hw];left;unfold Oper.wp;rw[hy];exact h
theorem tLb (b:Bool)(X:Value)(h:∀v,Hid (v=if b=true then undef else X)->wpList P ops Q rest (a.put o.dst v) w)(h0:b=false->Region.wanted o (yielded ops a.tmps)=true/\(execOp a.eval o).run P w=.ok (.value X) w)(h1:b=true->Region.wanted o (yielded ops a.tmps)=false):wpList P ops Q (o::rest) a w:=by
 cases b with
 |false=>
  obtain⟨hw,hy⟩:=h0 rfl;exact tL X (h X (by show _=_;simp)) hy hw
 |true=>
  unfold wpList;rw[if_neg (by rw[h1 rfl];decide)];exact h _ (by show _=_;simp)
end
end
section
open Go.RowKit
def smallC:lI:=[⟨1,0,0,0,5,0⟩,⟨18,0,0,0,0,0⟩]

theorem R8 (w:World):
  Calls pG 39 #[] w λe w'=>∃b,e=Rt (Ag #[I .i64 1,I .i64 0,U (sO ⟨b,0,nO⟩) 2 2])/\CodeAt w' (sO ⟨b,0,nO⟩) smallC/\bl w w':=by
 go_enter func39,ntmps39;go_wp2;refine bodyPost_ret (v:=Ag #[I .i64 1,I .i64 0,U (sO ⟨w.heap.size+1,0,nO⟩) 2 2]) (by simp[results,results39,go_sem]) rfl ⟨w.heap.size+1,rfl,.inr ⟨_,_,rfl,ah,?_⟩,am⟩;intro k hk
 match k,hk with
 |0,_=>refine⟨?_,?_,?_,?_,?_,?_⟩<;>simp[go_sem,smallC]
 |1,_=>refine⟨?_,?_,?_,?_,?_,?_⟩<;>simp[go_sem,smallC]
 |k+2,h=>simp[smallC] at h;omega
end
section
open Go
section
variable {P:Program} {ops:Array Oper} {Q:Exit->Act->World->Prop} {md:Region.Mode} {l m:Nat}
def Dh (ops:Array Oper):Prop:=∀o∈ops,∀c,o.op≠.defer c
theorem RK {row:String}{args:Array Value}{w:World}{R:Value->World->Prop}(h:Rows P row args w R):RowsIn Fence.wide m P row args w R:=λc cs _=>by
 obtain⟨v,w',hr,hs⟩:=h c cs;exact⟨v,w',hr,stepsIn_wide.2 hs⟩
theorem GE {i:Nat}{K:Act->World->Prop}{a:Act}{w:World}(hd:∀o,ops[i]? =sO o->∀c,o.op≠.defer c)(hQ:¬LetsOut Q)(h:wpOp P ops Q i K a w):wpOpIn (Fence.wide.inRound l) m P ops Q i K a w:=by
 unfold wpOp at h;unfold wpOpIn;cases e:ops[i]? with
 |none=>simpa[e] using h
 |some o=>
  simp only[e] at h |-;by_cases hw:Region.wanted o (yielded ops a.tmps)=true
  ·rw[if_pos hw] at h |-
   rcases h with h|⟨_,h⟩
   ·refine⟨λ_ _=>trivial,?_⟩
    rw[show (Fence.wide.inRound l).round=sO l from rfl,Oper.semAt_some l _ o (hd o e)];unfold Oper.wp at h;generalize Sem.run P (execOp a.eval o) w=r at h |-;unfold Oper.upon at h;unfold Oper.uponIn;split at h
    ·exact h
    ·exact h
    ·exact h
    ·exact⟨λh=>(by cases h),callsIn_wide.2 h⟩
    ·exact⟨λh=>(by cases h),RK h⟩
    ·exact h
    ·exact h.elim
   ·exact absurd h hQ
  ·rw[if_neg hw] at h |-
   exact⟨λ_ _=>trivial,h⟩
theorem sV (hd:Dh ops)(hQ:¬LetsOut Q):∀(fuel:Nat) (listed:Array Bool) (a:Act) (w:World),wpAny P md ops Q fuel listed a w->wpAnyIn (Fence.wide.inRound l) m P md ops Q fuel listed a w
 |0,_,_,_,h=>h
 |fuel+1,_,_,_,h=>⟨h.1,λi hi=>GE (λo ho=>hd o (Array.mem_of_getElem? ho)) hQ (wpOp_mono (λa' w' h'=>sV hd hQ fuel _ a' w' h') (h.2 i hi))⟩
theorem Vd {S:World->Prop}{id:Nat}{a:Act}{w:World}(zs:List Nat)(hm:P.follows .mixedOrders=true)(hd:Dh ops)(hQ:¬LetsOut Q)(hS:S w.drew)
  (h:S w.drew->cF P .any ops Q S zs ops.size (Array.replicate ops.size false) a w.drew):(Code.region id ops true).wpIn (Fence.wide.inRound l) m P Q a w:=
 wpIn_region_any hm (sV hd hQ _ _ _ _ (pH _ _ _ _ (h hS)))
theorem El {F:Fence}{d:Code}{K:Act->World->Prop}{a:Act}{w:World}(h:d.wpIn F m P (Exit.then K (λ_ _ _=>False)) a w):d.wpIn F m P (Exit.then K Q) a w:=wpIn_mono h λe a w q=>by
 cases e<;>first|exact q|exact q.elim
theorem Wr {K:Act->World->Prop}:¬LetsOut (Exit.then K (λ_ _ _=>False)):=λ⟨_,_,h⟩=>h
end
theorem Fr {P:Program}(w:World)(dT sT ty elem:TypeId)(g o dLen dCap:Nat)(a:Addr)(sLen sCap k:Nat)(cur:Array Value)(t:TypeId)(cs:List Value)
  (hu:P.underlying dT=sO (.slice elem))(hs:(P.info? elem).map (·.size)=sO k)
  (hg:w.heap[g]? =sO (Cc cur t (0,0)))(hn:cs.length=j1 sLen dLen * k)
  (hsrc:∀j v,cs[j]? =sO v->w.cell? (a.add j)=sO v)(hfit:o+cs.length<=cur.size)(h1:∀v∈cs,v.oneCell'=true):
  (Builtin.copy_ #[dT,sT] ty #[U (sO ⟨g,o,nO⟩) dLen dCap,U (sO a) sLen sCap]).run P w=
   .ok (goInt (j1 sLen dLen)) (w.setRow g (cur.toList.take o++cs++cur.toList.drop (o+cs.length)).toArray):=by
 have hl:=run_loadCells_list (P:=P) w a cs hsrc;have hst:=run_storeCells_at P g o t cs 0 cur w hg (by simpa using hfit) h1;cases hq:P.info? elem with
 |none=>simp[hq] at hs
 |some i=>
  have hi:i.size=k:=by simpa[hq] using hs
  simp[Builtin.copy_,run_underlying hu,Builtin.lenOf,Builtin.firstCells,sizeOf,typeInfo,hq,hi,<-hn,hl,hst]
end
section
open Go.RowKit
attribute [local go_sem ↓] Go.wp_at_zero Go.wp_at_succ
theorem MU (n:Nat)(x:Gc):(aS (j0 n x)).length=n * 7:=by rw[nr,List.length_replicate]
theorem vN (a b:Nat)(x:Gc):aS (j0 a x)++aS (j0 b x)=aS (j0 (a+b) x):=by rw[<-kJ,List.replicate_append_replicate]
theorem vS (m n:Nat)(x:Gc)(h:m<=n)(j:Nat)(u:Value)(hj:(aS (j0 m x))[j]? =sO u):(aS (j0 n x))[j]? =sO u:=by
 obtain⟨d,rfl⟩:∃d,n=m+d:=⟨n - m,aa⟩;rw[<-vN,Q2 (x7.1 hj).1];exact hj
theorem Fk (l:List Gc):∀u∈aS l,u.oneCell'=true:=by
 intro u hu;obtain⟨x,hx,hu⟩:=Q3.1 hu;exact dE x u hu
def Filled (w:World)(b n k:Nat)(x:Gc):Prop:=k<=n/\∃cs:List Value,w.heap[b]? =sO (Cc cs.toArray 91 (0,0))/\cs.length=n * 7/\cs.take (k * 7)=aS (j0 k x)
theorem Filled.lt {w:World}{b n k:Nat}{x:Gc}(h:Filled w b n k x):b < w.heap.size:=by
 obtain⟨_,cs,h1,_⟩:=h;exact(j3.1 h1).1
theorem Filled.copy {P:Program}{w:World}{b n k:Nat}{x:Gc}(h:Filled w b n k x)(dT ty:TypeId)(a:Addr)(sLen sCap dCap m:Nat)(hu:P.underlying dT=sO (.slice 91))(hs:(P.info? 91).map (·.size)=sO 7)(hm:m=j1 sLen (n - k))
  (hsrc:∀j v,(aS (j0 m x))[j]? =sO v->w.cell? (a.add j)=sO v):
  ∃w',(Builtin.copy_ #[dT,dT] ty #[U (sO ⟨b,k * 7,nO⟩) (n - k) dCap,U (sO a) sLen sCap]).run P w=.ok (goInt m) w'/\Filled w' b n (k+m) x/\∀B w0,B<=b->Below B w0 w->Below B w0 w':=by
 obtain⟨hk,cs,h1,h2,h3⟩:=h;have hmn:m<=n - k:=by rw[hm];exact J5 _ _
 have hl:(aS (j0 m x)).length=m * 7:=MU m x;have hfit:k * 7+m * 7<=n * 7:=aa;refine⟨w.setRow b (cs.take (k * 7)++aS (j0 m x)++cs.drop (k * 7+(aS (j0 m x)).length)).toArray,?_,?_,λB w0 hB hb=>below_setRow hb hB _⟩
 ·have e:=Fr w dT dT ty 91 b (k * 7) (n - k) dCap a sLen sCap 7 cs.toArray 91 (aS (j0 m x)) hu hs h1 (by rw[hl,hm]) hsrc (by rw[hl];simpa[h2] using hfit) (Fk _)
  rw[<-hm] at e;exact e
 ·refine⟨by omega,cs.take (k * 7)++aS (j0 m x)++cs.drop (k * 7+(aS (j0 m x)).length),?_,?_,?_⟩
  ·exact setRow_heap w b cs.toArray _ _ _ h1
  ·simp only[j4,List.length_take,J8,hl,h2]
   omega
  ·rw[h3,vN]
   exact List.take_left' (by rw[MU])
theorem Filled.gets {w:World}{b n:Nat}{g:Gs}(hs:g.s=[])(h:Filled w b n n ⟨g,nO,0⟩):GsIn (λk=>k=b) w (sO ⟨b,0,nO⟩) (j0 n g):=by
 have hz:=h.lt;obtain⟨_,cs,h1,h2,h3⟩:=h;rw[z8 aa] at h3;subst h3;intro i hi;have hin:i < n:=fN;have hc:∀j,j < 7->w.cell? ⟨b,i * 7+j,nO⟩=(br ⟨g,nO,0⟩)[j]? :=λj hj=>by
  have e:=fG (j0 n (⟨g,nO,0⟩:Gc)) i (by simpa using hin) j hj;rw[Q6] at e;rw[<-e];simp[z3,h1]
 refine⟨b,0,rfl,rfl,nO,0,⟨?_,hz⟩,.inl (by simp[hs]),by simp[hs],cO⟩;simp only[Q6,j2];exact rU
theorem Lb (g:Gs)(hs0:g.s=[])(n:Nat)(h8:n<=8)(b:Nat)(w:World)(hg:GuAt w b 0 g nO 0):
  Calls pG 129 #[U (sO ⟨b,0,nO⟩) 1 1,I .i64 (n:Int)] w λe w'=>(∃rs,e=Rt (U rs n n)/\GsIn (λb=>w.heap.size<=b) w' rs (j0 n g))/\bl w w':=by
 obtain⟨ti,hi,hz0,hz1,hz2⟩:=kd;have HMU:Hid (Calls pG 187 #[.int .u64 1,.int .u64 (n:Int)] w λe w'=>e=Rt (Tu #[.int .u64 0,.int .u64 (n:Int)])/\w'=w):=by
  refine(Tryz.bits_Mul 1 n aa aa w).mono ?_;rintro e w1 ⟨rfl,rfl⟩;refine⟨?_,rfl⟩;have e1:1 * n / 18446744073709551616=0:=aa;have e2:1 * n % 18446744073709551616=n:=aa;rw[e1,e2];rfl
 have HMK:=run_makeSlice (P:=pG) w 25 91 ti (Ag #[Bb false,Bb false,I .i64 0,I .i64 0,Bb false,Bb false,U nO 0 0]) underlying25 hi hz0 .i64 .i64 (n:Int) (n:Int) aa (Int.le_refl _) (by rw[hz1];omega) (by rw[hz2];omega) aa;rw[Int.toNat_natCast,hz1] at HMK;have F0:Filled (w.alloc (Cc (madeCells (j7 (Ag #[Bb false,Bb false,I .i64 0,I .i64 0,Bb false,Bb false,U nO 0 0])) (n * 7)) 91)) w.heap.size n 0 ⟨g,nO,0⟩:=by
  refine⟨j6 _,(madeCells (j7 (Ag #[Bb false,Bb false,I .i64 0,I .i64 0,Bb false,Bb false,U nO 0 0])) (n * 7)).toList,heap_alloc_new _ _,by simp[size_madeCells],by simp[aS]⟩
 have hb0:Below w.heap.size w (w.alloc (Cc (madeCells (j7 (Ag #[Bb false,Bb false,I .i64 0,I .i64 0,Bb false,Bb false,U nO 0 0])) (n * 7)) 91)):=am;have G0:=hg.alloc (Cc (madeCells (j7 (Ag #[Bb false,Bb false,I .i64 0,I .i64 0,Bb false,Bb false,U nO 0 0])) (n * 7)) 91);have hns:¬(n:Int) < 0:=aa;have N1:(n:Int)<=9223372036854775807:=aa;obtain⟨w2,HR,F2,HB2⟩:=F0.copy (P:=pG) 25 3 ⟨b,0,nO⟩ 1 1 n (j1 1 n) underlying25 (by rw[hi];exact congrArg sO hz1) ah (λj v hj=>by
  have hj':=vS (j1 1 n) 1 ⟨g,nO,0⟩ (Q7 _ _) j v hj;have e1:aS (j0 1 (⟨g,nO,0⟩:Gc))=br ⟨g,nO,0⟩:=by simp[aS]
  rw[e1] at hj';obtain⟨⟨g0,g1,g2,g3,g4,g5,g6⟩,-⟩:=G0;rw[Addr.add_lit];have hj7:j < 7:=by have:=(x7.1 hj').1;rwa [fk] at this
  rw[<-hj'];rcases (show j=0\/j=1\/j=2\/j=3\/j=4\/j=5\/j=6 by omega) with rfl|rfl|rfl|rfl|rfl|rfl|rfl
  ·exact g0
  ·exact g1
  ·exact g2
  ·exact g3
  ·exact g4
  ·exact g5
  ·exact g6)
 have hb2:=HB2 w.heap.size w (lR _) hb0;simp only[Nat.zero_mul,Nat.sub_zero,j2] at HR F2;clear HB2 F0 hb0 G0;generalize w.alloc (Cc (madeCells (j7 (Ag #[Bb false,Bb false,I .i64 0,I .i64 0,Bb false,Bb false,U nO 0 0])) (n * 7)) 91)=wA at *;have HNM:n<=1->j1 1 n=n:=λh=>Nat.min_eq_right h;have HM1:j1 1 n<=n:=J5 _ _;have HM2:1<=n->j1 1 n=1:=λh=>Nat.min_eq_left h;have m0:n=0\/1<=j1 1 n:=by by_cases h:n=0;exact .inl h;exact .inr (by rw[HM2 (by omega)];exact lR _)
 clear HNM HM2;generalize j1 1 n=m at *;go_enter func129,ntmps129;go_wp2_with fail;refine HMU.out.mono ?_;rintro e w1 ⟨rfl,rfl⟩;clear HMU;go_wp2;clear HR HMK;go_loopw [8] (λi wr=>∃k:Nat,k<=n/\(n=0\/1<=k)/\i=I .i64 (k:Int)/\Filled wr w1.heap.size n k ⟨g,nO,0⟩/\bl w1 wr) (λi _=>n - (intOf i).toNat)
 case atStart=>exact⟨m,HM1,m0,rfl,F2,hb2⟩
 case round=>
  clear F2 hb2 HM1 m0;obtain⟨k,hk,hk0,rfl,FK,BK⟩:=hrel;have FD:Filled wr.drew w1.heap.size n k ⟨g,nO,0⟩:=FK;have BD:=BK.drew;by_cases hlt:k < n
  ·have hk1:1<=k:=by omega
   have n0:=bA;have n1:(k:Int) < (n:Int):=aa;have n2:(k:Int)<=(n:Int):=aa;obtain⟨w3,HR,F3,HB3⟩:=FD.copy (P:=pG) 25 3 ⟨w1.heap.size,0,nO⟩ k n (n - k) (j1 k (n - k)) underlying25 (by rw[hi];exact congrArg sO hz1) rfl (λj v hj=>by
    obtain⟨_,cs,c1,c2,c3⟩:=FD;have hj':=vS (j1 k (n - k)) k ⟨g,nO,0⟩ (Q7 _ _) j v hj;rw[<-c3,List.getElem?_take] at hj';split at hj'
    ·rw[Addr.add_lit,j2]
     simp[z3,c1,hj']
    ·cases hj')
   have B3:=HB3 w1.heap.size w1 (lR _) BD;have hm1:1<=j1 k (n - k):=Nat.le_min.2 ⟨hk1,aa⟩;have hm2:j1 k (n - k)<=n - k:=J5 _ _;have HR':=ag HR;clear HR HB3 FK BK FD BD;generalize j1 k (n - k)=q at *;have HS1:∀wx,(Instr.sliceAt 25 (U (sO ⟨w1.heap.size,0,nO⟩) n n) (sO (I .i64 (k:Int))) nO nO).run pG wx=.ok (U (sO ⟨w1.heap.size,k * 7,nO⟩) (n - k) (n - k)) wx:=by
    intro wx;simp[go_sem];rw[if_pos aa,if_neg aa]
   have HS2:∀wx,(Instr.sliceAt 25 (U (sO ⟨w1.heap.size,0,nO⟩) n n) nO (sO (I .i64 (k:Int))) nO).run pG wx=.ok (U (sO ⟨w1.heap.size,0,nO⟩) k n) wx:=by
    intro wx;simp[go_sem];intro h;omega
   go_upto_region 9 with fail
   refine aG (S:=λ_=>True) [] ae trivial (λhHeld=> ?_);refine vZ 0 ?_ ?_;refine vZ 1 ?_ ?_;refine vZ 2 ?_ ?_;refine vZ 3 ?_ ?_;refine vZ 4 ?_ ?_;refine vZ 5 ?_ ?_;refine vZ 6 ?_ ?_;refine aB (i:=7) rfl ae (λK hK=> ?_);refine Lib.wp_copy_run _ _ _ 25 25 rfl _ _ rfl rfl HR'.out ?_;refine hK.out _ _ trivial (λhHeld=> ?_);clear hK K;refine sm ?_;refine vZ 8 ?_ ?_;refine vZ 9 ?_ ?_;refine aC ae ?_ _;clear HS1 HS2 HR';have EW:IntKind.i64.wrap ((k:Int)+(q:Int))=((k+q:Nat):Int):=uL;rw[EW];clear EW;go_wp2;go_roundw
   case rel=>exact⟨k+q,aa,.inr aa,aF,F3,B3⟩
   case measure=>exact aK
  ·have n1:¬(k:Int) < (n:Int):=by omega
   have ek:k=n:=aa;subst ek;go_wp2;go_ret;exact⟨⟨_,rfl,(FK.gets hs0).mono λb h _=>aa⟩,BK⟩
theorem KG (g:Gs)(hs0:g.s=[])(n:Nat)(h8:n<=8)(w:World):
  Calls pG 78 #[Ag #[Bb g.n,Bb g.sp.n,I .i64 g.sp.lo,I .i64 g.sp.hi,Bb g.t,Bb g.f,U nO 0 0],I .i64 (n:Int)] w λe w'=>(∃rs,e=Rt (U rs n n)/\GsIn (λb=>w.heap.size<=b) w' rs (j0 n g))/\bl w w':=by
 have hl0:g.s.length=0:=by rw[hs0];rfl
 have G1:=GuAt.new (w.alloc (Cc #[Bb g.n,Bb g.sp.n,I .i64 g.sp.lo,I .i64 g.sp.hi,Bb g.t,Bb g.f,U nO g.s.length 0] 91)) g nO 0;rw[hl0,zA] at G1;have HR:=ag (Lb g hs0 n h8 _ _ G1);clear G1;have hb1:Below w.heap.size w ((w.alloc (Cc #[Bb g.n,Bb g.sp.n,I .i64 g.sp.lo,I .i64 g.sp.hi,Bb g.t,Bb g.f,U nO 0 0] 91)).alloc (Cc #[Bb g.n,Bb g.sp.n,I .i64 g.sp.lo,I .i64 g.sp.hi,Bb g.t,Bb g.f,U nO 0 0] 91)):=am;go_enter func78,ntmps78;go_wp2_with fail;refine HR.out.mono ?_;rintro e w2 ⟨⟨rs,rfl,GV⟩,hb2⟩;go_wp2;go_ret;exact⟨⟨rs,rfl,GV.mono λb h _=>lT hb1.size h⟩,hb1.trans (hb2.mono hb1.size)⟩
end
section
open Go.RowKit
theorem Cs {w:World}{B:Nat}{v:Value}{l:List Int}(h:w.ownsRow B 3 1 v l.length (l.map (.int .i64))):∃s cap,v=U s l.length cap/\IntsAt w s l:=by
 cases l with
 |nil=>
  rcases h.2 with⟨rfl,_⟩|⟨g,cap,cur,rfl,_⟩
  ·exact⟨_,_,rfl,.inl rfl⟩
  ·exact⟨_,_,rfl,.inl rfl⟩
 |cons x r=>
  obtain⟨g,cap,rfl,hb,hlt⟩:=h.form ah;refine⟨_,_,rfl,.inr ⟨g,0,rfl,hlt,λk hk=> ?_⟩⟩;rw[h.cellAt _ aa,j2,List.getElem?_map,List.getElem?_eq_getElem hk];rfl
end
end Go.Proofs.YtmapdpcfanecdabGreatDoor
