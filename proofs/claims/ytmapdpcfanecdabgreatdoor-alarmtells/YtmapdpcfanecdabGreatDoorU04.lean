import Derived.WalkKit
import Derived.WalkSpells
import Derived.WalkLawsBesides
import Derived.Handy
import Derived.Test.YtmapdpcfanecdabGreatDoorU03
import Derived.Deep.AppendLies
import Derived.Laws.OwnMore
import Derived.BigQuiet
import Derived.Deep.RegionHeld3
import Derived.Lib.QuietBelow
import Derived.RangeFuncNested
import Derived.RangeFuncLeaves
import Derived.Deep.RegionHeld
import Derived.OwnWalk
import Derived.Deep.QuietTactic
import Derived.OrdersIn
import Derived.TacticsIn
import Derived.Laws.CopyRow
import Derived.Lib.SlBuf
open Array renaming getElem?_eq_some_iff→j1
open Bool renaming and_eq_true→j2
open Go.Ending renaming returned→Rt
open Go.IntKind renaming i64→Y
open Go.Obj renaming cells→Cc
open Go.Proofs.Tryz renaming prog→pG
open Go.RowKit.Below renaming refl→bR
open Go.Value renaming agg→Ag,bool→Bb,int→I,pointer→Pp,slice→U,tuple→Tu
open Go.World renaming alloc_heap_new→z0,size_alloc→zA
open List renaming mem_cons→q7,mem_cons_of_mem→q8,mem_cons_self→q9,replicate→j5,zipWith→j3
open Nat renaming le_refl→lR,lt_of_lt_of_le→lL
open Option renaming none→nO,some→sO
set_option linter.unusedSimpArgs false
set_option linter.unusedVariables false
set_option maxHeartbeats 4000000
set_option maxRecDepth 100000
namespace Go.Proofs.YtmapdpcfanecdabGreatDoor
section
def btw (n l m:Int):Bool:=decide (l<=n/\n<=m)
theorem fw {n l m:Int}(h1:l<=n)(h2:n<=m):btw n l m=true:=by simp[btw,h1,h2]
theorem MB {n l m:Int}(h:¬l<=n):btw n l m=false:=by simp[btw,h]
theorem MJ {n l m:Int}(h:¬n<=m):btw n l m=false:=by simp[btw,h]

theorem om {k:Int}(h:btw k 1 19=true):k=1\/k=2\/k=3\/k=4\/k=5\/k=6\/k=7\/k=8\/k=9\/k=10\/k=11\/k=12\/k=13\/k=14\/k=15\/k=16\/k=17\/k=18\/k=19:=by
 simp[btw] at h;omega

theorem MP (k:Int):btw k 1 19=(decide (1<=k)&&decide (k<=19)):=by simp[btw]

def nTo (k:Int):Bool:=btw k 1 12||decide (k=14)
def nA (k:Int):Bool:=btw k 4 10||decide (k=12)||decide (k=13)||decide (k=15)||decide (k=17)||decide (k=18)
def nB (k:Int):Bool:=btw k 5 9||decide (k=13)
def nN (k:Int):Bool:=decide (k=1)||decide (k=2)||btw k 12 14
def nG (k:Int):Bool:=decide (k=15)||decide (k=16)

structure Ins where
 k:Int
 tgt:Int
 a:Int
 b:Int
 n:Int
 g:Int

def bk (V F L:Int)(i:Ins):Int:=
 if btw i.k 1 19=false then 6
 else if (nTo i.k&& !btw i.tgt 0 (V - 1))||(nA i.k&& !btw i.a 0 (V - 1))||(nB i.k&& !btw i.b 0 (V - 1))||((decide (i.k=12)||decide (i.k=13))&& !btw i.n 0 (F - 1))||(nG i.k&& !btw i.g 0 L) then 5
 else if (decide (i.k=1)&& !btw i.n (-2147483648) 2147483647)||(decide (i.k=2)&& !btw i.n 0 1)||(decide (i.k=14)&& !btw i.n 0 1000000) then 3
 else if (!nTo i.k&&decide (i.tgt≠0))||(!nA i.k&&decide (i.a≠0))||(!nB i.k&&decide (i.b≠0))||(!nN i.k&&decide (i.n≠0))||(!nG i.k&&decide (i.g≠0)) then 1
 else 0

def eI (V F L:Int):List Ins->Int
 |[]=>0
 |i::r=>if bk V F L i=0 then eI V F L r else bk V F L i

def aw (V F:Int)(c:List Ins):Int:=
 if btw V 1 8=false||btw F 0 3=false then 3 else if 60 < c.length then 2 else eI V F c.length c

def aQ:Int->ByteArray
 |1=>⟨#[110,117,109,98,101,114]⟩
 |2=>⟨#[116,114,117,116,104]⟩
 |3=>⟨#[110,117,108,108]⟩
 |4=>⟨#[99,111,112,121]⟩
 |5=>⟨#[97,100,100]⟩
 |6=>⟨#[115,117,98]⟩
 |7=>⟨#[109,117,108]⟩
 |8=>⟨#[108,101,115,115]⟩
 |9=>⟨#[115,97,109,101]⟩
 |10=>⟨#[110,111,116]⟩
 |11=>⟨#[110,101,119]⟩
 |12=>⟨#[103,101,116]⟩
 |13=>⟨#[112,117,116]⟩
 |14=>⟨#[105,110,112,117,116]⟩
 |15=>⟨#[105,102]⟩
 |16=>⟨#[103,111,116,111]⟩
 |17=>⟨#[101,120,112,101,99,116]⟩
 |18=>⟨#[112,114,105,110,116]⟩
 |19=>⟨#[101,110,100]⟩
 |_=>⟨#[]⟩

theorem sB {k:Int}(h:btw k 1 19=false):aQ k=⟨#[]⟩:=by
 have:¬(1<=k/\k<=19):=by simpa[btw] using h
 unfold aQ;split<;>first|rfl|omega
abbrev lI:=List Ins
abbrev bl (w w':Go.World):Prop:=Go.RowKit.Below w.heap.size w w'
theorem aa {p:Prop}(h:p:=by omega):p:=h
theorem ag {p:Prop}(h:p:=by kernel_rfl):p:=h
theorem ah {p:Prop}(h:p:=by simp):p:=h
theorem ai {p:Prop}(h:p:=by go_grown):p:=h
theorem aj {p:Prop}(h:p:=by decide):p:=h
theorem an {p:Prop}(h:p:=by simp;omega):p:=h
theorem au {p:Prop}(h:p:=by simp only;omega):p:=h
theorem aJ {p:Prop}(h:p:=by go_num):p:=h
theorem aV {p:Prop}(h:p:=by simp[go_sem]):p:=h
theorem aX {p:Prop}(h:p:=by cases h):p:=h
theorem br {p:Prop}(h:p:=by rfl):p:=h
theorem bx {p:Prop}(h:p:=by simp[World.setCell]):p:=h
theorem cj {p:Prop}(h:p:=by simpa using h):p:=h
theorem cl {p:Prop}(h:p:=by assumption):p:=h
theorem cy {p:Prop}(h:p:=by rw[HKK.out];decide):p:=h
theorem cT {p:Prop}(h:p:=by rw[ByteArray.toList_eq];rfl):p:=h
theorem dg {p:Prop}(h:p:=by unfold maxLen;omega):p:=h
theorem dm {p:Prop}(h:p:=by simpa using hlt):p:=h
theorem dp {p:Prop}(h:p:=by simp only[List.length_set,List.length_cons,List.length_nil];omega):p:=h
theorem dI {p:Prop}(h:p:=by show _=_;simp):p:=h
theorem dH {p:Prop}(h:p:=by simp[results,Tryz.results59,go_sem]):p:=h
theorem d9 {p:Prop}(h:p:=by simpa using hz):p:=h
theorem d8 {p:Prop}(h:p:=by simpa using hi):p:=h
theorem dY {p:Prop}(h:p:=by rintro e w' ⟨rfl,rfl⟩;exact⟨rfl,0,rfl⟩):p:=h
theorem fi {p:Prop}(h:p:=by rw[HR.out];rfl):p:=h
theorem fa {p:Prop}(h:p:=by rw[World.size_alloc];exact hat):p:=h
theorem fH {p:Prop}(h:p:=by simpa using hk):p:=h
theorem fJ {p:Prop}(h:p:=by simpa using h1):p:=h
theorem fI {p:Prop}(h:p:=by show _=_;rw[HA.out,HN.out,hp];rfl):p:=h
theorem fD {p:Prop}(h:p:=by rw[g7];exact Nat.le_refl _):p:=h
theorem fF {p:Prop}(h:p:=by decide+kernel):p:=h
theorem fY {p:Prop}(h:p:=by cases ha):p:=h
theorem gD {p:Prop}(h:p:=by rw[HR.out];simp):p:=h
theorem ge {p:Prop}(h:p:=by simp[Value.ownBlock]):p:=h
theorem gC {p:Prop}(h:p:=by rw[Below.heap_setCell _ _ _ _ hq,Below.heap_setCell _ _ _ _ hq,Below.heap_setCell _ _ _ _ hq,Below.heap_setCell _ _ _ _ hq,Below.heap_setCell _ _ _ _ hq,Below.heap_setCell _ _ _ _ hq,Below.heap_setCell _ _ _ _ hq]):p:=h
theorem gq {p:Prop}(h:p:=by rw[hk];rfl):p:=h
theorem ia {p:Prop}(h:p:=by rw[HA.out,List.drop_eq_nil_of_le (by omega)];rfl):p:=h
theorem g9 {p:Prop}(h:p:=by simp;have:=hbr1.size;omega):p:=h
theorem hU {p:Prop}(h:p:=by rw[World.size_alloc];have:=HW5.size;omega):p:=h
theorem ic {p:Prop}(h:p:=by simp only;have:=EQB.out;omega):p:=h
theorem g8 {p:Prop}(h:p:=by simp[results,Tryz.results115,go_sem,r0,r1,r2,r3,r4,r5,r6]):p:=h
theorem ix {p:Prop}(h:p:=by simpa using hB):p:=h
theorem iC {p:Prop}(h:p:=by go_size):p:=h
theorem iJ {p:Prop}(h:p:=by simpa using h2):p:=h
theorem iH {p:Prop}(h:p:=by rw[HT.out];simp):p:=h
theorem iw {p:Prop}(h:p:=by simpa using h0):p:=h
theorem iA {p:Prop}(h:p:=by simpa using hg):p:=h
theorem iy {p:Prop}(h:p:=by simpa using e):p:=h
theorem iv {p:Prop}(h:p:=by simp only;have:=EQB.out;have:=hbr.size;omega):p:=h
theorem kM {p:Prop}(h:p:=by have:=hb1.size;simp at this;omega):p:=h
theorem kF {p:Prop}(h:p:=by unfold roB roV;rw[hb];rfl):p:=h
theorem kE {p:Prop}(h:p:=by simp at hr):p:=h
theorem kI {p:Prop}(h:p:=by simp[results,Tryz.results183,go_sem,r0,r1,r2,z2]):p:=h
theorem kC {p:Prop}(h:p:=by have h:=bL gg ss cp wz;rw[hng.out] at h;exact h):p:=h
theorem kP {p:Prop}(h:p:=by rw[HKK.out];rfl):p:=h
theorem kN {p:Prop}(h:p:=by simpa using a.1.1):p:=h
theorem kB {p:Prop}(h:p:=by simpa using a.2.1.1):p:=h
theorem kK {p:Prop}(h:p:=by rw[HKAV.out,gk hkax]):p:=h
theorem kQ {p:Prop}(h:p:=by have:=K.a1;have:=K.lens;omega):p:=h
theorem kH {p:Prop}(h:p:=by have:=hS.2.1;omega):p:=h
theorem kJ {p:Prop}(h:p:=by simp[results,Tryz.results98,go_sem,d0,d1,d2,d3,d4,d5,d6]):p:=h
theorem lO {p:Prop}(h:p:=by simpa using hn):p:=h
theorem mf {p:Prop}(h:p:=by simp at hx;subst hx;rfl):p:=h
theorem mb {p:Prop}(h:p:=by rw[HY.out];simp_all):p:=h
theorem lM {p:Prop}(h:p:=by first|rfl|(rw[List.length_append];rfl)):p:=h
theorem lY {p:Prop}(h:p:=by intro u hu;rw[List.mem_singleton.1 hu];rfl):p:=h
theorem lN {p:Prop}(h:p:=by rw[Below.heap_setCell _ _ _ _ hb,Below.heap_setCell _ _ _ _ hb,Below.heap_setCell _ _ _ _ hb]):p:=h
theorem lK {p:Prop}(h:p:=by unfold xv;rw[hn]):p:=h
theorem lJ {p:Prop}(h:p:=by simp[results,Tryz.results102,go_sem]):p:=h
theorem mq {p:Prop}(h:p:=by show _=_;rw[hgg];simp[aA,aW,HK.out.kx.none,HKK.out]):p:=h
theorem lZ {p:Prop}(h:p:=by simp[results,Tryz.results115,go_sem,r0,r1,r2,r3,r4,r5,r6,noneG]):p:=h
theorem mt {p:Prop}(h:p:=by rw[HK.out.kx.none];decide):p:=h
theorem lV {p:Prop}(h:p:=by have:=HSB.out;omega):p:=h
theorem lP {p:Prop}(h:p:=by simp[go_sem,iE,lC,h0]):p:=h
theorem mi {p:Prop}(h:p:=by simp[go_sem,iE,lC,h1]):p:=h
theorem lS {p:Prop}(h:p:=by simp[go_sem,iE,lC,h2]):p:=h
theorem l9 {p:Prop}(h:p:=by simp[go_sem,iE,lC,h3]):p:=h
theorem mr {p:Prop}(h:p:=by simp[go_sem,iE,lC,h4]):p:=h
theorem lW {p:Prop}(h:p:=by simp[go_sem,iE,lC,h5]):p:=h
theorem ma {p:Prop}(h:p:=by simp[go_sem,hf]):p:=h
theorem pa {p:Prop}(h:p:=by rw[hb1.cell (by simp)];simp[go_sem]):p:=h
theorem pt {p:Prop}(h:p:=by go_grown;exact below_drewN (by go_grown) _):p:=h
theorem pR {p:Prop}(h:p:=by simp at hi;omega):p:=h
theorem pX {p:Prop}(h:p:=by rw[eb];exact congrArg some e.symm):p:=h
theorem pJ {p:Prop}(h:p:=by rw[hn];decide):p:=h
theorem pK {p:Prop}(h:p:=by simp[bq]<;>omega):p:=h
theorem pW {p:Prop}(h:p:=by split<;>omega):p:=h
theorem oZ {p:Prop}(h:p:=by simp[nonePic]):p:=h
theorem pu {p:Prop}(h:p:=by have:=HL.out;omega):p:=h
theorem pO {p:Prop}(h:p:=by have:=HF.out;omega):p:=h
theorem pi {p:Prop}(h:p:=by simpa[World.setCell] using z4):p:=h
theorem pT {p:Prop}(h:p:=by simp[results,Tryz.results164,go_sem,r0,r1,r2,r3,r4,r5,r6]):p:=h
theorem pD {p:Prop}(h:p:=by unfold maxLen;have:=LL.out;omega):p:=h
theorem o9 {p:Prop}(h:p:=by have:=LL.out;omega):p:=h
theorem pE {p:Prop}(h:p:=by simpa[World.setCell] using z7):p:=h
theorem o8 {p:Prop}(h:p:=by first|exact HB.out.size|(simp;omega)|omega):p:=h
theorem pU {p:Prop}(h:p:=by have:=B2.size;omega):p:=h
theorem pj {p:Prop}(h:p:=by rw[<-EX] at hkx;simpa[aS,roG] using hkx):p:=h
theorem pn {p:Prop}(h:p:=by have h:=hktx;rw[EPV.out] at h;simpa[aS,roG] using h):p:=h
theorem pd {p:Prop}(h:p:=by rw[hng.out];decide):p:=h
theorem po {p:Prop}(h:p:=by simp only[List.length_set];exact OS):p:=h
theorem oX {p:Prop}(h:p:=by show _=_;simp[hgg,cV]):p:=h
theorem pA {p:Prop}(h:p:=by rw[IntKind.wrap_i64];omega):p:=h
theorem pC {p:Prop}(h:p:=by show _=_;rw[<-hal,Hs]):p:=h
theorem ph {p:Prop}(h:p:=by show _=_;rw[HC.out,ek,List.take_length]):p:=h
theorem pH {p:Prop}(h:p:=by rw[HWr.out];rfl):p:=h
theorem pI {p:Prop}(h:p:=by simp[results,Tryz.results115,go_sem,Go.Proofs.YtmapdpcfanecdabGreatDoor.gV,r0,r1,r2,r3,r4,r5,r6]):p:=h
theorem pS {p:Prop}(h:p:=by show _=_;unfold bV;simp only[e1,e2];simp;try omega):p:=h
theorem pP {p:Prop}(h:p:=by rw[hch b (by omega)];exact M2.2 b hb hne):p:=h
theorem oY {p:Prop}(h:p:=by simp[results,Tryz.results15,go_sem]):p:=h
theorem pB {p:Prop}(h:p:=by simp[eh]):p:=h
theorem pM {p:Prop}(h:p:=by simp[World.cell?,rb]):p:=h
theorem vW {p:Prop}(h:p:=by rw[hbr.cell (by simp)];simp[go_sem]):p:=h
theorem vg {p:Prop}(h:p:=by simpa[World.setCell] using h6):p:=h
theorem vK {p:Prop}(h:p:=by rw[World.frozen?_setCell];exact h7 j):p:=h
theorem uO {p:Prop}(h:p:=by rw[hbr.cell (by simpa using hb)];exact hc k hlt):p:=h
theorem vN {p:Prop}(h:p:=by unfold Addr.add;split<;>simp_all):p:=h
theorem vI {p:Prop}(h:p:=by simp[results,Tryz.results172,go_sem,r0,r1,r2]):p:=h
theorem uX {p:Prop}(h:p:=by rw[Below.heap_setCell _ _ _ _ hq,Below.heap_setCell _ _ _ _ hq,Below.heap_setCell _ _ _ _ hq]):p:=h
theorem vU {p:Prop}(h:p:=by show _=_;rw[List.map_append,HL.out,List.replicate_succ'];rfl):p:=h
theorem u9 {p:Prop}(h:p:=by rw[HNN.out];exact Nat.le_refl _):p:=h
theorem vk {p:Prop}(h:p:=by rw[World.size_alloc];have:=HW7.size;omega):p:=h
theorem vD {p:Prop}(h:p:=by rw[K.hi];unfold bK;simp[List.getD,hm]):p:=h
theorem vT {p:Prop}(h:p:=by have h:=ux i.k wx;rw[hnA] at h;exact h):p:=h
theorem uV {p:Prop}(h:p:=by have h:=sD i.k wx;rw[hnB] at h;exact h):p:=h
theorem vG {p:Prop}(h:p:=by show _=_;rw[World.size_alloc,HZ1.out]):p:=h
theorem uQ {p:Prop}(h:p:=by show _=_;simp[aA,HK.out.kx.none,HKK.out]):p:=h
theorem vt {p:Prop}(h:p:=by rw[World.size_alloc];have:=HD.size;omega):p:=h
theorem uR {p:Prop}(h:p:=by show _=_;rw[<-Hy.out,<-HA.out];simp):p:=h
theorem vY {p:Prop}(h:p:=by rw[if_pos rfl,mg (by omega) hn]):p:=h
theorem vw {p:Prop}(h:p:=by rw[mg (by omega) hn];rfl):p:=h
theorem u7 {p:Prop}(h:p:=by have:=R5.ln;have:=R5.xs.len;omega):p:=h
theorem vM {p:Prop}(h:p:=by have:=HLEN.out.1;omega):p:=h
theorem vL {p:Prop}(h:p:=by(intro w _;go_simp;first|done|omega)):p:=h
theorem vR {p:Prop}(h:p:=by have:=hb3.size;simp at this;omega):p:=h
theorem vo {p:Prop}(h:p:=by simp[results,Tryz.results174,go_sem,e0,e1,e2]):p:=h
theorem uW {p:Prop}(h:p:=by simp[results,Tryz.results25,go_sem]):p:=h
theorem Di {p:Prop}(h:p:=by have:=HR.out;rw[List.drop_eq_nil_of_le (by omega)] at this;exact this):p:=h
theorem DL {p:Prop}(h:p:=by rw[hb.cell (World.block_lt_of_cell? w _ hm)];exact hm):p:=h
theorem Da {p:Prop}(h:p:=by rw[World.cell?_setCell_other _ _ _ _ (by intro e;cases e)];exact h0):p:=h
theorem Dd {p:Prop}(h:p:=by rw[World.cell?_setCell_other _ _ _ _ (by intro e;cases e)];exact h2):p:=h
theorem DK {p:Prop}(h:p:=by rw[World.cell?_setCell_other _ _ _ _ (by intro e;cases e)];exact h1):p:=h
theorem CN {p:Prop}(h:p:=by simp[results,Tryz.results202,go_sem,r0,r1,r2,bD]):p:=h
theorem Cw {p:Prop}(h:p:=by rw[HR.out];first|(simp;done)|(simp;omega)):p:=h
theorem CO {p:Prop}(h:p:=by have h:=HE.out;rwa [List.take_of_length_le (by omega),List.take_of_length_le (by have:=HL.out;omega)] at h):p:=h
theorem CV {p:Prop}(h:p:=by show JnAt _ _ _ _ _ _ _ _ _;rw[HWD.out];have h:=HYE.out;(try simp only[Int.ofNat_le] at h |-);rw[<-h];exact⟨A9,J9,JC1,JC2,B9⟩):p:=h
theorem Cz {p:Prop}(h:p:=by show _=_;have:=congrArg List.length HL.out;simpa using this):p:=h
theorem Df {p:Prop}(h:p:=by simp[results,Tryz.results114,go_sem,r0,r1,r2,r3,r4,r5,r6]):p:=h
theorem Dn {p:Prop}(h:p:=by first|exact A7.same (e7 _ (by omega)) s7|(simpa using A7.same (e7 _ (by omega)) s7)):p:=h
theorem DB {p:Prop}(h:p:=by first|exact C7.same (e7 _ (by omega)) s7|(simpa using C7.same (e7 _ (by omega)) s7)):p:=h
theorem Dl {p:Prop}(h:p:=by first|exact S7.old (λb hb=>e7 b (by omega)) s7|(simpa using S7.old (λb hb=>e7 b (by omega)) s7)):p:=h
theorem Dp {p:Prop}(h:p:=by rw[hwo.cell (by simp only;exact zp1)];exact C1):p:=h
theorem CJ {p:Prop}(h:p:=by have:=a3 _ (List.getElem_mem h);have:=b3 _ (List.getElem_mem h');omega):p:=h
theorem CI {p:Prop}(h:p:=by first|exact U7.put2 _|(rw[List.length_append];exact U7.put2 _)):p:=h
theorem Dh {p:Prop}(h:p:=by simp[results,Tryz.results164,go_sem,r0,r1,r2,r3,r4,r5,r6,bC]):p:=h
theorem DF {p:Prop}(h:p:=by show _=_;rw[Hal.out,Hlt.out,decide_eq_true (p:=x1≠x2) hne];simp):p:=h
theorem DA {p:Prop}(h:p:=by simpa using(GuAt.put7 a.2.2.2.2.1 (by have:=a.2.2.2.2.2.2.2;omega)).1):p:=h
theorem DH {p:Prop}(h:p:=by have h:=HKK.out;unfold nTo btw;simp;omega):p:=h
theorem DJ {p:Prop}(h:p:=by have:=GAI.2.1;have:=GAI.2.2;unfold maxLen at *;omega):p:=h
theorem Dq {p:Prop}(h:p:=by show _=_;unfold bJ;rw[<-hfn,<-hft,<-hff,<-hfp];cases fn<;>cases ft<;>cases ff<;>cases fp<;>rfl):p:=h
theorem Dt {p:Prop}(h:p:=by cases fn<;>cases ft<;>(have dv4:=hv4.out;simp at dv4;subst dv4;rfl)):p:=h
theorem Dg {p:Prop}(h:p:=by cases fn<;>cases ft<;>cases ff<;>(have dv8:=hv8.out;simp at dv8;subst dv8;rfl)):p:=h
theorem CY {p:Prop}(h:p:=by cases fn<;>cases ft<;>cases ff<;>cases fp<;>(have dv14:=hv14.out;simp at dv14;subst dv14;rfl)):p:=h
theorem Dw {p:Prop}(h:p:=by rw[show (⟨fg,none,0⟩:Gc).g.s=[] from hfs];exact Nat.le_refl _):p:=h
theorem DM {p:Prop}(h:p:=by have h:=rv x.vq[ka] sska gcka wx;rw[HY.out,HN.out] at h;exact h):p:=h
theorem C8 {p:Prop}(h:p:=by have:=HSB.out;have:=HZ1.out;simp only;omega):p:=h
theorem Dc {p:Prop}(h:p:=by unfold aR;rw[if_pos h0];unfold cJ;rw[if_pos hx0];unfold cJ;rw[if_pos hy0];rfl):p:=h
theorem Do {p:Prop}(h:p:=by rw[ex];exact HXO.out.ck _ (List.getElem_mem hxl)):p:=h
theorem Db {p:Prop}(h:p:=by show _=_;rw[HA.out,HN.out,<-HD.out,hp];rfl):p:=h
theorem CH {p:Prop}(h:p:=by have:=fS (c:=c) (L:=aI V F c m) (k:=c.length);have:=(bI h0).2.2;omega):p:=h
theorem CC {p:Prop}(h:p:=by simp[results,Tryz.results175,go_sem,iQ,vd,fZ,r0,r1,r2,r3,r4,r5]):p:=h
theorem CF {p:Prop}(h:p:=by rw[hb4.block j (by omega)];exact hsame j hj' (by omega)):p:=h
theorem Cx {p:Prop}(h:p:=by rw[hb5.block j (by have:=hb4.size;omega),hb4.block j hj]):p:=h
theorem CG {p:Prop}(h:p:=by simp[results,Tryz.results60,go_sem,e0,e1,e2,ez,Nat.ne_of_lt ez]):p:=h
abbrev oA:=Option Go.Addr
open Go.RowKit

theorem bj {a b:Bool}(h:a=b):Ending.returned (Bb a)=Rt (Bb b):=by rw[h]
theorem bP {k:IntKind}{a b:Int}(h:a=b):Ending.returned (.int k a)=Rt (.int k b):=by rw[h]
theorem Lw {a b:ByteArray}(h:a=b):Ending.returned (.string a)=Rt (.string b):=by rw[h]

theorem yK {W w1:World}(hb:Below W.heap.size W w1):(∀b o,b < W.heap.size->w1.cell? ⟨b,o,nO⟩=W.cell? ⟨b,o,nO⟩)/\(∀b o,b < W.heap.size->w1.frozen? ⟨b,o,nO⟩=W.frozen? ⟨b,o,nO⟩):=
 ⟨λb o h=>hb.cell (p:=⟨b,o,nO⟩) h,λb o h=>hb.frozen (p:=⟨b,o,nO⟩) h⟩

theorem dB (n l m:Int)(w:World):
  Calls pG 57 #[I Y n,I Y l,I Y m] w λe w'=>e=Rt (Bb (btw n l m))/\w'=w:=by
 by_cases h1:l<=n
 ·by_cases h2:n<=m
  ·have hb:=fw h1 h2
   go_enter Tryz.func57,Tryz.ntmps57;go_wp2;go_ret;exact⟨bj hb.symm,rfl⟩
  ·have hb:=MJ (l:=l) h2
   go_enter Tryz.func57,Tryz.ntmps57;go_wp2;go_ret;exact⟨rfl,rfl⟩
 ·have hb:=MB (m:=m) h1
  go_enter Tryz.func57,Tryz.ntmps57;go_wp2;go_ret;exact⟨rfl,rfl⟩
end
section
open Go.RowKit
theorem kk {p:Prop}(h:p:=by
 go_wp2_with (go_at_call 57;refine(dB _ _ _ _).mono ?_;rintro e w' ⟨rfl,rfl⟩);all_goals go_ret
 all_goals exact⟨bj (by simp_all[BEq.beq]),rfl⟩):p:=h
theorem Be (k:Int)(w:World):
  Calls pG 106 #[I Y k] w λe w'=>e=Rt (Bb (nTo k))/\w'=w:=by
 unfold nTo;go_enter Tryz.func106,Tryz.ntmps106;exact kk

theorem ux (k:Int)(w:World):
  Calls pG 107 #[I Y k] w λe w'=>e=Rt (Bb (nA k))/\w'=w:=by
 unfold nA;go_enter Tryz.func107,Tryz.ntmps107;exact kk

theorem sD (k:Int)(w:World):
  Calls pG 108 #[I Y k] w λe w'=>e=Rt (Bb (nB k))/\w'=w:=by
 unfold nB;go_enter Tryz.func108,Tryz.ntmps108;exact kk

theorem Ev (k:Int)(w:World):
  Calls pG 110 #[I Y k] w λe w'=>e=Rt (Bb (nN k))/\w'=w:=by
 unfold nN;go_enter Tryz.func110,Tryz.ntmps110;exact kk

theorem yF (k:Int)(w:World):
  Calls pG 109 #[I Y k] w λe w'=>e=Rt (Bb (nG k))/\w'=w:=by
 unfold nG;go_enter Tryz.func109,Tryz.ntmps109;go_wp2;all_goals go_ret
 all_goals exact⟨bj (by simp_all[BEq.beq]),rfl⟩
def InsAt (w:World)(b o:Nat)(i:Ins):Prop:=
 w.cell? ⟨b,o,nO⟩=sO (I Y i.k)/\w.cell? ⟨b,o+1,nO⟩=sO (I Y i.tgt)/\w.cell? ⟨b,o+2,nO⟩=sO (I Y i.a)/\
 w.cell? ⟨b,o+3,nO⟩=sO (I Y i.b)/\w.cell? ⟨b,o+4,nO⟩=sO (I Y i.n)/\w.cell? ⟨b,o+5,nO⟩=sO (I Y i.g)

def CodeAt (w:World)(s:oA)(c:lI):Prop:=
 c=[]\/∃b off,s=sO ⟨b,off,nO⟩/\b < w.heap.size/\∀k (h:k < c.length),InsAt w b (off+k * 6) c[k]

theorem InsAt.below {B:Nat}{w w':World}{b o:Nat}{i:Ins}(h:InsAt w b o i)(hb:Below B w w')(hB:b < B):InsAt w' b o i:=by
 obtain⟨h0,h1,h2,h3,h4,h5⟩:=h;refine⟨?_,?_,?_,?_,?_,?_⟩<;>rw[hb.cell ix]<;>assumption

theorem CodeAt.below {B:Nat}{w w':World}{s:oA}{c:lI}(h:CodeAt w s c)(hb:Below B w w')(hB:w.heap.size<=B):CodeAt w' s c:=by
 rcases h with h|⟨b,off,hs,hlt,hi⟩
 ·exact .inl h
 ·exact .inr ⟨b,off,hs,lL hlt hb.size,λk h=>(hi k h).below hb aa⟩

def IntsAt (w:World)(s:oA)(l:List Int):Prop:=
 l=[]\/∃b off,s=sO ⟨b,off,nO⟩/\b < w.heap.size/\∀k (h:k < l.length),w.cell? ⟨b,off+k,nO⟩=sO (I Y l[k])

theorem IntsAt.below {B:Nat}{w w':World}{s:oA}{l:List Int}(h:IntsAt w s l)(hb:Below B w w')(hB:w.heap.size<=B):IntsAt w' s l:=by
 rcases h with h|⟨b,off,hs,hlt,hi⟩
 ·exact .inl h
 ·exact .inr ⟨b,off,hs,lL hlt hb.size,λk h=>by rw[hb.cell (by simp;omega)];exact hi k h⟩
theorem oq:∃j,Tryz.prog.info? 122=sO j/\j.size=2:=by
 obtain⟨j,hj,hjs⟩:=Option.map_eq_some_iff.1 Tryz.Builder_Extra_169.sizeBuilder;exact⟨j,hj,hjs⟩

theorem vS (b:Nat)(w:World)(h0:w.cell? ⟨b,0,nO⟩=sO (Pp (sO ⟨b,0,nO⟩))):
  Calls pG 119 #[Pp (sO ⟨b,0,nO⟩)] w λe w'=>e=Rt (Tu #[])/\w'=w:=by
 obtain⟨j,hj,_⟩:=oq;go_enter Tryz.func119,Tryz.ntmps119;go_wp2;rw[Lib.run_neq_ptr_same w _ Tryz.underlying119 hj];go_wp2;go_end0;exact⟨rfl,rfl⟩

theorem tW (b:Nat)(w:World)(h0:w.cell? ⟨b,0,nO⟩=sO (Pp nO))(hsh:w.shape? b=sO (122,2))(hfz:w.frozen? ⟨b,0,nO⟩=false):
  Calls pG 119 #[Pp (sO ⟨b,0,nO⟩)] w λe w'=>e=Rt (Tu #[])/\w'=w.setCell ⟨b,0,nO⟩ (Pp (sO ⟨b,0,nO⟩)):=by
 obtain⟨j,hj,hjs⟩:=oq;go_enter Tryz.func119,Tryz.ntmps119;go_wp2;rw[Lib.run_to_unsafe w ⟨b,0,nO⟩ Tryz.underlying119 Tryz.underlying219 hj (by rw[hjs];decide) hsh (Nat.zero_lt_succ 1)];simp only[Result.andThen];rw[Oper.upon_value];go_wp2;rw[run_callFunc_extern Tryz.func177 ag ag ag (e:=Extern.AbiNoEscape.same) ag];rw[Lib.run_noEscape];simp only[Result.andThen];rw[Oper.upon_value];go_wp2;rw[Lib.run_from_unsafe w ⟨b,0,nO⟩ Tryz.underlying219 Tryz.underlying119 hj hsh Tryz.Builder_Extra_169.liesBuilder];simp only[Result.andThen];rw[Oper.upon_value];go_wp2;go_end0;exact⟨rfl,rfl⟩

theorem yh (B b:Nat)(bs:List Value)(w:World)(h:Lib.IsBuilder 122 5 B b bs w):
  Calls pG 119 #[Pp (sO ⟨b,0,nO⟩)] w λe w'=>e=Rt (Tu #[])/\(Lib.BuilderAt 122 5 B b (Pp (sO ⟨b,0,nO⟩)) bs w'/\Below B w w'):=by
 rcases h with h|h
 ·refine(tW b w h.cell0 h.shape h.frozen0).mono ?_
  rintro e w' ⟨rfl,rfl⟩;exact⟨rfl,h.used _,(bR B w).setCell (p:=⟨b,0,nO⟩) h.1 _⟩
 ·refine(vS b w h.cell0).mono ?_
  rintro e w' ⟨rfl,rfl⟩;exact⟨rfl,h,bR B _⟩

theorem un (B b:Nat)(bs:List Value)(s:ByteArray)(w:World)(h:Lib.IsBuilder 122 5 B b bs w)(hlen:bs.length+s.size<=140737488355328)(hBw:B<=w.heap.size):
  Calls pG 62 #[Pp (sO ⟨b,0,nO⟩),.string s] w λe w'=>e=Rt (Tu #[I Y s.size,.nilIface])/\(Lib.BuilderAt 122 5 B b (Pp (sO ⟨b,0,nO⟩)) (bs++Lib.strCells s) w'/\Below B w w'):=by
 obtain⟨ti,hi,hz0,hz1,hz2⟩:=info_parts Tryz.Builder_Extra_169.infoByte;go_enter Tryz.func62,Tryz.ntmps62;go_wp2_with (go_at_call 119;refine(yh B b bs _ h).mono ?_);rintro e w1 ⟨rfl,h1,hb1⟩;obtain⟨hB,v,hbk,hown,hne⟩:=h1;have c0:w1.cell? ⟨b,0,nO⟩=sO (Pp (sO ⟨b,0,nO⟩)):=by rw[Lib.cell_of_heap hbk];rfl
 have c1:w1.cell? ⟨b,1,nO⟩=sO v:=by rw[Lib.cell_of_heap hbk];rfl
 go_wp2_with (at_builtin;refine Lib.wpList_append_own_string _ rfl _ _ 120 9 rfl B 5 ti Tryz.underlying120 Tryz.underlying9 hi hz0 hz1 hz2 _ _ _ rfl hown s rfl ?c3 ?c4 ?c5 ?_)
 case c3=>unfold maxLen;omega
 case c4=>omega
 case c5=>have:=hb1.size;omega
 intro v' w2 hown' hgrow _;have hlt:b < w1.heap.size:=(j1.1 hbk).1;have hb2:w2.heap[b]? =sO (Cc #[Pp (sO ⟨b,0,nO⟩),v] 122 (0,0)):=by
  rw[hgrow.block b hlt (λe=>hne e.symm)];exact hbk
 have d0:w2.cell? ⟨b,0,nO⟩=sO (Pp (sO ⟨b,0,nO⟩)):=by rw[Lib.cell_of_heap hb2];rfl
 have d1:w2.cell? ⟨b,1,nO⟩=sO v:=by rw[Lib.cell_of_heap hb2];rfl
 have f1:w2.frozen? ⟨b,1,nO⟩=false:=Lib.frozen_of_heap hb2 1;obtain⟨ao,n',cap,rfl⟩:∃ao n' cap,v'=U ao n' cap:=by
  rcases hown'.2 with⟨hv,_⟩|⟨g,cap,cur,hv,_⟩
  ·exact⟨_,_,_,hv⟩
  ·exact⟨_,_,_,hv⟩
 go_wp2
 go_ret2
 refine⟨rfl,?_,?_⟩
 ·exact Lib.BuilderAt.put (T:=122) (e:=5) hB hb2 (bs':=bs++Lib.strCells s) (by simpa[Lib.strCells_length] using hown') Tryz.Builder_Extra_169.neB5
 ·exact(hb1.grown hgrow (by have:=hb1.size;omega) (λk hk=>(hown.lt k hk).1)).setCell (p:=⟨b,1,nO⟩) hB _
theorem gU {w:World}{B:Nat}{e:TypeId}{z:Nat}{v:Value}{n:Nat}{xs:List Value}(h:w.ownsRow B e z v n xs){k:Nat}(hk:v.ownBlock=sO k):k < w.heap.size/\B<=k:=by
 rcases h.2 with⟨rfl,_⟩|⟨g,cap,cur,rfl,hb,hg,_⟩
 ·cases hk
 ·cases hk
  exact⟨(j1.1 hg).1,hb⟩

theorem ci {w w':World}{B:Nat}{e:TypeId}{z:Nat}{v:Value}{n:Nat}{xs:List Value}(h:w.ownsRow B e z v n xs)(hb:∀k,v.ownBlock=sO k->w'.heap[k]? =w.heap[k]?):w'.ownsRow B e z v n xs:=by
 obtain⟨h1,h2⟩:=h;refine⟨h1,?_⟩;rcases h2 with h2|⟨g,cap,cur,hv,hB,hg,r⟩
 ·exact .inl h2
 ·exact .inr ⟨g,cap,cur,hv,hB,by rw[hb g (by rw[hv];rfl)];exact hg,r⟩
theorem Tryz.info_int:(Tryz.prog.info? 3).map (λi=>(i.zero,i.size,i.bytes))=sO (sO (I Y 0),1,8):=ag

theorem lq {w:World}{B:Nat}{e:TypeId}{z:Nat}{v:Value}{n:Nat}{xs:List Value}(h:w.ownsRow B e z v n xs){k:Nat}(hk:v.ownBlock=sO k):B<=k:=by
 rcases h.2 with⟨rfl,_⟩|⟨g,cap,cur,rfl,hb,hg,_⟩
 ·cases hk
 ·cases hk
  exact hb
end
section
structure Sp where
 n:Bool
 lo:Int
 hi:Int
def Sp.dq(s t:Sp):Decidable (s=t):=decidable_of_iff (s.n=t.n/\s.lo=t.lo/\s.hi=t.hi) (by cases s;cases t;simp)

abbrev bd (x:Int):Prop:= -2147483648<=x/\x<=2147483647

def cu (s:Sp):Int:=
 if¬(bd s.lo/\bd s.hi) then 3 else if s.n=true/\¬(s.lo=0/\s.hi=0) then 1 else if s.hi < s.lo then 4 else 0

def bu (s t:Sp):Int:=if cu s=0 then cu t else cu s

def Sp.Ok (s:Sp):Prop:=bd s.lo/\bd s.hi/\(s.n=true->s.lo=0/\s.hi=0)/\s.lo<=s.hi

theorem ckSp_ok {s:Sp}:cu s=0↔s.Ok:=by
 unfold cu Sp.Ok;by_cases h1:bd s.lo/\bd s.hi
 ·rw[if_neg (not_not_intro h1)]
  by_cases h2:s.n=true/\¬(s.lo=0/\s.hi=0)
  ·rw[if_pos h2]
   refine⟨λh=>absurd h (by decide),λh=>absurd (h.2.2.1 h2.1) h2.2⟩
  ·rw[if_neg h2]
   have h3:s.n=true->s.lo=0/\s.hi=0:=λhn=>Decidable.not_not.1 λhc=>h2 ⟨hn,hc⟩;by_cases h4:s.hi < s.lo
   ·rw[if_pos h4]
    exact⟨λh=>absurd h (by decide),λh=>absurd h.2.2.2 (by omega)⟩
   ·rw[if_neg h4]
    exact⟨λ_=>⟨h1.1,h1.2,h3,by omega⟩,λ_=>rfl⟩
 ·rw[if_pos h1]
  exact⟨λh=>absurd h (by decide),λh=>absurd ⟨h.1,h.2.1⟩ h1⟩

theorem ckSps_ok {s t:Sp}:bu s t=0↔s.Ok/\t.Ok:=by
 unfold bu;by_cases h:cu s=0
 ·rw[if_pos h,ckSp_ok]
  exact⟨λht=>⟨ckSp_ok.1 h,ht⟩,λht=>ht.2⟩
 ·rw[if_neg h]
  exact⟨λht=>absurd ht h,λht=>absurd (ckSp_ok.2 ht.1) h⟩

def Sp.has (s:Sp)(x:Int):Bool:= !s.n&&(decide (s.lo<=x)&&decide (x<=s.hi))
def bi (s t:Sp):Sp:=if s.n then t else if t.n then s else⟨false,min s.lo t.lo,max s.hi t.hi⟩
def bq (s t:Sp):Sp:=if s.n then t else if t.n then s else⟨false,if t.lo < s.lo then -2147483648 else s.lo,if s.hi < t.hi then 2147483647 else s.hi⟩
def aF (s t:Sp):Sp:=if s.n||t.n||decide (min s.hi t.hi < max s.lo t.lo) then⟨true,0,0⟩ else⟨false,max s.lo t.lo,min s.hi t.hi⟩
def dX (s t:Sp):Bool:=s.n||(t.has s.lo&&t.has s.hi)

def oJ (k x y:Int):Int:=if k=5 then x+y else if k=6 then x - y else x * y
def dw (a b c d:Int):Int:=min (min (min a b) c) d
def dy (a b c d:Int):Int:=max (max (max a b) c) d
def fL (a b c d:Int):Sp:=if bd (dw a b c d)/\bd (dy a b c d) then⟨false,dw a b c d,dy a b c d⟩ else⟨false,-2147483648,2147483647⟩
def cn (k:Int)(s t:Sp):Sp:=if s.n||t.n then⟨true,0,0⟩ else fL (oJ k s.lo t.lo) (oJ k s.lo t.hi) (oJ k s.hi t.lo) (oJ k s.hi t.hi)

def bD:Sp:=⟨false,0,0⟩
theorem Na {k:Int}{s t:Sp}(hs:s.Ok)(ht:t.Ok):(cn k s t).Ok:=by
 unfold cn;split
 ·exact⟨by decide,by decide,λ_=>⟨rfl,rfl⟩,Int.le_refl _⟩
 ·unfold fL
  split
  ·rename_i h
   refine⟨h.1,h.2,λhn=>(by cases hn),?_⟩;unfold dw dy;simp only;omega
  ·exact⟨by decide,by decide,λhn=>(by cases hn),by decide⟩

theorem LH {s t:Sp}(hs:s.Ok)(ht:t.Ok):(bi s t).Ok:=by
 unfold bi;split
 ·exact ht
 ·split
  ·exact hs
  ·obtain⟨a,b,_,d⟩:=hs
   obtain⟨a',b',_,d'⟩:=ht;unfold bd at a b a' b';refine⟨?_,?_,λhn=>(by cases hn),?_⟩<;>(try unfold bd)<;>simp only<;>omega

theorem L8 {s t:Sp}(hs:s.Ok)(ht:t.Ok):(bq s t).Ok:=by
 unfold bq;split
 ·exact ht
 ·split
  ·exact hs
  ·obtain⟨a,b,_,d⟩:=hs
   obtain⟨a',b',_,d'⟩:=ht;unfold bd at a b a' b';refine⟨?_,?_,λhn=>(by cases hn),?_⟩<;>(try unfold bd)<;>simp only<;>(repeat' split)<;>omega
structure Gs where
 n:Bool
 sp:Sp
 t:Bool
 f:Bool
 s:List Int

def b9 (c:List Ins)(x:Int):Bool:=decide (0<=x)&&(decide (x < c.length)&&decide ((c.getD x.toNat ⟨0,0,0,0,0,0⟩).k=11))

def cW:List Int->Bool
 |[]=>true
 |[_]=>true
 |a::b::r=>decide (a < b)&&cW (b::r)

def aE (c:List Ins)(g:Gs):Int:=if cu g.sp≠0 then cu g.sp else if g.s.all (b9 c)=false then 5 else if cW g.s=false then 4 else 0

def bZ (c:List Ins):List Gs->Int
 |[]=>0
 |g::r=>if aE c g=0 then bZ c r else aE c g

def aY (V F:Int)(c:List Ins)(l:List Gs):Int:=if aw V F c=0 then bZ c l else aw V F c

def gd (a b:List Int):List Int:=((List.range 60).map λn:Nat=>(n:Int)).filter λx=>a.contains x||b.contains x

def am (wide:Bool)(g h:Gs):Gs:=⟨g.n||h.n,if wide then bq g.sp h.sp else bi g.sp h.sp,g.t||h.t,g.f||h.f,gd g.s h.s⟩
def c7 (g h:Gs):Bool:= !(g.n&& !h.n)&&(!(g.t&& !h.t)&&(!(g.f&& !h.f)&&(dX g.sp h.sp&&g.s.all λx=>h.s.contains x)))
def b8 (g:Gs):Bool:=(!g.sp.n&& !decide (g.sp.lo=0/\g.sp.hi=0))||(g.t||decide (0 < g.s.length))
def cF (g:Gs):Bool:=g.sp.has 0||(g.n||g.f)
def aL (g:Gs):Bool:=g.n||(g.t||(g.f||decide (0 < g.s.length)))
def ap (g:Gs):Bool:=g.sp.n&& !aL g
def noneG:Gs:=⟨false,⟨true,0,0⟩,false,false,[]⟩
def bC:Gs:=⟨false,⟨false,0,0⟩,false,false,[]⟩
def b2n (b:Bool):Nat:=if b then 1 else 0
def dQ (g:Gs):Bool:=decide (b2n g.n+b2n (!g.sp.n)+b2n g.t+b2n g.f=1)&&(decide (g.sp.lo=g.sp.hi)&&decide (g.s.length=0))
def cM (g h:Gs):Bool:=dQ g&&(dQ h&&(g.n==h.n&&(@decide _ (g.sp.dq h.sp)&&(g.t==h.t&&g.f==h.f))))

def cD (k:Int)(g h:Gs):Gs×Bool:=
 if k=4 then(g,false)
 else if k=10 then(⟨false,⟨true,0,0⟩,cF g,b8 g,[]⟩,false)
 else if ap g||ap h then(noneG,false)
 else if k=9 then(⟨false,⟨true,0,0⟩,(g.n&&h.n)||(!(aF g.sp h.sp).n||((g.t&&h.t)||((g.f&&h.f)||g.s.any λx=>h.s.contains x))),!cM g h,[]⟩,false)
 else if k=8 then(⟨false,⟨true,0,0⟩,!(g.sp.n||h.sp.n)&&decide (g.sp.lo < h.sp.hi),!(g.sp.n||h.sp.n)&&decide (h.sp.lo<=g.sp.hi),[]⟩,aL g||aL h)
 else(⟨false,cn k g.sp h.sp,false,false,[]⟩,aL g||aL h)
end
section
open Go.RowKit
abbrev sv (s:Sp):Value:=Ag #[Bb s.n,I Y s.lo,I Y s.hi]

theorem gG (n:Int)(w:World):
  Calls pG 225 #[I Y n] w λe w'=>e=Rt (Bb (!decide (bd n)))/\w'=w:=by
 have e1:decide (bd n)=(decide (-2147483648<=n)&&decide (n<=2147483647)):=by unfold bd;exact Bool.decide_and _ _
 rw[e1];by_cases h1:n < -2147483648
 ·go_enter Tryz.func225,Tryz.ntmps225
  go_wp2;go_ret;exact⟨bj (by simp<;>omega),rfl⟩
 ·by_cases h2:n > 2147483647
  ·go_enter Tryz.func225,Tryz.ntmps225
   go_wp2;go_ret;exact⟨bj (by simp<;>omega),rfl⟩
  ·go_enter Tryz.func225,Tryz.ntmps225
   go_wp2;go_ret;exact⟨bj (by simp<;>omega),rfl⟩

theorem vh (w:World):
  Calls pG 226 #[] w λe w'=>e=Rt (sv ⟨true,0,0⟩)/\w'=w.alloc (Cc #[Bb true,I Y 0,I Y 0] 89):=by
 go_enter Tryz.func226,Tryz.ntmps226;go_wp2
 go_returns
 exact⟨rfl,aV⟩

theorem Ks (w:World):
  Calls pG 226 #[] w λe w'=>e=Rt (sv ⟨true,0,0⟩)/\bl w w':=by
 refine(vh w).mono ?_;rintro e w' ⟨rfl,rfl⟩;exact⟨rfl,ai⟩

theorem GG (w:World):
  Calls pG 245 #[] w λe w'=>e=Rt (sv ⟨false,-2147483648,2147483647⟩)/\w'=w.alloc (Cc #[Bb false,I Y (-2147483648),I Y 2147483647] 89):=by
 go_enter Tryz.func245,Tryz.ntmps245;go_wp2
 go_returns
 exact⟨rfl,aV⟩

theorem pF (n m:Int)(w:World)(h:wrap64 (n+m)=n+m):
  Calls pG 229 #[I Y n,I Y m] w λe w'=>e=Rt (I Y (n+m))/\w'=w:=by
 go_enter Tryz.func229,Tryz.ntmps229;go_wp2;go_ret;exact⟨bP h,rfl⟩

theorem pQ (n m:Int)(w:World)(h:wrap64 (n - m)=n - m):
  Calls pG 230 #[I Y n,I Y m] w λe w'=>e=Rt (I Y (n - m))/\w'=w:=by
 go_enter Tryz.func230,Tryz.ntmps230;go_wp2;go_ret;exact⟨bP h,rfl⟩

theorem pL (n m:Int)(w:World)(h:wrap64 (n * m)=n * m):
  Calls pG 231 #[I Y n,I Y m] w λe w'=>e=Rt (I Y (n * m))/\w'=w:=by
 go_enter Tryz.func231,Tryz.ntmps231;go_wp2;go_ret;exact⟨bP h,rfl⟩

theorem tw {p:Prop}(h:p:=by
 go_enter Tryz.func195,Tryz.ntmps195;go_wp2_with (go_at_call 225;refine(gG _ _).mono ?_;rintro e w' ⟨rfl,rfl⟩);go_ret;exact⟨rfl,ai⟩):p:=h
theorem LJ (n:Bool)(lo hi:Int)(w:World)(h:¬bd lo):
  Calls pG 195 #[sv ⟨n,lo,hi⟩] w λe w'=>e=Rt (I Y 3)/\bl w w':=by
 have h1:decide (bd lo)=false:=cj;exact tw

theorem LN (n:Bool)(lo hi:Int)(w:World)(h:bd lo)(h':¬bd hi):
  Calls pG 195 #[sv ⟨n,lo,hi⟩] w λe w'=>e=Rt (I Y 3)/\bl w w':=by
 have h1:decide (bd lo)=true:=cj;have h2:decide (bd hi)=false:=by simpa using h'
 exact tw

theorem nl {p:Prop}(h:p:=by
 go_enter Tryz.func195,Tryz.ntmps195;go_wp2_with (go_at_call 225;refine(gG _ _).mono ?_;rintro e w' ⟨rfl,rfl⟩);refine wp_region_quiet_below ag ag ?_;repeat (quiet_step (exact Calls.regrown_of (Ks _)))
 refine wpQuiet_nil ?_;intro _ hw';obtain⟨⟨dq,osq⟩,hw''⟩:=hw';subst hw'';go_wp2;go_ret;exact⟨rfl,Below.trans ai ((below_regrown _ dq osq).mono iC)⟩):p:=h
theorem KB (lo hi:Int)(w:World)(h:bd lo)(h':bd hi)(hz:(lo==0)=false):
  Calls pG 195 #[sv ⟨true,lo,hi⟩] w λe w'=>e=Rt (I Y 1)/\bl w w':=by
 have h1:decide (bd lo)=true:=cj;have h2:decide (bd hi)=true:=by simpa using h'
 have c0:=cell_regrown (w:=w.alloc (Cc #[Bb true,I Y lo,I Y hi] 89)) (a:=⟨w.heap.size,0,nO⟩) (v:=Bb true) aV;have c1:=cell_regrown (w:=w.alloc (Cc #[Bb true,I Y lo,I Y hi] 89)) (a:=⟨w.heap.size,1,nO⟩) (v:=I Y lo) aV;have c2:=cell_regrown (w:=w.alloc (Cc #[Bb true,I Y lo,I Y hi] 89)) (a:=⟨w.heap.size,2,nO⟩) (v:=I Y hi) aV;exact nl

theorem Ic (hi:Int)(w:World)(h':bd hi)(hz:(hi==0)=false):
  Calls pG 195 #[sv ⟨true,0,hi⟩] w λe w'=>e=Rt (I Y 1)/\bl w w':=by
 have h1:decide (bd 0)=true:=aj;have h2:decide (bd hi)=true:=by simpa using h'
 have c0:=cell_regrown (w:=w.alloc (Cc #[Bb true,I Y 0,I Y hi] 89)) (a:=⟨w.heap.size,0,nO⟩) (v:=Bb true) aV;have c1:=cell_regrown (w:=w.alloc (Cc #[Bb true,I Y 0,I Y hi] 89)) (a:=⟨w.heap.size,1,nO⟩) (v:=I Y 0) aV;have c2:=cell_regrown (w:=w.alloc (Cc #[Bb true,I Y 0,I Y hi] 89)) (a:=⟨w.heap.size,2,nO⟩) (v:=I Y hi) aV;exact nl

theorem LC (w:World):
  Calls pG 195 #[sv ⟨true,0,0⟩] w λe w'=>e=Rt (I Y 0)/\bl w w':=by
 have h1:decide (bd 0)=true:=aj;have c0:=cell_regrown (w:=w.alloc (Cc #[Bb true,I Y 0,I Y 0] 89)) (a:=⟨w.heap.size,0,nO⟩) (v:=Bb true) aV;have c1:=cell_regrown (w:=w.alloc (Cc #[Bb true,I Y 0,I Y 0] 89)) (a:=⟨w.heap.size,1,nO⟩) (v:=I Y 0) aV;have c2:=cell_regrown (w:=w.alloc (Cc #[Bb true,I Y 0,I Y 0] 89)) (a:=⟨w.heap.size,2,nO⟩) (v:=I Y 0) aV;exact nl

theorem tK {p:Prop}(h:p:=by
 have h1:decide (bd lo)=true:=cj;have h2:decide (bd hi)=true:=by simpa using h'
 go_enter Tryz.func195,Tryz.ntmps195;go_wp2_with (go_at_call 225;refine(gG _ _).mono ?_;rintro e w' ⟨rfl,rfl⟩)
 go_quiet (fail)
 go_wp2;go_ret;exact⟨rfl,below_drewN ai _⟩):p:=h
theorem Lv (lo hi:Int)(w:World)(h:bd lo)(h':bd hi)(hz:hi < lo):
  Calls pG 195 #[sv ⟨false,lo,hi⟩] w λe w'=>e=Rt (I Y 4)/\bl w w':=tK

theorem Lc (lo hi:Int)(w:World)(h:bd lo)(h':bd hi)(hz:¬hi < lo):
  Calls pG 195 #[sv ⟨false,lo,hi⟩] w λe w'=>e=Rt (I Y 0)/\bl w w':=tK

theorem ie (s:Sp)(w:World):
  Calls pG 195 #[sv s] w λe w'=>e=Rt (I Y (cu s))/\bl w w':=by
 obtain⟨n,lo,hi⟩:=s;unfold cu;by_cases h:bd lo
 ·by_cases h':bd hi
  ·rw[if_neg (by simp[h,h'])]
   cases n with
   |true=>
    by_cases hz:lo=0
    ·subst hz
     by_cases hz':hi=0
     ·subst hz'
      rw[if_neg ah,if_neg ah];exact LC w
     ·rw[if_pos (by simp[hz'])]
      exact Ic hi w h' (by simpa using hz')
    ·rw[if_pos (by simp[hz])]
     exact KB lo hi w h h' d9
   |false=>
    rw[if_neg ah];by_cases hz:hi < lo
    ·rw[if_pos hz]
     exact Lv lo hi w h h' hz
    ·rw[if_neg hz]
     exact Lc lo hi w h h' hz
  ·rw[if_pos (by simp[h'])]
   exact LN n lo hi w h h'
 ·rw[if_pos (by simp[h])]
  exact LJ n lo hi w h
theorem rO {B:Nat}{n:Bool}{lo hi:Int}{w w1:World}(hb:Below B (w.alloc (Cc #[Bb n,I Y lo,I Y hi] 89)) w1)(hB:w.heap.size < B):w1.cell? ⟨w.heap.size,0,nO⟩=sO (Bb n)/\w1.cell? ⟨w.heap.size,1,nO⟩=sO (I Y lo)/\w1.cell? ⟨w.heap.size,2,nO⟩=sO (I Y hi):=by
 rw[hb.cell ix,hb.cell ix,hb.cell ix];simp[go_sem]

theorem oF {B:Nat}{n n':Bool}{lo hi lo' hi':Int}{w w1:World}(hb:Below B ((w.alloc (Cc #[Bb n,I Y lo,I Y hi] 89)).alloc (Cc #[Bb n',I Y lo',I Y hi'] 89)) w1)(hB:w.heap.size+1 < B):w1.cell? ⟨w.heap.size,0,nO⟩=sO (Bb n)/\w1.cell? ⟨w.heap.size,1,nO⟩=sO (I Y lo)/\w1.cell? ⟨w.heap.size,2,nO⟩=sO (I Y hi)/\w1.cell? ⟨w.heap.size+1,0,nO⟩=sO (Bb n')/\w1.cell? ⟨w.heap.size+1,1,nO⟩=sO (I Y lo')/\w1.cell? ⟨w.heap.size+1,2,nO⟩=sO (I Y hi'):=by
 rw[hb.cell an,hb.cell an,hb.cell an,hb.cell ix,hb.cell ix,hb.cell ix];simp[go_sem]

theorem Dz {a b:Bool}{v:Value}(h:a=b):Ending.returned (Tu #[Bb a,v])=Rt (Tu #[Bb b,v]):=by rw[h]

theorem LG (s:Sp)(x:Int)(w:World)(h:cu s≠0):
  Calls pG 143 #[sv s,I Y x] w λe w'=>e=Rt (Tu #[Bb false,I Y (cu s)])/\bl w w':=by
 obtain⟨n,lo,hi⟩:=s;have h0:Below w.heap.size w (w.alloc (Cc #[Bb n,I Y lo,I Y hi] 89)):=ai;go_enter Tryz.func143,Tryz.ntmps143;go_wp2_with (go_at_call 195;refine(ie ⟨n,lo,hi⟩ _).mono ?_;rintro e w1 ⟨rfl,hb1⟩)
 go_ret2
 exact⟨rfl,h0.trans (hb1.mono ah)⟩

theorem mJ {p:Prop}(h:p:=by
 go_wp2
 go_ret2
 exact⟨Dz (by simp[Sp.has, *]),h0.trans (hb1.mono ah)⟩):p:=h
theorem MN (s:Sp)(x:Int)(w:World)(h:cu s=0):
  Calls pG 143 #[sv s,I Y x] w λe w'=>e=Rt (Tu #[Bb (s.has x),I Y 0])/\bl w w':=by
 obtain⟨n,lo,hi⟩:=s;have h0:Below w.heap.size w (w.alloc (Cc #[Bb n,I Y lo,I Y hi] 89)):=ai;go_enter Tryz.func143,Tryz.ntmps143;go_wp2_with fail;refine(ie ⟨n,lo,hi⟩ _).mono ?_;rintro e w1 ⟨rfl,hb1⟩;rw[h];obtain⟨c0,c1,c2⟩:=rO hb1 ah;have s1:w.heap.size < w1.heap.size:=kM;cases n with
 |true=>
  exact mJ
 |false=>
  by_cases hl:lo<=x
  ·have d1:decide (lo<=x)=true:=by simpa using hl
   exact mJ
  ·have d1:decide (lo<=x)=false:=by simpa using hl
   exact mJ

theorem Li (s:Sp)(x:Int)(w:World):
  Calls pG 143 #[sv s,I Y x] w λe w'=>e=Rt (Tu #[Bb (decide (cu s=0)&&s.has x),I Y (cu s)])/\bl w w':=by
 by_cases h:cu s=0
 ·have:=MN s x w h
  rw[h];simpa using this
 ·have:=LG s x w h
  simpa[h] using this

theorem dL (s t:Sp)(w:World):
  Calls pG 219 #[sv s,sv t] w λe w'=>e=Rt (I Y (bu s t))/\bl w w':=by
 have e0:bu s t=if cu s=0 then cu t else cu s:=rfl
 obtain⟨n,lo,hi⟩:=s;obtain⟨n',lo',hi'⟩:=t;by_cases h:cu ⟨n,lo,hi⟩=0
 ·rw[if_pos h] at e0
  rw[e0];go_enter Tryz.func219,Tryz.ntmps219;go_wp2_with fail;refine(ie ⟨n,lo,hi⟩ _).mono ?_;rintro e w1 ⟨rfl,hb1⟩;rw[h];obtain⟨c0,c1,c2,d0,d1,d2⟩:=oF hb1 ah;have s1:w.heap.size+1 < w1.heap.size:=kM;go_wp2_with fail;refine(ie ⟨n',lo',hi'⟩ _).mono ?_;rintro e w2 ⟨rfl,hb2⟩;go_wp2;go_ret;refine⟨rfl,?_⟩;exact(Below.trans ai (hb1.mono an)).trans (hb2.mono aa)
 ·rw[if_neg h] at e0
  rw[e0];go_enter Tryz.func219,Tryz.ntmps219;go_wp2_with fail;refine(ie ⟨n,lo,hi⟩ _).mono ?_;rintro e w1 ⟨rfl,hb1⟩;go_wp2;go_ret;refine⟨rfl,?_⟩;exact Below.trans ai (hb1.mono an)

theorem fU {n:Bool}{lo hi:Int}{t:Sp}(h:t=⟨n,lo,hi⟩):Ending.returned (Ag #[Bb n,I Y lo,I Y hi])=Rt (sv t):=by rw[h]

theorem Aa (s t:Sp)(w:World):
  Calls pG 182 #[sv s,sv t] w λe w'=>e=Rt (sv (bi s t))/\bl w w':=by
 obtain⟨n,lo,hi⟩:=s;obtain⟨n',lo',hi'⟩:=t;cases n with
 |true=>
  go_enter Tryz.func182,Tryz.ntmps182;go_wp2
  go_returns
  exact⟨rfl,ai⟩
 |false=>
  cases n' with
  |true=>
   go_enter Tryz.func182,Tryz.ntmps182;go_wp2
   go_returns
   exact⟨rfl,ai⟩
  |false=>
   go_enter Tryz.func182,Tryz.ntmps182;go_wp2;all_goals go_returns
   all_goals exact⟨fU (by simp[bi]<;>omega),ai⟩

theorem FQ {lo hi lo' hi':Int}(h:min hi hi' < max lo lo'):aF ⟨false,lo,hi⟩ ⟨false,lo',hi'⟩=⟨true,0,0⟩:=by
 unfold aF;rw[if_pos (by simp only[Bool.false_or];exact decide_eq_true h)]
theorem Dx {lo hi lo' hi' a b:Int}(ha:a=max lo lo')(hb:b=min hi hi')(h:a<=b):aF ⟨false,lo,hi⟩ ⟨false,lo',hi'⟩=⟨false,a,b⟩:=by
 subst ha hb;unfold aF;rw[if_neg (by simp only[Bool.false_or,decide_eq_true_eq];omega)]

theorem Kt (s t:Sp)(w:World):
  Calls pG 197 #[sv s,sv t] w λe w'=>e=Rt (sv (aF s t))/\bl w w':=by
 obtain⟨n,lo,hi⟩:=s;obtain⟨n',lo',hi'⟩:=t;have h0:Below w.heap.size w (((w.alloc (Cc #[Bb n,I Y lo,I Y hi] 89)).alloc (Cc #[Bb n',I Y lo',I Y hi'] 89)).alloc (Cc #[Bb false,I Y 0,I Y 0] 89)):=ai;rcases Int.lt_or_le lo lo' with h1|h1<;>rcases Int.lt_or_le hi' hi with h2|h2<;>cases n<;>cases n'
 all_goals
  go_enter Tryz.func197,Tryz.ntmps197;go_wp2
  go_quiet (fail)
  go_wp2_with (go_at_call 226;refine(vh _).mono ?_;rintro e w1 ⟨rfl,rfl⟩)
 all_goals go_returns
 all_goals exact⟨fU (by first|rfl|exact meet_n _ _ _ _ _|exact Dx (by omega) (by omega) (by omega)|exact FQ (by omega)),pt⟩
end
section
structure Pic where
 none:Bool
 vq:List Gs
 fq:List (List Gs)

def nonePic:Pic:=⟨true,[],[]⟩
def eh:Pic:=⟨false,[],[]⟩
def bO (x:Pic):List Gs:=x.vq++x.fq.flatten
def du (g h:Gs):Bool:=g.n==h.n&&(@decide _ (g.sp.dq h.sp)&&(g.t==h.t&&(g.f==h.f&&decide (g.s=h.s))))
theorem sameGs_iff {g h:Gs}:du g h=true↔g=h:=by
 obtain⟨a,b,c,d,e⟩:=g;obtain⟨a',b',c',d',e'⟩:=h;simp only[du,j2,beq_iff_eq,decide_eq_true_eq,Gs.mk.injEq]
def cP (g:Gs):Bool:= !du g noneG
def bH (V F:Int)(c:List Ins)(x:Pic):Bool:=
 if x.none then decide (x.vq.length=0)&&decide (x.fq.length=0)
 else decide ((x.vq.length:Int)=V)&&(decide (x.fq.length=c.length)&& !(x.fq.any λr=> !decide ((r.length:Int)=F)))
def dA (c:List Ins)(p:Gs->Bool):Nat->List (List Gs)->Bool
 |_,[]=>false
 |i,r::l=>(!b9 c i&&r.any p)||dA c p (i+1) l
def aK (V F:Int)(c:List Ins)(x:Pic):Int:=
 if bH V F c x=false then 1 else if bZ c (bO x)≠0 then bZ c (bO x) else if dA c (λg=> !ap g) 0 x.fq then 4 else 0
def cJ (V F:Int)(c:List Ins):List Pic->Int
 |[]=>0
 |x::l=>if aK V F c x=0 then cJ V F c l else aK V F c x
def aR (V F:Int)(c:List Ins)(l:List Pic):Int:=if aw V F c=0 then cJ V F c l else aw V F c

def cV:Gs:=⟨true,⟨true,0,0⟩,false,false,[]⟩
def bE (V F:Int)(c:List Ins):Pic:=⟨false,j5 V.toNat cV,j5 c.length (j5 F.toNat noneG)⟩
def aN (j:Gs->Gs->Gs)(a b:List Gs):List Gs:=j3 j a b
def aG (j:Gs->Gs->Gs)(x y:Pic):Pic:=if x.none then y else if y.none then x else⟨false,aN j x.vq y.vq,j3 (aN j) x.fq y.fq⟩
def eU (a b:List Gs):Bool:=(j3 c7 a b).all id
def bG (x y:Pic):Bool:=x.none||(!y.none&&(eU x.vq y.vq&&(j3 eU x.fq y.fq).all id))

theorem oM {c:List Ins}:∀{l:List Gs},bZ c l=0->∀g∈l,aE c g=0
 |[],_,g,hg=>by simp at hg
 |a::r,h,g,hg=>by
  unfold bZ at h;split at h
  ·rename_i h1
   rcases q7.1 hg with rfl|hg
   ·exact h1
   ·exact oM h g hg
  ·contradiction
theorem Hi {c:List Ins}{g:Gs}(h:aE c g=0):cP g= !ap g:=by
 have hs:cu g.sp=0:=by
  unfold aE at h;split at h
  ·exact h
  ·rename_i h1;simpa using h1
 have hok:=ckSp_ok.1 hs;obtain⟨n,⟨sn,lo,hi⟩,t,f,s⟩:=g;have h3:=hok.2.2.1;simp only at h3;unfold cP ap aL du noneG;cases sn with
 |false=>simp
 |true=>
  obtain⟨e1,e2⟩:=h3 rfl;subst e1 e2;cases n<;>cases t<;>cases f<;>cases s<;>simp
theorem nP {c:List Ins}{p q:Gs->Bool}:∀{l:List (List Gs)} {i:Nat},(∀r∈l,∀g∈r,p g=q g)->dA c p i l=dA c q i l
 |[],_,_=>rfl
 |r::l,i,h=>by
  unfold dA;rw[nP (l:=l) λr' hr'=>h r' (q8 _ hr')];have:r.any p=r.any q:=by
   have h1:=h r q9;clear h;induction r with
   |nil=>rfl
   |cons a r ih=>
    simp only[List.any_cons];rw[h1 a q9,ih λg hg=>h1 g (q8 _ hg)]
  rw[this]
theorem Fw (V F:Int)(c:List Ins)(x:Pic):aK V F c x=if bH V F c x=false then 1 else if bZ c (bO x)≠0 then bZ c (bO x) else if dA c cP 0 x.fq then 4 else 0:=by
 unfold aK;by_cases h1:bH V F c x=false
 ·rw[if_pos h1,if_pos h1]
 rw[if_neg h1,if_neg h1];by_cases h2:bZ c (bO x)≠0
 ·rw[if_pos h2,if_pos h2]
 rw[if_neg h2,if_neg h2];have h3:bZ c (bO x)=0:=by simpa using h2
 rw[nP (p:=cP) (q:=λg=> !ap g) λr hr g hg=>Hi (oM h3 g ?_)];unfold bO;rw[List.mem_append,List.mem_flatten];exact .inr ⟨r,hr,hg⟩
end
section
open Go.RowKit Go
def dx (fn:FuncId)(tmps:Array Value)(ps:Array Tmp)(assign body:Code)(D:Nat)(st:LoopState)(pe:Option Code):Loop:={state:=st,pending:=pe,fn:=fn,tmps:=tmps,params:=ps,assign:=assign,body:=body,defers:=D}
structure LoopAt (W:World) (l D:Nat) (r:Loop):Prop where
 lp:W.heap[l]? =sO (.loop r)
 dfr:W.heap[D]? =sO (.deferred (sO []))
theorem LoopAt.below {W W':World}{l D:Nat}{r:Loop}(h:LoopAt W l D r)(hb:Below W.heap.size W W'):LoopAt W' l D r:=⟨(hb.block l (j1.1 h.lp).1).trans h.lp,(hb.block D (j1.1 h.dfr).1).trans h.dfr⟩
section
variable {P:Program} {n:Nat} {fn:FuncId} {g:Operand} {ps:Array Tmp} {assign body:Code} {Q:Exit->Act->World->Prop} {a:Act} {w:World}
theorem FF {gf:Nat}{lb:Array Value}(hg:a.eval g=.func (.func gf) #[] lb)(eg:∀args w,(callFunc gf args).run P w=.ok (.enter gf args) w)
  (J:Nat->Nat->Loop->World->Prop)(Jx:Nat->Nat->Loop->Code->World->Prop)
  (hit:∀fn W1,LoopAt W1 (w.heap.size+1) w.heap.size (dx fn a.tmps ps assign body w.heap.size .ready nO)->Below w.heap.size w W1->CallsIn Fence.wide (n - 1) P gf (#[.func (.yield (w.heap.size+1)) #[] #[]]++lb) W1 λe W'=>(∃v,e=Rt v)/\((LoopAt W' (w.heap.size+1) w.heap.size (dx fn a.tmps ps assign body w.heap.size .ready nO)/\J (w.heap.size+1) w.heap.size (dx fn a.tmps ps assign body w.heap.size .ready nO) W')\/∃c,LoopAt W' (w.heap.size+1) w.heap.size (dx fn a.tmps ps assign body w.heap.size .done (sO c))/\Jx (w.heap.size+1) w.heap.size (dx fn a.tmps ps assign body w.heap.size .done (sO c)) c W'))
  (hdone:∀r W,LoopAt W (w.heap.size+1) w.heap.size r->J (w.heap.size+1) w.heap.size r W->∀r',Q .normal {a with defers:={target:=.collected w.heap.size,args:=#[]}::a.defers} (W.putObj (w.heap.size+1) r'))
  (hstop:∀r c W,LoopAt W (w.heap.size+1) w.heap.size r->Jx (w.heap.size+1) w.heap.size r c W->∀r',c.wpIn Fence.wide n P Q {a with defers:={target:=.collected w.heap.size,args:=#[]}::a.defers} (W.putObj (w.heap.size+1) r')):
  (Code.rangeFunc g ps assign body).wpIn Fence.wide n P Q a w:=by
 refine wpIn_rangeFunc λfn _=> ?_;have hs:(w.alloc (.deferred (sO []))).heap.size=w.heap.size+1:=zA _ _;obtain⟨W1,hW1⟩:∃W1,W1=(w.alloc (.deferred (sO []))).alloc (.loop (dx fn a.tmps ps assign body w.heap.size .ready nO)):=⟨_,rfl⟩;have hb:Below w.heap.size w W1:=by rw[hW1];exact((bR _ w).alloc (lR _) _).alloc (by rw[hs];omega) _
 have h1:LoopAt W1 (w.heap.size+1) w.heap.size (dx fn a.tmps ps assign body w.heap.size .ready nO):=by
  rw[hW1];refine⟨?_,(Below.heap_alloc _ _ _ (by rw[hs];omega)).trans (z0 w _)⟩;have:=z0 (w.alloc (.deferred (sO []))) (.loop (dx fn a.tmps ps assign body w.heap.size .ready nO));rwa [hs] at this
 refine⟨w.heap.size+1,[{target:=.collected w.heap.size,args:=#[]}],W1,{target:=.fn (.func gf) lb,args:=#[.func (.yield (w.heap.size+1)) #[] #[]]},W1,gf,#[.func (.yield (w.heap.size+1)) #[] #[]]++lb,W1,?_,?_,λ_ _=>trivial,?_,λh=>(by cases h),?_⟩
 ·rw[hW1]
  exact run_enterLoop_outer _ _ _ _ _
 ·simp only[resolve,hg]
  simp[go_sem]
 ·simp[invoke,go_sem,eg]
 ·refine(hit fn _ h1 hb).mono ?_
  rintro e W' ⟨⟨v,rfl⟩,⟨hl,hj⟩|⟨c,hl,hj⟩⟩
  ·exact⟨nO,_,run_endLoop hl.lp (by simp[dx]),hdone _ _ hl hj _⟩
  ·exact⟨sO c,_,run_endLoop hl.lp (by simp[dx]),hstop _ c _ hl hj _⟩
theorem Ib {l D m:Nat}{args:Array Value}{tmps:Array Value}{W:World}{R:Ending->World->Prop}(hl:LoopAt W l D (dx fn tmps ps assign body D .ready nO))(hz:args.size=ps.size)
  (h:assign.wpIn (Fence.wide.inRound l) m P (Exit.then (λa₁ W₁=>LoopAt W₁ l D (dx fn tmps ps assign body D .ready nO)/\body.wpIn (Fence.wide.inRound l) m P (λe _ W₃=>LoopAt W₃ l D (dx fn tmps ps assign body D .busy nO)/\(match e with
    |.normal=>R (Rt (Bb true)) (W₃.putObj l (.loop (dx fn tmps ps assign body D .ready nO)))
    |.ret=>R (Rt (Bb false)) (W₃.putObj l (.loop (dx fn tmps ps assign body D .done (sO .ret))))
    |.exit i=>R (Rt (Bb false)) (W₃.putObj l (.loop (dx fn tmps ps assign body D .done (sO (.exit i)))))
    |_=>False)) a₁ (W₁.putObj l (.loop (dx fn tmps ps assign body D .busy nO)))) (λ_ _ _=>False)) {tmps:=(ps.zip args).foldl (λt (p,v)=>t.setIfInBounds p v) tmps,defers:=[]} W):
  YieldAt Fence.wide m P l args W R:=by
 refine⟨fn,_,assign,body,run_yield hl.lp hz,roundIn_of_wpIn trivial (wpIn_mono h ?_)⟩;intro e a1 W1 q;cases e with
 |normal=>
  obtain⟨hl1,hb⟩:=q;refine⟨_,run_beginRound hl1.lp rfl,wpIn_mono hb ?_⟩;intro e a3 W3 q3;obtain⟨hl3,q3⟩:=q3;cases e with
  |normal=>exact⟨_,_,run_endRound nO hl3.lp,q3⟩
  |ret=>exact⟨_,_,run_endRound (sO .ret) hl3.lp,q3⟩
  |exit i=>exact⟨_,_,run_endRound (sO (.exit i)) hl3.lp,q3⟩
  |goto t=>exact q3.elim
  |panic ch=>exact q3.elim
  |outgrown=>exact q3.elim
 |ret=>exact q
 |exit i=>exact q
 |goto t=>exact q
 |panic ch=>exact q
 |outgrown=>exact q
end
end
section
open Go
section
variable {P:Program} {ops:Array Oper} {Q:Exit->Act->World->Prop} {md:Region.Mode} {S:World->Prop} {zs:List Nat}

def cw (P:Program)(md:Region.Mode)(ops:Array Oper)(Q:Exit->Act->World->Prop)(S:World->Prop)(zs:List Nat):Nat->Array Bool->Act->World->Prop
 |0,listed,a,w=>Region.ready md ops listed=[]/\Q .normal a w
 |fuel+1,listed,a,w=>
  (Region.ready md ops listed=[]->Q .normal a w)/\
  ∀i∈Region.ready md ops listed,wpOp P ops Q i (λa' w'=>(i∉zs->S w->S w')/\cw P md ops Q S zs fuel (listed.setIfInBounds i true) a' w') a w

theorem my:∀(fuel:Nat) (listed:Array Bool) (a:Act) (w:World),cw P md ops Q S zs fuel listed a w->wpAny P md ops Q fuel listed a w
 |0,_,_,_,h=>h
 |fuel+1,_,_,_,h=>⟨h.1,λi hi=>wpOp_mono (λa' w' h'=>my fuel _ a' w' h'.2) (h.2 i hi)⟩

def uY (md:Region.Mode)(ops:Array Oper)(i:Nat):Nat->List Nat->List Nat
 |0,ws=>ws
 |n+1,ws=>uY md ops i n ((List.range ops.size).filter λx=>((ops[x]?).map λo=>o.after.any λe=>Region.binds md e&&(e.on==i||ws.contains e.on)).getD false)
def DD (md:Region.Mode)(ops:Array Oper)(listed:Array Bool)(i:Nat)(ws:List Nat):Bool:=
 ws.all λx=> !(listed.getD x true)&&((ops[x]?).map λo=>o.after.any λe=>Region.binds md e&&(e.on==i||ws.contains e.on)).getD false
def zOk (md:Region.Mode)(ops:Array Oper)(listed:Array Bool)(i:Nat)(zs:List Nat):Bool:=
 !zs.contains i&&(let ws:=uY md ops i 8 [];DD md ops listed i ws&&zs.all λz=>listed.getD z true||ws.contains z)

theorem yX {i:Nat}{oi:Oper}{v:Value}(hi:ops[i]? =sO oi)(hsel:∀(j:Nat) (o:Oper) cs b,ops[j]? =sO o->o.op≠.select cs b)
  (hQ:∀c a w,Q (.panic c) (a.put oi.dst v) w->Q (.panic c) a w)(hiz:i∉zs)(ws:List Nat)
  (hws:∀x∈ws,∀o,ops[x]? =sO o->∃e∈o.after,Region.binds md e=true/\(e.on=i\/e.on∈ws)):
  ∀(fuel:Nat) (listed:Array Bool) (a:Act) (w:World),
   (∀j oj,ops[j]? =sO oj->j≠i->listed.getD j true=false->(∀e∈oj.after,Region.binds md e=true->e.on≠i)->oi.apart ops oj=true)->
   (∀x∈ws,listed.getD x true=false)->(∀z∈zs,listed.getD z true=true\/z∈ws)->
   i∈Region.ready md ops listed->YieldsIf P ops S oi v a->S w->
   cw P md ops Q S zs fuel (listed.setIfInBounds i true) (a.put oi.dst v) w->cw P md ops Q S zs (fuel+1) listed a w:=by
 intro fuel;induction fuel with
 |zero=>
  intro listed a w _ _ _ hr hy hS H;refine⟨λh=>(by rw[h] at hr;cases hr),λj hj=> ?_⟩;by_cases hji:j=i
  ·subst hji;exact hy.wpOp hi hS ⟨λ_ _=>hS,H⟩
  ·have:=ready_mono hj hji
   rw[H.1] at this;cases this
 |succ fuel ih=>
  intro listed a w hfree hun hzs hr hy hS H;refine⟨λh=>(by rw[h] at hr;cases hr),λj hj=> ?_⟩;by_cases hji:j=i
  ·subst hji;exact hy.wpOp hi hS ⟨λ_ _=>hS,H⟩
  ·have h1:=H.2 j (ready_mono hj hji)
   obtain⟨hjun,oj,hoj,hall⟩:=mem_ready.1 hj;have h0:=(mem_ready.1 hr).1;have hf:∀x,listed.getD x true=false->listed.getD x false=false:=λx hx=>by
    rcases Nat.lt_or_ge x listed.size with h'|h'
    ·simp[h'] at hx |-;exact hx
    ·simp[Array.getElem?_eq_none h'] at hx
   have hjw:j∉ws:=λhj'=>by
    obtain⟨e,he,hb,hon⟩:=hws j hj' oj hoj;have h2:=hall e he hb;rcases hon with hon|hon
    ·rw[hon,hf i h0] at h2;cases h2
    ·rw[hf _ (hun _ hon)] at h2;cases h2
   have hjz:j∉zs:=λhj'=>by
    rcases hzs j hj' with h|h
    ·rw[h] at hjun;cases hjun
    ·exact hjw h
   have hnot:∀e∈oj.after,Region.binds md e=true->e.on≠i:=λe he hb heq=>by
    have h2:=hall e he hb;rw[heq,hf i h0] at h2;cases h2
   have h2:=wpOp_putIf hoj (hfree j oj hoj hji hjun hnot) (λcs b=>hsel i oi cs b hi) (λcs b=>hsel j oj cs b hoj) hQ hy h1;have hset:∀k,(listed.setIfInBounds j true).getD k true=false->listed.getD k true=false:=λk hk=>by
    by_cases hjk:j=k
    ·subst hjk;exact hjun
    ·rw[getD_set_ne true hjk] at hk;exact hk
   have hfree':∀k ok,ops[k]? =sO ok->k≠i->(listed.setIfInBounds j true).getD k true=false->
     (∀e∈ok.after,Region.binds md e=true->e.on≠i)->oi.apart ops ok=true:=λk ok hk hki hun' hno=>hfree k ok hk hki (hset k hun') hno
   refine wpOp_mono (λa' w' h3=>⟨h3.2.1,ih (listed.setIfInBounds j true) a' w' hfree' (λx hx=> ?_) (λz hz=> ?_) (ready_mono hr (Ne.symm hji)) h3.1 (h3.2.1 hjz hS) ?_⟩) h2
   ·rw[getD_set_ne true (λe=>hjw (by rw[e];exact hx))];exact hun x hx
   ·rcases hzs z hz with h|h
    ·left
     by_cases hjk:j=z
     ·exact absurd (hjk ▸ hz) hjz
     ·rw[getD_set_ne true hjk];exact h
    ·exact .inr h
   ·rw[Array.setIfInBounds_comm _ _ hji]
    exact h3.2.2

theorem Cj {i:Nat}{oi:Oper}{v:Value}(hi:ops[i]? =sO oi)(hsel:∀(j:Nat) (o:Oper) cs b,ops[j]? =sO o->o.op≠.select cs b)
  (hQ:∀c a w,Q (.panic c) (a.put oi.dst v) w->Q (.panic c) a w):
  ∀(fuel:Nat) (listed:Array Bool) (a:Act) (w:World),
   (∀j oj,ops[j]? =sO oj->j≠i->listed.getD j true=false->(∀e∈oj.after,Region.binds md e=true->e.on≠i)->oi.apart ops oj=true)->
   i∈Region.ready md ops listed->YieldsIf P ops (λ_=>True) oi v a->
   cw P md ops Q S zs fuel (listed.setIfInBounds i true) (a.put oi.dst v) w->cw P md ops Q S zs (fuel+1) listed a w:=by
 intro fuel;induction fuel with
 |zero=>
  intro listed a w _ hr hy H;refine⟨λh=>(by rw[h] at hr;cases hr),λj hj=> ?_⟩;by_cases hji:j=i
  ·subst hji;exact hy.wpOp hi trivial ⟨λ_ h=>h,H⟩
  ·have:=ready_mono hj hji
   rw[H.1] at this;cases this
 |succ fuel ih=>
  intro listed a w hfree hr hy H;refine⟨λh=>(by rw[h] at hr;cases hr),λj hj=> ?_⟩;by_cases hji:j=i
  ·subst hji;exact hy.wpOp hi trivial ⟨λ_ h=>h,H⟩
  ·have h1:=H.2 j (ready_mono hj hji)
   obtain⟨hjun,oj,hoj,hall⟩:=mem_ready.1 hj;have h0:=(mem_ready.1 hr).1;have hf:∀x,listed.getD x true=false->listed.getD x false=false:=λx hx=>by
    rcases Nat.lt_or_ge x listed.size with h'|h'
    ·simp[h'] at hx |-;exact hx
    ·simp[Array.getElem?_eq_none h'] at hx
   have hnot:∀e∈oj.after,Region.binds md e=true->e.on≠i:=λe he hb heq=>by
    have h2:=hall e he hb;rw[heq,hf i h0] at h2;cases h2
   have h2:=wpOp_putIf hoj (hfree j oj hoj hji hjun hnot) (λcs b=>hsel i oi cs b hi) (λcs b=>hsel j oj cs b hoj) hQ hy h1;have hset:∀k,(listed.setIfInBounds j true).getD k true=false->listed.getD k true=false:=λk hk=>by
    by_cases hjk:j=k
    ·subst hjk;exact hjun
    ·rw[getD_set_ne true hjk] at hk;exact hk
   have hfree':∀k ok,ops[k]? =sO ok->k≠i->(listed.setIfInBounds j true).getD k true=false->
     (∀e∈ok.after,Region.binds md e=true->e.on≠i)->oi.apart ops ok=true:=λk ok hk hki hun' hno=>hfree k ok hk hki (hset k hun') hno
   refine wpOp_mono (λa' w' h3=>⟨h3.2.1,ih (listed.setIfInBounds j true) a' w' hfree' (ready_mono hr (Ne.symm hji)) h3.1 ?_⟩) h2;rw[Array.setIfInBounds_comm _ _ hji];exact h3.2.2
theorem Ce {i:Nat}{oi:Oper}{v:Value}{fuel:Nat}{listed:Array Bool}{a:Act}{w:World}(hi:ops[i]? =sO oi)
  (hs:Region.noSelect ops=true)(hf:Region.free md ops listed i=true)(hr:(Region.ready md ops listed).contains i=true)
  (hQ:∀c a w,Q (.panic c) (a.put oi.dst v) w->Q (.panic c) a w)(hy:YieldsIf P ops (λ_=>True) oi v a)
  (h:cw P md ops Q S zs fuel (listed.setIfInBounds i true) (a.put oi.dst v) w):cw P md ops Q S zs (fuel+1) listed a w:=
 Cj hi (Region.noSelect_spec hs) hQ fuel listed a w (Region.free_spec hi hf) (by simpa using hr) hy h

theorem rA {i:Nat}{oi:Oper}{v:Value}{fuel:Nat}{listed:Array Bool}{a:Act}{w:World}(hi:ops[i]? =sO oi)
  (hs:Region.noSelect ops=true)(hf:(Region.free md ops listed i&&zOk md ops listed i zs)=true)(hr:(Region.ready md ops listed).contains i=true)
  (hQ:∀c a w,Q (.panic c) (a.put oi.dst v) w->Q (.panic c) a w)(hy:YieldsIf P ops S oi v a)(hS:S w)
  (h:cw P md ops Q S zs fuel (listed.setIfInBounds i true) (a.put oi.dst v) w):cw P md ops Q S zs (fuel+1) listed a w:=by
 rw[j2] at hf;obtain⟨hf,hz⟩:=hf;simp only[zOk,j2,DD,List.all_eq_true,Bool.not_eq_true',Bool.or_eq_true] at hz;obtain⟨hz1,hz2,hz3⟩:=hz;refine yX hi (Region.noSelect_spec hs) hQ (by simpa using hz1) (uY md ops i 8 []) (λx hx o ho=> ?_) fuel listed a w (Region.free_spec hi hf) (λx hx=>(hz2 x hx).1) (λz hz=> ?_) (by simpa using hr) hy hS h
 ·have:=(hz2 x hx).2
  rw[ho] at this;simp only[Option.map_some,Option.getD_some,Array.any_eq_true,j2,Bool.or_eq_true,beq_iff_eq] at this;obtain⟨k,hk,hb,hon⟩:=this;exact⟨_,Array.getElem_mem hk,hb,hon.imp id (by simp)⟩
 ·rcases hz3 z hz with h|h
  ·exact .inl h
  ·exact .inr (by simpa using h)

theorem aC {listed:Array Bool}{a:Act}{w:World}(hr:Region.ready md ops listed=[])(h:Q .normal a w):
  ∀fuel,cw P md ops Q S zs fuel listed a w
 |0=>⟨hr,h⟩
 |_+1=>⟨λ_=>h,by rw[hr];simp⟩

theorem aB {i:Nat}{o:Oper}{fuel:Nat}{listed:Array Bool}{a:Act}{w:World}(ho:ops[i]? =sO o)(hr:Region.ready md ops listed=[i])
  (h:∀K':Act->World->Prop,Shut (∀a w,S w->(S w->cw P md ops Q S zs fuel (listed.setIfInBounds i true) a w)->K' a w)->if Region.wanted o (yielded ops a.tmps)=true then Oper.wp P o a w K' Q else K' (a.put o.dst undef) w):
  cw P md ops Q S zs (fuel+1) listed a w:=by
 refine⟨λh0=>(by rw[hr] at h0;cases h0),λj hj=> ?_⟩;rw[hr] at hj;obtain rfl:j=i:=by simpa using hj
 exact wpOp_step ho (λK' hK=>h K' (λa w hS hW=>hK a w ⟨λ_ _=>hS,hW hS⟩))
theorem Ez {i j:Nat}{oi oj:Oper}{fuel:Nat}{listed:Array Bool}{a:Act}{w:World}(hoi:ops[i]? =sO oi)(hoj:ops[j]? =sO oj)(hr:Region.ready md ops listed=[i,j])
  (h:∀K':Act->World->Prop,Shut (∀a w,S w->(S w->cw P md ops Q S zs fuel (listed.setIfInBounds i true) a w)->K' a w)->if Region.wanted oi (yielded ops a.tmps)=true then Oper.wp P oi a w K' Q else K' (a.put oi.dst undef) w)
  (h':∀K':Act->World->Prop,Shut (∀a w,S w->(S w->cw P md ops Q S zs fuel (listed.setIfInBounds j true) a w)->K' a w)->if Region.wanted oj (yielded ops a.tmps)=true then Oper.wp P oj a w K' Q else K' (a.put oj.dst undef) w):
  cw P md ops Q S zs (fuel+1) listed a w:=by
 refine⟨λh0=>(by rw[hr] at h0;cases h0),λk hk=> ?_⟩;rw[hr] at hk;rcases q7.1 hk with rfl|hk
 ·exact wpOp_step hoi (λK' hK=>h K' (λa w hS hW=>hK a w ⟨λ_ _=>hS,hW hS⟩))
 ·obtain rfl:k=j:=by simpa using hk
  exact wpOp_step hoj (λK' hK=>h' K' (λa w hS hW=>hK a w ⟨λ_ _=>hS,hW hS⟩))
theorem bA {i:Nat}{o:Oper}{fuel:Nat}{listed:Array Bool}{a:Act}{w:World}(ho:ops[i]? =sO o)(hr:Region.ready md ops listed=[i])(hz:zs.contains i=true)
  (h:∀K':Act->World->Prop,Shut (∀a w,cw P md ops Q S zs fuel (listed.setIfInBounds i true) a w->K' a w)->if Region.wanted o (yielded ops a.tmps)=true then Oper.wp P o a w K' Q else K' (a.put o.dst undef) w):
  cw P md ops Q S zs (fuel+1) listed a w:=by
 refine⟨λh0=>(by rw[hr] at h0;cases h0),λj hj=> ?_⟩;rw[hr] at hj;obtain rfl:j=i:=by simpa using hj
 exact wpOp_step ho (λK' hK=>h K' (λa w hW=>hK a w ⟨λhn=>absurd (by simpa using hz) hn,hW⟩))

theorem aD {id:Nat}{a:Act}{w:World}(zs:List Nat)(hm:P.follows .mixedOrders=true)(hS:S w.drew)
  (h:S w.drew->cw P .any ops Q S zs ops.size (Array.replicate ops.size false) a w.drew):(Code.region id ops true).wp P Q a w:=
 wp_region_any hm (my _ _ _ _ (h hS))
end
theorem sm {p q:Prop}(h:q)(e:q->p:=by(intro h;(try simp only[Act.put,List.getElem_toArray,List.getElem_cons_zero,List.getElem_cons_succ,List.setIfInBounds_toArray,List.set_cons_zero,List.set_cons_succ]);exact h)):p:=e h
section
variable {P:Program} {ops:Array Oper} {Q:Exit->Act->World->Prop} {md:Region.Mode} {S:World->Prop} {zs:List Nat}
theorem tZ (i:Nat){oi:Oper}(v:Value){fuel:Nat}{listed:Array Bool}{a:Act}{w:World}
  (h:cw P md ops Q S zs fuel (listed.setIfInBounds i true) (a.put oi.dst v) w)(hi:ops[i]? =some oi:=by rfl)(hy:∀w,S w->(execOp a.eval oi).run P w=.ok (.value v) w:=by(intro w hSw;(try dsimp only at hSw);first|(go_simp;done)|(go_simp;with_reducible rfl)))
  (hs:Region.noSelect ops=true:=by kernel_rfl)(hf:(Region.free md ops listed i&&zOk md ops listed i zs)=true:=by kernel_rfl)(hr:(Region.ready md ops listed).contains i=true:=by kernel_rfl)
  (hQ:∀c a w,Q (.panic c) (a.put oi.dst v) w->Q (.panic c) a w:=by exact λ_ _ _ h=>h)(hw:Region.wanted oi (yielded ops a.tmps)=true:=by rfl)(hS:S w:=by assumption):cw P md ops Q S zs (fuel+1) listed a w:=
 rA hi hs hf hr hQ (.inl ⟨hw,hy⟩) hS h
theorem tH (i:Nat){oi:Oper}(v:Value){fuel:Nat}{listed:Array Bool}{a:Act}{w:World}
  (h:wpAnyH P md ops Q S fuel (listed.setIfInBounds i true) (a.put oi.dst v) w)(hi:ops[i]? =some oi:=by rfl)(hy:∀w,S w->(execOp a.eval oi).run P w=.ok (.value v) w:=by(intro w hSw;(try dsimp only at hSw);first|(go_simp;done)|(go_simp;with_reducible rfl)))
  (hs:Region.noSelect ops=true:=by kernel_rfl)(hf:Region.free md ops listed i=true:=by kernel_rfl)(hr:(Region.ready md ops listed).contains i=true:=by kernel_rfl)
  (hQ:∀c a w,Q (.panic c) (a.put oi.dst v) w->Q (.panic c) a w:=by exact λ_ _ _ h=>h)(hw:Region.wanted oi (yielded ops a.tmps)=true:=by rfl)(hS:S w:=by assumption):wpAnyH P md ops Q S (fuel+1) listed a w:=
 wpAnyH_take hi hs hf hr hQ (.inl ⟨hw,hy⟩) hS h
theorem uH (i:Nat){oi:Oper}{fuel:Nat}{listed:Array Bool}{a:Act}{w:World}
  (h:wpAnyH P md ops Q S fuel (listed.setIfInBounds i true) (a.put oi.dst undef) w)(hi:ops[i]? =some oi:=by rfl)
  (hs:Region.noSelect ops=true:=by kernel_rfl)(hf:Region.free md ops listed i=true:=by kernel_rfl)(hr:(Region.ready md ops listed).contains i=true:=by kernel_rfl)
  (hQ:∀c a w,Q (.panic c) (a.put oi.dst undef) w->Q (.panic c) a w:=by exact λ_ _ _ h=>h)(hw:Region.wanted oi (yielded ops a.tmps)=false:=by rfl)(hS:S w:=by assumption):wpAnyH P md ops Q S (fuel+1) listed a w:=
 wpAnyH_take hi hs hf hr hQ (.inr ⟨hw,rfl⟩) hS h
theorem pZ (i:Nat){oi:Oper}(v:Value){fuel:Nat}{listed:Array Bool}{a:Act}{w:World}
  (h:cw P md ops Q S zs fuel (listed.setIfInBounds i true) (a.put oi.dst v) w)(hi:ops[i]? =some oi:=by rfl)(hy:∀w,True->(execOp a.eval oi).run P w=.ok (.value v) w:=by(intro w _;first|(go_simp;done)|(go_simp;with_reducible rfl)))
  (hs:Region.noSelect ops=true:=by kernel_rfl)(hf:Region.free md ops listed i=true:=by kernel_rfl)(hr:(Region.ready md ops listed).contains i=true:=by kernel_rfl)
  (hQ:∀c a w,Q (.panic c) (a.put oi.dst v) w->Q (.panic c) a w:=by exact λ_ _ _ h=>h)(hw:Region.wanted oi (yielded ops a.tmps)=true:=by rfl):cw P md ops Q S zs (fuel+1) listed a w:=
 Ce hi hs hf hr hQ (.inl ⟨hw,hy⟩) h
end
section
variable {P:Program} {ops:Array Oper} {Q:Exit->Act->World->Prop} {md:Region.Mode} {S:World->Prop} {zs:List Nat}
theorem vZ (i:Nat){oi:Oper}(v:Value){fuel:Nat}{listed:Array Bool}{a:Act}{w:World}{q:Prop}
  (h:q)(hi:ops[i]? =some oi:=by rfl)(hy:∀w,S w->(execOp a.eval oi).run P w=.ok (.value v) w:=by(intro w hSw;(try dsimp only at hSw);first|(go_simp;done)|(go_simp;with_reducible rfl)))
  (hs:Region.noSelect ops=true:=by kernel_rfl)(hf:(Region.free md ops listed i&&zOk md ops listed i zs)=true:=by kernel_rfl)(hr:(Region.ready md ops listed).contains i=true:=by kernel_rfl)
  (hQ:∀c a w,Q (.panic c) (a.put oi.dst v) w->Q (.panic c) a w:=by exact λ_ _ _ h=>h)(hw:Region.wanted oi (yielded ops a.tmps)=true:=by rfl)(hS:S w:=by assumption)
  (e:q->cw P md ops Q S zs fuel (listed.setIfInBounds i true) (a.put oi.dst v) w:=by(intro h;(try simp only[Act.put,List.getElem_toArray,List.getElem_cons_zero,List.getElem_cons_succ,List.setIfInBounds_toArray,List.set_cons_zero,List.set_cons_succ]);exact h)):cw P md ops Q S zs (fuel+1) listed a w:=
 rA hi hs hf hr hQ (.inl ⟨hw,hy⟩) hS (e h)
theorem vH (i:Nat){oi:Oper}(v:Value){fuel:Nat}{listed:Array Bool}{a:Act}{w:World}{q:Prop}
  (h:q)(hi:ops[i]? =some oi:=by rfl)(hy:∀w,S w->(execOp a.eval oi).run P w=.ok (.value v) w:=by(intro w hSw;(try dsimp only at hSw);first|(go_simp;done)|(go_simp;with_reducible rfl)))
  (hs:Region.noSelect ops=true:=by kernel_rfl)(hf:Region.free md ops listed i=true:=by kernel_rfl)(hr:(Region.ready md ops listed).contains i=true:=by kernel_rfl)
  (hQ:∀c a w,Q (.panic c) (a.put oi.dst v) w->Q (.panic c) a w:=by exact λ_ _ _ h=>h)(hw:Region.wanted oi (yielded ops a.tmps)=true:=by rfl)(hS:S w:=by assumption)
  (e:q->wpAnyH P md ops Q S fuel (listed.setIfInBounds i true) (a.put oi.dst v) w:=by(intro h;(try simp only[Act.put,List.getElem_toArray,List.getElem_cons_zero,List.getElem_cons_succ,List.setIfInBounds_toArray,List.set_cons_zero,List.set_cons_succ]);exact h)):wpAnyH P md ops Q S (fuel+1) listed a w:=
 wpAnyH_take hi hs hf hr hQ (.inl ⟨hw,hy⟩) hS (e h)
end
section
variable {P:Program} (w:World)
theorem vJ (t ty:TypeId)(base:Nat)(e:TypeId)(i:TypeInfo)(z:Value)(size bytes:Nat)(ht:P.underlying t=sO (.slice e))(hi:P.info? e=sO i)(hz:i.zero=sO z)
  (hsize:i.size=size)(hby:i.bytes=bytes)(hzs:z.cells.size=size)(hsz:0 < size)
  (v:Value)(n:Nat)(xs:List Value)(hown:w.ownsRow base e size v n xs)
  (ao:Option Addr)(m c:Nat)(news:List Value)(hl:news.length=m * size)(hao:ao=none->m=0)(hnews:∀ad,ao=sO ad->∀j u,news[j]? =sO u->w.cell? (ad.add j)=sO u)(h1:∀u∈news,u.oneCell'=true)
  (h63:n+m<=maxLen)(hbytes:(n+m) * bytes<=140737488355328)(hbase:base<=w.heap.size):
  ∃v' w',(Builtin.append_ #[t,t] ty #[v,U ao m c]).run P w=.ok v' w'/\w'.ownsRow base e size v' (n+m) (xs++news)/\w.grownBy w' v.ownBlock/\(v'.ownBlock=v.ownBlock\/v'.ownBlock=sO w.heap.size):=by
 cases ao with
 |some ad=>
  obtain⟨v',w',hr,h2,h3,_,h5⟩:=run_append_own_at (P:=P) w base t ty e i z size bytes ht hi hz hsize hby hzs hsz v n xs hown ad m c news hl (hnews ad rfl) h1 h63 hbytes hbase;exact⟨v',w',hr,h2,h3,h5⟩
 |none=>
  obtain rfl:=hao rfl;obtain rfl:news=[]:=List.eq_nil_of_length_eq_zero (by simpa using hl);refine⟨v,w,?_,by simpa using hown,⟨rfl,rfl,rfl,lR _,λ_ _ _=>rfl⟩,.inl rfl⟩;rcases hown.2 with⟨rfl,rfl⟩|⟨g,cap,cur,rfl,_,_,hnc,_⟩
  ·simp[Builtin.append_,run_underlying ht,sizeOf,typeInfo,hi,Builtin.lenOf,Builtin.firstCells]
  ·simp[Builtin.append_,run_underlying ht,sizeOf,typeInfo,hi,Builtin.lenOf,Builtin.firstCells,hnc,storeCells]

theorem nI {o:Oper}{a:Act}{K:Act->World->Prop}{Q:Exit->Act->World->Prop}(s x:Operand)(t:TypeId)
  (ho:o.op=.call {callee:=.builtin .append,args:=#[s,x],argTypes:=#[t,t]})
  (base:Nat)(e:TypeId)(i:TypeInfo)(z:Value)(size bytes:Nat)(ht:P.underlying t=sO (.slice e))(hi:P.info? e=sO i)(hz:i.zero=sO z)
  (hsize:i.size=size)(hby:i.bytes=bytes)(hzs:z.cells.size=size)(hsz:0 < size)
  (v:Value)(n:Nat)(xs:List Value)(hs:a.eval s=v)(hown:w.ownsRow base e size v n xs)
  (ao:Option Addr)(m c:Nat)(news:List Value)(hx:a.eval x=U ao m c)(hl:news.length=m * size)(hao:ao=none->m=0)(hnews:∀ad,ao=sO ad->∀j u,news[j]? =sO u->w.cell? (ad.add j)=sO u)(h1:∀u∈news,u.oneCell'=true)
  (h63:n+m<=maxLen)(hbytes:(n+m) * bytes<=140737488355328)(hbase:base<=w.heap.size)
  (h:∀v' w',w'.ownsRow base e size v' (n+m) (xs++news)->w.grownBy w' v.ownBlock->(v'.ownBlock=v.ownBlock\/v'.ownBlock=sO w.heap.size)->K (a.put o.dst v') w'):o.wp P a w K Q:=by
 obtain⟨v',w',hr,h2,h3,h4⟩:=vJ (P:=P) w t o.type base e i z size bytes ht hi hz hsize hby hzs hsz v n xs hown ao m c news hl hao hnews h1 h63 hbytes hbase;unfold Oper.wp execOp;simp only[ho,resolve,invoke,builtin,Sem.run_bind,Sem.run_pure,Result.andThen_ok,List.map_toArray,List.map_cons,List.map_nil,hs,hx,hr];exact h v' w' h2 h3 h4

theorem aZ {ops:Array Oper}{rest:List Oper}{o:Oper}{a:Act}{Q:Exit->Act->World->Prop}(hgd:o.guard=nO)(s x:Operand)(t:TypeId)
  (ho:o.op=.call {callee:=.builtin .append,args:=#[s,x],argTypes:=#[t,t]})
  (base:Nat)(e:TypeId)(i:TypeInfo)(z:Value)(size bytes:Nat)(ht:P.underlying t=sO (.slice e))(hi:P.info? e=sO i)(hz:i.zero=sO z)
  (hsize:i.size=size)(hby:i.bytes=bytes)(hzs:z.cells.size=size)(hsz:0 < size)
  (v:Value)(n:Nat)(xs:List Value)(hs:a.eval s=v)(hown:w.ownsRow base e size v n xs)
  (ao:Option Addr)(m c:Nat)(news:List Value)(hx:a.eval x=U ao m c)(hl:news.length=m * size)(hao:ao=none->m=0)(hnews:∀ad,ao=sO ad->∀j u,news[j]? =sO u->w.cell? (ad.add j)=sO u)(h1:∀u∈news,u.oneCell'=true)
  (h63:n+m<=maxLen)(hbytes:(n+m) * bytes<=140737488355328)(hbase:base<=w.heap.size)
  (h:∀v' w',w'.ownsRow base e size v' (n+m) (xs++news)->w.grownBy w' v.ownBlock->(v'.ownBlock=v.ownBlock\/v'.ownBlock=sO w.heap.size)->wpList P ops Q rest (a.put o.dst v') w'):wpList P ops Q (o::rest) a w:=
 wpList_plain hgd λ_ hK=>nI w s x t ho base e i z size bytes ht hi hz hsize hby hzs hsz v n xs hs hown ao m c news hx hl hao hnews h1 h63 hbytes hbase λv' w' h2 h3 h4=>hK _ _ (h v' w' h2 h3 h4)

theorem dG {ops:Array Oper}{o:Oper}{a:Act}{K:Act->World->Prop}{Q:Exit->Act->World->Prop}{E:Prop}(hgd:o.guard=nO)(s x:Operand)(t:TypeId)
  (ho:o.op=.call {callee:=.builtin .append,args:=#[s,x],argTypes:=#[t,t]})
  (base:Nat)(e:TypeId)(i:TypeInfo)(z:Value)(size bytes:Nat)(ht:P.underlying t=sO (.slice e))(hi:P.info? e=sO i)(hz:i.zero=sO z)
  (hsize:i.size=size)(hby:i.bytes=bytes)(hzs:z.cells.size=size)(hsz:0 < size)
  (v:Value)(n:Nat)(xs:List Value)(hs:a.eval s=v)(hown:w.ownsRow base e size v n xs)
  (ao:Option Addr)(m c:Nat)(news:List Value)(hx:a.eval x=U ao m c)(hl:news.length=m * size)(hao:ao=none->m=0)(hnews:∀ad,ao=sO ad->∀j u,news[j]? =sO u->w.cell? (ad.add j)=sO u)(h1:∀u∈news,u.oneCell'=true)
  (h63:n+m<=maxLen)(hbytes:(n+m) * bytes<=140737488355328)(hbase:base<=w.heap.size)
  (h:∀v' w',w'.ownsRow base e size v' (n+m) (xs++news)->w.grownBy w' v.ownBlock->(v'.ownBlock=v.ownBlock\/v'.ownBlock=sO w.heap.size)->K (a.put o.dst v') w'):
  if Region.wanted o (yielded ops a.tmps)=true then Oper.wp P o a w K Q else E:=by
 have hw:Region.wanted o (yielded ops a.tmps)=true:=by simp[Region.wanted,hgd]
 rw[if_pos hw];exact nI w s x t ho base e i z size bytes ht hi hz hsize hby hzs hsz v n xs hs hown ao m c news hx hl hao hnews h1 h63 hbytes hbase h
end
end
section
open Go.RowKit
theorem AC (s1 s2:oA)(c1 c2:Nat)(w:World):
  Calls pG 184 #[U s1 0 c1,U s2 0 c2] w λe w'=>e=Rt (Bb true)/\bl w w':=by
 go_enter Tryz.func184,Tryz.ntmps184;go_wp2
 go_rounds 1
 go_ret;exact⟨rfl,bR _ _⟩
end
section
open Go.RowKit Go
section
variable {P:Program} {ops:Array Oper} {Q:Exit->Act->World->Prop} {a:Act} {w:World} {rest:List Oper} {o:Oper}
theorem tL (v:Value)(h:wpList P ops Q rest (a.put o.dst v) w)(hy:(execOp a.eval o).run P w=.ok (.value v) w:=by first|(go_simp;done)|(go_simp;with_reducible rfl))(hw:Region.wanted o (yielded ops a.tmps)=true:=by rfl):wpList P ops Q (o::rest) a w:=by
 unfold wpList;rw[if_pos hw];left;unfold Oper.wp;rw[hy];exact h
theorem tLb (b:Bool)(X:Value)(h:∀v,Hid (v=if b=true then undef else X)->wpList P ops Q rest (a.put o.dst v) w)(h0:b=false->Region.wanted o (yielded ops a.tmps)=true/\(execOp a.eval o).run P w=.ok (.value X) w)(h1:b=true->Region.wanted o (yielded ops a.tmps)=false):wpList P ops Q (o::rest) a w:=by
 cases b with
 |false=>
  obtain⟨hw,hy⟩:=h0 rfl;exact tL X (h X (by show _=_;simp)) hy hw
 |true=>
  unfold wpList;rw[if_neg (by rw[h1 rfl];decide)];exact h _ (by show _=_;simp)
end
end
section
open Go.RowKit
def smallC:lI:=[⟨1,0,0,0,5,0⟩,⟨18,0,0,0,0,0⟩]

theorem FN (w:World):
  Calls pG 39 #[] w λe w'=>∃b,e=Rt (Ag #[I Y 1,I Y 0,U (sO ⟨b,0,nO⟩) 2 2])/\CodeAt w' (sO ⟨b,0,nO⟩) smallC/\bl w w':=by
 go_enter Tryz.func39,Tryz.ntmps39;go_wp2;refine bodyPost_ret (v:=Ag #[I Y 1,I Y 0,U (sO ⟨w.heap.size+1,0,nO⟩) 2 2]) (by simp[results,Tryz.results39,go_sem]) rfl ⟨w.heap.size+1,rfl,.inr ⟨_,_,rfl,ah,?_⟩,ai⟩;intro k hk
 match k,hk with
 |0,_=>refine⟨?_,?_,?_,?_,?_,?_⟩<;>simp[go_sem,smallC]
 |1,_=>refine⟨?_,?_,?_,?_,?_,?_⟩<;>simp[go_sem,smallC]
 |k+2,h=>simp[smallC] at h;omega
end
section
open Go
section
variable {P:Program} {ops:Array Oper} {Q:Exit->Act->World->Prop} {md:Region.Mode} {l m:Nat}
def vX (ops:Array Oper):Prop:=∀o∈ops,∀c,o.op≠.defer c
theorem FV {row:String}{args:Array Value}{w:World}{R:Value->World->Prop}(h:Rows P row args w R):RowsIn Fence.wide m P row args w R:=λc cs _=>by
 obtain⟨v,w',hr,hs⟩:=h c cs;exact⟨v,w',hr,stepsIn_wide.2 hs⟩
theorem Ae {i:Nat}{K:Act->World->Prop}{a:Act}{w:World}(hd:∀o,ops[i]? =sO o->∀c,o.op≠.defer c)(hQ:¬LetsOut Q)(h:wpOp P ops Q i K a w):wpOpIn (Fence.wide.inRound l) m P ops Q i K a w:=by
 unfold wpOp at h;unfold wpOpIn;cases e:ops[i]? with
 |none=>simpa[e] using h
 |some o=>
  simp only[e] at h |-;by_cases hw:Region.wanted o (yielded ops a.tmps)=true
  ·rw[if_pos hw] at h |-
   rcases h with h|⟨_,h⟩
   ·refine⟨λ_ _=>trivial,?_⟩
    rw[show (Fence.wide.inRound l).round=sO l from rfl,Oper.semAt_some l _ o (hd o e)];unfold Oper.wp at h;generalize Sem.run P (execOp a.eval o) w=r at h |-;unfold Oper.upon at h;unfold Oper.uponIn;split at h
    ·exact h
    ·exact h
    ·exact h
    ·exact⟨λh=>(by cases h),callsIn_wide.2 h⟩
    ·exact⟨λh=>(by cases h),FV h⟩
    ·exact h
    ·exact h.elim
   ·exact absurd h hQ
  ·rw[if_neg hw] at h |-
   exact⟨λ_ _=>trivial,h⟩
theorem nH (hd:vX ops)(hQ:¬LetsOut Q):∀(fuel:Nat) (listed:Array Bool) (a:Act) (w:World),wpAny P md ops Q fuel listed a w->wpAnyIn (Fence.wide.inRound l) m P md ops Q fuel listed a w
 |0,_,_,_,h=>h
 |fuel+1,_,_,_,h=>⟨h.1,λi hi=>Ae (λo ho=>hd o (Array.mem_of_getElem? ho)) hQ (wpOp_mono (λa' w' h'=>nH hd hQ fuel _ a' w' h') (h.2 i hi))⟩
theorem Ly {S:World->Prop}{id:Nat}{a:Act}{w:World}(zs:List Nat)(hm:P.follows .mixedOrders=true)(hd:vX ops)(hQ:¬LetsOut Q)(hS:S w.drew)
  (h:S w.drew->cw P .any ops Q S zs ops.size (Array.replicate ops.size false) a w.drew):(Code.region id ops true).wpIn (Fence.wide.inRound l) m P Q a w:=
 wpIn_region_any hm (nH hd hQ _ _ _ _ (my _ _ _ _ (h hS)))
theorem wQ {F:Fence}{d:Code}{K:Act->World->Prop}{a:Act}{w:World}(h:d.wpIn F m P (Exit.then K (λ_ _ _=>False)) a w):d.wpIn F m P (Exit.then K Q) a w:=wpIn_mono h λe a w q=>by
 cases e<;>first|exact q|exact q.elim
theorem Mr {K:Act->World->Prop}:¬LetsOut (Exit.then K (λ_ _ _=>False)):=λ⟨_,_,h⟩=>h
end
theorem yB {P:Program}(w:World)(dT sT ty elem:TypeId)(g o dLen dCap:Nat)(a:Addr)(sLen sCap k:Nat)(cur:Array Value)(t:TypeId)(cs:List Value)
  (hu:P.underlying dT=sO (.slice elem))(hs:(P.info? elem).map (·.size)=sO k)
  (hg:w.heap[g]? =sO (Cc cur t (0,0)))(hn:cs.length=Nat.min sLen dLen * k)
  (hsrc:∀j v,cs[j]? =sO v->w.cell? (a.add j)=sO v)(hfit:o+cs.length<=cur.size)(h1:∀v∈cs,v.oneCell'=true):
  (Builtin.copy_ #[dT,sT] ty #[U (sO ⟨g,o,nO⟩) dLen dCap,U (sO a) sLen sCap]).run P w=
   .ok (goInt (Nat.min sLen dLen)) (w.setRow g (cur.toList.take o++cs++cur.toList.drop (o+cs.length)).toArray):=by
 have hl:=run_loadCells_list (P:=P) w a cs hsrc;have hst:=run_storeCells_at P g o t cs 0 cur w hg (by simpa using hfit) h1;cases hq:P.info? elem with
 |none=>simp[hq] at hs
 |some i=>
  have hi:i.size=k:=by simpa[hq] using hs
  simp[Builtin.copy_,run_underlying hu,Builtin.lenOf,Builtin.firstCells,sizeOf,typeInfo,hq,hi,<-hn,hl,hst]
end
end Go.Proofs.YtmapdpcfanecdabGreatDoor
