import Derived.WalkKit
import Derived.WalkSpells
import Derived.WalkLawsBesides
import Derived.Handy
import Derived.Test.YtmapdpcfanecdabGreatDoorR03
import Derived.Lib.ItoaNum
import Derived.Lib.ItoaLen
import Derived.Lib.QuietBelow
import Derived.BigQuiet
import Derived.Deep.AppendLies
import Derived.Laws.OwnMore
import Derived.Deep.RegionHeld3
import Derived.WalkSmall
import Derived.RangeFuncNested
import Derived.RangeFuncLeaves
import Derived.Deep.QuietTactic
import Derived.Deep.RegionHeld
import Derived.OwnWalk
import Derived.OrdersIn
import Derived.TacticsIn
import Derived.Laws.CopyRow
import Derived.Lib.SlBuf
import Derived.Deep.DeepCutAuto
import Derived.Laws.MakeOwn
import Derived.Laws.CopyOwn
import Derived.Deep.DrawnRows
open Array renaming getElem?_eq_some_iff→j3
open Bool renaming and_eq_true→q4
open Go.Ending renaming returned→Rt
open Go.IntKind renaming i64→Y
open Go.Obj renaming cells→Cc
open Go.Proofs.Tryz renaming prog→pG
open Go.RowKit.Below renaming heap_setCell→hSe,refl→bR
open Go.Value renaming agg→Ag,bool→Bb,cells→q5,int→I,pointer→Pp,slice→U,slice→j0,tuple→Tu
open Go.World renaming alloc_heap_new→Z0,block_lt_of_cell?→Q5,cell?→q6,cell?_of_block→q1,cell?_setCell_same→Q9,ownsRow→x4,putObj→Z1,putObj_heap_other→J8,setCell→q0,size_alloc→zA
open Int renaming eq_ofNat_of_zero_le→J0
open List renaming Pairwise→Z5,any_cons→Q6,drop_eq_getElem_cons→z5,drop_eq_nil_of_le→x6,getD→q7,getElem?_append_left→Q7,getElem?_eq_getElem→Z6,getElem?_eq_some_iff→J6,getElem_cons_succ→z9,getElem_cons_zero→z6,getElem_map→z3,getElem_mem→gM,getElem_replicate→Z8,getElem_set→Z4,length_append→j8,length_cons→x5,length_drop→Q4,length_eq_zero_iff→J5,length_set→j5,map_append→x7,map_set→Q0,mem_append→j7,mem_cons→q9,mem_cons_of_mem→J2,mem_cons_self→J3,mem_flatMap→Q8,mem_iff_getElem→Z3,mem_map→J7,mem_or_eq_of_mem_set→Z2,mem_singleton→j6,range→J1,replicate→j1,set_cons_succ→x3,set_cons_zero→z8,set_getElem_self→q2,set_set→Z7,take_of_length_le→x9,zipWith→q8
open Nat renaming le_refl→lR,le_trans→lT,lt_of_lt_of_le→lL,min→j2,min_le_left→Z9,min_le_right→Q3,zero_add→j4,zero_le→j9,zero_mul→J4
open Option renaming none→nO,some→sO
set_option linter.unusedSimpArgs false
set_option linter.unusedVariables false
set_option maxHeartbeats 8000000
set_option maxRecDepth 100000
namespace Go.Proofs.YtmapdpcfanecdabGreatDoor
section
def btw (n l m:Int):Bool:=decide (l<=n/\n<=m)
theorem fV {n l m:Int}(h1:l<=n)(h2:n<=m):btw n l m=true:=by simp[btw,h1,h2]
theorem Og {n l m:Int}(h:¬l<=n):btw n l m=false:=by simp[btw,h]
theorem Ob {n l m:Int}(h:¬n<=m):btw n l m=false:=by simp[btw,h]

theorem pJ {k:Int}(h:btw k 1 19=true):k=1\/k=2\/k=3\/k=4\/k=5\/k=6\/k=7\/k=8\/k=9\/k=10\/k=11\/k=12\/k=13\/k=14\/k=15\/k=16\/k=17\/k=18\/k=19:=by
 simp[btw] at h;omega

theorem OB (k:Int):btw k 1 19=(decide (1<=k)&&decide (k<=19)):=by simp[btw]

def nTo (k:Int):Bool:=btw k 1 12||decide (k=14)
def nA (k:Int):Bool:=btw k 4 10||decide (k=12)||decide (k=13)||decide (k=15)||decide (k=17)||decide (k=18)
def nB (k:Int):Bool:=btw k 5 9||decide (k=13)
def nN (k:Int):Bool:=decide (k=1)||decide (k=2)||btw k 12 14
def nG (k:Int):Bool:=decide (k=15)||decide (k=16)

structure Ins where
 k:Int
 tgt:Int
 a:Int
 b:Int
 n:Int
 g:Int

def bn (V F L:Int)(i:Ins):Int:=
 if btw i.k 1 19=false then 6
 else if (nTo i.k&& !btw i.tgt 0 (V - 1))||(nA i.k&& !btw i.a 0 (V - 1))||(nB i.k&& !btw i.b 0 (V - 1))||((decide (i.k=12)||decide (i.k=13))&& !btw i.n 0 (F - 1))||(nG i.k&& !btw i.g 0 L) then 5
 else if (decide (i.k=1)&& !btw i.n (-2147483648) 2147483647)||(decide (i.k=2)&& !btw i.n 0 1)||(decide (i.k=14)&& !btw i.n 0 1000000) then 3
 else if (!nTo i.k&&decide (i.tgt≠0))||(!nA i.k&&decide (i.a≠0))||(!nB i.k&&decide (i.b≠0))||(!nN i.k&&decide (i.n≠0))||(!nG i.k&&decide (i.g≠0)) then 1
 else 0

def fm (V F L:Int):List Ins->Int
 |[]=>0
 |i::r=>if bn V F L i=0 then fm V F L r else bn V F L i

def au (V F:Int)(c:List Ins):Int:=
 if btw V 1 8=false||btw F 0 3=false then 3 else if 60 < c.length then 2 else fm V F c.length c

def aL:Int->ByteArray
 |1=>⟨#[110,117,109,98,101,114]⟩
 |2=>⟨#[116,114,117,116,104]⟩
 |3=>⟨#[110,117,108,108]⟩
 |4=>⟨#[99,111,112,121]⟩
 |5=>⟨#[97,100,100]⟩
 |6=>⟨#[115,117,98]⟩
 |7=>⟨#[109,117,108]⟩
 |8=>⟨#[108,101,115,115]⟩
 |9=>⟨#[115,97,109,101]⟩
 |10=>⟨#[110,111,116]⟩
 |11=>⟨#[110,101,119]⟩
 |12=>⟨#[103,101,116]⟩
 |13=>⟨#[112,117,116]⟩
 |14=>⟨#[105,110,112,117,116]⟩
 |15=>⟨#[105,102]⟩
 |16=>⟨#[103,111,116,111]⟩
 |17=>⟨#[101,120,112,101,99,116]⟩
 |18=>⟨#[112,114,105,110,116]⟩
 |19=>⟨#[101,110,100]⟩
 |_=>⟨#[]⟩

theorem tJ {k:Int}(h:btw k 1 19=false):aL k=⟨#[]⟩:=by
 have:¬(1<=k/\k<=19):=by simpa[btw] using h
 unfold aL;split<;>first|rfl|omega
abbrev bl (w w':Go.World):Prop:=Go.RowKit.Below w.heap.size w w'
theorem aa {p:Prop}(h:p:=by omega):p:=h
theorem ag {p:Prop}(h:p:=by kernel_rfl):p:=h
theorem ah {p:Prop}(h:p:=by simp):p:=h
theorem ai {p:Prop}(h:p:=by go_grown):p:=h
theorem aj {p:Prop}(h:p:=by decide):p:=h
theorem an {p:Prop}(h:p:=by simp;omega):p:=h
theorem aq {p:Prop}(h:p:=by simp only;omega):p:=h
theorem aG {p:Prop}(h:p:=by go_num):p:=h
theorem aT {p:Prop}(h:p:=by cases h):p:=h
theorem aW {p:Prop}(h:p:=by simp[go_sem]):p:=h
theorem bx {p:Prop}(h:p:=by rfl):p:=h
theorem bD {p:Prop}(h:p:=by simp[World.setCell]):p:=h
theorem cA {p:Prop}(h:p:=by simpa using h):p:=h
theorem cy {p:Prop}(h:p:=by assumption):p:=h
theorem cK {p:Prop}(h:p:=by rw[HKK.out];decide):p:=h
theorem cS {p:Prop}(h:p:=by unfold maxLen;omega):p:=h
theorem dh {p:Prop}(h:p:=by rw[ByteArray.toList_eq];rfl):p:=h
theorem dm {p:Prop}(h:p:=by simpa using hlt):p:=h
theorem dG {p:Prop}(h:p:=by simp only[List.length_set,List.length_cons,List.length_nil];omega):p:=h
theorem dZ {p:Prop}(h:p:=by show _=_;simp):p:=h
theorem d8 {p:Prop}(h:p:=by simp[results,Tryz.results59,go_sem]):p:=h
theorem eK {p:Prop}(h:p:=by simpa using hz):p:=h
theorem fe {p:Prop}(h:p:=by decide+kernel):p:=h
theorem fa {p:Prop}(h:p:=by simpa using hi):p:=h
theorem fj {p:Prop}(h:p:=by rintro e w' ⟨rfl,rfl⟩;exact⟨rfl,0,rfl⟩):p:=h
theorem fO {p:Prop}(h:p:=by rw[HR.out];rfl):p:=h
theorem fN {p:Prop}(h:p:=by rw[World.size_alloc];exact hat):p:=h
theorem ge {p:Prop}(h:p:=by simpa using h1):p:=h
theorem fZ {p:Prop}(h:p:=by show _=_;rw[HA.out,HN.out,hp];rfl):p:=h
theorem gh {p:Prop}(h:p:=by rw[iu];exact Nat.le_refl _):p:=h
theorem gU {p:Prop}(h:p:=by cases ha):p:=h
theorem gX {p:Prop}(h:p:=by simpa using hk):p:=h
theorem gQ {p:Prop}(h:p:=by rw[HR.out];simp):p:=h
theorem gY {p:Prop}(h:p:=by simp[Value.ownBlock]):p:=h
theorem gO {p:Prop}(h:p:=by rw[Below.heap_setCell _ _ _ _ hq,Below.heap_setCell _ _ _ _ hq,Below.heap_setCell _ _ _ _ hq,Below.heap_setCell _ _ _ _ hq,Below.heap_setCell _ _ _ _ hq,Below.heap_setCell _ _ _ _ hq,Below.heap_setCell _ _ _ _ hq]):p:=h
theorem gV {p:Prop}(h:p:=by rw[hk];rfl):p:=h
theorem iA {p:Prop}(h:p:=by rw[HA.out,List.drop_eq_nil_of_le (by omega)];rfl):p:=h
theorem iD {p:Prop}(h:p:=by simpa using h0):p:=h
theorem iy {p:Prop}(h:p:=by simp at hx;subst hx;rfl):p:=h
theorem iw {p:Prop}(h:p:=by simp;have:=hbr1.size;omega):p:=h
theorem ix {p:Prop}(h:p:=by rw[World.size_alloc];have:=HW5.size;omega):p:=h
theorem iB {p:Prop}(h:p:=by simp only;have:=EQB.out;omega):p:=h
theorem iz {p:Prop}(h:p:=by simp[results,Tryz.results115,go_sem,r0,r1,r2,r3,r4,r5,r6]):p:=h
theorem i7 {p:Prop}(h:p:=by simpa using hB):p:=h
theorem ki {p:Prop}(h:p:=by go_size):p:=h
theorem iY {p:Prop}(h:p:=by simpa using h2):p:=h
theorem i6 {p:Prop}(h:p:=by rw[HT.out];simp):p:=h
theorem iU {p:Prop}(h:p:=by simpa using hg):p:=h
theorem iS {p:Prop}(h:p:=by simpa using e):p:=h
theorem kd {p:Prop}(h:p:=by simp only;have:=EQB.out;have:=hbr.size;omega):p:=h
theorem lA {p:Prop}(h:p:=by have:=hb1.size;simp at this;omega):p:=h
theorem lj {p:Prop}(h:p:=by unfold roB roV;rw[hb];rfl):p:=h
theorem lu {p:Prop}(h:p:=by simp at hr):p:=h
theorem lf {p:Prop}(h:p:=by simp[results,Tryz.results183,go_sem,r0,r1,r2,z2]):p:=h
theorem ll {p:Prop}(h:p:=by have h:=bP gg ss cp wz;rw[hng.out] at h;exact h):p:=h
theorem li {p:Prop}(h:p:=by rw[HKK.out];rfl):p:=h
theorem lq {p:Prop}(h:p:=by simpa using a.1.1):p:=h
theorem lm {p:Prop}(h:p:=by simpa using a.2.1.1):p:=h
theorem lw {p:Prop}(h:p:=by rw[HKAV.out,gI hkax]):p:=h
theorem lk {p:Prop}(h:p:=by have:=K.a1;have:=K.lens;omega):p:=h
theorem ld {p:Prop}(h:p:=by have:=hS.2.1;omega):p:=h
theorem lB {p:Prop}(h:p:=by simp[results,Tryz.results98,go_sem,d0,d1,d2,d3,d4,d5,d6]):p:=h
theorem mQ {p:Prop}(h:p:=by simpa using hn):p:=h
theorem mC {p:Prop}(h:p:=by rw[HY.out];simp_all):p:=h
theorem mA {p:Prop}(h:p:=by first|rfl|(rw[List.length_append];rfl)):p:=h
theorem mD {p:Prop}(h:p:=by intro u hu;rw[List.mem_singleton.1 hu];rfl):p:=h
theorem mN {p:Prop}(h:p:=by rw[Below.heap_setCell _ _ _ _ hb,Below.heap_setCell _ _ _ _ hb,Below.heap_setCell _ _ _ _ hb]):p:=h
theorem mK {p:Prop}(h:p:=by unfold xv;rw[hn]):p:=h
theorem mM {p:Prop}(h:p:=by simp[results,Tryz.results102,go_sem]):p:=h
theorem m9 {p:Prop}(h:p:=by show _=_;rw[hgg];simp[aA,aY,HK.out.kx.none,HKK.out]):p:=h
theorem mG {p:Prop}(h:p:=by simp[results,Tryz.results115,go_sem,r0,r1,r2,r3,r4,r5,r6,noneG]):p:=h
theorem mz {p:Prop}(h:p:=by rw[HK.out.kx.none];decide):p:=h
theorem mY {p:Prop}(h:p:=by have:=HSB.out;omega):p:=h
theorem mV {p:Prop}(h:p:=by simp[go_sem,iO,lE,h0]):p:=h
theorem mE {p:Prop}(h:p:=by simp[go_sem,iO,lE,h1]):p:=h
theorem mH {p:Prop}(h:p:=by simp[go_sem,iO,lE,h2]):p:=h
theorem mU {p:Prop}(h:p:=by simp[go_sem,iO,lE,h3]):p:=h
theorem mX {p:Prop}(h:p:=by simp[go_sem,iO,lE,h4]):p:=h
theorem mT {p:Prop}(h:p:=by simp[go_sem,iO,lE,h5]):p:=h
theorem mP {p:Prop}(h:p:=by simp[go_sem,hf]):p:=h
theorem nc {p:Prop}(h:p:=by rw[HRd.out,hho]):p:=h
theorem rB {p:Prop}(h:p:=by rw[hb1.cell (by simp)];simp[go_sem]):p:=h
theorem rv {p:Prop}(h:p:=by go_grown;exact below_drewN (by go_grown) _):p:=h
theorem ru {p:Prop}(h:p:=by simp at hi;omega):p:=h
theorem rl {p:Prop}(h:p:=by rw[eb];exact congrArg some e.symm):p:=h
theorem pY {p:Prop}(h:p:=by rw[hn];decide):p:=h
theorem rL {p:Prop}(h:p:=by simp[br]<;>omega):p:=h
theorem p4 {p:Prop}(h:p:=by split<;>omega):p:=h
theorem rq {p:Prop}(h:p:=by simp[nonePic]):p:=h
theorem p5 {p:Prop}(h:p:=by have:=HL.out;omega):p:=h
theorem rS {p:Prop}(h:p:=by have:=HF.out;omega):p:=h
theorem p9 {p:Prop}(h:p:=by simpa[World.setCell] using z4):p:=h
theorem rE {p:Prop}(h:p:=by simp[results,Tryz.results164,go_sem,r0,r1,r2,r3,r4,r5,r6]):p:=h
theorem rK {p:Prop}(h:p:=by unfold maxLen;have:=LL.out;omega):p:=h
theorem rQ {p:Prop}(h:p:=by have:=LL.out;omega):p:=h
theorem rN {p:Prop}(h:p:=by simpa[World.setCell] using z7):p:=h
theorem rr {p:Prop}(h:p:=by first|exact HB.out.size|(simp;omega)|omega):p:=h
theorem rm {p:Prop}(h:p:=by have:=B2.size;omega):p:=h
theorem rR {p:Prop}(h:p:=by rw[<-EX] at hkx;simpa[aU,roG] using hkx):p:=h
theorem rO {p:Prop}(h:p:=by have h:=hktx;rw[EPV.out] at h;simpa[aU,roG] using h):p:=h
theorem rC {p:Prop}(h:p:=by rw[hng.out];decide):p:=h
theorem p6 {p:Prop}(h:p:=by simp only[List.length_set];exact OS):p:=h
theorem re {p:Prop}(h:p:=by show _=_;simp[hgg,da]):p:=h
theorem pV {p:Prop}(h:p:=by rw[IntKind.wrap_i64];omega):p:=h
theorem rA {p:Prop}(h:p:=by show _=_;rw[<-hal,Ky]):p:=h
theorem ri {p:Prop}(h:p:=by show _=_;rw[HC.out,ek,List.take_length]):p:=h
theorem rI {p:Prop}(h:p:=by rw[HWr.out];rfl):p:=h
theorem rk {p:Prop}(h:p:=by simp[results,Tryz.results115,go_sem,Go.Proofs.YtmapdpcfanecdabGreatDoor.ik,r0,r1,r2,r3,r4,r5,r6]):p:=h
theorem rM {p:Prop}(h:p:=by show _=_;unfold b9;simp only[e1,e2];simp;try omega):p:=h
theorem rP {p:Prop}(h:p:=by rw[hch b (by omega)];exact M2.2 b hb hne):p:=h
theorem rj {p:Prop}(h:p:=by simp[results,Tryz.results15,go_sem]):p:=h
theorem rh {p:Prop}(h:p:=by simp[fi]):p:=h
theorem pT {p:Prop}(h:p:=by have:=km hown5 e.symm;omega):p:=h
theorem rG {p:Prop}(h:p:=by have:=km hown5 hj;omega):p:=h
theorem rH {p:Prop}(h:p:=by simp[World.cell?,rb]):p:=h
theorem yc {p:Prop}(h:p:=by rw[hbr.cell (by simp)];simp[go_sem]):p:=h
theorem wO {p:Prop}(h:p:=by simpa[World.setCell] using h6):p:=h
theorem wG {p:Prop}(h:p:=by rw[World.frozen?_setCell];exact h7 j):p:=h
theorem wK {p:Prop}(h:p:=by rw[hbr.cell (by simpa using hb)];exact hc k hlt):p:=h
theorem wU {p:Prop}(h:p:=by simp[results,Tryz.results172,go_sem,r0,r1,r2]):p:=h
theorem wV {p:Prop}(h:p:=by rw[Below.heap_setCell _ _ _ _ hq,Below.heap_setCell _ _ _ _ hq,Below.heap_setCell _ _ _ _ hq]):p:=h
theorem wR {p:Prop}(h:p:=by show _=_;rw[List.map_append,HL.out,List.replicate_succ'];rfl):p:=h
theorem yd {p:Prop}(h:p:=by rw[HNN.out];exact Nat.le_refl _):p:=h
theorem wZ {p:Prop}(h:p:=by rw[World.size_alloc];have:=HW7.size;omega):p:=h
theorem ym {p:Prop}(h:p:=by rw[K.hi];unfold bL;simp[List.getD,hm]):p:=h
theorem ya {p:Prop}(h:p:=by have h:=ot i.k wx;rw[hnA] at h;exact h):p:=h
theorem yl {p:Prop}(h:p:=by have h:=kN i.k wx;rw[hnB] at h;exact h):p:=h
theorem wM {p:Prop}(h:p:=by show _=_;rw[World.size_alloc,HZ1.out]):p:=h
theorem wT {p:Prop}(h:p:=by show _=_;simp[aA,HK.out.kx.none,HKK.out]):p:=h
theorem yi {p:Prop}(h:p:=by rw[World.size_alloc];have:=HD.size;omega):p:=h
theorem wS {p:Prop}(h:p:=by show _=_;rw[<-Hy.out,<-HA.out];simp):p:=h
theorem wI {p:Prop}(h:p:=by rw[if_pos rfl,mO (by omega) hn]):p:=h
theorem yH {p:Prop}(h:p:=by rw[mO (by omega) hn];rfl):p:=h
theorem yN {p:Prop}(h:p:=by have:=R5.ln;have:=R5.xs.len;omega):p:=h
theorem yq {p:Prop}(h:p:=by have:=HLEN.out.1;omega):p:=h
theorem wN {p:Prop}(h:p:=by(intro w _;go_simp;first|done|omega)):p:=h
theorem yJ {p:Prop}(h:p:=by have:=hb3.size;simp at this;omega):p:=h
theorem wJ {p:Prop}(h:p:=by simp[results,Tryz.results174,go_sem,e0,e1,e2]):p:=h
theorem yr {p:Prop}(h:p:=by simp[cU,Value.oneCell']):p:=h
theorem wW {p:Prop}(h:p:=by simp[results,Tryz.results25,go_sem]):p:=h
theorem yC {p:Prop}(h:p:=by rw[List.length_drop,cr];exact Nat.le_refl _):p:=h
theorem yF {p:Prop}(h:p:=by show _=_;rw[HNX.out,HX.out];rfl):p:=h
theorem DW {p:Prop}(h:p:=by have:=HR.out;rw[List.drop_eq_nil_of_le (by omega)] at this;exact this):p:=h
theorem Fh {p:Prop}(h:p:=by first|exact hb1|exact HB.trans (hb1.mono HB.size)):p:=h
theorem Fc {p:Prop}(h:p:=by rw[hb.cell (World.block_lt_of_cell? w _ hm)];exact hm):p:=h
theorem Ff {p:Prop}(h:p:=by show s.data.toList.length=s.data.size;exact Array.length_toList):p:=h
theorem Fp {p:Prop}(h:p:=by rw[World.cell?_setCell_other _ _ _ _ (by intro e;cases e)];exact h0):p:=h
theorem Eu {p:Prop}(h:p:=by rw[World.cell?_setCell_other _ _ _ _ (by intro e;cases e)];exact h2):p:=h
theorem DZ {p:Prop}(h:p:=by rw[World.cell?_setCell_other _ _ _ _ (by intro e;cases e)];exact h1):p:=h
theorem EK {p:Prop}(h:p:=by simp[results,Tryz.results202,go_sem,r0,r1,r2,bH]):p:=h
theorem Es {p:Prop}(h:p:=by rw[HR.out];first|(simp;done)|(simp;omega)):p:=h
theorem EM {p:Prop}(h:p:=by have h:=HE.out;rwa [List.take_of_length_le (by omega),List.take_of_length_le (by have:=HL.out;omega)] at h):p:=h
theorem EH {p:Prop}(h:p:=by show JnAt _ _ _ _ _ _ _ _ _;rw[HWD.out];have h:=HYE.out;(try simp only[Int.ofNat_le] at h |-);rw[<-h];exact⟨A9,J9,JC1,JC2,B9⟩):p:=h
theorem Ex {p:Prop}(h:p:=by show _=_;have:=congrArg List.length HL.out;simpa using this):p:=h
theorem Ec {p:Prop}(h:p:=by simp[results,Tryz.results114,go_sem,r0,r1,r2,r3,r4,r5,r6]):p:=h
theorem ET {p:Prop}(h:p:=by first|exact A7.same (e7 _ (by omega)) s7|(simpa using A7.same (e7 _ (by omega)) s7)):p:=h
theorem DX {p:Prop}(h:p:=by first|exact C7.same (e7 _ (by omega)) s7|(simpa using C7.same (e7 _ (by omega)) s7)):p:=h
theorem Fk {p:Prop}(h:p:=by first|exact S7.old (λb hb=>e7 b (by omega)) s7|(simpa using S7.old (λb hb=>e7 b (by omega)) s7)):p:=h
theorem El {p:Prop}(h:p:=by rw[hwo.cell (by simp only;exact zp1)];exact C1):p:=h
theorem DL {p:Prop}(h:p:=by have:=a3 _ (List.getElem_mem h);have:=b3 _ (List.getElem_mem h');omega):p:=h
theorem DU {p:Prop}(h:p:=by first|exact U7.put2 _|(rw[List.length_append];exact U7.put2 _)):p:=h
theorem Ew {p:Prop}(h:p:=by simp[results,Tryz.results164,go_sem,r0,r1,r2,r3,r4,r5,r6,bG]):p:=h
theorem DO {p:Prop}(h:p:=by show _=_;rw[Hal.out,Hlt.out,decide_eq_true (p:=x1≠x2) hne];simp):p:=h
theorem EB {p:Prop}(h:p:=by simpa using(GuAt.put7 a.2.2.2.2.1 (by have:=a.2.2.2.2.2.2.2;omega)).1):p:=h
theorem Fj {p:Prop}(h:p:=by have h:=HKK.out;unfold nTo btw;simp;omega):p:=h
theorem EO {p:Prop}(h:p:=by have:=GAI.2.1;have:=GAI.2.2;unfold maxLen at *;omega):p:=h
theorem DY {p:Prop}(h:p:=by show _=_;unfold bO;rw[<-hfn,<-hft,<-hff,<-hfp];cases fn<;>cases ft<;>cases ff<;>cases fp<;>rfl):p:=h
theorem Ev {p:Prop}(h:p:=by cases fn<;>cases ft<;>(have dv4:=hv4.out;simp at dv4;subst dv4;rfl)):p:=h
theorem DJ {p:Prop}(h:p:=by cases fn<;>cases ft<;>cases ff<;>(have dv8:=hv8.out;simp at dv8;subst dv8;rfl)):p:=h
theorem EI {p:Prop}(h:p:=by cases fn<;>cases ft<;>cases ff<;>cases fp<;>(have dv14:=hv14.out;simp at dv14;subst dv14;rfl)):p:=h
theorem DQ {p:Prop}(h:p:=by rw[show (⟨fg,none,0⟩:Gc).g.s=[] from hfs];exact Nat.le_refl _):p:=h
theorem Fo {p:Prop}(h:p:=by have h:=sF x.vars[ka] sska gcka wx;rw[HY.out,HN.out] at h;exact h):p:=h
theorem Ez {p:Prop}(h:p:=by have:=HSB.out;have:=HZ1.out;simp only;omega):p:=h
theorem Em {p:Prop}(h:p:=by unfold aS;rw[if_pos h0];unfold cY;rw[if_pos hx0];unfold cY;rw[if_pos hy0];rfl):p:=h
theorem Fg {p:Prop}(h:p:=by rw[ex];exact HXO.out.ck _ (List.getElem_mem hxl)):p:=h
theorem E4 {p:Prop}(h:p:=by show _=_;rw[HA.out,HN.out,<-HD.out,hp];rfl):p:=h
theorem Ep {p:Prop}(h:p:=by simp[results,Tryz.results175,go_sem,kv,io,dC,r0,r1,r2,r3,r4,r5]):p:=h
theorem Fa {p:Prop}(h:p:=by rw[hb4.block j (by omega)];exact hsame j hj' (by omega)):p:=h
theorem DP {p:Prop}(h:p:=by rw[hb5.block j (by have:=hb4.size;omega),hb4.block j hj]):p:=h
theorem Et {p:Prop}(h:p:=by simp[results,Tryz.results60,go_sem,e0,e1,e2,ez,Nat.ne_of_lt ez]):p:=h
theorem DT {p:Prop}(h:p:=by have:=pM hq;exact⟨by omega,by omega⟩):p:=h
theorem Er {p:Prop}(h:p:=by have:=gC (c:=c) (L:=aI V F c m) (k:=c.length);omega):p:=h
theorem EE {p:Prop}(h:p:=by rw[beq_eq_false_iff_ne];intro e;rw[e] at hb;revert hb;decide):p:=h
theorem Ej {p:Prop}(h:p:=by simp[results,Tryz.results67,go_sem,io,dC,r0,r1,r2,r3,r4,r5]):p:=h
abbrev oA:=Option Go.Addr
open Go.RowKit

theorem bm {a b:Bool}(h:a=b):Ending.returned (Bb a)=Rt (Bb b):=by rw[h]
theorem bU {k:IntKind}{a b:Int}(h:a=b):Ending.returned (.int k a)=Rt (.int k b):=by rw[h]
theorem pW {a b:ByteArray}(h:a=b):Ending.returned (.string a)=Rt (.string b):=by rw[h]

theorem AN {W w1:World}(hb:Below W.heap.size W w1):(∀b o,b < W.heap.size->w1.cell? ⟨b,o,nO⟩=W.cell? ⟨b,o,nO⟩)/\(∀b o,b < W.heap.size->w1.frozen? ⟨b,o,nO⟩=W.frozen? ⟨b,o,nO⟩):=
 ⟨λb o h=>hb.cell (p:=⟨b,o,nO⟩) h,λb o h=>hb.frozen (p:=⟨b,o,nO⟩) h⟩

theorem dR (n l m:Int)(w:World):
  Calls pG 57 #[I Y n,I Y l,I Y m] w λe w'=>e=Rt (Bb (btw n l m))/\w'=w:=by
 by_cases h1:l<=n
 ·by_cases h2:n<=m
  ·have hb:=fV h1 h2
   go_enter Tryz.func57,Tryz.ntmps57;go_wp2;go_ret;exact⟨bm hb.symm,rfl⟩
  ·have hb:=Ob (l:=l) h2
   go_enter Tryz.func57,Tryz.ntmps57;go_wp2;go_ret;exact⟨rfl,rfl⟩
 ·have hb:=Og (m:=m) h1
  go_enter Tryz.func57,Tryz.ntmps57;go_wp2;go_ret;exact⟨rfl,rfl⟩
end
section
open Go.RowKit
theorem la {p:Prop}(h:p:=by
 go_wp2_with (go_at_call 57;refine(dR _ _ _ _).mono ?_;rintro e w' ⟨rfl,rfl⟩);all_goals go_ret
 all_goals exact⟨bm (by simp_all[BEq.beq]),rfl⟩):p:=h
theorem sq (k:Int)(w:World):
  Calls pG 106 #[I Y k] w λe w'=>e=Rt (Bb (nTo k))/\w'=w:=by
 unfold nTo;go_enter Tryz.func106,Tryz.ntmps106;exact la

theorem ot (k:Int)(w:World):
  Calls pG 107 #[I Y k] w λe w'=>e=Rt (Bb (nA k))/\w'=w:=by
 unfold nA;go_enter Tryz.func107,Tryz.ntmps107;exact la

theorem kN (k:Int)(w:World):
  Calls pG 108 #[I Y k] w λe w'=>e=Rt (Bb (nB k))/\w'=w:=by
 unfold nB;go_enter Tryz.func108,Tryz.ntmps108;exact la

theorem vw (k:Int)(w:World):
  Calls pG 110 #[I Y k] w λe w'=>e=Rt (Bb (nN k))/\w'=w:=by
 unfold nN;go_enter Tryz.func110,Tryz.ntmps110;exact la

theorem kC (k:Int)(w:World):
  Calls pG 109 #[I Y k] w λe w'=>e=Rt (Bb (nG k))/\w'=w:=by
 unfold nG;go_enter Tryz.func109,Tryz.ntmps109;go_wp2;all_goals go_ret
 all_goals exact⟨bm (by simp_all[BEq.beq]),rfl⟩
def InsAt (w:World)(b o:Nat)(i:Ins):Prop:=
 w.cell? ⟨b,o,nO⟩=sO (I Y i.k)/\w.cell? ⟨b,o+1,nO⟩=sO (I Y i.tgt)/\w.cell? ⟨b,o+2,nO⟩=sO (I Y i.a)/\
 w.cell? ⟨b,o+3,nO⟩=sO (I Y i.b)/\w.cell? ⟨b,o+4,nO⟩=sO (I Y i.n)/\w.cell? ⟨b,o+5,nO⟩=sO (I Y i.g)

def CodeAt (w:World)(s:oA)(c:List Ins):Prop:=
 c=[]\/∃b off,s=sO ⟨b,off,nO⟩/\b < w.heap.size/\∀k (h:k < c.length),InsAt w b (off+k * 6) c[k]

theorem InsAt.below {B:Nat}{w w':World}{b o:Nat}{i:Ins}(h:InsAt w b o i)(hb:Below B w w')(hB:b < B):InsAt w' b o i:=by
 obtain⟨h0,h1,h2,h3,h4,h5⟩:=h;refine⟨?_,?_,?_,?_,?_,?_⟩<;>rw[hb.cell i7]<;>assumption

theorem CodeAt.below {B:Nat}{w w':World}{s:oA}{c:List Ins}(h:CodeAt w s c)(hb:Below B w w')(hB:w.heap.size<=B):CodeAt w' s c:=by
 rcases h with h|⟨b,off,hs,hlt,hi⟩
 ·exact .inl h
 ·exact .inr ⟨b,off,hs,lL hlt hb.size,λk h=>(hi k h).below hb aa⟩

def IntsAt (w:World)(s:oA)(l:List Int):Prop:=
 l=[]\/∃b off,s=sO ⟨b,off,nO⟩/\b < w.heap.size/\∀k (h:k < l.length),w.cell? ⟨b,off+k,nO⟩=sO (I Y l[k])

theorem IntsAt.below {B:Nat}{w w':World}{s:oA}{l:List Int}(h:IntsAt w s l)(hb:Below B w w')(hB:w.heap.size<=B):IntsAt w' s l:=by
 rcases h with h|⟨b,off,hs,hlt,hi⟩
 ·exact .inl h
 ·exact .inr ⟨b,off,hs,lL hlt hb.size,λk h=>by rw[hb.cell (by simp;omega)];exact hi k h⟩
theorem Bs (k:Int)(w:World):
  Calls pG 105 #[I Y k] w λe w'=>e=Rt (.string (aL k))/\bl w w':=by
 by_cases h:btw k 1 19=true
 ·rcases pJ h with rfl|rfl|rfl|rfl|rfl|rfl|rfl|rfl|rfl|rfl|rfl|rfl|rfl|rfl|rfl|rfl|rfl|rfl|rfl
  all_goals
   go_enter Tryz.func105,Tryz.ntmps105;go_wp2_with (go_at_call 57;refine(dR _ _ _ _).mono ?_;rintro e w' ⟨rfl,rfl⟩);go_ret;exact⟨rfl,ai⟩
 ·have h:btw k 1 19=false:=by simpa using h
  have hw:=tJ h;go_enter Tryz.func105,Tryz.ntmps105;go_wp2_with (go_at_call 57;refine(dR _ _ _ _).mono ?_;rintro e w' ⟨rfl,rfl⟩);go_ret;exact⟨pW hw.symm,ai⟩
theorem bW {p:Prop}(h:p:=by
 go_enter Tryz.func58,Tryz.ntmps58;go_wp2_with (first
  |(go_at_call 57;refine(dR _ _ _ _).mono ?_;rintro e w' ⟨rfl,rfl⟩)
  |(go_at_call 106;refine(sq _ _).mono ?_;rintro e w' ⟨rfl,rfl⟩)
  |(go_at_call 107;refine(ot _ _).mono ?_;rintro e w' ⟨rfl,rfl⟩)
  |(go_at_call 108;refine(kN _ _).mono ?_;rintro e w' ⟨rfl,rfl⟩)
  |(go_at_call 110;refine(vw _ _).mono ?_;rintro e w' ⟨rfl,rfl⟩)
  |(go_at_call 109;refine(kC _ _).mono ?_;rintro e w' ⟨rfl,rfl⟩)
  |(go_at_call 105;refine(Bs _ _).mono ?_;rintro e w1 ⟨rfl,hb1⟩;obtain⟨hc1,hf1⟩:=AN hb1))
 all_goals clear hc1 hf1
 all_goals go_ret
 all_goals exact⟨bU (by simp_all[bn,OB]),Below.trans ai (hb1.mono ki)⟩):p:=h
theorem G9 (V F:Int)(s:oA)(len cap:Nat)(tto a b n g:Int)(w:World)(_hV:1<=V)(_hV':V<=8)(_hF:0<=F)(_hF':F<=3)(_hL:len<=60):
  Calls pG 58 #[Ag #[I Y V,I Y F,U s len cap],Ag #[I Y 5,I Y tto,I Y a,I Y b,I Y n,I Y g]] w λe w'=>e=Rt (I Y (bn V F len ⟨5,tto,a,b,n,g⟩))/\bl w w':=by
 have t0:(aL 5).toList.isEmpty=false:=dh;have t1:nTo 5=true:=rfl;have t2:nA 5=true:=rfl;have t3:nB 5=true:=rfl;have t4:nN 5=false:=rfl;have t5:nG 5=false:=rfl;exact bW

theorem FC (V F:Int)(s:oA)(len cap:Nat)(tto a b n g:Int)(w:World)(_hV:1<=V)(_hV':V<=8)(_hF:0<=F)(_hF':F<=3)(_hL:len<=60):
  Calls pG 58 #[Ag #[I Y V,I Y F,U s len cap],Ag #[I Y 6,I Y tto,I Y a,I Y b,I Y n,I Y g]] w λe w'=>e=Rt (I Y (bn V F len ⟨6,tto,a,b,n,g⟩))/\bl w w':=by
 have t0:(aL 6).toList.isEmpty=false:=dh;have t1:nTo 6=true:=rfl;have t2:nA 6=true:=rfl;have t3:nB 6=true:=rfl;have t4:nN 6=false:=rfl;have t5:nG 6=false:=rfl;exact bW

theorem Gj (V F:Int)(s:oA)(len cap:Nat)(tto a b n g:Int)(w:World)(_hV:1<=V)(_hV':V<=8)(_hF:0<=F)(_hF':F<=3)(_hL:len<=60):
  Calls pG 58 #[Ag #[I Y V,I Y F,U s len cap],Ag #[I Y 7,I Y tto,I Y a,I Y b,I Y n,I Y g]] w λe w'=>e=Rt (I Y (bn V F len ⟨7,tto,a,b,n,g⟩))/\bl w w':=by
 have t0:(aL 7).toList.isEmpty=false:=dh;have t1:nTo 7=true:=rfl;have t2:nA 7=true:=rfl;have t3:nB 7=true:=rfl;have t4:nN 7=false:=rfl;have t5:nG 7=false:=rfl;exact bW

theorem Ga (V F:Int)(s:oA)(len cap:Nat)(tto a b n g:Int)(w:World)(_hV:1<=V)(_hV':V<=8)(_hF:0<=F)(_hF':F<=3)(_hL:len<=60):
  Calls pG 58 #[Ag #[I Y V,I Y F,U s len cap],Ag #[I Y 8,I Y tto,I Y a,I Y b,I Y n,I Y g]] w λe w'=>e=Rt (I Y (bn V F len ⟨8,tto,a,b,n,g⟩))/\bl w w':=by
 have t0:(aL 8).toList.isEmpty=false:=dh;have t1:nTo 8=true:=rfl;have t2:nA 8=true:=rfl;have t3:nB 8=true:=rfl;have t4:nN 8=false:=rfl;have t5:nG 8=false:=rfl;exact bW

theorem CN (V F:Int)(s:oA)(len cap:Nat)(k tto a b n g:Int)(w:World)(_hV:1<=V)(_hV':V<=8)(_hF:0<=F)(_hF':F<=3)(_hL:len<=60)(hk:btw k 1 19=false):
  Calls pG 58 #[Ag #[I Y V,I Y F,U s len cap],Ag #[I Y k,I Y tto,I Y a,I Y b,I Y n,I Y g]] w λe w'=>e=Rt (I Y (bn V F len ⟨k,tto,a,b,n,g⟩))/\bl w w':=by
 have t0:(aL k).toList.isEmpty=true:=by rw[tJ hk,ByteArray.toList_eq];rfl
 exact bW
theorem Gk (V F:Int)(s:oA)(len cap:Nat)(tto a b n g:Int)(w:World)(_hV:1<=V)(_hV':V<=8)(_hF:0<=F)(_hF':F<=3)(_hL:len<=60):
  Calls pG 58 #[Ag #[I Y V,I Y F,U s len cap],Ag #[I Y 9,I Y tto,I Y a,I Y b,I Y n,I Y g]] w λe w'=>e=Rt (I Y (bn V F len ⟨9,tto,a,b,n,g⟩))/\bl w w':=by
 have t0:(aL 9).toList.isEmpty=false:=dh;have t1:nTo 9=true:=rfl;have t2:nA 9=true:=rfl;have t3:nB 9=true:=rfl;have t4:nN 9=false:=rfl;have t5:nG 9=false:=rfl;exact bW

theorem CV (V F:Int)(s:oA)(len cap:Nat)(tto a b n g:Int)(w:World)(_hV:1<=V)(_hV':V<=8)(_hF:0<=F)(_hF':F<=3)(_hL:len<=60):
  Calls pG 58 #[Ag #[I Y V,I Y F,U s len cap],Ag #[I Y 10,I Y tto,I Y a,I Y b,I Y n,I Y g]] w λe w'=>e=Rt (I Y (bn V F len ⟨10,tto,a,b,n,g⟩))/\bl w w':=by
 have t0:(aL 10).toList.isEmpty=false:=dh;have t1:nTo 10=true:=rfl;have t2:nA 10=true:=rfl;have t3:nB 10=false:=rfl;have t4:nN 10=false:=rfl;have t5:nG 10=false:=rfl;exact bW

theorem CZ (V F:Int)(s:oA)(len cap:Nat)(tto a b n g:Int)(w:World)(_hV:1<=V)(_hV':V<=8)(_hF:0<=F)(_hF':F<=3)(_hL:len<=60):
  Calls pG 58 #[Ag #[I Y V,I Y F,U s len cap],Ag #[I Y 11,I Y tto,I Y a,I Y b,I Y n,I Y g]] w λe w'=>e=Rt (I Y (bn V F len ⟨11,tto,a,b,n,g⟩))/\bl w w':=by
 have t0:(aL 11).toList.isEmpty=false:=dh;have t1:nTo 11=true:=rfl;have t2:nA 11=false:=rfl;have t3:nB 11=false:=rfl;have t4:nN 11=false:=rfl;have t5:nG 11=false:=rfl;exact bW

theorem Dt (V F:Int)(s:oA)(len cap:Nat)(tto a b n g:Int)(w:World)(_hV:1<=V)(_hV':V<=8)(_hF:0<=F)(_hF':F<=3)(_hL:len<=60):
  Calls pG 58 #[Ag #[I Y V,I Y F,U s len cap],Ag #[I Y 12,I Y tto,I Y a,I Y b,I Y n,I Y g]] w λe w'=>e=Rt (I Y (bn V F len ⟨12,tto,a,b,n,g⟩))/\bl w w':=by
 have t0:(aL 12).toList.isEmpty=false:=dh;have t1:nTo 12=true:=rfl;have t2:nA 12=true:=rfl;have t3:nB 12=false:=rfl;have t4:nN 12=true:=rfl;have t5:nG 12=false:=rfl;exact bW

theorem Dw (V F:Int)(s:oA)(len cap:Nat)(tto a b n g:Int)(w:World)(_hV:1<=V)(_hV':V<=8)(_hF:0<=F)(_hF':F<=3)(_hL:len<=60):
  Calls pG 58 #[Ag #[I Y V,I Y F,U s len cap],Ag #[I Y 13,I Y tto,I Y a,I Y b,I Y n,I Y g]] w λe w'=>e=Rt (I Y (bn V F len ⟨13,tto,a,b,n,g⟩))/\bl w w':=by
 have t0:(aL 13).toList.isEmpty=false:=dh;have t1:nTo 13=false:=rfl;have t2:nA 13=true:=rfl;have t3:nB 13=true:=rfl;have t4:nN 13=true:=rfl;have t5:nG 13=false:=rfl;exact bW
theorem oU:∃j,Tryz.prog.info? 122=sO j/\j.size=2:=by
 obtain⟨j,hj,hjs⟩:=Option.map_eq_some_iff.1 Tryz.Builder_Extra_169.sizeBuilder;exact⟨j,hj,hjs⟩

theorem yg (b:Nat)(w:World)(h0:w.cell? ⟨b,0,nO⟩=sO (Pp (sO ⟨b,0,nO⟩))):
  Calls pG 119 #[Pp (sO ⟨b,0,nO⟩)] w λe w'=>e=Rt (Tu #[])/\w'=w:=by
 obtain⟨j,hj,_⟩:=oU;go_enter Tryz.func119,Tryz.ntmps119;go_wp2;rw[Lib.run_neq_ptr_same w _ Tryz.underlying119 hj];go_wp2;go_end0;exact⟨rfl,rfl⟩

theorem uX (b:Nat)(w:World)(h0:w.cell? ⟨b,0,nO⟩=sO (Pp nO))(hsh:w.shape? b=sO (122,2))(hfz:w.frozen? ⟨b,0,nO⟩=false):
  Calls pG 119 #[Pp (sO ⟨b,0,nO⟩)] w λe w'=>e=Rt (Tu #[])/\w'=w.setCell ⟨b,0,nO⟩ (Pp (sO ⟨b,0,nO⟩)):=by
 obtain⟨j,hj,hjs⟩:=oU;go_enter Tryz.func119,Tryz.ntmps119;go_wp2;rw[Lib.run_to_unsafe w ⟨b,0,nO⟩ Tryz.underlying119 Tryz.underlying219 hj (by rw[hjs];decide) hsh (Nat.zero_lt_succ 1)];simp only[Result.andThen];rw[Oper.upon_value];go_wp2;rw[run_callFunc_extern Tryz.func177 ag ag ag (e:=Extern.AbiNoEscape.same) ag];rw[Lib.run_noEscape];simp only[Result.andThen];rw[Oper.upon_value];go_wp2;rw[Lib.run_from_unsafe w ⟨b,0,nO⟩ Tryz.underlying219 Tryz.underlying119 hj hsh Tryz.Builder_Extra_169.liesBuilder];simp only[Result.andThen];rw[Oper.upon_value];go_wp2;go_end0;exact⟨rfl,rfl⟩

theorem At (B b:Nat)(bs:List Value)(w:World)(h:Lib.IsBuilder 122 5 B b bs w):
  Calls pG 119 #[Pp (sO ⟨b,0,nO⟩)] w λe w'=>e=Rt (Tu #[])/\(Lib.BuilderAt 122 5 B b (Pp (sO ⟨b,0,nO⟩)) bs w'/\Below B w w'):=by
 rcases h with h|h
 ·refine(uX b w h.cell0 h.shape h.frozen0).mono ?_
  rintro e w' ⟨rfl,rfl⟩;exact⟨rfl,h.used _,(bR B w).setCell (p:=⟨b,0,nO⟩) h.1 _⟩
 ·refine(yg b w h.cell0).mono ?_
  rintro e w' ⟨rfl,rfl⟩;exact⟨rfl,h,bR B _⟩

theorem wB (B b:Nat)(bs:List Value)(s:ByteArray)(w:World)(h:Lib.IsBuilder 122 5 B b bs w)(hlen:bs.length+s.size<=140737488355328)(hBw:B<=w.heap.size):
  Calls pG 62 #[Pp (sO ⟨b,0,nO⟩),.string s] w λe w'=>e=Rt (Tu #[I Y s.size,.nilIface])/\(Lib.BuilderAt 122 5 B b (Pp (sO ⟨b,0,nO⟩)) (bs++Lib.strCells s) w'/\Below B w w'):=by
 obtain⟨ti,hi,hz0,hz1,hz2⟩:=info_parts Tryz.Builder_Extra_169.infoByte;go_enter Tryz.func62,Tryz.ntmps62;go_wp2_with (go_at_call 119;refine(At B b bs _ h).mono ?_);rintro e w1 ⟨rfl,h1,hb1⟩;obtain⟨hB,v,hbk,hown,hne⟩:=h1;have c0:w1.cell? ⟨b,0,nO⟩=sO (Pp (sO ⟨b,0,nO⟩)):=by rw[Lib.cell_of_heap hbk];rfl
 have c1:w1.cell? ⟨b,1,nO⟩=sO v:=by rw[Lib.cell_of_heap hbk];rfl
 go_wp2_with (at_builtin;refine Lib.wpList_append_own_string _ rfl _ _ 120 9 rfl B 5 ti Tryz.underlying120 Tryz.underlying9 hi hz0 hz1 hz2 _ _ _ rfl hown s rfl ?c3 ?c4 ?c5 ?_)
 case c3=>unfold maxLen;omega
 case c4=>omega
 case c5=>have:=hb1.size;omega
 intro v' w2 hown' hgrow _;have hlt:b < w1.heap.size:=(j3.1 hbk).1;have hb2:w2.heap[b]? =sO (Cc #[Pp (sO ⟨b,0,nO⟩),v] 122 (0,0)):=by
  rw[hgrow.block b hlt (λe=>hne e.symm)];exact hbk
 have d0:w2.cell? ⟨b,0,nO⟩=sO (Pp (sO ⟨b,0,nO⟩)):=by rw[Lib.cell_of_heap hb2];rfl
 have d1:w2.cell? ⟨b,1,nO⟩=sO v:=by rw[Lib.cell_of_heap hb2];rfl
 have f1:w2.frozen? ⟨b,1,nO⟩=false:=Lib.frozen_of_heap hb2 1;obtain⟨ao,n',cap,rfl⟩:∃ao n' cap,v'=U ao n' cap:=by
  rcases hown'.2 with⟨hv,_⟩|⟨g,cap,cur,hv,_⟩
  ·exact⟨_,_,_,hv⟩
  ·exact⟨_,_,_,hv⟩
 go_wp2
 go_ret2
 refine⟨rfl,?_,?_⟩
 ·exact Lib.BuilderAt.put (T:=122) (e:=5) hB hb2 (bs':=bs++Lib.strCells s) (by simpa[Lib.strCells_length] using hown') Tryz.Builder_Extra_169.neB5
 ·exact(hb1.grown hgrow (by have:=hb1.size;omega) (λk hk=>(hown.lt k hk).1)).setCell (p:=⟨b,1,nO⟩) hB _
def dz (z:Int):ByteArray:=⟨(Lib.decDigits z.toNat).toArray⟩
theorem mL (z:Int)(h0:0<=z)(h1:z<=9223372036854775807):(dz z).size<=20:=by
 have:(dz z).size=(Lib.decDigits z.toNat).length:=rfl;rw[this,Lib.decDigits_length];exact Lib.nDigits_le20 _ aa
theorem EQ (z:Int)(h:10<=z):dz (z / 10)++dz (z % 10)=dz z:=by
 have e1:(z / 10).toNat=z.toNat / 10:=aa;have e2:(z % 10).toNat=z.toNat % 10:=aa;have hd:Lib.decDigits z.toNat=Lib.decDigits (z.toNat / 10)++Lib.decDigits (z.toNat % 10):=by
  rw[Lib.decDigits_one (i:=z.toNat % 10) aa];conv=>lhs;rw[Lib.decDigits,dif_neg aa]
 unfold dz;rw[hd,e1,e2];apply ByteArray.ext;simp

theorem Ha (n:Nat)(w:World)(h:n < 10):
  Calls pG 27 #[I Y n] w λe w'=>e=Rt (.string (dz n))/\bl w w':=by
 have:n=0\/n=1\/n=2\/n=3\/n=4\/n=5\/n=6\/n=7\/n=8\/n=9:=aa;have hd:dz n=⟨#[UInt8.ofNat (48+n)]⟩:=by unfold dz;rw[show (n:Int).toNat=n by omega,Lib.decDigits_one h]
 rw[hd];have hcv:=λ(c:Int) (wx:World) (hc:wx.cell? ⟨w.heap.size,0,nO⟩=sO (.int .u8 c))=>run_convert_bytes_arg (P:=pG) (w:=wx) 120 5 Tryz.underlying120 Tryz.underlying5 w.heap.size 0 1 1 [c] rfl;rcases this with rfl|rfl|rfl|rfl|rfl|rfl|rfl|rfl|rfl|rfl;all_goals
  go_enter Tryz.func27,Tryz.ntmps27;go_wp2;go_ret;exact⟨pW rfl,ai⟩

theorem Dx (z:Int)(w:World)(h:10<=z)(h63:z<=9223372036854775807)
  (ih:∀(k:Int) (w:World),0<=k->k < z->Calls pG 27 #[I Y k] w λe w'=>e=Rt (.string (dz k))/\bl w w'):
  Calls pG 27 #[I Y z] w λe w'=>e=Rt (.string (dz z))/\bl w w':=by
 have hd:Hid (dz (z / 10)++dz (z % 10)=dz z):=EQ z h;have l1:=mL (z / 10) aa aa;have l2:=mL (z % 10) aa aa;have s1:¬9223372036854775807 < (dz (z / 10)).size+(dz (z % 10)).size:=aa;go_enter Tryz.func27,Tryz.ntmps27;go_wp2_with (go_at_call 27;refine(ih _ _ ?h1 ?h2).mono ?_;(case h1=>omega);(case h2=>omega);rintro e w1 ⟨rfl,hb1⟩;have HB:bl w w1:=Fh);go_ret;exact⟨pW hd.out,HB⟩

theorem vR (z:Int)(w:World)(h0:0<=z)(h63:z<=9223372036854775807):
  Calls pG 27 #[I Y z] w λe w'=>e=Rt (.string (dz z))/\bl w w':=by
 obtain⟨n,rfl⟩:=J0 h0;induction n using Nat.strongRecOn generalizing w with
 |ind n ih=>
  by_cases h:n < 10
  ·exact Ha n w h
  ·refine Dx n w aa h63 λk wk hk hlt=> ?_
   obtain⟨j,rfl⟩:=J0 hk;exact ih j aa wk aa aa

theorem pu (z:Int)(h0:z < 0):(⟨#[45]⟩:ByteArray)++dz (-z)=⟨(Lib.itoa z).toArray⟩:=by
 unfold dz Lib.itoa;rw[if_pos h0,show (-z).toNat=z.natAbs by omega];apply ByteArray.ext;simp

theorem uB {p:Prop}(h:p:=by
 go_enter Tryz.func27,Tryz.ntmps27;go_wp2_with (go_at_call 27;refine(vR _ _ ?h1 ?h2).mono ?_;(case h1=>omega);(case h2=>omega);rintro e w1 ⟨rfl,hb1⟩;have HB:bl w w1:=Fh);go_ret;exact⟨pW hd.out,HB⟩):p:=h
theorem FB (z:Int)(w:World)(h0:z < 0)(h10: -10 < z):
  Calls pG 27 #[I Y z] w λe w'=>e=Rt (.string ⟨(Lib.itoa z).toArray⟩)/\bl w w':=by
 have hd:Hid ((⟨#[45]⟩:ByteArray)++dz (-z)=⟨(Lib.itoa z).toArray⟩):=pu z h0;have l1:=mL (-z) aa aa;have s0:(⟨#[45]⟩:ByteArray).size=1:=rfl;have s1:¬9223372036854775807 < (⟨#[45]⟩:ByteArray).size+(dz (-z)).size:=aa;exact uB

theorem FH (z:Int)(w:World)(h0:z<= -10)(h63: -9223372036854775808<=z):
  Calls pG 27 #[I Y z] w λe w'=>e=Rt (.string ⟨(Lib.itoa z).toArray⟩)/\bl w w':=by
 have e1:wrap64 (-z.tdiv 10)= -z / 10:=by
  have: -z.tdiv 10= -z / 10:=by rw[<-Int.neg_tdiv,Int.tdiv_eq_ediv_of_nonneg (by omega)]
  rw[this];unfold wrap64;omega
 have e2:wrap64 (-z.tmod 10)= -z % 10:=by
  have: -z.tmod 10= -z % 10:=by rw[<-Int.neg_tmod,Int.tmod_eq_emod_of_nonneg (by omega)]
  rw[this];unfold wrap64;omega
 have hd:Hid ((⟨#[45]⟩:ByteArray)++dz (-z / 10)++dz (-z % 10)=⟨(Lib.itoa z).toArray⟩):=by
  show _=_;rw[ByteArray.append_assoc,EQ (-z) aa];exact pu z aa
 have l1:=mL (-z / 10) aa aa;have l2:=mL (-z % 10) aa aa;have s1:¬9223372036854775807 < 1+(dz (-z / 10)).size:=aa;have s2:¬9223372036854775807 < 1+(dz (-z / 10)).size+(dz (-z % 10)).size:=aa;exact uB

theorem GB (z:Int)(w:World)(h0: -9223372036854775808<=z)(h1:z<=9223372036854775807):
  Calls pG 27 #[I Y z] w λe w'=>e=Rt (.string ⟨(Lib.itoa z).toArray⟩)/\bl w w':=by
 by_cases hz:0<=z
 ·have:(⟨(Lib.itoa z).toArray⟩:ByteArray)=dz z:=by unfold Lib.itoa dz;rw[if_neg aa]
  rw[this];exact vR z w hz h1
 ·by_cases hl: -10 < z
  ·exact FB z w aa hl
  ·exact FH z w aa h0
def il (n:Int):Prop:= -9223372036854775808<=n/\n<=9223372036854775807
def dX (n:Int):ByteArray:=⟨(Lib.itoa n).toArray⟩
theorem iG (n:Int)(h:il n):(dX n).size<=21:=Lib.itoa_length_le n h.1 h.2

theorem mj (z:Int)(w:World)(h:il z):
  Calls pG 27 #[I Y z] w λe w'=>e=Rt (.string (dX z))/\bl w w':=GB z w h.1 h.2
theorem ci {w:World}{B:Nat}{e:TypeId}{z:Nat}{v:Value}{n:Nat}{xs:List Value}(h:w.ownsRow B e z v n xs){k:Nat}(hk:v.ownBlock=sO k):k < w.heap.size/\B<=k:=by
 rcases h.2 with⟨rfl,_⟩|⟨g,cap,cur,rfl,hb,hg,_⟩
 ·cases hk
 ·cases hk
  exact⟨(j3.1 hg).1,hb⟩

theorem bu {w w':World}{B:Nat}{e:TypeId}{z:Nat}{v:Value}{n:Nat}{xs:List Value}(h:w.ownsRow B e z v n xs)(hb:∀k,v.ownBlock=sO k->w'.heap[k]? =w.heap[k]?):w'.ownsRow B e z v n xs:=by
 obtain⟨h1,h2⟩:=h;refine⟨h1,?_⟩;rcases h2 with h2|⟨g,cap,cur,hv,hB,hg,r⟩
 ·exact .inl h2
 ·exact .inr ⟨g,cap,cur,hv,hB,by rw[hb g (by rw[hv];rfl)];exact hg,r⟩
theorem Tryz.info_int:(Tryz.prog.info? 3).map (λi=>(i.zero,i.size,i.bytes))=sO (sO (I Y 0),1,8):=ag

theorem km {w:World}{B:Nat}{e:TypeId}{z:Nat}{v:Value}{n:Nat}{xs:List Value}(h:w.ownsRow B e z v n xs){k:Nat}(hk:v.ownBlock=sO k):B<=k:=by
 rcases h.2 with⟨rfl,_⟩|⟨g,cap,cur,rfl,hb,hg,_⟩
 ·cases hk
 ·cases hk
  exact hb
end
section
structure Sp where
 n:Bool
 lo:Int
 hi:Int
deriving DecidableEq

def ba (x:Int):Prop:= -2147483648<=x/\x<=2147483647
instance (x:Int):Decidable (ba x):=inferInstanceAs (Decidable (_/\_))

def cH (s:Sp):Int:=
 if¬(ba s.lo/\ba s.hi) then 3 else if s.n=true/\¬(s.lo=0/\s.hi=0) then 1 else if s.hi < s.lo then 4 else 0

def bB (s t:Sp):Int:=if cH s=0 then cH t else cH s

def Sp.Ok (s:Sp):Prop:=ba s.lo/\ba s.hi/\(s.n=true->s.lo=0/\s.hi=0)/\s.lo<=s.hi

theorem ckSp_ok {s:Sp}:cH s=0↔s.Ok:=by
 unfold cH Sp.Ok;by_cases h1:ba s.lo/\ba s.hi
 ·rw[if_neg (by simpa using h1)]
  by_cases h2:s.n=true/\¬(s.lo=0/\s.hi=0)
  ·rw[if_pos h2]
   refine⟨λh=>absurd h (by decide),λh=>absurd (h.2.2.1 h2.1) h2.2⟩
  ·rw[if_neg h2]
   have h3:s.n=true->s.lo=0/\s.hi=0:=λhn=>Decidable.not_not.1 λhc=>h2 ⟨hn,hc⟩;by_cases h4:s.hi < s.lo
   ·rw[if_pos h4]
    exact⟨λh=>absurd h (by decide),λh=>absurd h.2.2.2 (by omega)⟩
   ·rw[if_neg h4]
    exact⟨λ_=>⟨h1.1,h1.2,h3,by omega⟩,λ_=>rfl⟩
 ·rw[if_pos h1]
  exact⟨λh=>absurd h (by decide),λh=>absurd ⟨h.1,h.2.1⟩ h1⟩

theorem ckSps_ok {s t:Sp}:bB s t=0↔s.Ok/\t.Ok:=by
 unfold bB;by_cases h:cH s=0
 ·rw[if_pos h,ckSp_ok]
  exact⟨λht=>⟨ckSp_ok.1 h,ht⟩,λht=>ht.2⟩
 ·rw[if_neg h]
  exact⟨λht=>absurd ht h,λht=>absurd (ckSp_ok.2 ht.1) h⟩

def Sp.has (s:Sp)(x:Int):Bool:= !s.n&&(decide (s.lo<=x)&&decide (x<=s.hi))
def bj (s t:Sp):Sp:=if s.n then t else if t.n then s else⟨false,min s.lo t.lo,max s.hi t.hi⟩
def br (s t:Sp):Sp:=if s.n then t else if t.n then s else⟨false,if t.lo < s.lo then -2147483648 else s.lo,if s.hi < t.hi then 2147483647 else s.hi⟩
def aF (s t:Sp):Sp:=if s.n||t.n||decide (min s.hi t.hi < max s.lo t.lo) then⟨true,0,0⟩ else⟨false,max s.lo t.lo,min s.hi t.hi⟩
def eZ (s t:Sp):Bool:=s.n||(t.has s.lo&&t.has s.hi)

def pk (k x y:Int):Int:=if k=5 then x+y else if k=6 then x - y else x * y
def dK (a b c d:Int):Int:=min (min (min a b) c) d
def dL (a b c d:Int):Int:=max (max (max a b) c) d
def gj (a b c d:Int):Sp:=if ba (dK a b c d)/\ba (dL a b c d) then⟨false,dK a b c d,dL a b c d⟩ else⟨false,-2147483648,2147483647⟩
def cC (k:Int)(s t:Sp):Sp:=if s.n||t.n then⟨true,0,0⟩ else gj (pk k s.lo t.lo) (pk k s.lo t.hi) (pk k s.hi t.lo) (pk k s.hi t.hi)

def bH:Sp:=⟨false,0,0⟩
theorem OD {k:Int}{s t:Sp}(hs:s.Ok)(ht:t.Ok):(cC k s t).Ok:=by
 unfold cC;split
 ·exact⟨by decide,by decide,λ_=>⟨rfl,rfl⟩,Int.le_refl _⟩
 ·unfold gj
  split
  ·rename_i h
   refine⟨h.1,h.2,λhn=>(by cases hn),?_⟩;unfold dK dL;simp only;omega
  ·exact⟨by decide,by decide,λhn=>(by cases hn),by decide⟩

theorem ND {s t:Sp}(hs:s.Ok)(ht:t.Ok):(bj s t).Ok:=by
 unfold bj;split
 ·exact ht
 ·split
  ·exact hs
  ·obtain⟨a,b,_,d⟩:=hs
   obtain⟨a',b',_,d'⟩:=ht;unfold ba at a b a' b';refine⟨?_,?_,λhn=>(by cases hn),?_⟩<;>(try unfold ba)<;>simp only<;>omega

theorem NQ {s t:Sp}(hs:s.Ok)(ht:t.Ok):(br s t).Ok:=by
 unfold br;split
 ·exact ht
 ·split
  ·exact hs
  ·obtain⟨a,b,_,d⟩:=hs
   obtain⟨a',b',_,d'⟩:=ht;unfold ba at a b a' b';refine⟨?_,?_,λhn=>(by cases hn),?_⟩<;>(try unfold ba)<;>simp only<;>(repeat' split)<;>omega
structure Gs where
 n:Bool
 sp:Sp
 t:Bool
 f:Bool
 s:List Int

def cn (c:List Ins)(x:Int):Bool:=decide (0<=x)&&(decide (x < c.length)&&decide ((c.getD x.toNat ⟨0,0,0,0,0,0⟩).k=11))

def dj:List Int->Bool
 |[]=>true
 |[_]=>true
 |a::b::r=>decide (a < b)&&dj (b::r)

def aE (c:List Ins)(g:Gs):Int:=if cH g.sp≠0 then cH g.sp else if g.s.all (cn c)=false then 5 else if dj g.s=false then 4 else 0

def cl (c:List Ins):List Gs->Int
 |[]=>0
 |g::r=>if aE c g=0 then cl c r else aE c g

def aZ (V F:Int)(c:List Ins)(l:List Gs):Int:=if au V F c=0 then cl c l else au V F c

def gK (a b:List Int):List Int:=((J1 60).map λn:Nat=>(n:Int)).filter λx=>a.contains x||b.contains x

def am (wide:Bool)(g h:Gs):Gs:=⟨g.n||h.n,if wide then br g.sp h.sp else bj g.sp h.sp,g.t||h.t,g.f||h.f,gK g.s h.s⟩
def dn (g h:Gs):Bool:= !(g.n&& !h.n)&&(!(g.t&& !h.t)&&(!(g.f&& !h.f)&&(eZ g.sp h.sp&&g.s.all λx=>h.s.contains x)))
def cj (g:Gs):Bool:=(!g.sp.n&& !decide (g.sp.lo=0/\g.sp.hi=0))||(g.t||decide (0 < g.s.length))
def cQ (g:Gs):Bool:=g.sp.has 0||(g.n||g.f)
def aO (g:Gs):Bool:=g.n||(g.t||(g.f||decide (0 < g.s.length)))
def ap (g:Gs):Bool:=g.sp.n&& !aO g
def noneG:Gs:=⟨false,⟨true,0,0⟩,false,false,[]⟩
def bG:Gs:=⟨false,⟨false,0,0⟩,false,false,[]⟩
def b2n (b:Bool):Nat:=if b then 1 else 0
def eQ (g:Gs):Bool:=decide (b2n g.n+b2n (!g.sp.n)+b2n g.t+b2n g.f=1)&&(decide (g.sp.lo=g.sp.hi)&&decide (g.s.length=0))
def c7 (g h:Gs):Bool:=eQ g&&(eQ h&&(g.n==h.n&&(decide (g.sp=h.sp)&&(g.t==h.t&&g.f==h.f))))

def cN (k:Int)(g h:Gs):Gs×Bool:=
 if k=4 then(g,false)
 else if k=10 then(⟨false,⟨true,0,0⟩,cQ g,cj g,[]⟩,false)
 else if ap g||ap h then(noneG,false)
 else if k=9 then(⟨false,⟨true,0,0⟩,(g.n&&h.n)||(!(aF g.sp h.sp).n||((g.t&&h.t)||((g.f&&h.f)||g.s.any λx=>h.s.contains x))),!c7 g h,[]⟩,false)
 else if k=8 then(⟨false,⟨true,0,0⟩,!(g.sp.n||h.sp.n)&&decide (g.sp.lo < h.sp.hi),!(g.sp.n||h.sp.n)&&decide (h.sp.lo<=g.sp.hi),[]⟩,aO g||aO h)
 else(⟨false,cC k g.sp h.sp,false,false,[]⟩,aO g||aO h)
end
section
open Go.RowKit
abbrev sv (s:Sp):Value:=Ag #[Bb s.n,I Y s.lo,I Y s.hi]

theorem gL (n:Int)(w:World):
  Calls pG 225 #[I Y n] w λe w'=>e=Rt (Bb (!decide (ba n)))/\w'=w:=by
 have e1:decide (ba n)=(decide (-2147483648<=n)&&decide (n<=2147483647)):=by unfold ba;exact Bool.decide_and _ _
 rw[e1];by_cases h1:n < -2147483648
 ·go_enter Tryz.func225,Tryz.ntmps225
  go_wp2;go_ret;exact⟨bm (by simp<;>omega),rfl⟩
 ·by_cases h2:n > 2147483647
  ·go_enter Tryz.func225,Tryz.ntmps225
   go_wp2;go_ret;exact⟨bm (by simp<;>omega),rfl⟩
  ·go_enter Tryz.func225,Tryz.ntmps225
   go_wp2;go_ret;exact⟨bm (by simp<;>omega),rfl⟩

theorem yx (w:World):
  Calls pG 226 #[] w λe w'=>e=Rt (sv ⟨true,0,0⟩)/\w'=w.alloc (Cc #[Bb true,I Y 0,I Y 0] 89):=by
 go_enter Tryz.func226,Tryz.ntmps226;go_wp2
 go_returns
 exact⟨rfl,aW⟩

theorem LK (w:World):
  Calls pG 226 #[] w λe w'=>e=Rt (sv ⟨true,0,0⟩)/\bl w w':=by
 refine(yx w).mono ?_;rintro e w' ⟨rfl,rfl⟩;exact⟨rfl,ai⟩

theorem Kh (w:World):
  Calls pG 245 #[] w λe w'=>e=Rt (sv ⟨false,-2147483648,2147483647⟩)/\w'=w.alloc (Cc #[Bb false,I Y (-2147483648),I Y 2147483647] 89):=by
 go_enter Tryz.func245,Tryz.ntmps245;go_wp2
 go_returns
 exact⟨rfl,aW⟩

theorem rJ (n m:Int)(w:World)(h:wrap64 (n+m)=n+m):
  Calls pG 229 #[I Y n,I Y m] w λe w'=>e=Rt (I Y (n+m))/\w'=w:=by
 go_enter Tryz.func229,Tryz.ntmps229;go_wp2;go_ret;exact⟨bU h,rfl⟩

theorem pU (n m:Int)(w:World)(h:wrap64 (n - m)=n - m):
  Calls pG 230 #[I Y n,I Y m] w λe w'=>e=Rt (I Y (n - m))/\w'=w:=by
 go_enter Tryz.func230,Tryz.ntmps230;go_wp2;go_ret;exact⟨bU h,rfl⟩

theorem pX (n m:Int)(w:World)(h:wrap64 (n * m)=n * m):
  Calls pG 231 #[I Y n,I Y m] w λe w'=>e=Rt (I Y (n * m))/\w'=w:=by
 go_enter Tryz.func231,Tryz.ntmps231;go_wp2;go_ret;exact⟨bU h,rfl⟩

theorem wm {p:Prop}(h:p:=by
 go_enter Tryz.func195,Tryz.ntmps195;go_wp2_with (go_at_call 225;refine(gL _ _).mono ?_;rintro e w' ⟨rfl,rfl⟩);go_ret;exact⟨rfl,ai⟩):p:=h
theorem Nn (n:Bool)(lo hi:Int)(w:World)(h:¬ba lo):
  Calls pG 195 #[sv ⟨n,lo,hi⟩] w λe w'=>e=Rt (I Y 3)/\bl w w':=by
 have h1:decide (ba lo)=false:=cA;exact wm

theorem No (n:Bool)(lo hi:Int)(w:World)(h:ba lo)(h':¬ba hi):
  Calls pG 195 #[sv ⟨n,lo,hi⟩] w λe w'=>e=Rt (I Y 3)/\bl w w':=by
 have h1:decide (ba lo)=true:=cA;have h2:decide (ba hi)=false:=by simpa using h'
 exact wm

theorem nR {p:Prop}(h:p:=by
 go_enter Tryz.func195,Tryz.ntmps195;go_wp2_with (go_at_call 225;refine(gL _ _).mono ?_;rintro e w' ⟨rfl,rfl⟩);refine wp_region_quiet_below ag ag ?_;repeat (quiet_step (exact Calls.regrown_of (LK _)))
 refine wpQuiet_nil ?_;intro _ hw';obtain⟨⟨dq,osq⟩,hw''⟩:=hw';subst hw'';go_wp2;go_ret;exact⟨rfl,Below.trans ai ((below_regrown _ dq osq).mono ki)⟩):p:=h
theorem Mn (lo hi:Int)(w:World)(h:ba lo)(h':ba hi)(hz:(lo==0)=false):
  Calls pG 195 #[sv ⟨true,lo,hi⟩] w λe w'=>e=Rt (I Y 1)/\bl w w':=by
 have h1:decide (ba lo)=true:=cA;have h2:decide (ba hi)=true:=by simpa using h'
 have c0:=cell_regrown (w:=w.alloc (Cc #[Bb true,I Y lo,I Y hi] 89)) (a:=⟨w.heap.size,0,nO⟩) (v:=Bb true) aW;have c1:=cell_regrown (w:=w.alloc (Cc #[Bb true,I Y lo,I Y hi] 89)) (a:=⟨w.heap.size,1,nO⟩) (v:=I Y lo) aW;have c2:=cell_regrown (w:=w.alloc (Cc #[Bb true,I Y lo,I Y hi] 89)) (a:=⟨w.heap.size,2,nO⟩) (v:=I Y hi) aW;exact nR

theorem LX (hi:Int)(w:World)(h':ba hi)(hz:(hi==0)=false):
  Calls pG 195 #[sv ⟨true,0,hi⟩] w λe w'=>e=Rt (I Y 1)/\bl w w':=by
 have h1:decide (ba 0)=true:=aj;have h2:decide (ba hi)=true:=by simpa using h'
 have c0:=cell_regrown (w:=w.alloc (Cc #[Bb true,I Y 0,I Y hi] 89)) (a:=⟨w.heap.size,0,nO⟩) (v:=Bb true) aW;have c1:=cell_regrown (w:=w.alloc (Cc #[Bb true,I Y 0,I Y hi] 89)) (a:=⟨w.heap.size,1,nO⟩) (v:=I Y 0) aW;have c2:=cell_regrown (w:=w.alloc (Cc #[Bb true,I Y 0,I Y hi] 89)) (a:=⟨w.heap.size,2,nO⟩) (v:=I Y hi) aW;exact nR

theorem Ng (w:World):
  Calls pG 195 #[sv ⟨true,0,0⟩] w λe w'=>e=Rt (I Y 0)/\bl w w':=by
 have h1:decide (ba 0)=true:=aj;have c0:=cell_regrown (w:=w.alloc (Cc #[Bb true,I Y 0,I Y 0] 89)) (a:=⟨w.heap.size,0,nO⟩) (v:=Bb true) aW;have c1:=cell_regrown (w:=w.alloc (Cc #[Bb true,I Y 0,I Y 0] 89)) (a:=⟨w.heap.size,1,nO⟩) (v:=I Y 0) aW;have c2:=cell_regrown (w:=w.alloc (Cc #[Bb true,I Y 0,I Y 0] 89)) (a:=⟨w.heap.size,2,nO⟩) (v:=I Y 0) aW;exact nR

theorem uF {p:Prop}(h:p:=by
 have h1:decide (ba lo)=true:=cA;have h2:decide (ba hi)=true:=by simpa using h'
 go_enter Tryz.func195,Tryz.ntmps195;go_wp2_with (go_at_call 225;refine(gL _ _).mono ?_;rintro e w' ⟨rfl,rfl⟩)
 go_quiet (fail)
 go_wp2;go_ret;exact⟨rfl,below_drewN ai _⟩):p:=h
theorem MY (lo hi:Int)(w:World)(h:ba lo)(h':ba hi)(hz:hi < lo):
  Calls pG 195 #[sv ⟨false,lo,hi⟩] w λe w'=>e=Rt (I Y 4)/\bl w w':=uF

theorem Nr (lo hi:Int)(w:World)(h:ba lo)(h':ba hi)(hz:¬hi < lo):
  Calls pG 195 #[sv ⟨false,lo,hi⟩] w λe w'=>e=Rt (I Y 0)/\bl w w':=uF

theorem it (s:Sp)(w:World):
  Calls pG 195 #[sv s] w λe w'=>e=Rt (I Y (cH s))/\bl w w':=by
 obtain⟨n,lo,hi⟩:=s;unfold cH;by_cases h:ba lo
 ·by_cases h':ba hi
  ·rw[if_neg (by simp[h,h'])]
   cases n with
   |true=>
    by_cases hz:lo=0
    ·subst hz
     by_cases hz':hi=0
     ·subst hz'
      rw[if_neg ah,if_neg ah];exact Ng w
     ·rw[if_pos (by simp[hz'])]
      exact LX hi w h' (by simpa using hz')
    ·rw[if_pos (by simp[hz])]
     exact Mn lo hi w h h' eK
   |false=>
    rw[if_neg ah];by_cases hz:hi < lo
    ·rw[if_pos hz]
     exact MY lo hi w h h' hz
    ·rw[if_neg hz]
     exact Nr lo hi w h h' hz
  ·rw[if_pos (by simp[h'])]
   exact No n lo hi w h h'
 ·rw[if_pos (by simp[h])]
  exact Nn n lo hi w h
theorem tj {B:Nat}{n:Bool}{lo hi:Int}{w w1:World}(hb:Below B (w.alloc (Cc #[Bb n,I Y lo,I Y hi] 89)) w1)(hB:w.heap.size < B):w1.cell? ⟨w.heap.size,0,nO⟩=sO (Bb n)/\w1.cell? ⟨w.heap.size,1,nO⟩=sO (I Y lo)/\w1.cell? ⟨w.heap.size,2,nO⟩=sO (I Y hi):=by
 rw[hb.cell i7,hb.cell i7,hb.cell i7];simp[go_sem]

theorem oN {B:Nat}{n n':Bool}{lo hi lo' hi':Int}{w w1:World}(hb:Below B ((w.alloc (Cc #[Bb n,I Y lo,I Y hi] 89)).alloc (Cc #[Bb n',I Y lo',I Y hi'] 89)) w1)(hB:w.heap.size+1 < B):w1.cell? ⟨w.heap.size,0,nO⟩=sO (Bb n)/\w1.cell? ⟨w.heap.size,1,nO⟩=sO (I Y lo)/\w1.cell? ⟨w.heap.size,2,nO⟩=sO (I Y hi)/\w1.cell? ⟨w.heap.size+1,0,nO⟩=sO (Bb n')/\w1.cell? ⟨w.heap.size+1,1,nO⟩=sO (I Y lo')/\w1.cell? ⟨w.heap.size+1,2,nO⟩=sO (I Y hi'):=by
 rw[hb.cell an,hb.cell an,hb.cell an,hb.cell i7,hb.cell i7,hb.cell i7];simp[go_sem]

theorem E6 {a b:Bool}{v:Value}(h:a=b):Ending.returned (Tu #[Bb a,v])=Rt (Tu #[Bb b,v]):=by rw[h]

theorem Nm (s:Sp)(x:Int)(w:World)(h:cH s≠0):
  Calls pG 143 #[sv s,I Y x] w λe w'=>e=Rt (Tu #[Bb false,I Y (cH s)])/\bl w w':=by
 obtain⟨n,lo,hi⟩:=s;have h0:Below w.heap.size w (w.alloc (Cc #[Bb n,I Y lo,I Y hi] 89)):=ai;go_enter Tryz.func143,Tryz.ntmps143;go_wp2_with (go_at_call 195;refine(it ⟨n,lo,hi⟩ _).mono ?_;rintro e w1 ⟨rfl,hb1⟩)
 go_ret2
 exact⟨rfl,h0.trans (hb1.mono ah)⟩

theorem nM {p:Prop}(h:p:=by
 go_wp2
 go_ret2
 exact⟨E6 (by simp[Sp.has, *]),h0.trans (hb1.mono ah)⟩):p:=h
theorem Oz (s:Sp)(x:Int)(w:World)(h:cH s=0):
  Calls pG 143 #[sv s,I Y x] w λe w'=>e=Rt (Tu #[Bb (s.has x),I Y 0])/\bl w w':=by
 obtain⟨n,lo,hi⟩:=s;have h0:Below w.heap.size w (w.alloc (Cc #[Bb n,I Y lo,I Y hi] 89)):=ai;go_enter Tryz.func143,Tryz.ntmps143;go_wp2_with (go_at_call 195;fail);refine(it ⟨n,lo,hi⟩ _).mono ?_;rintro e w1 ⟨rfl,hb1⟩;rw[h];obtain⟨c0,c1,c2⟩:=tj hb1 ah;have s1:w.heap.size < w1.heap.size:=lA;cases n with
 |true=>
  exact nM
 |false=>
  by_cases hl:lo<=x
  ·have d1:decide (lo<=x)=true:=by simpa using hl
   exact nM
  ·have d1:decide (lo<=x)=false:=by simpa using hl
   exact nM

theorem Nb (s:Sp)(x:Int)(w:World):
  Calls pG 143 #[sv s,I Y x] w λe w'=>e=Rt (Tu #[Bb (decide (cH s=0)&&s.has x),I Y (cH s)])/\bl w w':=by
 by_cases h:cH s=0
 ·have:=Oz s x w h
  rw[h];simpa using this
 ·have:=Nm s x w h
  simpa[h] using this

theorem d9 (s t:Sp)(w:World):
  Calls pG 219 #[sv s,sv t] w λe w'=>e=Rt (I Y (bB s t))/\bl w w':=by
 have e0:bB s t=if cH s=0 then cH t else cH s:=rfl
 obtain⟨n,lo,hi⟩:=s;obtain⟨n',lo',hi'⟩:=t;by_cases h:cH ⟨n,lo,hi⟩=0
 ·rw[if_pos h] at e0
  rw[e0];go_enter Tryz.func219,Tryz.ntmps219;go_wp2_with (go_at_call 195;fail);refine(it ⟨n,lo,hi⟩ _).mono ?_;rintro e w1 ⟨rfl,hb1⟩;rw[h];obtain⟨c0,c1,c2,d0,d1,d2⟩:=oN hb1 ah;have s1:w.heap.size+1 < w1.heap.size:=lA;go_wp2_with (go_at_call 195;fail);refine(it ⟨n',lo',hi'⟩ _).mono ?_;rintro e w2 ⟨rfl,hb2⟩;go_wp2;go_ret;refine⟨rfl,?_⟩;exact(Below.trans ai (hb1.mono an)).trans (hb2.mono aa)
 ·rw[if_neg h] at e0
  rw[e0];go_enter Tryz.func219,Tryz.ntmps219;go_wp2_with (go_at_call 195;fail);refine(it ⟨n,lo,hi⟩ _).mono ?_;rintro e w1 ⟨rfl,hb1⟩;go_wp2;go_ret;refine⟨rfl,?_⟩;exact Below.trans ai (hb1.mono an)

theorem gB {n:Bool}{lo hi:Int}{t:Sp}(h:t=⟨n,lo,hi⟩):Ending.returned (Ag #[Bb n,I Y lo,I Y hi])=Rt (sv t):=by rw[h]

theorem BI (s t:Sp)(w:World):
  Calls pG 182 #[sv s,sv t] w λe w'=>e=Rt (sv (bj s t))/\bl w w':=by
 obtain⟨n,lo,hi⟩:=s;obtain⟨n',lo',hi'⟩:=t;cases n with
 |true=>
  go_enter Tryz.func182,Tryz.ntmps182;go_wp2
  go_returns
  exact⟨rfl,ai⟩
 |false=>
  cases n' with
  |true=>
   go_enter Tryz.func182,Tryz.ntmps182;go_wp2
   go_returns
   exact⟨rfl,ai⟩
  |false=>
   go_enter Tryz.func182,Tryz.ntmps182;go_wp2;all_goals go_returns
   all_goals exact⟨gB (by simp[bj]<;>omega),ai⟩

theorem Ir {lo hi lo' hi':Int}(h:min hi hi' < max lo lo'):aF ⟨false,lo,hi⟩ ⟨false,lo',hi'⟩=⟨true,0,0⟩:=by
 unfold aF;rw[if_pos (by simp only[Bool.false_or];exact decide_eq_true h)]
theorem Fb {lo hi lo' hi' a b:Int}(ha:a=max lo lo')(hb:b=min hi hi')(h:a<=b):aF ⟨false,lo,hi⟩ ⟨false,lo',hi'⟩=⟨false,a,b⟩:=by
 subst ha hb;unfold aF;rw[if_neg (by simp only[Bool.false_or,decide_eq_true_eq];omega)]

theorem Mo (s t:Sp)(w:World):
  Calls pG 197 #[sv s,sv t] w λe w'=>e=Rt (sv (aF s t))/\bl w w':=by
 obtain⟨n,lo,hi⟩:=s;obtain⟨n',lo',hi'⟩:=t;have h0:Below w.heap.size w (((w.alloc (Cc #[Bb n,I Y lo,I Y hi] 89)).alloc (Cc #[Bb n',I Y lo',I Y hi'] 89)).alloc (Cc #[Bb false,I Y 0,I Y 0] 89)):=ai;rcases Int.lt_or_le lo lo' with h1|h1<;>rcases Int.lt_or_le hi' hi with h2|h2<;>cases n<;>cases n'
 all_goals
  go_enter Tryz.func197,Tryz.ntmps197;go_wp2
  go_quiet (fail)
  go_wp2_with (go_at_call 226;refine(yx _).mono ?_;rintro e w1 ⟨rfl,rfl⟩)
 all_goals go_returns
 all_goals exact⟨gB (by first|rfl|exact meet_n _ _ _ _ _|exact Fb (by omega) (by omega) (by omega)|exact Ir (by omega)),rv⟩
def SpAt (w:World)(b:Nat)(s:Sp):Prop:=(w.cell? ⟨b,0,nO⟩=sO (Bb s.n)/\w.cell? ⟨b,1,nO⟩=sO (I Y s.lo)/\w.cell? ⟨b,2,nO⟩=sO (I Y s.hi))/\b < w.heap.size

theorem SpAt.below {B b:Nat}{s:Sp}{w w':World}(h:SpAt w b s)(hb:Below B w w')(hB:w.heap.size<=B):SpAt w' b s:=by
 obtain⟨⟨h0,h1,h2⟩,hz⟩:=h;refine⟨?_,lL hz hb.size⟩;rw[hb.cell an,hb.cell an,hb.cell an];exact⟨h0,h1,h2⟩
theorem SpAt.call {b:Nat}{s:Sp}{w w':World}(h:SpAt w b s)(hb:bl w w'):SpAt w' b s:=h.below hb (lR _)
theorem SpAt.alloc {b:Nat}{s:Sp}{w:World}(h:SpAt w b s)(o:Obj):SpAt (w.alloc o) b s:=h.below (Below.alloc (bR _ _) (lR _) o) (lR _)
theorem SpAt.drew {b:Nat}{s:Sp}{w:World}(h:SpAt w b s):SpAt w.drew b s:=h
theorem SpAt.new (w:World)(s:Sp):SpAt (w.alloc (Cc #[Bb s.n,I Y s.lo,I Y s.hi] 89)) w.heap.size s:=⟨aW,ah⟩
theorem ae {p:Prop}(h:p):Hid p:=h

theorem IntsAt.get {w:World}{ss:oA}{l:List Int}(h:IntsAt w ss l)(k:Nat)(hk:k < l.length):
  ∃b off,ss=sO ⟨b,off,nO⟩/\b < w.heap.size/\∀k (h:k < l.length),w.cell? ⟨b,off+k,nO⟩=sO (I Y l[k]):=by
 rcases h with rfl|h
 ·exact absurd hk ah
 ·exact h
theorem IntsAt.call {w w':World}{ss:oA}{l:List Int}(h:IntsAt w ss l)(hb:bl w w'):IntsAt w' ss l:=h.below hb (lR _)
theorem IntsAt.alloc {w:World}{ss:oA}{l:List Int}(h:IntsAt w ss l)(o:Obj):IntsAt (w.alloc o) ss l:=h.call (Below.alloc (bR _ _) (lR _) o)
theorem IntsAt.drew {w:World}{ss:oA}{l:List Int}(h:IntsAt w ss l):IntsAt w.drew ss l:=h
theorem IntsAt.drewN {w:World}{ss:oA}{l:List Int}(h:IntsAt w ss l)(n:Nat):IntsAt (w.drewN n) ss l:=h.call (below_drewN (bR _ _) n)
theorem CodeAt.get {w:World}{s:oA}{c:List Ins}(h:CodeAt w s c)(k:Nat)(hk:k < c.length):
  ∃b off,s=sO ⟨b,off,nO⟩/\b < w.heap.size/\∀k (h:k < c.length),InsAt w b (off+k * 6) c[k]:=by
 rcases h with rfl|h
 ·exact absurd hk ah
 ·exact h
theorem CodeAt.call {w w':World}{s:oA}{c:List Ins}(h:CodeAt w s c)(hb:bl w w'):CodeAt w' s c:=h.below hb (lR _)
theorem CodeAt.alloc {w:World}{s:oA}{c:List Ins}(h:CodeAt w s c)(o:Obj):CodeAt (w.alloc o) s c:=h.call (Below.alloc (bR _ _) (lR _) o)

abbrev gv (g:Gs)(ss:oA)(cap:Nat):Value:=Ag #[Bb g.n,Bb g.sp.n,I Y g.sp.lo,I Y g.sp.hi,Bb g.t,Bb g.f,U ss g.s.length cap]
abbrev pv (V F:Int)(s:oA)(c:List Ins)(cap:Nat):Value:=Ag #[I Y V,I Y F,U s c.length cap]

def GuAt (w:World)(b o:Nat)(g:Gs)(ss:oA)(cap:Nat):Prop:=
 (w.cell? ⟨b,o,nO⟩=sO (Bb g.n)/\w.cell? ⟨b,o+1,nO⟩=sO (Bb g.sp.n)/\w.cell? ⟨b,o+2,nO⟩=sO (I Y g.sp.lo)/\w.cell? ⟨b,o+3,nO⟩=sO (I Y g.sp.hi)/\w.cell? ⟨b,o+4,nO⟩=sO (Bb g.t)/\w.cell? ⟨b,o+5,nO⟩=sO (Bb g.f)/\w.cell? ⟨b,o+6,nO⟩=sO (U ss g.s.length cap))/\b < w.heap.size
theorem GuAt.below {B:Nat}{w w':World}{b o:Nat}{g:Gs}{ss:oA}{cap:Nat}(h:GuAt w b o g ss cap)(hb:Below B w w')(hB:w.heap.size<=B):GuAt w' b o g ss cap:=by
 obtain⟨⟨h0,h1,h2,h3,h4,h5,h6⟩,hz⟩:=h;refine⟨⟨?_,?_,?_,?_,?_,?_,?_⟩,lL hz hb.size⟩<;>rw[hb.cell an]<;>assumption
theorem GuAt.call {w w':World}{b o:Nat}{g:Gs}{ss:oA}{cap:Nat}(h:GuAt w b o g ss cap)(hb:bl w w'):GuAt w' b o g ss cap:=h.below hb (lR _)
theorem GuAt.alloc {w:World}{b o:Nat}{g:Gs}{ss:oA}{cap:Nat}(h:GuAt w b o g ss cap)(x:Obj):GuAt (w.alloc x) b o g ss cap:=h.call (Below.alloc (bR _ _) (lR _) x)
theorem GuAt.drew {w:World}{b o:Nat}{g:Gs}{ss:oA}{cap:Nat}(h:GuAt w b o g ss cap):GuAt w.drew b o g ss cap:=h
theorem GuAt.new (w:World)(g:Gs)(ss:oA)(cap:Nat):GuAt (w.alloc (Cc #[Bb g.n,Bb g.sp.n,I Y g.sp.lo,I Y g.sp.hi,Bb g.t,Bb g.f,U ss g.s.length cap] 91)) w.heap.size 0 g ss cap:=⟨aW,ah⟩

def PrAt (w:World)(b:Nat)(V F:Int)(s:oA)(c:List Ins)(cap:Nat):Prop:=
 (w.cell? ⟨b,0,nO⟩=sO (I Y V)/\w.cell? ⟨b,1,nO⟩=sO (I Y F)/\w.cell? ⟨b,2,nO⟩=sO (U s c.length cap))/\b < w.heap.size
theorem PrAt.below {B:Nat}{w w':World}{b:Nat}{V F:Int}{s:oA}{c:List Ins}{cap:Nat}(h:PrAt w b V F s c cap)(hb:Below B w w')(hB:w.heap.size<=B):PrAt w' b V F s c cap:=by
 obtain⟨⟨h0,h1,h2⟩,hz⟩:=h;refine⟨⟨?_,?_,?_⟩,lL hz hb.size⟩<;>rw[hb.cell an]<;>assumption
theorem PrAt.call {w w':World}{b:Nat}{V F:Int}{s:oA}{c:List Ins}{cap:Nat}(h:PrAt w b V F s c cap)(hb:bl w w'):PrAt w' b V F s c cap:=h.below hb (lR _)
theorem PrAt.alloc {w:World}{b:Nat}{V F:Int}{s:oA}{c:List Ins}{cap:Nat}(h:PrAt w b V F s c cap)(x:Obj):PrAt (w.alloc x) b V F s c cap:=h.call (Below.alloc (bR _ _) (lR _) x)
theorem PrAt.new (w:World)(V F:Int)(s:oA)(c:List Ins)(cap:Nat):PrAt (w.alloc (Cc #[I Y V,I Y F,U s c.length cap] 24)) w.heap.size V F s c cap:=⟨aW,ah⟩

def GsAt (w:World)(ls:oA)(L:List Gs):Prop:=
 ∀i (h:i < L.length),∃b off,ls=sO ⟨b,off,nO⟩/\∃ss cap,GuAt w b (off+i * 7) L[i] ss cap/\IntsAt w ss L[i].s/\L[i].s.length<=cap/\cap<=maxLen
theorem GsAt.below {B:Nat}{w w':World}{ls:oA}{L:List Gs}(h:GsAt w ls L)(hb:Below B w w')(hB:w.heap.size<=B):GsAt w' ls L:=by
 intro i hi;obtain⟨b,off,e,ss,cap,h1,h2,h3,h4⟩:=h i hi;exact⟨b,off,e,ss,cap,h1.below hb hB,h2.below hb hB,h3,h4⟩
theorem GsAt.call {w w':World}{ls:oA}{L:List Gs}(h:GsAt w ls L)(hb:bl w w'):GsAt w' ls L:=h.below hb (lR _)
theorem GsAt.alloc {w:World}{ls:oA}{L:List Gs}(h:GsAt w ls L)(o:Obj):GsAt (w.alloc o) ls L:=h.call (Below.alloc (bR _ _) (lR _) o)

def GhAt (w:World)(ls:oA)(L:List Gs):Prop:=
 ∀i (h:i < L.length),∃b off,ls=sO ⟨b,off,nO⟩/\∃ss cap,GuAt w b (off+i * 7) L[i] ss cap
theorem GhAt.below {B:Nat}{w w':World}{ls:oA}{L:List Gs}(h:GhAt w ls L)(hb:Below B w w')(hB:w.heap.size<=B):GhAt w' ls L:=by
 intro i hi;obtain⟨b,off,e,ss,cap,h1⟩:=h i hi;exact⟨b,off,e,ss,cap,h1.below hb hB⟩
theorem GhAt.call {w w':World}{ls:oA}{L:List Gs}(h:GhAt w ls L)(hb:bl w w'):GhAt w' ls L:=h.below hb (lR _)

theorem GsAt.new1 (w:World)(g:Gs)(ss:oA)(gc:Nat)(hs:IntsAt w ss g.s)(h1:g.s.length<=gc)(h2:gc<=maxLen):
  GsAt (w.alloc (Cc #[Bb g.n,Bb g.sp.n,I Y g.sp.lo,I Y g.sp.hi,Bb g.t,Bb g.f,U ss g.s.length gc] 91)) (sO ⟨w.heap.size,0,nO⟩) [g]:=by
 intro i hi;obtain rfl:i=0:=ru;exact⟨w.heap.size,0,rfl,ss,gc,GuAt.new w g ss gc,hs.alloc _,h1,h2⟩

theorem GhAt.new1 (w:World)(g:Gs)(ss:oA)(gc:Nat):
  GhAt (w.alloc (Cc #[Bb g.n,Bb g.sp.n,I Y g.sp.lo,I Y g.sp.hi,Bb g.t,Bb g.f,U ss g.s.length gc] 91)) (sO ⟨w.heap.size,0,nO⟩) [g]:=by
 intro i hi;obtain rfl:i=0:=ru;exact⟨w.heap.size,0,rfl,ss,gc,GuAt.new w g ss gc⟩

abbrev oS (w:World)(g:Gs)(ss:oA)(gc:Nat)(h:Gs)(st:oA)(hc:Nat):World:=
 w.alloc (Cc #[Bb g.n,Bb g.sp.n,I Y g.sp.lo,I Y g.sp.hi,Bb g.t,Bb g.f,U ss g.s.length gc,Bb h.n,Bb h.sp.n,I Y h.sp.lo,I Y h.sp.hi,Bb h.t,Bb h.f,U st h.s.length hc] 91)
theorem GuAt.two0 (w:World)(g:Gs)(ss:oA)(gc:Nat)(h:Gs)(st:oA)(hc:Nat):GuAt (oS w g ss gc h st hc) w.heap.size 0 g ss gc:=⟨aW,ah⟩
theorem GuAt.two1 (w:World)(g:Gs)(ss:oA)(gc:Nat)(h:Gs)(st:oA)(hc:Nat):GuAt (oS w g ss gc h st hc) w.heap.size 7 h st hc:=⟨aW,ah⟩
theorem GsAt.new2 (w:World)(g:Gs)(ss:oA)(gc:Nat)(h:Gs)(st:oA)(hc:Nat)(hs:IntsAt w ss g.s)(h1:g.s.length<=gc)(h2:gc<=maxLen)(ht:IntsAt w st h.s)(h3:h.s.length<=hc)(h4:hc<=maxLen):
  GsAt (oS w g ss gc h st hc) (sO ⟨w.heap.size,0,nO⟩) [g,h]:=by
 intro i hi;by_cases e:i=0
 ·subst e;exact⟨w.heap.size,0,rfl,ss,gc,GuAt.two0 w g ss gc h st hc,hs.alloc _,h1,h2⟩
 ·obtain rfl:i=1:=by simp at hi;omega
  exact⟨w.heap.size,0,rfl,st,hc,GuAt.two1 w g ss gc h st hc,ht.alloc _,h3,h4⟩
theorem GhAt.new2 (w:World)(g:Gs)(ss:oA)(gc:Nat)(h:Gs)(st:oA)(hc:Nat):GhAt (oS w g ss gc h st hc) (sO ⟨w.heap.size,0,nO⟩) [g,h]:=by
 intro i hi;by_cases e:i=0
 ·subst e;exact⟨w.heap.size,0,rfl,ss,gc,GuAt.two0 w g ss gc h st hc⟩
 ·obtain rfl:i=1:=by simp at hi;omega
  exact⟨w.heap.size,0,rfl,st,hc,GuAt.two1 w g ss gc h st hc⟩
end
section
structure Pic where
 none:Bool
 vars:List Gs
 flds:List (List Gs)

def nonePic:Pic:=⟨true,[],[]⟩
def fi:Pic:=⟨false,[],[]⟩
def bT (x:Pic):List Gs:=x.vars++x.flds.flatten
def dI (g h:Gs):Bool:=g.n==h.n&&(decide (g.sp=h.sp)&&(g.t==h.t&&(g.f==h.f&&decide (g.s=h.s))))
theorem sameGs_iff {g h:Gs}:dI g h=true↔g=h:=by
 obtain⟨a,b,c,d,e⟩:=g;obtain⟨a',b',c',d',e'⟩:=h;simp only[dI,q4,beq_iff_eq,decide_eq_true_eq,Gs.mk.injEq]
def c8 (g:Gs):Bool:= !dI g noneG
def bN (V F:Int)(c:List Ins)(x:Pic):Bool:=
 if x.none then decide (x.vars.length=0)&&decide (x.flds.length=0)
 else decide ((x.vars.length:Int)=V)&&(decide (x.flds.length=c.length)&& !(x.flds.any λr=> !decide ((r.length:Int)=F)))
def dM (c:List Ins)(p:Gs->Bool):Nat->List (List Gs)->Bool
 |_,[]=>false
 |i,r::l=>(!cn c i&&r.any p)||dM c p (i+1) l
def aN (V F:Int)(c:List Ins)(x:Pic):Int:=
 if bN V F c x=false then 1 else if cl c (bT x)≠0 then cl c (bT x) else if dM c (λg=> !ap g) 0 x.flds then 4 else 0
def cY (V F:Int)(c:List Ins):List Pic->Int
 |[]=>0
 |x::l=>if aN V F c x=0 then cY V F c l else aN V F c x
def aS (V F:Int)(c:List Ins)(l:List Pic):Int:=if au V F c=0 then cY V F c l else au V F c

def da:Gs:=⟨true,⟨true,0,0⟩,false,false,[]⟩
def bI (V F:Int)(c:List Ins):Pic:=⟨false,j1 V.toNat da,j1 c.length (j1 F.toNat noneG)⟩
def aQ (j:Gs->Gs->Gs)(a b:List Gs):List Gs:=q8 j a b
def aJ (j:Gs->Gs->Gs)(x y:Pic):Pic:=if x.none then y else if y.none then x else⟨false,aQ j x.vars y.vars,q8 (aQ j) x.flds y.flds⟩
def fI (a b:List Gs):Bool:=(q8 dn a b).all id
def bM (x y:Pic):Bool:=x.none||(!y.none&&(fI x.vars y.vars&&(q8 fI x.flds y.flds).all id))

theorem pK {c:List Ins}:∀{l:List Gs},cl c l=0->∀g∈l,aE c g=0
 |[],_,g,hg=>by simp at hg
 |a::r,h,g,hg=>by
  unfold cl at h;split at h
  ·rename_i h1
   rcases q9.1 hg with rfl|hg
   ·exact h1
   ·exact pK h g hg
  ·contradiction
theorem KD {c:List Ins}{g:Gs}(h:aE c g=0):c8 g= !ap g:=by
 have hs:cH g.sp=0:=by
  unfold aE at h;split at h
  ·exact h
  ·rename_i h1;simpa using h1
 have hok:=ckSp_ok.1 hs;obtain⟨n,⟨sn,lo,hi⟩,t,f,s⟩:=g;have h3:=hok.2.2.1;simp only at h3;unfold c8 ap aO dI noneG;cases sn with
 |false=>simp
 |true=>
  obtain⟨e1,e2⟩:=h3 rfl;subst e1 e2;cases n<;>cases t<;>cases f<;>cases s<;>simp
theorem oJ {c:List Ins}{p q:Gs->Bool}:∀{l:List (List Gs)} {i:Nat},(∀r∈l,∀g∈r,p g=q g)->dM c p i l=dM c q i l
 |[],_,_=>rfl
 |r::l,i,h=>by
  unfold dM;rw[oJ (l:=l) λr' hr'=>h r' (J2 _ hr')];have:r.any p=r.any q:=by
   have h1:=h r J3;clear h;induction r with
   |nil=>rfl
   |cons a r ih=>
    simp only[Q6];rw[h1 a J3,ih λg hg=>h1 g (J2 _ hg)]
  rw[this]
theorem FY (V F:Int)(c:List Ins)(x:Pic):aN V F c x=if bN V F c x=false then 1 else if cl c (bT x)≠0 then cl c (bT x) else if dM c c8 0 x.flds then 4 else 0:=by
 unfold aN;by_cases h1:bN V F c x=false
 ·rw[if_pos h1,if_pos h1]
 rw[if_neg h1,if_neg h1];by_cases h2:cl c (bT x)≠0
 ·rw[if_pos h2,if_pos h2]
 rw[if_neg h2,if_neg h2];have h3:cl c (bT x)=0:=by simpa using h2
 rw[oJ (p:=c8) (q:=λg=> !ap g) λr hr g hg=>KD (pK h3 g ?_)];unfold bT;rw[j7,List.mem_flatten];exact .inr ⟨r,hr,hg⟩
end
section
open Go.RowKit
def IntsIn (S:Nat->Prop)(w:World)(ss:oA)(l:List Int):Prop:=
 l=[]\/∃b off,ss=sO ⟨b,off,nO⟩/\S b/\b < w.heap.size/\∀k (h:k < l.length),w.cell? ⟨b,off+k,nO⟩=sO (I Y l[k])
section
variable {S S':Nat->Prop} {w w':World} {ss:oA} {l:List Int}
theorem IntsIn.at (h:IntsIn S w ss l):IntsAt w ss l:=by
 rcases h with h|⟨b,off,e,-,hb,hc⟩
 ·exact .inl h
 ·exact .inr ⟨b,off,e,hb,hc⟩
theorem IntsAt.inAll (h:IntsAt w ss l):IntsIn (λb=>b < w.heap.size) w ss l:=by
 rcases h with h|⟨b,off,e,hb,hc⟩
 ·exact .inl h
 ·exact .inr ⟨b,off,e,hb,hb,hc⟩
theorem IntsIn.same (h:IntsIn S w ss l)(hs:∀b,S b->b < w.heap.size->w'.heap[b]? =w.heap[b]?)(hz:w.heap.size<=w'.heap.size):IntsIn S w' ss l:=by
 rcases h with h|⟨b,off,e,hS,hb,hc⟩
 ·exact .inl h
 ·exact .inr ⟨b,off,e,hS,lL hb hz,λk hk=>by rw[q1 (a:=⟨b,off+k,nO⟩) (hs b hS hb)];exact hc k hk⟩
theorem IntsIn.mono (h:IntsIn S w ss l)(hs:∀b,S b->b < w.heap.size->S' b):IntsIn S' w ss l:=by
 rcases h with h|⟨b,off,e,hS,hb,hc⟩
 ·exact .inl h
 ·exact .inr ⟨b,off,e,hs b hS hb,hb,hc⟩
theorem IntsIn.call (h:IntsIn S w ss l)(hb:bl w w'):IntsIn S w' ss l:=h.same (λb _ hlt=>hb.block b hlt) hb.size
end

theorem aP {w:World}{B:Nat}{e:TypeId}{z:Nat}{v:Value}{n:Nat}{xs:List Value}(h:w.ownsRow B e z v n xs){k:Nat}(hk:v.ownBlock=sO k):k < w.heap.size/\B<=k:=by
 rcases h.2 with⟨rfl,_⟩|⟨g,cap,cur,rfl,hb,hg,_⟩
 ·cases hk
 ·cases hk
  exact⟨(j3.1 hg).1,hb⟩
theorem dA {w w':World}{B:Nat}{e:TypeId}{z:Nat}{v:Value}{n:Nat}{xs:List Value}(h:w.ownsRow B e z v n xs)(hb:∀k,v.ownBlock=sO k->w'.heap[k]? =w.heap[k]?):w'.ownsRow B e z v n xs:=by
 obtain⟨hl,h2⟩:=h;rcases h2 with h2|⟨g,cap,cur,rfl,h1,hg,hr⟩
 ·exact⟨hl,.inl h2⟩
 ·exact⟨hl,.inr ⟨g,cap,cur,rfl,h1,by rw[hb g rfl];exact hg,hr⟩⟩
theorem uQ {w w':World}{B:Nat}{e:TypeId}{z:Nat}{v:Value}{n:Nat}{xs:List Value}(h:w.ownsRow B e z v n xs)(hb:bl w w'):w'.ownsRow B e z v n xs:=dA h λk hk=>hb.block k (aP h hk).1

structure Gc where
 g:Gs
 ss:oA
 cap:Nat
def bt (x:Gc):List Value:=[Bb x.g.n,Bb x.g.sp.n,I Y x.g.sp.lo,I Y x.g.sp.hi,Bb x.g.t,Bb x.g.f,U x.ss x.g.s.length x.cap]
def aR (l:List Gc):List Value:=l.flatMap bt
def bV (S:Nat->Prop)(w:World)(x:Gc):Prop:=IntsIn S w x.ss x.g.s/\x.g.s.length<=x.cap/\x.cap<=maxLen
theorem eJ (x:Gc):(bt x).length=7:=rfl
theorem lH (l:List Gc):(aR l).length=l.length * 7:=by
 induction l with
 |nil=>rfl
 |cons x r ih=>
  have:aR (x::r)=bt x++aR r:=rfl;rw[this,j8,ih,eJ,x5];omega
theorem iM (a b:List Gc):aR (a++b)=aR a++aR b:=by simp[aR]
theorem dD (x:Gc):∀u∈bt x,u.oneCell'=true:=by
 intro u hu;simp only[bt,q9,List.not_mem_nil,or_false] at hu;rcases hu with rfl|rfl|rfl|rfl|rfl|rfl|rfl<;>rfl
theorem eT:∀(l:List Gc) (i:Nat) (h:i < l.length) (j:Nat) (_:j < 7),(aR l)[i * 7+j]? =(bt l[i])[j]?
 |[],i,h,_,_=>absurd h ah
 |x::r,0,_,j,hj=>by
  have e:aR (x::r)=bt x++aR r:=rfl;rw[e,J4,j4,Q7 (by rw[eJ];exact hj)];rfl
 |x::r,i+1,h,j,hj=>by
  have e:aR (x::r)=bt x++aR r:=rfl;rw[e,List.getElem?_append_right (by rw[eJ];omega),eJ];have:(i+1) * 7+j - 7=i * 7+j:=aa;rw[this,eT r i cA j hj];rfl

def GRow (w:World)(B:Nat)(v:Value)(l:List Gc):Prop:=w.ownsRow B 91 7 v l.length (aR l)/\∀x∈l,bV (λb=>v.ownBlock≠sO b) w x
section
variable {w w':World} {B:Nat} {v v':Value} {l:List Gc}
theorem GRow.at (h:GRow w B v l):∃rs rc,v=U rs l.length rc/\l.length<=rc/\rc<=maxLen/\GsAt w rs (l.map Gc.g)/\∀a,rs=sO a->B<=a.block:=by
 obtain⟨h1,h2⟩:=h;rcases h1.2 with⟨rfl,h0⟩|⟨g,cap,cur,rfl,hb,hg,k1,k2,k3,k4⟩
 ·have:l=[]:=J5.1 h0
  subst this;exact⟨nO,0,rfl,lR _,cS,λi hi=>absurd hi ah,λa ha=>gU⟩
 ·refine⟨sO ⟨g,0,nO⟩,cap,rfl,k1,k2,λi hi=> ?_,λa ha=>by cases ha;exact hb⟩
  have hil:i < l.length:=fa;have e:(l.map Gc.g)[i]=l[i].g:=ah;rw[e];have hx:=h2 l[i] (gM hil);refine⟨g,0,rfl,l[i].ss,l[i].cap,⟨?_,(j3.1 hg).1⟩,hx.1.at,hx.2.1,hx.2.2⟩;have hc:∀j,j < 7->w.cell? ⟨g,i * 7+j,nO⟩=(bt l[i])[j]? :=λj hj=>by
   have:=h1.cellAt (i * 7+j) aa;rw[<-eT l i hil j hj];exact this
  simp only[j4];exact⟨hc 0 aa,hc 1 aa,hc 2 aa,hc 3 aa,hc 4 aa,hc 5 aa,hc 6 aa⟩
end

def RowsAt (w:World)(fs:oA)(L:List (List Gs)):Prop:=
 ∀i (h:i < L.length),∃b off,fs=sO ⟨b,off,nO⟩/\b < w.heap.size/\∃rs rc,w.cell? ⟨b,off+i,nO⟩=sO (U rs L[i].length rc)/\L[i].length<=rc/\rc<=maxLen/\GsAt w rs L[i]
theorem RowsAt.below {B:Nat}{w w':World}{fs:oA}{L:List (List Gs)}(h:RowsAt w fs L)(hb:Below B w w')(hB:w.heap.size<=B):RowsAt w' fs L:=by
 intro i hi;obtain⟨b,off,e,hz,rs,rc,h1,h2,h3,h4⟩:=h i hi;exact⟨b,off,e,lL hz hb.size,rs,rc,by rw[hb.cell (by simp;omega)];exact h1,h2,h3,h4.below hb hB⟩
def PicAt (w:World)(x:Pic)(vs fs:oA):Prop:=GsAt w vs x.vars/\RowsAt w fs x.flds
theorem PicAt.below {B:Nat}{w w':World}{x:Pic}{vs fs:oA}(h:PicAt w x vs fs)(hb:Below B w w')(hB:w.heap.size<=B):PicAt w' x vs fs:=⟨h.1.below hb hB,h.2.below hb hB⟩
theorem PicAt.call {w w':World}{x:Pic}{vs fs:oA}(h:PicAt w x vs fs)(hb:bl w w'):PicAt w' x vs fs:=h.below hb (lR _)
abbrev xv (x:Pic)(vs:oA)(vc:Nat)(fs:oA)(fc:Nat):Value:=Ag #[Bb x.none,U vs x.vars.length vc,U fs x.flds.length fc]
def Oo (x:Pic):Prop:=x.vars.length<=maxLen/\x.flds.length<=maxLen
def XAt (w:World)(b:Nat)(x:Pic)(vs:oA)(vc:Nat)(fs:oA)(fc:Nat):Prop:=
 (w.cell? ⟨b,0,nO⟩=sO (Bb x.none)/\w.cell? ⟨b,1,nO⟩=sO (U vs x.vars.length vc)/\w.cell? ⟨b,2,nO⟩=sO (U fs x.flds.length fc))/\b < w.heap.size/\∀j,w.frozen? ⟨b,j,nO⟩=false
section
variable {w w':World} {b:Nat} {x:Pic} {vs fs:oA} {vc fc:Nat}
theorem uL {p:Prop}(h:p:=by
 have hc:∀j,w'.cell? ⟨b,j,none⟩=w.cell? ⟨b,j,none⟩:=λj=>World.cell?_of_block (a:=⟨b,j,none⟩) hb;have hf:∀j,w'.frozen? ⟨b,j,none⟩=w.frozen? ⟨b,j,none⟩:=λj=>World.frozen?_of_block (a:=⟨b,j,none⟩) hb;obtain⟨⟨h0,h1,h2⟩,h6,h7⟩:=h;exact⟨⟨(hc _).trans h0,(hc _).trans h1,(hc _).trans h2⟩,Nat.lt_of_lt_of_le h6 hz,λj=>(hf j).trans (h7 j)⟩):p:=h
theorem XAt.same (h:XAt w b x vs vc fs fc)(hb:w'.heap[b]? =w.heap[b]?)(hz:w.heap.size<=w'.heap.size):XAt w' b x vs vc fs fc:=uL
theorem XAt.call (h:XAt w b x vs vc fs fc)(hb:bl w w'):XAt w' b x vs vc fs fc:=h.same (hb.block b h.2.1) hb.size
theorem XAt.new (w:World)(x:Pic)(vs:oA)(vc:Nat)(fs:oA)(fc:Nat):XAt (w.alloc (Cc #[Bb x.none,U vs x.vars.length vc,U fs x.flds.length fc] 28)) w.heap.size x vs vc fs fc:=by
 refine⟨⟨?_,?_,?_⟩,ah,λj=> ?_⟩<;>simp[go_sem]
end
section
variable {w w':World} {B:Nat} {v v':Value} {l l2:List Gc}
theorem GsAt.gcs {ls:oA}{L:List Gs}(h:GsAt w ls L):∃l:List Gc,l.map Gc.g=L/\(∀ad,ls=sO ad->∀j u,(aR l)[j]? =sO u->w.cell? (ad.add j)=sO u)/\(ls=none->l=[])/\∀y∈l,bV (λb=>b < w.heap.size) w y:=by
 have h1:∀i,i < L.length->∃x:Gc,∃b off,ls=sO ⟨b,off,nO⟩/\(x.g=L.getD i noneG)/\(∀j,j < 7->w.cell? ⟨b,off+i * 7+j,nO⟩=(bt x)[j]?)/\bV (λb=>b < w.heap.size) w x:=by
  intro i hi;obtain⟨b,off,e,ss,cap,⟨⟨c0,c1,c2,c3,c4,c5,c6⟩,hz⟩,hI,k1,k2⟩:=h i hi;have eg:L.getD i noneG=L[i]:=by simp[q7,hi]
  refine⟨⟨L[i],ss,cap⟩,b,off,e,eg.symm,λj hj=> ?_,hI.inAll,k1,k2⟩
  match j,hj with
  |0,_=>exact c0
  |1,_=>exact c1
  |2,_=>exact c2
  |3,_=>exact c3
  |4,_=>exact c4
  |5,_=>exact c5
  |6,_=>exact c6
  |j+7,hj=>omega
 have h2:∃f:Nat->Gc,∀i,i < L.length->∃b off,ls=sO ⟨b,off,nO⟩/\((f i).g=L.getD i noneG)/\(∀j,j < 7->w.cell? ⟨b,off+i * 7+j,nO⟩=(bt (f i))[j]?)/\bV (λb=>b < w.heap.size) w (f i):=by
  refine⟨λi=>if hi:i < L.length then Classical.choose (h1 i hi) else⟨noneG,nO,0⟩,λi hi=> ?_⟩;simp only[dif_pos hi];exact Classical.choose_spec (h1 i hi)
 obtain⟨f,hf⟩:=h2;refine⟨(J1 L.length).map f,?_,?_,?_,?_⟩
 ·refine List.ext_getElem ah λi hi1 hi2=> ?_
  obtain⟨_,_,_,e,_⟩:=hf i hi2;simp only[z3,List.getElem_range];rw[e];simp[q7,hi2]
 ·intro ad had j u hju
  have hj:j < L.length * 7:=by
   have:=(J6.1 hju).1;rw[lH] at this;simpa using this
  have e1:j=j / 7 * 7+j % 7:=aa;have hi:j / 7 < L.length:=aa;rw[e1] at hju;rw[eT _ (j / 7) fa (j % 7) aa] at hju;obtain⟨b,off,e,_,hc,_⟩:=hf (j / 7) hi;rw[had] at e;cases e;have:=hc (j % 7) aa;rw[Addr.add_lit];have e2:off+j=off+j / 7 * 7+j % 7:=aa;rw[e2,this];simpa using hju
 ·intro h0
  cases L with
  |nil=>rfl
  |cons a r=>
   obtain⟨_,_,e,_⟩:=hf 0 ah;rw[h0] at e;cases e
 ·intro y hy
  rw[J7] at hy;obtain⟨i,hi,rfl⟩:=hy;obtain⟨_,_,_,_,_,hx⟩:=hf i fa;exact hx

def CRow (w:World)(B:Nat)(v:Value)(l:List Gc):Prop:=w.ownsRow B 91 7 v l.length (aR l)/\∀x∈l,bV (λb=>b < B) w x
theorem CRow.grown (h:CRow w B v l)(hx:∀x∈l2,bV (λb=>b < B) w x)(hr:w'.ownsRow B 91 7 v' (l.length+l2.length) (aR l++aR l2))(hg:w.grownBy w' v.ownBlock):CRow w' B v' (l++l2):=by
 refine⟨by rw[j8,iM];exact hr,λy hy=> ?_⟩;have hy':bV (λb=>b < B) w y:=by
  rcases j7.1 hy with hy|hy
  ·exact h.2 y hy
  ·exact hx y hy
 exact⟨hy'.1.same (λb hS hb=>hg.block b hb (λe=>by have:=(aP h.1 e.symm).2;omega)) hg.size,hy'.2⟩
theorem CRow.at (h:CRow w B v l):∃rs rc,v=U rs l.length rc/\l.length<=rc/\rc<=maxLen/\GsAt w rs (l.map Gc.g)/\∀a,rs=sO a->B<=a.block:=by
 refine GRow.at (B:=B) ⟨h.1,λx hx=>⟨(h.2 x hx).1.mono λb hb _ e=> ?_,(h.2 x hx).2⟩⟩;have:=(aP h.1 e).2;omega
end
theorem Cp (l:List Gc):∀u∈aR l,u.oneCell'=true:=by
 intro u hu;unfold aR at hu;rw[Q8] at hu;obtain⟨x,-,hx⟩:=hu;exact dD x u hx
theorem GsAt.gcsTo {w w':World}{ls:oA}{L:List Gs}(h:GsAt w ls L)(hb:bl w w'):∃l:List Gc,l.map Gc.g=L/\(∀ad,ls=sO ad->∀j u,(aR l)[j]? =sO u->w'.cell? (ad.add j)=sO u)/\(ls=none->L.length=0)/\(∀y∈l,bV (λb=>b < w.heap.size) w' y)/\(aR l).length=L.length * 7:=by
 obtain⟨l,e,h1,h2,h3⟩:=h.gcs;refine⟨l,e,λad ha j u hj=> ?_,λh0=>by rw[<-e,h2 h0];rfl,λy hy=>⟨(h3 y hy).1.call hb,(h3 y hy).2⟩,by rw[lH,<-e,List.length_map]⟩;have:=h1 ad ha j u hj;rw[hb.cell (Q5 w _ this)];exact this
theorem BE (c:List Ins)(p:Gs->Bool)(L:List (List Gs))(k:Nat)(h:k < L.length):dM c p k (L.drop k)=((!cn c k&&L[k].any p)||dM c p (k+1) (L.drop (k+1))):=by
 rw[z5 h];rfl
theorem mB {α:Type}(l:List α)(p:α->Bool)(k:Nat)(h:k < l.length):(l.drop k).any p=(p l[k]||(l.drop (k+1)).any p):=by
 rw[z5 h];rfl
theorem Tryz.info_guess:(Tryz.prog.info? 91).map (λi=>(i.zero,i.size,i.bytes))=sO (sO (Ag #[Bb false,Bb false,I Y 0,I Y 0,Bb false,Bb false,U nO 0 0]),7,64):=ag
theorem nV {α:Type}{n:Nat}:∀{L:List (List α)},(∀r∈L,r.length=n)->L.flatten.length=L.length * n
 |[],_=>ah
 |r::L,h=>by
  rw[List.flatten_cons,j8,h r J3,nV λr' hr'=>h r' (J2 _ hr'),x5,Nat.add_mul];omega
theorem pP {α:Type}(L:List (List α))(k:Nat)(h:k < L.length):(L.take (k+1)).flatten=(L.take k).flatten++L[k]:=by
 rw[List.take_succ_eq_append_getElem h,List.flatten_append];simp
def GsIn (S:Nat->Prop)(w:World)(ls:oA)(L:List Gs):Prop:=
 ∀i (h:i < L.length),∃b off,ls=sO ⟨b,off,nO⟩/\S b/\∃ss cap,GuAt w b (off+i * 7) L[i] ss cap/\IntsIn S w ss L[i].s/\L[i].s.length<=cap/\cap<=maxLen
section
variable {S S':Nat->Prop} {w w':World} {ls:oA} {L:List Gs} {B z:Nat} {v v':Value} {l:List Gc}
theorem GsIn.at (h:GsIn S w ls L):GsAt w ls L:=by
 intro i hi;obtain⟨b,off,e,_,ss,cap,h1,h2,h3⟩:=h i hi;exact⟨b,off,e,ss,cap,h1,h2.at,h3⟩
theorem GsAt.inAll (h:GsAt w ls L):GsIn (λb=>b < w.heap.size) w ls L:=by
 intro i hi;obtain⟨b,off,e,ss,cap,h1,h2,h3⟩:=h i hi;exact⟨b,off,e,h1.2,ss,cap,h1,h2.inAll,h3⟩
theorem GuAt.same {b o:Nat}{g:Gs}{ss:oA}{cap:Nat}(h:GuAt w b o g ss cap)(hb:w'.heap[b]? =w.heap[b]?)(hz:w.heap.size<=w'.heap.size):GuAt w' b o g ss cap:=by
 obtain⟨⟨h0,h1,h2,h3,h4,h5,h6⟩,h7⟩:=h;have hc:∀j,w'.cell? ⟨b,j,nO⟩=w.cell? ⟨b,j,nO⟩:=λj=>q1 (a:=⟨b,j,nO⟩) hb;exact⟨⟨(hc _).trans h0,(hc _).trans h1,(hc _).trans h2,(hc _).trans h3,(hc _).trans h4,(hc _).trans h5,(hc _).trans h6⟩,lL h7 hz⟩
theorem GsIn.same (h:GsIn S w ls L)(hs:∀b,S b->b < w.heap.size->w'.heap[b]? =w.heap[b]?)(hz:w.heap.size<=w'.heap.size):GsIn S w' ls L:=by
 intro i hi;obtain⟨b,off,e,hS,ss,cap,h1,h2,h3⟩:=h i hi;exact⟨b,off,e,hS,ss,cap,h1.same (hs b hS h1.2) hz,h2.same hs hz,h3⟩
theorem GsIn.mono (h:GsIn S w ls L)(hs:∀b,S b->b < w.heap.size->S' b):GsIn S' w ls L:=by
 intro i hi;obtain⟨b,off,e,hS,ss,cap,h1,h2,h3⟩:=h i hi;exact⟨b,off,e,hs b hS h1.2,ss,cap,h1,h2.mono hs,h3⟩
theorem GsIn.call (h:GsIn S w ls L)(hb:bl w w'):GsIn S w' ls L:=h.same (λb _ hlt=>hb.block b hlt) hb.size

def SRow (w:World)(B:Nat)(v:Value)(l:List Gc):Prop:=w.ownsRow B 91 7 v l.length (aR l)/\∀x∈l,bV (λb=>B<=b/\v.ownBlock≠sO b) w x
theorem SRow.nil (w:World)(B:Nat):SRow w B (U nO 0 0) []:=⟨⟨rfl,.inl ⟨rfl,rfl⟩⟩,λx hx=>by simp at hx⟩
theorem SRow.call (h:SRow w B v l)(hb:bl w w'):SRow w' B v l:=⟨uQ h.1 hb,λx hx=>⟨(h.2 x hx).1.call hb,(h.2 x hx).2⟩⟩
theorem SRow.old (h:SRow w B v l)(hs:∀b,B<=b->w'.heap[b]? =w.heap[b]?)(hz:w.heap.size<=w'.heap.size):SRow w' B v l:=⟨dA h.1 λk hk=>hs k (aP h.1 hk).2,λx hx=>⟨(h.2 x hx).1.same (λb hS _=>hs b hS.1) hz,(h.2 x hx).2⟩⟩
theorem vu {p:Prop}(h:p:=by
 refine⟨(hm.same (λb hS hb=>hg.block b hb (λe=>hS.1.2 e.symm)) hg.size).mono λb hb _=>⟨hb.1.1,?_⟩,hy'.2⟩;rcases hv with hv|hv
 ·rw[hv];exact hb.1.2
 ·rw[hv]
  intro e;cases e;exact absurd hb.2 (Nat.lt_irrefl _)):p:=h
theorem SRow.grown (h:SRow w B v l){x:Gc}(hx:bV (λb=>B<=b/\v.ownBlock≠sO b) w x)(hr:w'.ownsRow B 91 7 v' (l.length+1) (aR l++bt x))(hg:w.grownBy w' v.ownBlock)(hv:v'.ownBlock=v.ownBlock\/v'.ownBlock=sO w.heap.size):SRow w' B v' (l++[x]):=by
 refine⟨by rw[j8,iM];simpa[aR] using hr,λy hy=> ?_⟩;have hy':bV (λb=>B<=b/\v.ownBlock≠sO b) w y:=by
  rcases j7.1 hy with hy|hy
  ·exact h.2 y hy
  ·rw[j6.1 hy];exact hx
 have hm:IntsIn (λb=>(B<=b/\v.ownBlock≠sO b)/\b < w.heap.size) w y.ss y.g.s:=hy'.1.mono λb h1 h2=>⟨h1,h2⟩;exact vu
theorem SRow.in (h:SRow w B v l):∃rs rc,v=U rs l.length rc/\l.length<=rc/\rc<=maxLen/\GsIn (λb=>B<=b) w rs (l.map Gc.g):=by
 obtain⟨h1,h2⟩:=h;rcases h1.2 with⟨rfl,h0⟩|⟨g,cap,cur,rfl,hb,hg,k1,k2,k3,k4⟩
 ·have:l=[]:=J5.1 h0
  subst this;exact⟨nO,0,rfl,lR _,cS,λi hi=>absurd hi ah⟩
 ·refine⟨sO ⟨g,0,nO⟩,cap,rfl,k1,k2,λi hi=> ?_⟩
  have hil:i < l.length:=fa;have e:(l.map Gc.g)[i]=l[i].g:=ah;rw[e];have hx:=h2 l[i] (gM hil);refine⟨g,0,rfl,hb,l[i].ss,l[i].cap,⟨?_,(j3.1 hg).1⟩,hx.1.mono λb h _=>h.1,hx.2.1,hx.2.2⟩;have hc:∀j,j < 7->w.cell? ⟨g,i * 7+j,nO⟩=(bt l[i])[j]? :=λj hj=>by
   have:=h1.cellAt (i * 7+j) aa;rw[<-eT l i hil j hj];exact this
  simp only[j4];exact⟨hc 0 aa,hc 1 aa,hc 2 aa,hc 3 aa,hc 4 aa,hc 5 aa,hc 6 aa⟩
end

structure Rw where
 rs:oA
 rc:Nat
 l:List Gs
def rwV (x:Rw):Value:=U x.rs x.l.length x.rc
def o7 (S:Nat->Prop)(w:World)(x:Rw):Prop:=GsIn S w x.rs x.l/\x.l.length<=x.rc/\x.rc<=maxLen
def FRow (w:World)(B:Nat)(v:Value)(L:List Rw):Prop:=w.ownsRow B 25 1 v L.length (L.map rwV)/\∀x∈L,o7 (λb=>B<=b/\v.ownBlock≠sO b) w x
section
variable {w w':World} {B:Nat} {v v':Value} {L:List Rw}
theorem FRow.nil (w:World)(B:Nat):FRow w B (U nO 0 0) []:=⟨⟨rfl,.inl ⟨rfl,rfl⟩⟩,λx hx=>by simp at hx⟩
theorem FRow.call (h:FRow w B v L)(hb:bl w w'):FRow w' B v L:=⟨uQ h.1 hb,λx hx=>⟨(h.2 x hx).1.call hb,(h.2 x hx).2⟩⟩
theorem FRow.old (h:FRow w B v L)(hs:∀b,B<=b->w'.heap[b]? =w.heap[b]?)(hz:w.heap.size<=w'.heap.size):FRow w' B v L:=⟨dA h.1 λk hk=>hs k (aP h.1 hk).2,λx hx=>⟨(h.2 x hx).1.same (λb hS _=>hs b hS.1) hz,(h.2 x hx).2⟩⟩
theorem FRow.grown (h:FRow w B v L){x:Rw}(hx:o7 (λb=>B<=b/\v.ownBlock≠sO b) w x)(hr:w'.ownsRow B 25 1 v' (L.length+1) (L.map rwV++[rwV x]))(hg:w.grownBy w' v.ownBlock)(hv:v'.ownBlock=v.ownBlock\/v'.ownBlock=sO w.heap.size):FRow w' B v' (L++[x]):=by
 refine⟨by rw[j8,x7];exact hr,λy hy=> ?_⟩;have hy':o7 (λb=>B<=b/\v.ownBlock≠sO b) w y:=by
  rcases j7.1 hy with hy|hy
  ·exact h.2 y hy
  ·rw[j6.1 hy];exact hx
 have hm:GsIn (λb=>(B<=b/\v.ownBlock≠sO b)/\b < w.heap.size) w y.rs y.l:=hy'.1.mono λb h1 h2=>⟨h1,h2⟩;exact vu
theorem FRow.rows (h:FRow w B v L):∃fs fc,v=U fs L.length fc/\L.length<=fc/\fc<=maxLen/\RowsAt w fs (L.map Rw.l):=by
 obtain⟨h1,h2⟩:=h;rcases h1.2 with⟨rfl,h0⟩|⟨g,cap,cur,rfl,hb,hg,k1,k2,k3,k4⟩
 ·have:L=[]:=J5.1 h0
  subst this;exact⟨nO,0,rfl,lR _,cS,λi hi=>absurd hi ah⟩
 ·refine⟨sO ⟨g,0,nO⟩,cap,rfl,k1,k2,λi hi=> ?_⟩
  have hil:i < L.length:=fa;have e:(L.map Rw.l)[i]=L[i].l:=ah;rw[e];have hx:=h2 L[i] (gM hil);have:=h1.cellAt i aa;refine⟨g,0,rfl,(j3.1 hg).1,L[i].rs,L[i].rc,?_,hx.2.1,hx.2.2,hx.1.at⟩;rw[j4,this];simp[hil,rwV]
end
def X3 (w:World)(b:Nat)(x0 x1 x2:Value):Prop:=(w.cell? ⟨b,0,nO⟩=sO x0/\w.cell? ⟨b,1,nO⟩=sO x1/\w.cell? ⟨b,2,nO⟩=sO x2)/\b < w.heap.size/\∀j,w.frozen? ⟨b,j,nO⟩=false
section
variable {w w':World} {b:Nat} {x0 x1 x2:Value}
theorem X3.same (h:X3 w b x0 x1 x2)(hb:w'.heap[b]? =w.heap[b]?)(hz:w.heap.size<=w'.heap.size):X3 w' b x0 x1 x2:=uL
theorem X3.call (h:X3 w b x0 x1 x2)(hb:bl w w'):X3 w' b x0 x1 x2:=h.same (hb.block b h.2.1) hb.size
theorem X3.far (h:X3 w b x0 x1 x2){a:Addr}(ha:b≠a.block)(y:Value):X3 (w.setCell a y) b x0 x1 x2:=h.same (hSe _ _ _ _ ha) bD
theorem X3.new (w:World)(t:TypeId)(x0 x1 x2:Value):X3 (w.alloc (Cc #[x0,x1,x2] t)) w.heap.size x0 x1 x2:=by
 refine⟨⟨?_,?_,?_⟩,ah,λj=> ?_⟩<;>simp[go_sem]
theorem X3.put1 (h:X3 w b x0 x1 x2)(y:Value):X3 (w.setCell ⟨b,1,nO⟩ y) b x0 y x2:=by
 obtain⟨⟨h0,h1,h2⟩,h6,h7⟩:=h;exact⟨⟨Fp,Q9 _ _ _ h1,Eu⟩,wO,λj=>wG⟩
theorem X3.put2 (h:X3 w b x0 x1 x2)(y:Value):X3 (w.setCell ⟨b,2,nO⟩ y) b x0 x1 y:=by
 obtain⟨⟨h0,h1,h2⟩,h6,h7⟩:=h;exact⟨⟨Fp,DZ,Q9 _ _ _ h2⟩,wO,λj=>wG⟩
end
theorem PrAt.low {w w':World}{B b:Nat}{V F:Int}{s:oA}{c:List Ins}{cap:Nat}(h:PrAt w b V F s c cap)(hb:Below B w w')(hB:b < B):PrAt w' b V F s c cap:=by
 obtain⟨⟨h0,h1,h2⟩,hz⟩:=h;exact⟨⟨by rw[hb.cell hB];exact h0,by rw[hb.cell hB];exact h1,by rw[hb.cell hB];exact h2⟩,lL hz hb.size⟩
theorem PrAt.far {w:World}{b:Nat}{V F:Int}{s:oA}{c:List Ins}{cap:Nat}(h:PrAt w b V F s c cap){a:Addr}(ha:b≠a.block)(y:Value):PrAt (w.setCell a y) b V F s c cap:=by
 have hc:∀j,(w.setCell a y).cell? ⟨b,j,nO⟩=w.cell? ⟨b,j,nO⟩:=λj=>q1 (a:=⟨b,j,nO⟩) (hSe _ _ _ _ ha);obtain⟨⟨h0,h1,h2⟩,hz⟩:=h;exact⟨⟨(hc _).trans h0,(hc _).trans h1,(hc _).trans h2⟩,by simpa[q0] using hz⟩
theorem mc (w:World)(x:Gc)(cs:Array Value)(t:TypeId)(hcs:cs.toList=bt x):∀ad,sO (⟨w.heap.size,0,nO⟩:Addr)=sO ad->∀j u,(bt x)[j]? =sO u->(w.alloc (Cc cs t)).cell? (ad.add j)=sO u:=by
 intro ad e j u hj;cases e;rw[Addr.add_lit,j4];rw[<-hcs] at hj;simpa[go_sem] using hj
theorem vX (w:World)(x:Value)(t:TypeId):∀ad,sO (⟨w.heap.size,0,nO⟩:Addr)=sO ad->∀j u,([x]:List Value)[j]? =sO u->(w.alloc (Cc #[x] t)).cell? (ad.add j)=sO u:=by
 intro ad e j u hj;cases e;rw[Addr.add_lit,j4];simpa[go_sem] using hj
theorem Tryz.info_row:(Tryz.prog.info? 25).map (λi=>(i.zero,i.size,i.bytes))=sO (sO (U nO 0 0),1,24):=ag
theorem p8 {w:World}{a:Addr}{B:Nat}(h:a.block < B)(x:Value):(∀b,B<=b->(w.setCell a x).heap[b]? =w.heap[b]?)/\w.heap.size<=(w.setCell a x).heap.size:=⟨λb hb=>hSe _ _ _ _ aa,bD⟩
theorem GuAt.low {w w':World}{B b o:Nat}{g:Gs}{ss:oA}{cap:Nat}(h:GuAt w b o g ss cap)(hb:Below B w w')(hB:b < B):GuAt w' b o g ss cap:=h.same (hb.block b hB) hb.size
theorem mS {w:World}{b off:Nat}{L:List Gs}(h:GsAt w (sO ⟨b,off,nO⟩) L)(k:Nat)(hk:k < L.length):b < w.heap.size:=by
 obtain⟨b',off',e,ss,cap,h1,_⟩:=h k hk;cases e;exact h1.2
def Pb (w':World)(e:Ending)(x:Pic)(er:Int):Prop:=∃vs vc fs fc,e=Rt (Tu #[Ag #[Bb x.none,U vs x.vars.length vc,U fs x.flds.length fc],I Y er])/\PicAt w' x vs fs/\(x.vars.length<=vc/\vc<=maxLen)/\(x.flds.length<=fc/\fc<=maxLen)
theorem FRow.olden {w w':World}{B:Nat}{v:Value}{L:List Rw}(h:FRow w B v L)(hs:∀b,B<=b->b < w.heap.size->w'.heap[b]? =w.heap[b]?)(hz:w.heap.size<=w'.heap.size):FRow w' B v L:=⟨dA h.1 λk hk=>hs k (aP h.1 hk).2 (aP h.1 hk).1,λx hx=>⟨(h.2 x hx).1.same (λb hS hlt=>hs b hS.1 hlt) hz,(h.2 x hx).2⟩⟩
def PicOn (S:Nat->Prop)(w:World)(x:Pic)(vs fs:oA):Prop:=∀w2:World,(∀b,S b->b < w.heap.size->w2.heap[b]? =w.heap[b]?)->w.heap.size<=w2.heap.size->PicAt w2 x vs fs
section
variable {S S':Nat->Prop} {w w':World} {x:Pic} {vs fs:oA}
theorem PicOn.at (h:PicOn S w x vs fs):PicAt w x vs fs:=h w (λ_ _ _=>rfl) (lR _)
theorem PicOn.same (h:PicOn S w x vs fs)(hs:∀b,S b->b < w.heap.size->w'.heap[b]? =w.heap[b]?)(hz:w.heap.size<=w'.heap.size):PicOn (λb=>S b/\b < w.heap.size) w' x vs fs:=λw2 h2 hz2=>h w2 (λb hb hlt=>by rw[h2 b ⟨hb,hlt⟩ (by omega),hs b hb hlt]) (lT hz hz2)
theorem PicOn.mono (h:PicOn S w x vs fs)(hs:∀b,S b->b < w.heap.size->S' b):PicOn S' w x vs fs:=λw2 h2 hz2=>h w2 (λb hb hlt=>h2 b (hs b hb hlt) hlt) hz2
theorem PicOn.call (h:PicOn S w x vs fs)(hb:bl w w'):PicOn S w' x vs fs:=(h.same (λb _ hlt=>hb.block b hlt) hb.size).mono λb hb _=>hb.1
theorem PicAt.same (h:PicAt w x vs fs)(hs:∀b,b < w.heap.size->w'.heap[b]? =w.heap[b]?)(hz:w.heap.size<=w'.heap.size):PicAt w' x vs fs:=by
 refine⟨(h.1.inAll.same (λb _ hb=>hs b hb) hz).at,λi hi=> ?_⟩;obtain⟨b,off,e,hb,rs,rc,h1,h2,h3,h4⟩:=h.2 i hi;exact⟨b,off,e,lL hb hz,rs,rc,by rw[q1 (a:=⟨b,off+i,nO⟩) (hs b hb)];exact h1,h2,h3,(h4.inAll.same (λb _ hb=>hs b hb) hz).at⟩
end
def MF (B:Nat)(w':World)(e:Ending)(x:Pic):Prop:=∃vs vc fs fc,e=Rt (Ag #[Bb x.none,U vs x.vars.length vc,U fs x.flds.length fc])/\PicOn (λb=>B<=b) w' x vs fs/\(x.vars.length<=vc/\vc<=maxLen)/\(x.flds.length<=fc/\fc<=maxLen)
end
section
open Go.RowKit Go
def dN (fn:FuncId)(tmps:Array Value)(ps:Array Tmp)(assign body:Code)(D:Nat)(st:LoopState)(pe:Option Code):Loop:={state:=st,pending:=pe,fn:=fn,tmps:=tmps,params:=ps,assign:=assign,body:=body,defers:=D}
structure LoopAt (W:World) (l D:Nat) (r:Loop):Prop where
 lp:W.heap[l]? =sO (.loop r)
 dfr:W.heap[D]? =sO (.deferred (sO []))
theorem LoopAt.below {W W':World}{l D:Nat}{r:Loop}(h:LoopAt W l D r)(hb:Below W.heap.size W W'):LoopAt W' l D r:=⟨(hb.block l (j3.1 h.lp).1).trans h.lp,(hb.block D (j3.1 h.dfr).1).trans h.dfr⟩
section
variable {P:Program} {n:Nat} {fn:FuncId} {g:Operand} {ps:Array Tmp} {assign body:Code} {Q:Exit->Act->World->Prop} {a:Act} {w:World}
theorem Fx {gf:Nat}{lb:Array Value}(hg:a.eval g=.func (.func gf) #[] lb)(eg:∀args w,(callFunc gf args).run P w=.ok (.enter gf args) w)
  (J:Nat->Nat->Loop->World->Prop)(Jx:Nat->Nat->Loop->Code->World->Prop)
  (hit:∀fn W1,LoopAt W1 (w.heap.size+1) w.heap.size (dN fn a.tmps ps assign body w.heap.size .ready nO)->Below w.heap.size w W1->CallsIn Fence.wide (n - 1) P gf (#[.func (.yield (w.heap.size+1)) #[] #[]]++lb) W1 λe W'=>(∃v,e=Rt v)/\((LoopAt W' (w.heap.size+1) w.heap.size (dN fn a.tmps ps assign body w.heap.size .ready nO)/\J (w.heap.size+1) w.heap.size (dN fn a.tmps ps assign body w.heap.size .ready nO) W')\/∃c,LoopAt W' (w.heap.size+1) w.heap.size (dN fn a.tmps ps assign body w.heap.size .done (sO c))/\Jx (w.heap.size+1) w.heap.size (dN fn a.tmps ps assign body w.heap.size .done (sO c)) c W'))
  (hdone:∀r W,LoopAt W (w.heap.size+1) w.heap.size r->J (w.heap.size+1) w.heap.size r W->∀r',Q .normal {a with defers:={target:=.collected w.heap.size,args:=#[]}::a.defers} (W.putObj (w.heap.size+1) r'))
  (hstop:∀r c W,LoopAt W (w.heap.size+1) w.heap.size r->Jx (w.heap.size+1) w.heap.size r c W->∀r',c.wpIn Fence.wide n P Q {a with defers:={target:=.collected w.heap.size,args:=#[]}::a.defers} (W.putObj (w.heap.size+1) r')):
  (Code.rangeFunc g ps assign body).wpIn Fence.wide n P Q a w:=by
 refine wpIn_rangeFunc λfn _=> ?_;have hs:(w.alloc (.deferred (sO []))).heap.size=w.heap.size+1:=zA _ _;obtain⟨W1,hW1⟩:∃W1,W1=(w.alloc (.deferred (sO []))).alloc (.loop (dN fn a.tmps ps assign body w.heap.size .ready nO)):=⟨_,rfl⟩;have hb:Below w.heap.size w W1:=by rw[hW1];exact((bR _ w).alloc (lR _) _).alloc (by rw[hs];omega) _
 have h1:LoopAt W1 (w.heap.size+1) w.heap.size (dN fn a.tmps ps assign body w.heap.size .ready nO):=by
  rw[hW1];refine⟨?_,(Below.heap_alloc _ _ _ (by rw[hs];omega)).trans (Z0 w _)⟩;have:=Z0 (w.alloc (.deferred (sO []))) (.loop (dN fn a.tmps ps assign body w.heap.size .ready nO));rwa [hs] at this
 refine⟨w.heap.size+1,[{target:=.collected w.heap.size,args:=#[]}],W1,{target:=.fn (.func gf) lb,args:=#[.func (.yield (w.heap.size+1)) #[] #[]]},W1,gf,#[.func (.yield (w.heap.size+1)) #[] #[]]++lb,W1,?_,?_,λ_ _=>trivial,?_,λh=>(nomatch h),?_⟩
 ·rw[hW1]
  exact run_enterLoop_outer _ _ _ _ _
 ·simp only[resolve,hg]
  simp[go_sem]
 ·simp[invoke,go_sem,eg]
 ·refine(hit fn _ h1 hb).mono ?_
  rintro e W' ⟨⟨v,rfl⟩,⟨hl,hj⟩|⟨c,hl,hj⟩⟩
  ·exact⟨nO,_,run_endLoop hl.lp (by simp[dN]),hdone _ _ hl hj _⟩
  ·exact⟨sO c,_,run_endLoop hl.lp (by simp[dN]),hstop _ c _ hl hj _⟩
theorem Lb {l D m:Nat}{args:Array Value}{tmps:Array Value}{W:World}{R:Ending->World->Prop}(hl:LoopAt W l D (dN fn tmps ps assign body D .ready nO))(hz:args.size=ps.size)
  (h:assign.wpIn (Fence.wide.inRound l) m P (Exit.then (λa₁ W₁=>LoopAt W₁ l D (dN fn tmps ps assign body D .ready nO)/\body.wpIn (Fence.wide.inRound l) m P (λe _ W₃=>LoopAt W₃ l D (dN fn tmps ps assign body D .busy nO)/\(match e with
    |.normal=>R (Rt (Bb true)) (W₃.putObj l (.loop (dN fn tmps ps assign body D .ready nO)))
    |.ret=>R (Rt (Bb false)) (W₃.putObj l (.loop (dN fn tmps ps assign body D .done (sO .ret))))
    |.exit i=>R (Rt (Bb false)) (W₃.putObj l (.loop (dN fn tmps ps assign body D .done (sO (.exit i)))))
    |_=>False)) a₁ (W₁.putObj l (.loop (dN fn tmps ps assign body D .busy nO)))) (λ_ _ _=>False)) {tmps:=(ps.zip args).foldl (λt (p,v)=>t.setIfInBounds p v) tmps,defers:=[]} W):
  YieldAt Fence.wide m P l args W R:=by
 refine⟨fn,_,assign,body,run_yield hl.lp hz,roundIn_of_wpIn trivial (wpIn_mono h ?_)⟩;intro e a1 W1 q;cases e with
 |normal=>
  obtain⟨hl1,hb⟩:=q;refine⟨_,run_beginRound hl1.lp rfl,wpIn_mono hb ?_⟩;intro e a3 W3 q3;obtain⟨hl3,q3⟩:=q3;cases e with
  |normal=>exact⟨_,_,run_endRound nO hl3.lp,q3⟩
  |ret=>exact⟨_,_,run_endRound (sO .ret) hl3.lp,q3⟩
  |exit i=>exact⟨_,_,run_endRound (sO (.exit i)) hl3.lp,q3⟩
  |goto t=>exact q3.elim
  |panic ch=>exact q3.elim
  |outgrown=>exact q3.elim
 |ret=>exact q
 |exit i=>exact q
 |goto t=>exact q
 |panic ch=>exact q
 |outgrown=>exact q
end
def CellsKept (W W':World):Prop:=W.heap.size<=W'.heap.size/\∀b o v,W.cell? ⟨b,o,nO⟩=sO v->W'.cell? ⟨b,o,nO⟩=sO v
section
variable {W W':World}
theorem CellsKept.ints (h:CellsKept W W'){s:oA}{l:List Int}(hi:IntsAt W s l):IntsAt W' s l:=by
 rcases hi with hi|⟨b,off,e,hb,hc⟩
 ·exact .inl hi
 ·exact .inr ⟨b,off,e,lL hb h.1,λk hk=>h.2 _ _ _ (hc k hk)⟩
theorem CellsKept.gs (h:CellsKept W W'){s:oA}{l:List Gs}(hi:GsAt W s l):GsAt W' s l:=λi hl=>by
 obtain⟨b,off,e,ss,cap,⟨⟨c0,c1,c2,c3,c4,c5,c6⟩,hz⟩,h2,h4⟩:=hi i hl;exact⟨b,off,e,ss,cap,⟨⟨h.2 _ _ _ c0,h.2 _ _ _ c1,h.2 _ _ _ c2,h.2 _ _ _ c3,h.2 _ _ _ c4,h.2 _ _ _ c5,h.2 _ _ _ c6⟩,lL hz h.1⟩,h.ints h2,h4⟩
theorem CellsKept.pic (h:CellsKept W W'){x:Pic}{vs fs:oA}(hp:PicAt W x vs fs):PicAt W' x vs fs:=⟨h.gs hp.1,λi hi=>by
 obtain⟨b,off,e,hz,rs,rc,h1,h2,h4,h5⟩:=hp.2 i hi;exact⟨b,off,e,lL hz h.1,rs,rc,h.2 _ _ _ h1,h2,h4,h.gs h5⟩⟩
theorem CellsKept.putObj {l:Nat}{o o':Obj}(h:W.heap[l]? =sO o)(hc:o.isCells=false):CellsKept W (W.putObj l o'):=by
 refine⟨by simp[Z1],λb k v hv=> ?_⟩;by_cases e:b=l
 ·subst e
  exfalso;simp only[q6,h] at hv;cases o<;>simp_all[Obj.isCells]
 ·rw[q1 (a:=⟨b,k,nO⟩) (J8 e)]
  exact hv
end
structure RoundAt (l:Nat) (W W':World):Prop where
 far:∀q,q≠l->W'.heap[q]? =W.heap[q]?
 size:W'.heap.size=W.heap.size
 kept:CellsKept W W'
 low:∀{B:Nat} {a:World},B<=l->Below B a W->Below B a W'
section
variable {W W' Wa W2 W3:World} {l D:Nat} {r r':Loop}
theorem LoopAt.put (h:LoopAt W l D r)(hD:D≠l)(r':Loop):LoopAt (W.putObj l (.loop r')) l D r':=⟨World.putObj_heap_same (j3.1 h.lp).1,(J8 hD).trans h.dfr⟩
theorem LoopAt.far (h:LoopAt W l D r)(hl:W'.heap[l]? =W.heap[l]?)(hD:W'.heap[D]? =W.heap[D]?):LoopAt W' l D r:=⟨hl.trans h.lp,hD.trans h.dfr⟩
theorem LoopAt.round (h:LoopAt W l D r)(o:Obj):RoundAt l W (W.putObj l o):=⟨λq hq=>J8 hq,by simp[Z1],CellsKept.putObj h.lp rfl,λ{B} {a} hB hb=>by
 refine hb.trans ((bR B W).grown (grownBy_putObj' W l o) (by have:=(j3.1 h.lp).1;omega) (λk e=>by cases e;omega))⟩
theorem DH {P:Program}{fn:FuncId}{tmps:Array Value}{ps:Array Tmp}{assign body:Code}{F:Fence}{m:Nat}{Q:Exit->Act->World->Prop}{a:Act}(hl:LoopAt W l D (dN fn tmps ps assign body D .ready nO))(hD:D≠l)(hb:bl W Wa)
  (h:∀W2,LoopAt W2 l D (dN fn tmps ps assign body D .busy nO)->RoundAt l Wa W2->body.wpIn F m P Q a W2):
  LoopAt Wa l D (dN fn tmps ps assign body D .ready nO)/\body.wpIn F m P Q a (Wa.putObj l (.loop (dN fn tmps ps assign body D .busy nO))):=
 ⟨hl.below hb,h _ ((hl.below hb).put hD _) ((hl.below hb).round _)⟩
end
end
section
open Go.RowKit
structure Ro where
  rs:oA
  rc:Nat
  l:List Gc
def roV (r:Ro):Value:=U r.rs r.l.length r.rc
def roG (r:Ro):List Gs:=r.l.map Gc.g
def roB (r:Ro):Option Nat:=(roV r).ownBlock
def RoOwn (w:World)(B:Nat)(r:Ro):Prop:=w.ownsRow B 91 7 (roV r) r.l.length (aR r.l)
theorem pI:∀{l:List Gc} {k j:Nat} {u:Value} {x':Gc} (hk:k < l.length) (_:j < 7) (_:bt x'=(bt l[k]).set j u),aR (l.set k x')=(aR l).set (k * 7+j) u
  |[],k,_,_,_,hk,_,_=>absurd hk ah
  |x::r,0,j,u,x',_,hj,h=>by
    have e:∀y,aR (y::r)=bt y++aR r:=λ_=>rfl;simp only[z6] at h;rw[z8,e,e,J4,j4,List.set_append_left _ _ (by rw[eJ];exact hj),h]
  |x::r,k+1,j,u,x',hk,hj,h=>by
    have e:∀(y:Gc) (q:List Gc),aR (y::q)=bt y++aR q:=λ_ _=>rfl;simp only[z9] at h;rw[x3,e,e,pI gX hj h,List.set_append_right _ _ (by rw[eJ];omega),eJ];congr 2;omega
section
variable {w w':World} {B:Nat} {r:Ro}
theorem RoOwn.form (h:RoOwn w B r)(h0:0 < r.l.length):∃b,r.rs=sO ⟨b,0,nO⟩/\roB r=sO b/\B<=b/\b < w.heap.size:=by
  obtain⟨rs,rc,l⟩:=r;rcases h.2 with⟨e,h1⟩|⟨g,cap,cur,e,hb,hg,_⟩
  · simp only at h0 h1;omega
  · simp only[roV,j0.injEq] at e
    exact⟨g,e.1,by unfold roB roV;rw[e.1];rfl,hb,(j3.1 hg).1⟩
theorem RoOwn.caps (h:RoOwn w B r):r.l.length<=r.rc/\r.rc<=maxLen:=by
  rcases h.2 with⟨e,h1⟩|⟨g,cap,cur,e,hb,hg,k1,k2,_⟩
  · simp only[roV,j0.injEq] at e
    exact⟨aa,by rw[e.2.2];exact j9 _⟩
  · simp only[roV,j0.injEq] at e
    rw[e.2.2];exact⟨k1,k2⟩
theorem RoOwn.same (h:RoOwn w B r)(hs:∀b,roB r=sO b->w'.heap[b]? =w.heap[b]?):RoOwn w' B r:=dA h hs
theorem RoOwn.lt (h:RoOwn w B r){b:Nat}(hb:roB r=sO b):b < w.heap.size/\B<=b:=aP h hb
theorem RoOwn.put (h:RoOwn w B r){b:Nat}(hb:r.rs=sO ⟨b,0,nO⟩){k j:Nat}{u:Value}{x':Gc}(hk:k < r.l.length)(hj:j < 7)(hx:bt x'=(bt r.l[k]).set j u):RoOwn (w.setCell ⟨b,k * 7+j,nO⟩ u) B ⟨r.rs,r.rc,r.l.set k x'⟩:=by
  obtain⟨rs,rc,l⟩:=r;simp only at hb hk hx;subst hb;have h1:=(x4.stored h (k * 7+j) u).1;unfold RoOwn roV;simp only[j5];rw[pI hk hj hx];exact h1
theorem RoOwn.gets (h:RoOwn w B r){S:Nat->Prop}(hg:∀x∈r.l,bV S w x):GsIn (λb=>roB r=sO b\/S b) w r.rs (roG r):=by
  intro i hi;have hil:i < r.l.length:=by simpa[roG] using hi
  obtain⟨b,e,eb,hb,hz⟩:=h.form aa;have hx:=hg _ (gM hil);have ei:(roG r)[i]=r.l[i].g:=by simp[roG]
  rw[ei];have h1:w.ownsRow B 91 7 (U (sO ⟨b,0,nO⟩) r.l.length r.rc) r.l.length (aR r.l):=by rw[<-e];exact h
  refine⟨b,0,e,.inl eb,r.l[i].ss,r.l[i].cap,⟨?_,hz⟩,hx.1.mono λq hq _=>.inr hq,hx.2.1,hx.2.2⟩;have hc:∀j,j < 7->w.cell? ⟨b,i * 7+j,nO⟩=(bt r.l[i])[j]? :=λj hj=>by
    rw[<-eT r.l i hil j hj];exact x4.cellAt h1 _ aa
  simp only[j4];exact⟨hc 0 aa,hc 1 aa,hc 2 aa,hc 3 aa,hc 4 aa,hc 5 aa,hc 6 aa⟩
theorem RoOwn.thaw (h:RoOwn w B r){b:Nat}(hb:r.rs=sO ⟨b,0,nO⟩)(j:Nat):w.frozen? ⟨b,j,nO⟩=false:=by
  have h1:w.ownsRow B 91 7 (U (sO ⟨b,0,nO⟩) r.l.length r.rc) r.l.length (aR r.l):=by rw[<-hb];exact h
  exact x4.frozenAt h1 j
end
def Off (v:Ro)(fb:Option Nat)(L:List Ro)(b:Nat):Prop:=roB v≠sO b/\fb≠sO b/\∀r∈L,roB r≠sO b
structure PicG (T:Nat->Prop) (B:Nat) (w:World) (v:Ro) (fs:oA) (fc:Nat) (L:List Ro):Prop where
  vars:RoOwn w B v
  flds:w.ownsRow B 25 1 (U fs L.length fc) L.length (L.map roV)
  rows:∀r∈L,RoOwn w B r
  sv:∀g∈v.l,bV (λb=>T b/\Off v (j0 fs L.length fc).ownBlock L b) w g
  sf:∀r∈L,∀g∈r.l,bV (λb=>T b/\Off v (j0 fs L.length fc).ownBlock L b) w g
  dv:∀b,roB v=sO b->(j0 fs L.length fc).ownBlock≠sO b/\∀r∈L,roB r≠sO b
  df:∀b,(j0 fs L.length fc).ownBlock=sO b->∀r∈L,roB r≠sO b
  dr:L.Pairwise λr q=>∀b,roB r=sO b->roB q≠sO b
def aU (n:Bool)(v:Ro)(L:List Ro):Pic:=⟨n,roG v,L.map roG⟩
section
variable {T T':Nat->Prop} {B:Nat} {w w':World} {v:Ro} {fs:oA} {fc:Nat} {L:List Ro}
theorem PicG.mono (h:PicG T B w v fs fc L)(hT:∀b,T b->b < w.heap.size->T' b):PicG T' B w v fs fc L:=
  ⟨h.vars,h.flds,h.rows,λg hg=>⟨(h.sv g hg).1.mono λb hb hz=>⟨hT b hb.1 hz,hb.2⟩,(h.sv g hg).2⟩,λr hr g hg=>⟨(h.sf r hr g hg).1.mono λb hb hz=>⟨hT b hb.1 hz,hb.2⟩,(h.sf r hr g hg).2⟩,h.dv,h.df,h.dr⟩
theorem PicG.same (h:PicG T B w v fs fc L)(hs:∀b,T b\/B<=b->b < w.heap.size->w'.heap[b]? =w.heap[b]?)(hz:w.heap.size<=w'.heap.size):PicG T B w' v fs fc L:=
  ⟨h.vars.same λb hb=>hs b (.inr (h.vars.lt hb).2) (h.vars.lt hb).1,dA h.flds λb hb=>hs b (.inr (aP h.flds hb).2) (aP h.flds hb).1,λr hr=>(h.rows r hr).same λb hb=>hs b (.inr ((h.rows r hr).lt hb).2) ((h.rows r hr).lt hb).1,
   λg hg=>⟨(h.sv g hg).1.same (λb hb hlt=>hs b (.inl hb.1) hlt) hz,(h.sv g hg).2⟩,λr hr g hg=>⟨(h.sf r hr g hg).1.same (λb hb hlt=>hs b (.inl hb.1) hlt) hz,(h.sf r hr g hg).2⟩,h.dv,h.df,h.dr⟩
theorem PicG.call (h:PicG T B w v fs fc L)(hb:bl w w'):PicG T B w' v fs fc L:=h.same (λb _ hlt=>hb.block b hlt) hb.size
theorem PicG.fcap (h:PicG T B w v fs fc L):L.length<=fc/\fc<=maxLen:=by
  rcases h.flds.2 with⟨e,h1⟩|⟨g,cap,cur,e,hb,hg,k1,k2,_⟩
  · simp only[j0.injEq] at e
    exact⟨aa,by rw[e.2.2];exact j9 _⟩
  · simp only[j0.injEq] at e
    rw[e.2.2];exact⟨k1,k2⟩
theorem PicG.fform (h:PicG T B w v fs fc L)(h0:0 < L.length):∃b,fs=sO ⟨b,0,nO⟩/\B<=b/\b < w.heap.size/\∀k (hk:k < L.length),w.cell? ⟨b,k,nO⟩=sO (roV L[k]):=by
  rcases h.flds.2 with⟨e,h1⟩|⟨g,cap,cur,e,hb,hg,k1,k2,_⟩
  · omega
  · simp only[j0.injEq] at e
    obtain⟨e1,-,e3⟩:=e;subst e1 e3;refine⟨g,rfl,hb,(j3.1 hg).1,λk hk=> ?_⟩;have:=x4.cellAt h.flds k aa;rw[this];simp[hk]
theorem PicG.at (h:PicG T B w v fs fc L)(n:Bool):PicAt w (aU n v L) v.rs fs:=by
  refine⟨(h.vars.gets h.sv).at,λi hi=> ?_⟩;have hil:i < L.length:=by simpa[aU] using hi
  obtain⟨b,e,hb,hz,hc⟩:=h.fform aa;have ei:(aU n v L).flds[i]=roG L[i]:=by simp[aU]
  rw[ei];have hm:=gM hil;have hcp:=(h.rows _ hm).caps;refine⟨b,0,e,hz,L[i].rs,L[i].rc,?_,by simpa[roG] using hcp.1,hcp.2,((h.rows _ hm).gets (h.sf _ hm)).at⟩;rw[j4,hc i hil];simp[roV,roG]
theorem PicG.on (h:PicG T B w v fs fc L)(n:Bool):PicOn (λb=>T b\/B<=b) w (aU n v L) v.rs fs:=λw2 hs hz=>(h.same hs hz).at n
theorem PicG.vcap (h:PicG T B w v fs fc L)(n:Bool):(aU n v L).vars.length<=v.rc/\v.rc<=maxLen:=by simpa[aU,roG] using h.vars.caps
theorem PicG.fcap' (h:PicG T B w v fs fc L)(n:Bool):(aU n v L).flds.length<=fc/\fc<=maxLen:=by simpa[aU] using h.fcap
theorem tD {S:Nat->Prop}{x:Gc}{a:Addr}{u:Value}(h:bV S w x)(hs:∀b,S b->b≠a.block):bV S (w.setCell a u) x:=⟨h.1.same (λb hb _=>hSe _ _ _ _ (hs b hb)) bD,h.2⟩
theorem PicG.putV (h:PicG T B w v fs fc L){b:Nat}(hb:v.rs=sO ⟨b,0,nO⟩){k j:Nat}{u:Value}{x':Gc}(hk:k < v.l.length)(hj:j < 7)(hx:bt x'=(bt v.l[k]).set j u)(hg:bV (λb=>T b/\Off v (j0 fs L.length fc).ownBlock L b) w x'):
    PicG T B (w.setCell ⟨b,k * 7+j,nO⟩ u) ⟨v.rs,v.rc,v.l.set k x'⟩ fs fc L:=by
  have eb:roB v=sO b:=lj;have eb':roB ⟨v.rs,v.rc,v.l.set k x'⟩=roB v:=lj;have eO:∀q,Off ⟨v.rs,v.rc,v.l.set k x'⟩ (j0 fs L.length fc).ownBlock L q=Off v (j0 fs L.length fc).ownBlock L q:=λq=>by unfold Off;rw[eb']
  have hd:=h.dv b eb;have hp:∀g,bV (λb=>T b/\Off v (j0 fs L.length fc).ownBlock L b) w g->bV (λb=>T b/\Off ⟨v.rs,v.rc,v.l.set k x'⟩ (j0 fs L.length fc).ownBlock L b) (w.setCell ⟨b,k * 7+j,nO⟩ u) g:=λg hg=>by
    simp only[eO];exact tD hg λq hq e=>hq.2.1 rl
  refine⟨h.vars.put hb hk hj hx,dA h.flds λq hq=>hSe _ _ _ _ λe=>hd.1 (by rw[hq];exact congrArg sO e),λr hr=>(h.rows r hr).same λq hq=>hSe _ _ _ _ λe=>hd.2 r hr (by rw[hq];exact congrArg sO e),λg hgm=>hp g ?_,λr hr g hgm=>hp g (h.sf r hr g hgm),by rw[eb'];exact h.dv,h.df,h.dr⟩;rcases Z2 hgm with hgm|rfl
  · exact h.sv g hgm
  · exact hg
theorem PicG.putF (h:PicG T B w v fs fc L){s:Nat}(hs:s < L.length){b:Nat}(hb:L[s].rs=sO ⟨b,0,nO⟩){k j:Nat}{u:Value}{x':Gc}(hk:k < L[s].l.length)(hj:j < 7)(hx:bt x'=(bt L[s].l[k]).set j u)(hg:bV (λb=>T b/\Off v (j0 fs L.length fc).ownBlock L b) w x'):
    PicG T B (w.setCell ⟨b,k * 7+j,nO⟩ u) v fs fc (L.set s ⟨L[s].rs,L[s].rc,L[s].l.set k x'⟩):=by
  have hm:=gM hs;have eb:roB L[s]=sO b:=lj;have ebn:roB ⟨L[s].rs,L[s].rc,L[s].l.set k x'⟩=roB L[s]:=lj;have evn:roV ⟨L[s].rs,L[s].rc,L[s].l.set k x'⟩=roV L[s]:=by unfold roV;simp
  have eL:(L.set s ⟨L[s].rs,L[s].rc,L[s].l.set k x'⟩).map roB=L.map roB:=by
    rw[Q0,ebn,<-z3 (f:=roB) (h:=by simpa using hs),q2]
  have eV:(L.set s ⟨L[s].rs,L[s].rc,L[s].l.set k x'⟩).map roV=L.map roV:=by
    rw[Q0,evn,<-z3 (f:=roV) (h:=by simpa using hs),q2]
  have allB:∀{M:List Ro} {q:Nat},(∀r∈M,roB r≠sO q)↔∀o∈M.map roB,o≠sO q:=by
    intro M q;simp only[J7,forall_exists_index,and_imp,forall_apply_eq_imp_iff₂]
  have eO:∀q,Off v (j0 fs L.length fc).ownBlock (L.set s ⟨L[s].rs,L[s].rc,L[s].l.set k x'⟩) q↔Off v (j0 fs L.length fc).ownBlock L q:=λq=>by
    unfold Off;rw[allB,allB,eL]
  have hp:∀g,bV (λb=>T b/\Off v (j0 fs L.length fc).ownBlock L b) w g->bV (λb=>T b/\Off v (j0 fs (L.set s ⟨L[s].rs,L[s].rc,L[s].l.set k x'⟩).length fc).ownBlock (L.set s ⟨L[s].rs,L[s].rc,L[s].l.set k x'⟩) b) (w.setCell ⟨b,k * 7+j,nO⟩ u) g:=λg hg=>by
    rw[j5];simp only[eO];exact tD hg λq hq e=>hq.2.2.2 _ hm rl
  have pwB:∀{M:List Ro},M.Pairwise (λr q=>∀b,roB r=sO b->roB q≠sO b)↔(M.map roB).Pairwise λo p=>∀b,o=sO b->p≠sO b:=by
    intro M;rw[List.pairwise_map]
  refine⟨h.vars.same λq hq=>hSe _ _ _ _ λe=>(h.dv q hq).2 _ hm rl,?_,λr hr=> ?_,λg hgm=>hp g (h.sv g hgm),λr hr g hgm=>hp g ?_,λq hq=> ?_,λq hq=> ?_,?_⟩
  · rw[j5,eV]
    exact dA h.flds λq hq=>hSe _ _ _ _ λe=>h.df q hq _ hm rl
  · rw[Z3] at hr
    obtain⟨i,hi,rfl⟩:=hr;rw[j5] at hi;rw[Z4];split
    · exact(h.rows _ hm).put hb hk hj hx
    · rename_i hne
      refine(h.rows _ (gM hi)).same λq hq=>hSe _ _ _ _ λe=> ?_;simp only at e;subst e;have pw:=List.pairwise_iff_getElem.1 h.dr;rcases Nat.lt_or_gt_of_ne hne with hlt|hlt
      · exact pw s i hs hi hlt q eb hq
      · exact pw i s hi hs hlt q hq eb
  · rw[Z3] at hr
    obtain⟨i,hi,rfl⟩:=hr;rw[j5] at hi;rw[Z4] at hgm;split at hgm
    · rcases Z2 hgm with hgm|rfl
      · exact h.sf _ hm g hgm
      · exact hg
    · exact h.sf _ (gM hi) g hgm
  · rw[j5,allB,eL,<-allB]
    exact h.dv q hq
  · rw[j5] at hq
    rw[allB,eL,<-allB];exact h.df q hq
  · rw[pwB,eL,<-pwB]
    exact h.dr
end
def VRow (S:Nat->Prop)(w:World)(B:Nat)(v:Value)(l:List Gc):Prop:=w.ownsRow B 91 7 v l.length (aR l)/\(∀b,v.ownBlock=sO b->S b)/\∀x∈l,bV (λb=>S b/\v.ownBlock≠sO b) w x
section
variable {S S':Nat->Prop} {w w':World} {B:Nat} {v:Value} {l:List Gc}
theorem VRow.same (h:VRow S w B v l)(hs:∀b,S b->b < w.heap.size->w'.heap[b]? =w.heap[b]?)(hz:w.heap.size<=w'.heap.size):VRow S w' B v l:=⟨dA h.1 λb hb=>hs b (h.2.1 b hb) (aP h.1 hb).1,h.2.1,λx hx=>⟨(h.2.2 x hx).1.same (λb hb hlt=>hs b hb.1 hlt) hz,(h.2.2 x hx).2⟩⟩
theorem VRow.mono (h:VRow S w B v l)(hs:∀b,S b->b < w.heap.size->S' b):VRow S' w B v l:=⟨h.1,λb hb=>hs b (h.2.1 b hb) (aP h.1 hb).1,λx hx=>⟨(h.2.2 x hx).1.mono λb hb hlt=>⟨hs b hb.1 hlt,hb.2⟩,(h.2.2 x hx).2⟩⟩
theorem VRow.call (h:VRow S w B v l)(hb:bl w w'):VRow S w' B v l:=h.same (λb _ hlt=>hb.block b hlt) hb.size
theorem dP {e:TypeId}{z n:Nat}{xs:List Value}{C:Nat}(h:w.ownsRow C e z v n xs)(hB:B<=C):w.ownsRow B e z v n xs:=by
 refine⟨h.1,?_⟩;rcases h.2 with h2|⟨g,cap,cur,e1,hb,h3⟩
 ·exact .inl h2
 ·exact .inr ⟨g,cap,cur,e1,lT hB hb,h3⟩
theorem SRow.vrow (h:SRow w B v l):VRow (λb=>B<=b) w B v l:=⟨h.1,λb hb=>(aP h.1 hb).2,λx hx=>h.2 x hx⟩
theorem VRow.lower (h:VRow S w B v l){C:Nat}(hB:C<=B):VRow S w C v l:=⟨dP h.1 hB,h.2⟩
end
structure FRowS (w:World) (B:Nat) (v:Value) (L:List Ro):Prop where
 own:w.ownsRow B 25 1 v L.length (L.map roV)
 rows:∀r∈L,RoOwn w B r
 sites:∀r∈L,∀g∈r.l,bV (λb=>B<=b/\v.ownBlock≠sO b/\∀q∈L,roB q≠sO b) w g
 df:∀b,v.ownBlock=sO b->∀r∈L,roB r≠sO b
 dr:L.Pairwise λr q=>∀b,roB r=sO b->roB q≠sO b
section
variable {w w0 w':World} {B:Nat} {v v':Value} {L:List Ro}
theorem FRowS.nil (w:World)(B:Nat):FRowS w B (U nO 0 0) []:=⟨⟨rfl,.inl ⟨rfl,rfl⟩⟩,λr hr=>lu,λr hr=>lu,λb hb r hr=>lu,Z5.nil⟩
theorem FRowS.olden (h:FRowS w B v L)(hs:∀b,B<=b->b < w.heap.size->w'.heap[b]? =w.heap[b]?)(hz:w.heap.size<=w'.heap.size):FRowS w' B v L:=
 ⟨dA h.own λb hb=>hs b (aP h.own hb).2 (aP h.own hb).1,λr hr=>(h.rows r hr).same λb hb=>hs b ((h.rows r hr).lt hb).2 ((h.rows r hr).lt hb).1,λr hr g hg=>⟨(h.sites r hr g hg).1.same (λb hb hlt=>hs b hb.1 hlt) hz,(h.sites r hr g hg).2⟩,h.df,h.dr⟩
theorem FRowS.call (h:FRowS w B v L)(hb:bl w w'):FRowS w' B v L:=h.olden (λb _ hlt=>hb.block b hlt) hb.size
theorem FRowS.grown (h0:FRowS w0 B v L)(hb:bl w0 w)(hB:B<=w0.heap.size){x:Ro}(hx:VRow (λb=>w0.heap.size<=b) w w0.heap.size (roV x) x.l)(hr:w'.ownsRow B 25 1 v' (L.length+1) (L.map roV++[roV x]))(hg:w.grownBy w' v.ownBlock)(hv:v'.ownBlock=v.ownBlock\/v'.ownBlock=sO w.heap.size):FRowS w' B v' (L++[x]):=by
 have h:=h0.call hb;have hsz:=hb.size;have hxo:RoOwn w w0.heap.size x:=hx.1;have vlt:∀b,v.ownBlock=sO b->b < w0.heap.size:=λb hb=>(aP h0.own hb).1;have rlt:∀r∈L,∀b,roB r=sO b->b < w0.heap.size:=λr hr b hb=>((h0.rows r hr).lt hb).1;have xge:∀b,roB x=sO b->w0.heap.size<=b/\b < w.heap.size:=λb hb=>⟨(hxo.lt hb).2,(hxo.lt hb).1⟩;have keep:∀b,b < w.heap.size->v.ownBlock≠sO b->w'.heap[b]? =w.heap[b]? :=λb hb hne=>hg.block b hb λe=>hne e.symm;refine⟨by rw[j8,x7];exact hr,λr hr=> ?_,λr hr g hgm=> ?_,λb hb r hr=> ?_,?_⟩
 ·rcases j7.1 hr with hr|hr
  ·exact(h.rows r hr).same λb hb=>keep b ((h.rows r hr).lt hb).1 λe=>h.df b e r hr hb
  ·rw[j6.1 hr]
   exact RoOwn.same (dP hxo hB) λb hb=>keep b (xge b hb).2 λe=>by have:=vlt b e;have:=(xge b hb).1;omega
 ·rcases j7.1 hr with hr|hr
  ·have h1:bV (λb=>(B<=b/\v.ownBlock≠sO b/\∀q∈L,roB q≠sO b)/\b < w0.heap.size) w g:=⟨((h0.sites r hr g hgm).1.mono λb hb hlt=>(⟨hb,hlt⟩:_/\b < w0.heap.size)).call hb,(h0.sites r hr g hgm).2⟩
   refine⟨(h1.1.same (λb hb hlt=>keep b hlt hb.1.2.1) hg.size).mono λb hb _=>⟨hb.1.1,?_,λq hq=> ?_⟩,h1.2⟩
   ·rcases hv with e|e
    ·rw[e];exact hb.1.2.1
    ·rw[e];intro e';cases e';have:=hb.2;omega
   ·rcases j7.1 hq with hq|hq
    ·exact hb.1.2.2 q hq
    ·rw[j6.1 hq]
     intro e;have:=(xge b e).1;have:=hb.2;omega
  ·rw[j6.1 hr] at hgm
   have h1:bV (λb=>(w0.heap.size<=b/\roB x≠sO b)/\b < w.heap.size) w g:=⟨(hx.2.2 g hgm).1.mono λb hb hlt=>⟨hb,hlt⟩,(hx.2.2 g hgm).2⟩;refine⟨(h1.1.same (λb hb hlt=>keep b hlt λe=>by have:=vlt b e;have:=hb.1.1;omega) hg.size).mono λb hb _=>⟨lT hB hb.1.1,?_,λq hq=> ?_⟩,h1.2⟩
   ·rcases hv with e|e
    ·rw[e];intro e';have:=vlt b e';have:=hb.1.1;omega
    ·rw[e];intro e';cases e';have:=hb.2;omega
   ·rcases j7.1 hq with hq|hq
    ·intro e
     have:=rlt q hq b e;have:=hb.1.1;omega
    ·rw[j6.1 hq]
     exact hb.1.2
 ·rcases hv with e|e
  ·rw[e] at hb
   rcases j7.1 hr with hr|hr
   ·exact h0.df b hb r hr
   ·rw[j6.1 hr]
    intro e';have:=vlt b hb;have:=(xge b e').1;omega
  ·rw[e] at hb
   cases hb;rcases j7.1 hr with hr|hr
   ·intro e'
    have:=rlt r hr _ e';omega
   ·rw[j6.1 hr]
    intro e';have:=(xge _ e').2;omega
 ·rw[List.pairwise_append]
  refine⟨h0.dr,List.pairwise_singleton _ _,λr hr q hq b hb e=> ?_⟩;rw[j6.1 hq] at e;have:=rlt r hr b hb;have:=(xge b e).1;omega
theorem FRowS.form (h:FRowS w B v L):∃fs fc,v=U fs L.length fc:=by
 rcases h.own.2 with⟨e,h0⟩|⟨g,cap,cur,e,_⟩
 ·exact⟨nO,0,by rw[e,h0]⟩
 ·exact⟨sO ⟨g,0,nO⟩,cap,e⟩
theorem FRowS.pic {S:Nat->Prop}{C:Nat}{vs fs:oA}{vc fc:Nat}{l:List Gc}(h:FRowS w B (U fs L.length fc) L)(hv:VRow S w C (U vs l.length vc) l)(hS:∀b,S b->C<=b/\b < B)(hC:C<=B):PicG (λb=>C<=b) C w ⟨vs,vc,l⟩ fs fc L:=by
 have vlt:∀b,roB ⟨vs,vc,l⟩=sO b->b < B:=λb hb=>(hS b (hv.2.1 b hb)).2;have fge:∀b,(j0 fs L.length fc).ownBlock=sO b->B<=b:=λb hb=>(aP h.own hb).2;have rge:∀r∈L,∀b,roB r=sO b->B<=b:=λr hr b hb=>((h.rows r hr).lt hb).2;refine⟨hv.1,dP h.own hC,λr hr=>dP (h.rows r hr) hC,λg hg=>⟨(hv.2.2 g hg).1.mono λb hb _=>⟨(hS b hb.1).1,hb.2,λe=> ?_,λr hr e=> ?_⟩,(hv.2.2 g hg).2⟩,λr hr g hg=>⟨(h.sites r hr g hg).1.mono λb hb _=>⟨lT hC hb.1,λe=> ?_,hb.2.1,hb.2.2⟩,(h.sites r hr g hg).2⟩,λb hb=>⟨λe=> ?_,λr hr e=> ?_⟩,h.df,h.dr⟩
 ·have:=fge b e;have:=(hS b hb.1).2;omega
 ·have:=rge r hr b e;have:=(hS b hb.1).2;omega
 ·have:=vlt b e;have:=hb.1;omega
 ·have:=fge b e;have:=vlt b hb;omega
 ·have:=rge r hr b e;have:=vlt b hb;omega
end
theorem PicG.down {T:Nat->Prop}{B C:Nat}{w:World}{v:Ro}{fs:oA}{fc:Nat}{L:List Ro}(h:PicG T B w v fs fc L)(hC:C<=B):PicG T C w v fs fc L:=⟨dP h.vars hC,dP h.flds hC,λr hr=>dP (h.rows r hr) hC,h.sv,h.sf,h.dv,h.df,h.dr⟩
def PicS (B:Nat)(w':World)(e:Ending)(x:Pic)(er:Int):Prop:=∃v fs fc L,x=aU x.none v L/\e=Rt (Tu #[Ag #[Bb x.none,U v.rs v.l.length v.rc,U fs L.length fc],I Y er])/\PicG (λb=>B<=b) B w' v fs fc L
def Gz (w w':World)(e:Ending)(l:List Gs):Prop:=∃rs rc gl,e=Rt (U rs gl.length rc)/\Hid (gl.map Gc.g=l)/\SRow w' w.heap.size (U rs gl.length rc) gl
theorem y8 (B:Nat)(w:World):PicG (λb=>B<=b) B w ⟨nO,0,[]⟩ nO 0 []:=⟨⟨rfl,.inl ⟨rfl,rfl⟩⟩,⟨rfl,.inl ⟨rfl,rfl⟩⟩,λr hr=>lu,λg hg=>by simp at hg,λr hr=>lu,λb hb=>by simp[roB,roV,Value.ownBlock] at hb,λb hb r hr=>lu,Z5.nil⟩
theorem kh (l:List Int)(p:Int->Bool)(k:Nat)(h:k < l.length):(l.drop k).any p=(p l[k]||(l.drop (k+1)).any p):=by
 rw[z5 h];rfl

theorem yX (l:List Int)(x:Int)(k:Nat)(h:k < l.length):x∈l.drop k↔(x=l[k]\/x∈l.drop (k+1)):=by
 rw[z5 h,q9]

theorem FT (x:Int)(ss:oA)(cap:Nat)(l:List Int)(w:World)(hl:l.length<=9223372036854775807)(hs:IntsAt w ss l):
  Calls pG 196 #[U ss l.length cap,I Y x] w λe w'=>∃n:Int,e=Rt (I Y n)/\(0<=n↔x∈l)/\w'=w:=by
 go_enter Tryz.func196,Tryz.ntmps196;go_wp2
 go_loop [8] (λi=>∃k:Nat,k<=l.length/\i=I Y k/\Hid (x∈l↔x∈l.drop k)) (λi=>l.length - (intOf i).toNat)
 case atStart=>exact⟨0,j9 _,rfl,Iff.rfl⟩
 case round=>
  obtain⟨k,hk,rfl,HA⟩:=hrel;by_cases hlt:k < l.length
  ·obtain⟨b,off,rfl,hb,hc⟩:=hs.get k hlt
   have n0:(0:Int)<=(k:Int):=aa;have n1:(k:Int) < (l.length:Int):=aa;have c0:=hc k hlt;have HN:Hid (x∈l.drop k↔(x=l[k]\/x∈l.drop (k+1))):=yX l x k hlt;clear hc hs;by_cases hp:l[k]=x
   ·have HT:Hid (x∈l):=HA.out.2 (HN.out.2 (.inl hp.symm))
    clear HN HA;have hp':(x==l[k])=true:=by simp[hp]
    go_wp2;go_ret;exact⟨_,rfl,⟨λ_=>HT.out,λ_=>aa⟩,rfl⟩
   ·have HT:Hid (x∈l↔x∈l.drop (k+1)):=HA.out.trans (HN.out.trans ⟨λh=>h.resolve_left λe=>hp e.symm,.inr⟩)
    have hp':(x==l[k])=false:=by simp;exact λh=>hp h.symm
    clear HN HA;go_wp2
    go_round
    case rel=>exact⟨k+1,aa,aG,HT⟩
    case measure=>simp[intOf];omega
  ·go_wp2
   go_ret;exact⟨_,rfl,⟨λh=>absurd h aa,λh=>by have:=HA.out.1 h;rw[x6 (by omega)] at this;cases this⟩,rfl⟩

theorem AK (x:Int)(ss:oA)(cap:Nat)(l:List Int)(w:World)(hl:l.length<=9223372036854775807)(hs:IntsAt w ss l):
  Calls pG 144 #[U ss l.length cap,I Y x] w λe w'=>e=Rt (Bb (l.contains x))/\w'=w:=by
 go_enter Tryz.func144,Tryz.ntmps144;go_wp2_with fail;refine(FT x ss cap l _ hl hs).mono ?_;rintro e w1 ⟨n,rfl,hn,rfl⟩;go_wp2;go_ret;exact⟨bm ah,rfl⟩
theorem wX (q:Nat)(p:Int->Bool)(ss:oA)(cap:Nat)(l:List Int)(w:World)(hl:l.length<=9223372036854775807)(hs:IntsAt w ss l)
  (hF:∀x wx,bl w wx->Calls pG 224 #[I Y x,Pp (sO ⟨q,0,nO⟩)] wx λe w'=>e=Rt (Bb (p x))/\bl wx w'):
  Calls pG 227 #[U ss l.length cap,.func (.func 224) #[] #[Pp (sO ⟨q,0,nO⟩)]] w λe w'=>∃n:Int,e=Rt (I Y n)/\decide (0<=n)=l.any p/\bl w w':=by
 have HF:=ae hF;clear hF;go_enter Tryz.func227,Tryz.ntmps227;go_wp2;go_loopw [8] (λi wr=>∃k:Nat,k<=l.length/\i=I Y k/\bl w wr/\Hid (l.any p=(l.drop k).any p)) (λi _=>l.length - (intOf i).toNat)
 case atStart=>exact⟨0,j9 _,rfl,bR _ _,rfl⟩
 case round=>
  obtain⟨k,hk,rfl,hbr,HA⟩:=hrel;by_cases hlt:k < l.length
  ·obtain⟨b,off,rfl,hb,hc⟩:=hs.get k hlt
   have n0:(0:Int)<=(k:Int):=aa;have n1:(k:Int) < (l.length:Int):=aa;have s0:=hbr.size;have c0:wr.cell? ⟨b,off+k,nO⟩=sO (I Y l[k]):=wK;have HN:Hid ((l.drop k).any p=(p l[k]||(l.drop (k+1)).any p)):=kh l p k hlt;clear hc hs;go_wp2_with (go_at_call 224;fail);refine(HF.out _ _ hbr).mono ?_;rintro e w1 ⟨rfl,hb1⟩;cases hp:p l[k] with
   |true=>
    have HT:Hid (l.any p=true):=fZ;clear HN HA;go_wp2;go_ret;exact⟨_,rfl,i6,hbr.trans (hb1.mono s0)⟩
   |false=>
    have HT:Hid (l.any p=(l.drop (k+1)).any p):=fZ;clear HN HA;go_wp2;go_roundw
    case rel=>exact⟨k+1,aa,aG,hbr.trans (hb1.mono s0),HT⟩
    case measure=>simp[intOf];omega
  ·go_wp2
   go_ret;exact⟨_,rfl,iA,hbr⟩

theorem rX (q:Nat)(p:Int->Bool)(ss:oA)(cap:Nat)(l:List Int)(w:World)(hl:l.length<=9223372036854775807)(hs:IntsAt w ss l)
  (hF:∀x wx,bl w wx->Calls pG 224 #[I Y x,Pp (sO ⟨q,0,nO⟩)] wx λe w'=>e=Rt (Bb (p x))/\bl wx w'):
  Calls pG 200 #[U ss l.length cap,.func (.func 224) #[] #[Pp (sO ⟨q,0,nO⟩)]] w λe w'=>e=Rt (Bb (l.any p))/\bl w w':=by
 have HF:=ae hF;clear hF;go_enter Tryz.func200,Tryz.ntmps200;go_wp2_with (go_at_call 227;fail);refine(wX q p ss cap l _ hl hs HF.out).mono ?_;rintro e w1 ⟨n,rfl,hn,hb1⟩;go_wp2;go_ret;exact⟨rfl,hb1⟩
theorem uE {p:Prop}(h:p:=by
 have n0:(0:Int)<=(k:Int):=aa;go_enter Tryz.func224,Tryz.ntmps224;go_wp2;go_ret;exact⟨bm (by rw[HR.out];simp[h11,hk]),Below.refl _ _⟩):p:=h
theorem Bx (x:Int)(q:Nat)(V F:Int)(s:oA)(c:List Ins)(cap:Nat)(w:World)(hp:PrAt w q V F s c cap)(hc:CodeAt w s c)(hl:c.length<=60):
  Calls pG 224 #[I Y x,Pp (sO ⟨q,0,nO⟩)] w λe w'=>e=Rt (Bb (!cn c x))/\bl w w':=by
 obtain⟨⟨p0,p1,p2⟩,p3⟩:=hp;have hl':(c.length:Int)<=60:=aa;by_cases h0:x < 0
 ·have HR:Hid (cn c x=false):=by show _=_;unfold cn;rw[decide_eq_false aa];rfl
  go_enter Tryz.func224,Tryz.ntmps224;go_wp2;go_ret;exact⟨bm fO,bR _ _⟩
 by_cases h1:x < (c.length:Int)
 ·obtain⟨k,rfl⟩:=J0 (show 0<=x by omega)
  have hk:k < c.length:=aa;obtain⟨b,off,rfl,hb,hi⟩:=hc.get k hk;obtain⟨i0,-,-,-,-,-⟩:=hi k hk;have HR:Hid (cn c k=decide (c[k].k=11)):=by
   show _=_;unfold cn;rw[decide_eq_true (show (0:Int)<=(k:Int) by omega),decide_eq_true h1,Int.toNat_natCast,show c.getD k ⟨0,0,0,0,0,0⟩=c[k] by simp[q7,Z6 hk]];simp
  clear hi hc;by_cases h11:c[k].k=11
  ·have e11:(c[k].k !=11)=false:=by simp[h11]
   exact uE
  ·have e11:(c[k].k !=11)=true:=by simpa using h11
   exact uE
 ·have HR:Hid (cn c x=false):=by show _=_;unfold cn;rw[decide_eq_false h1];simp
  go_enter Tryz.func224,Tryz.ntmps224;go_wp2;go_ret;exact⟨bm fO,bR _ _⟩

theorem sD (l:List Int)(p:Int->Bool):(l.any λx=> !p x)= !l.all p:=by
 induction l with
 |nil=>rfl
 |cons a r ih=>simp only[Q6,List.all_cons,ih,Bool.not_and]

theorem uW (l:List Int):dj l=true↔∀k (h:k+1 < l.length),l[k] < l[k+1]:=by
 induction l with
 |nil=>simp[dj]
 |cons a r ih=>
  cases r with
  |nil=>simp[dj]
  |cons b t=>
   simp only[dj,q4,decide_eq_true_eq,ih];constructor
   ·rintro ⟨h1,h2⟩ k hk
    cases k with
    |zero=>exact h1
    |succ k=>exact h2 k gX
   ·intro h
    exact⟨h 0 ah,λk hk=>h (k+1) gX⟩

abbrev pgW (w:World)(V F:Int)(s:oA)(c:List Ins)(cap:Nat)(g:Gs)(ss:oA)(gc:Nat):World:=
 (w.alloc (Cc #[I Y V,I Y F,U s c.length cap] 24)).alloc (Cc #[Bb g.n,Bb g.sp.n,I Y g.sp.lo,I Y g.sp.hi,Bb g.t,Bb g.f,U ss g.s.length gc] 91)

theorem yM (V F:Int)(s:oA)(c:List Ins)(cap:Nat)(g:Gs)(ss:oA)(gc:Nat)(w:World)(hc:CodeAt w s c)(hl:c.length<=60)(hs:IntsAt w ss g.s)(hgl:g.s.length<=9223372036854775807):
  Calls pG 194 #[pv V F s c cap,gv g ss gc] w λe w'=>e=Rt (I Y (aE c g))/\bl w w':=by
 have P0:PrAt (pgW w V F s c cap g ss gc) w.heap.size V F s c cap:=(PrAt.new w V F s c cap).alloc _;have G0:GuAt (pgW w V F s c cap g ss gc) (w.heap.size+1) 0 g ss gc:=by
  have:=GuAt.new (w.alloc (Cc #[I Y V,I Y F,U s c.length cap] 24)) g ss gc;simpa using this
 have C0:CodeAt (pgW w V F s c cap g ss gc) s c:=(hc.alloc _).alloc _;have I0:IntsAt (pgW w V F s c cap g ss gc) ss g.s:=(hs.alloc _).alloc _;have B0:Below w.heap.size w (pgW w V F s c cap g ss gc):=ai;have HR:Hid (aE c g=if cH g.sp≠0 then cH g.sp else if g.s.all (cn c)=false then 5 else if dj g.s=false then 4 else 0):=rfl;go_enter Tryz.func194,Tryz.ntmps194;go_wp2_with (go_at_call 195;fail);refine(it g.sp _).mono ?_;rintro e w1 ⟨rfl,hb1⟩;have P1:=P0.call hb1;have G1:=G0.call hb1;have C1:=C0.call hb1;have I1:=I0.call hb1;have B1:bl w w1:=B0.trans (hb1.mono an);clear hb1 P0 G0 C0 I0 B0 hc hs;by_cases hsp:cH g.sp=0
 ·obtain⟨⟨g0,g1,g2,g3,g4,g5,g6⟩,gz⟩:=id G1
  rw[hsp];go_wp2_with (go_at_call 200;fail);refine(rX w.heap.size (λx=> !cn c x) ss gc g.s _ hgl I1 λx wx hbx=>Bx x w.heap.size V F s c cap wx (P1.call hbx) (C1.call hbx) hl).mono ?_;rintro e w2 ⟨rfl,hb2⟩;rw[sD];have G2:=G1.call hb2;have I2:=I1.call hb2;have B2:bl w w2:=B1.trans (hb2.mono B1.size);clear hb2 P1 G1 C1 I1 B1 g0 g1 g2 g3 g4 g5 g6 gz;obtain⟨⟨g0,g1,g2,g3,g4,g5,g6⟩,gz⟩:=id G2;cases hA:g.s.all (cn c) with
  |false=>
   have HF:Hid (aE c g=5):=by show _=_;rw[HR.out,if_neg (by simpa using hsp),if_pos hA]
   clear HR;go_wp2;go_ret;exact⟨bU HF.out.symm,B2⟩
  |true=>
   have HF:Hid (aE c g=if dj g.s=false then 4 else 0):=by show _=_;rw[HR.out,if_neg (by simpa using hsp),if_neg (by simp[hA])]
   have HQ:=ae (uW g.s);clear HR;go_wp2;go_loopw [7] (λi wr=>∃k:Nat,1<=k/\i=I Y k/\k<=g.s.length+1/\wr.cell? ⟨w.heap.size+1,6,nO⟩=sO (U ss g.s.length gc)/\IntsAt wr ss g.s/\bl w wr/\Hid (∀j (h:j+1 < g.s.length),j+1 < k->g.s[j] < g.s[j+1])) (λi _=>g.s.length+1 - (intOf i).toNat)
   case atStart=>exact⟨1,lR _,rfl,aa,g6,I2,B2,λj h h'=>aa⟩
   case round=>
    obtain⟨k,hk1,rfl,hk2,r6,IR,BR,HK⟩:=hrel;by_cases hlt:k < g.s.length
    ·obtain⟨b,off,rfl,hb,hcell⟩:=IR.get k hlt
     have c0:=hcell (k - 1) aa;have c1:=hcell k hlt;have t1:((k:Int) - 1).toNat=k - 1:=aa;have n0:(0:Int)<=(k:Int) - 1:=aa;have n1:(k:Int) - 1 < (g.s.length:Int):=aa;have n2:(0:Int)<=(k:Int):=aa;have n3:(k:Int) < (g.s.length:Int):=aa;clear hcell;by_cases hr:g.s[k - 1] < g.s[k]
     ·go_wp2
      go_quiet (fail)
      go_wp2;go_roundw
      case rel=>
       refine⟨k+1,aa,aG,aa,?_,IR.drewN _,below_drewN BR _,λj h h'=> ?_⟩
       ·rw[<-r6];exact(below_drewN (bR (wr.heap.size+(w.heap.size+2)) wr) _).cell an
       ·by_cases e:j+1=k
        ·subst e;exact hr
        ·exact HK.out j h aa
      case measure=>simp[intOf];omega
     ·have HG:Hid (dj g.s=false):=by
       show _=_;rw[Bool.eq_false_iff];intro hx;have:=HQ.out.1 hx (k - 1) aa;have e:k - 1+1=k:=aa;simp only[e] at this;exact hr this
      clear HQ;go_wp2
      go_quiet (fail)
      go_wp2;go_ret;exact⟨bU (by rw[HF.out,if_pos HG.out]),below_drewN BR _⟩
    ·go_wp2
     go_ret;refine⟨bU ?_,BR⟩;rw[HF.out,if_neg];have:dj g.s=true:=HQ.out.2 λj h=>HK.out j h aa;simp[this]
 ·have HF:Hid (aE c g=cH g.sp):=by show _=_;rw[HR.out,if_pos hsp]
  have hne:(cH g.sp !=0)=true:=by simpa using hsp
  clear HR;go_wp2;go_ret;exact⟨bU HF.out.symm,B1⟩
theorem fU {p:Prop}(h:p:=by
 go_enter Tryz.func209,Tryz.ntmps209;go_wp2_with (go_at_call 57;refine(dR _ _ _ _).mono ?_;rintro e w' ⟨rfl,rfl⟩);go_ret;exact⟨rfl,ai⟩):p:=h
theorem oD (s:Sp)(w:World):
  Calls pG 209 #[sv s] w λe w'=>e=Rt (I Y (cH s))/\bl w w':=by
 obtain⟨n,lo,hi⟩:=s;have e0:cH ⟨n,lo,hi⟩=if¬(ba lo/\ba hi) then 3 else if n=true/\¬(lo=0/\hi=0) then 1 else if hi < lo then 4 else 0:=rfl
 rw[e0];clear e0;by_cases h:ba lo
 ·have b1:btw lo (-2147483648) 2147483647=true:=decide_eq_true h
  by_cases h':ba hi
  ·have b2:btw hi (-2147483648) 2147483647=true:=decide_eq_true h'
   rw[if_neg (by simp[h,h'])];clear h h';cases n with
   |true=>
    by_cases hz:lo=0
    ·subst hz
     by_cases hz':hi=0
     ·subst hz'
      rw[if_neg ah,if_neg ah];exact fU
     ·have q:(hi==0)=false:=by simpa using hz'
      rw[if_pos (by simp[hz'])];exact fU
    ·have q:(lo==0)=false:=by simpa using hz
     rw[if_pos (by simp[hz])];exact fU
   |false=>
    rw[if_neg ah];by_cases hz:hi < lo
    ·rw[if_pos hz]
     exact fU
    ·rw[if_neg hz]
     exact fU
  ·have b2:btw hi (-2147483648) 2147483647=false:=decide_eq_false h'
   rw[if_pos (by simp[h'])];clear h h';exact fU
 ·have b1:btw lo (-2147483648) 2147483647=false:=decide_eq_false h
  rw[if_pos (by simp[h])];clear h;exact fU

theorem uT (s:Sp)(x:Int)(w:World):
  Calls pG 113 #[sv s,I Y x] w λe w'=>e=Rt (Bb (s.has x))/\bl w w':=by
 obtain⟨n,lo,hi⟩:=s;have e0:btw x lo hi=(decide (lo<=x)&&decide (x<=hi)):=by unfold btw;exact Bool.decide_and _ _
 have e1:Sp.has ⟨n,lo,hi⟩ x=(!n&&btw x lo hi):=by rw[e0];rfl
 rw[e1];cases n with
 |true=>
  go_enter Tryz.func113,Tryz.ntmps113;go_wp2;go_ret;exact⟨rfl,ai⟩
 |false=>
  clear e0 e1;generalize hB:btw x lo hi=B;go_enter Tryz.func113,Tryz.ntmps113;go_wp2_with (go_at_call 57;refine(dR _ _ _ _).mono ?_;rintro e w' ⟨rfl,rfl⟩);go_ret;exact⟨bm (by simp[hB]),ai⟩

theorem Bn (g c:Nat)(x y:Int)(w:World)(h0:w.cell? ⟨g,0,nO⟩=sO (I Y x))(h1:w.cell? ⟨g,1,nO⟩=sO (I Y y)):
  Calls pG 207 #[U (sO ⟨g,0,nO⟩) 2 c] w λe w'=>e=Rt (I Y (min x y))/\w'=w:=by
 go_enter Tryz.func207,Tryz.ntmps207;go_wp2
 go_rounds 2
 all_goals go_ret
 all_goals exact⟨bU aa,rfl⟩

theorem KI (g c:Nat)(x y z u:Int)(w:World)(h0:w.cell? ⟨g,0,nO⟩=sO (I Y x))(h1:w.cell? ⟨g,1,nO⟩=sO (I Y y))(h2:w.cell? ⟨g,2,nO⟩=sO (I Y z))(h3:w.cell? ⟨g,3,nO⟩=sO (I Y u)):
  Calls pG 207 #[U (sO ⟨g,0,nO⟩) 4 c] w λe w'=>e=Rt (I Y (dK x y z u))/\w'=w:=by
 go_enter Tryz.func207,Tryz.ntmps207;go_wp2
 go_rounds 4
 all_goals go_ret
 all_goals exact⟨bU (by unfold dK;omega),rfl⟩

theorem He (g c:Nat)(x y:Int)(w:World)(h0:w.cell? ⟨g,0,nO⟩=sO (I Y x))(h1:w.cell? ⟨g,1,nO⟩=sO (I Y y)):
  Calls pG 208 #[U (sO ⟨g,0,nO⟩) 2 c] w λe w'=>e=Rt (I Y (max x y))/\w'=w:=by
 go_enter Tryz.func208,Tryz.ntmps208;go_wp2
 go_rounds 2
 all_goals go_ret
 all_goals exact⟨bU aa,rfl⟩

theorem MC (g c:Nat)(x y z u:Int)(w:World)(h0:w.cell? ⟨g,0,nO⟩=sO (I Y x))(h1:w.cell? ⟨g,1,nO⟩=sO (I Y y))(h2:w.cell? ⟨g,2,nO⟩=sO (I Y z))(h3:w.cell? ⟨g,3,nO⟩=sO (I Y u)):
  Calls pG 208 #[U (sO ⟨g,0,nO⟩) 4 c] w λe w'=>e=Rt (I Y (dL x y z u))/\w'=w:=by
 go_enter Tryz.func208,Tryz.ntmps208;go_wp2
 go_rounds 4
 all_goals go_ret
 all_goals exact⟨bU (by unfold dL;omega),rfl⟩
end
section
open Go
section
variable {P:Program} {ops:Array Oper} {Q:Exit->Act->World->Prop} {md:Region.Mode} {S:World->Prop} {zs:List Nat}

def cI (P:Program)(md:Region.Mode)(ops:Array Oper)(Q:Exit->Act->World->Prop)(S:World->Prop)(zs:List Nat):Nat->Array Bool->Act->World->Prop
 |0,listed,a,w=>Region.ready md ops listed=[]/\Q .normal a w
 |fuel+1,listed,a,w=>
  (Region.ready md ops listed=[]->Q .normal a w)/\
  ∀i∈Region.ready md ops listed,wpOp P ops Q i (λa' w'=>(i∉zs->S w->S w')/\cI P md ops Q S zs fuel (listed.setIfInBounds i true) a' w') a w

theorem nI:∀(fuel:Nat) (listed:Array Bool) (a:Act) (w:World),cI P md ops Q S zs fuel listed a w->wpAny P md ops Q fuel listed a w
 |0,_,_,_,h=>h
 |fuel+1,_,_,_,h=>⟨h.1,λi hi=>wpOp_mono (λa' w' h'=>nI fuel _ a' w' h'.2) (h.2 i hi)⟩

def yu (md:Region.Mode)(ops:Array Oper)(i:Nat):Nat->List Nat->List Nat
 |0,ws=>ws
 |n+1,ws=>yu md ops i n ((J1 ops.size).filter λx=>((ops[x]?).map λo=>o.after.any λe=>Region.binds md e&&(e.on==i||ws.contains e.on)).getD false)
def Ek (md:Region.Mode)(ops:Array Oper)(listed:Array Bool)(i:Nat)(ws:List Nat):Bool:=
 ws.all λx=> !(listed.getD x true)&&((ops[x]?).map λo=>o.after.any λe=>Region.binds md e&&(e.on==i||ws.contains e.on)).getD false
def zOk (md:Region.Mode)(ops:Array Oper)(listed:Array Bool)(i:Nat)(zs:List Nat):Bool:=
 !zs.contains i&&(let ws:=yu md ops i 8 [];Ek md ops listed i ws&&zs.all λz=>listed.getD z true||ws.contains z)

theorem Cu {i:Nat}{oi:Oper}{v:Value}(hi:ops[i]? =sO oi)(hsel:∀(j:Nat) (o:Oper) cs b,ops[j]? =sO o->o.op≠.select cs b)
  (hQ:∀c a w,Q (.panic c) (a.put oi.dst v) w->Q (.panic c) a w)(hiz:i∉zs)(ws:List Nat)
  (hws:∀x∈ws,∀o,ops[x]? =sO o->∃e∈o.after,Region.binds md e=true/\(e.on=i\/e.on∈ws)):
  ∀(fuel:Nat) (listed:Array Bool) (a:Act) (w:World),
   (∀j oj,ops[j]? =sO oj->j≠i->listed.getD j true=false->(∀e∈oj.after,Region.binds md e=true->e.on≠i)->oi.apart ops oj=true)->
   (∀x∈ws,listed.getD x true=false)->(∀z∈zs,listed.getD z true=true\/z∈ws)->
   i∈Region.ready md ops listed->YieldsIf P ops S oi v a->S w->
   cI P md ops Q S zs fuel (listed.setIfInBounds i true) (a.put oi.dst v) w->cI P md ops Q S zs (fuel+1) listed a w:=by
 intro fuel;induction fuel with
 |zero=>
  intro listed a w _ _ _ hr hy hS H;refine⟨λh=>(by rw[h] at hr;cases hr),λj hj=> ?_⟩;by_cases hji:j=i
  ·subst hji;exact hy.wpOp hi hS ⟨λ_ _=>hS,H⟩
  ·have:=ready_mono hj hji
   rw[H.1] at this;cases this
 |succ fuel ih=>
  intro listed a w hfree hun hzs hr hy hS H;refine⟨λh=>(by rw[h] at hr;cases hr),λj hj=> ?_⟩;by_cases hji:j=i
  ·subst hji;exact hy.wpOp hi hS ⟨λ_ _=>hS,H⟩
  ·have h1:=H.2 j (ready_mono hj hji)
   obtain⟨hjun,oj,hoj,hall⟩:=mem_ready.1 hj;have h0:=(mem_ready.1 hr).1;have hf:∀x,listed.getD x true=false->listed.getD x false=false:=λx hx=>by
    rcases Nat.lt_or_ge x listed.size with h'|h'
    ·simp[h'] at hx |-;exact hx
    ·simp[Array.getElem?_eq_none h'] at hx
   have hjw:j∉ws:=λhj'=>by
    obtain⟨e,he,hb,hon⟩:=hws j hj' oj hoj;have h2:=hall e he hb;rcases hon with hon|hon
    ·rw[hon,hf i h0] at h2;cases h2
    ·rw[hf _ (hun _ hon)] at h2;cases h2
   have hjz:j∉zs:=λhj'=>by
    rcases hzs j hj' with h|h
    ·rw[h] at hjun;cases hjun
    ·exact hjw h
   have hnot:∀e∈oj.after,Region.binds md e=true->e.on≠i:=λe he hb heq=>by
    have h2:=hall e he hb;rw[heq,hf i h0] at h2;cases h2
   have h2:=wpOp_putIf hoj (hfree j oj hoj hji hjun hnot) (λcs b=>hsel i oi cs b hi) (λcs b=>hsel j oj cs b hoj) hQ hy h1;have hset:∀k,(listed.setIfInBounds j true).getD k true=false->listed.getD k true=false:=λk hk=>by
    by_cases hjk:j=k
    ·subst hjk;exact hjun
    ·rw[getD_set_ne true hjk] at hk;exact hk
   have hfree':∀k ok,ops[k]? =sO ok->k≠i->(listed.setIfInBounds j true).getD k true=false->
     (∀e∈ok.after,Region.binds md e=true->e.on≠i)->oi.apart ops ok=true:=λk ok hk hki hun' hno=>hfree k ok hk hki (hset k hun') hno
   refine wpOp_mono (λa' w' h3=>⟨h3.2.1,ih (listed.setIfInBounds j true) a' w' hfree' (λx hx=> ?_) (λz hz=> ?_) (ready_mono hr (Ne.symm hji)) h3.1 (h3.2.1 hjz hS) ?_⟩) h2
   ·rw[getD_set_ne true (λe=>hjw (by rw[e];exact hx))];exact hun x hx
   ·rcases hzs z hz with h|h
    ·left
     by_cases hjk:j=z
     ·exact absurd (hjk ▸ hz) hjz
     ·rw[getD_set_ne true hjk];exact h
    ·exact .inr h
   ·rw[Array.setIfInBounds_comm _ _ hji]
    exact h3.2.2

theorem Dk {i:Nat}{oi:Oper}{v:Value}(hi:ops[i]? =sO oi)(hsel:∀(j:Nat) (o:Oper) cs b,ops[j]? =sO o->o.op≠.select cs b)
  (hQ:∀c a w,Q (.panic c) (a.put oi.dst v) w->Q (.panic c) a w):
  ∀(fuel:Nat) (listed:Array Bool) (a:Act) (w:World),
   (∀j oj,ops[j]? =sO oj->j≠i->listed.getD j true=false->(∀e∈oj.after,Region.binds md e=true->e.on≠i)->oi.apart ops oj=true)->
   i∈Region.ready md ops listed->YieldsIf P ops (λ_=>True) oi v a->
   cI P md ops Q S zs fuel (listed.setIfInBounds i true) (a.put oi.dst v) w->cI P md ops Q S zs (fuel+1) listed a w:=by
 intro fuel;induction fuel with
 |zero=>
  intro listed a w _ hr hy H;refine⟨λh=>(by rw[h] at hr;cases hr),λj hj=> ?_⟩;by_cases hji:j=i
  ·subst hji;exact hy.wpOp hi trivial ⟨λ_ h=>h,H⟩
  ·have:=ready_mono hj hji
   rw[H.1] at this;cases this
 |succ fuel ih=>
  intro listed a w hfree hr hy H;refine⟨λh=>(by rw[h] at hr;cases hr),λj hj=> ?_⟩;by_cases hji:j=i
  ·subst hji;exact hy.wpOp hi trivial ⟨λ_ h=>h,H⟩
  ·have h1:=H.2 j (ready_mono hj hji)
   obtain⟨hjun,oj,hoj,hall⟩:=mem_ready.1 hj;have h0:=(mem_ready.1 hr).1;have hf:∀x,listed.getD x true=false->listed.getD x false=false:=λx hx=>by
    rcases Nat.lt_or_ge x listed.size with h'|h'
    ·simp[h'] at hx |-;exact hx
    ·simp[Array.getElem?_eq_none h'] at hx
   have hnot:∀e∈oj.after,Region.binds md e=true->e.on≠i:=λe he hb heq=>by
    have h2:=hall e he hb;rw[heq,hf i h0] at h2;cases h2
   have h2:=wpOp_putIf hoj (hfree j oj hoj hji hjun hnot) (λcs b=>hsel i oi cs b hi) (λcs b=>hsel j oj cs b hoj) hQ hy h1;have hset:∀k,(listed.setIfInBounds j true).getD k true=false->listed.getD k true=false:=λk hk=>by
    by_cases hjk:j=k
    ·subst hjk;exact hjun
    ·rw[getD_set_ne true hjk] at hk;exact hk
   have hfree':∀k ok,ops[k]? =sO ok->k≠i->(listed.setIfInBounds j true).getD k true=false->
     (∀e∈ok.after,Region.binds md e=true->e.on≠i)->oi.apart ops ok=true:=λk ok hk hki hun' hno=>hfree k ok hk hki (hset k hun') hno
   refine wpOp_mono (λa' w' h3=>⟨h3.2.1,ih (listed.setIfInBounds j true) a' w' hfree' (ready_mono hr (Ne.symm hji)) h3.1 ?_⟩) h2;rw[Array.setIfInBounds_comm _ _ hji];exact h3.2.2
theorem Dn {i:Nat}{oi:Oper}{v:Value}{fuel:Nat}{listed:Array Bool}{a:Act}{w:World}(hi:ops[i]? =sO oi)
  (hs:Region.noSelect ops=true)(hf:Region.free md ops listed i=true)(hr:(Region.ready md ops listed).contains i=true)
  (hQ:∀c a w,Q (.panic c) (a.put oi.dst v) w->Q (.panic c) a w)(hy:YieldsIf P ops (λ_=>True) oi v a)
  (h:cI P md ops Q S zs fuel (listed.setIfInBounds i true) (a.put oi.dst v) w):cI P md ops Q S zs (fuel+1) listed a w:=
 Dk hi (Region.noSelect_spec hs) hQ fuel listed a w (Region.free_spec hi hf) (by simpa using hr) hy h

theorem sh {i:Nat}{oi:Oper}{v:Value}{fuel:Nat}{listed:Array Bool}{a:Act}{w:World}(hi:ops[i]? =sO oi)
  (hs:Region.noSelect ops=true)(hf:(Region.free md ops listed i&&zOk md ops listed i zs)=true)(hr:(Region.ready md ops listed).contains i=true)
  (hQ:∀c a w,Q (.panic c) (a.put oi.dst v) w->Q (.panic c) a w)(hy:YieldsIf P ops S oi v a)(hS:S w)
  (h:cI P md ops Q S zs fuel (listed.setIfInBounds i true) (a.put oi.dst v) w):cI P md ops Q S zs (fuel+1) listed a w:=by
 rw[q4] at hf;obtain⟨hf,hz⟩:=hf;simp only[zOk,q4,Ek,List.all_eq_true,Bool.not_eq_true',Bool.or_eq_true] at hz;obtain⟨hz1,hz2,hz3⟩:=hz;refine Cu hi (Region.noSelect_spec hs) hQ (by simpa using hz1) (yu md ops i 8 []) (λx hx o ho=> ?_) fuel listed a w (Region.free_spec hi hf) (λx hx=>(hz2 x hx).1) (λz hz=> ?_) (by simpa using hr) hy hS h
 ·have:=(hz2 x hx).2
  rw[ho] at this;simp only[Option.map_some,Option.getD_some,Array.any_eq_true,q4,Bool.or_eq_true,beq_iff_eq] at this;obtain⟨k,hk,hb,hon⟩:=this;exact⟨_,Array.getElem_mem hk,hb,hon.imp id (by simp)⟩
 ·rcases hz3 z hz with h|h
  ·exact .inl h
  ·exact .inr (by simpa using h)

theorem aD {listed:Array Bool}{a:Act}{w:World}(hr:Region.ready md ops listed=[])(h:Q .normal a w):
  ∀fuel,cI P md ops Q S zs fuel listed a w
 |0=>⟨hr,h⟩
 |_+1=>⟨λ_=>h,by rw[hr];simp⟩

theorem aB {i:Nat}{o:Oper}{fuel:Nat}{listed:Array Bool}{a:Act}{w:World}(ho:ops[i]? =sO o)(hr:Region.ready md ops listed=[i])
  (h:∀K':Act->World->Prop,Shut (∀a w,S w->(S w->cI P md ops Q S zs fuel (listed.setIfInBounds i true) a w)->K' a w)->if Region.wanted o (yielded ops a.tmps)=true then Oper.wp P o a w K' Q else K' (a.put o.dst undef) w):
  cI P md ops Q S zs (fuel+1) listed a w:=by
 refine⟨λh0=>(by rw[hr] at h0;cases h0),λj hj=> ?_⟩;rw[hr] at hj;obtain rfl:j=i:=by simpa using hj
 exact wpOp_step ho (λK' hK=>h K' (λa w hS hW=>hK a w ⟨λ_ _=>hS,hW hS⟩))
theorem Gg {i j:Nat}{oi oj:Oper}{fuel:Nat}{listed:Array Bool}{a:Act}{w:World}(hoi:ops[i]? =sO oi)(hoj:ops[j]? =sO oj)(hr:Region.ready md ops listed=[i,j])
  (h:∀K':Act->World->Prop,Shut (∀a w,S w->(S w->cI P md ops Q S zs fuel (listed.setIfInBounds i true) a w)->K' a w)->if Region.wanted oi (yielded ops a.tmps)=true then Oper.wp P oi a w K' Q else K' (a.put oi.dst undef) w)
  (h':∀K':Act->World->Prop,Shut (∀a w,S w->(S w->cI P md ops Q S zs fuel (listed.setIfInBounds j true) a w)->K' a w)->if Region.wanted oj (yielded ops a.tmps)=true then Oper.wp P oj a w K' Q else K' (a.put oj.dst undef) w):
  cI P md ops Q S zs (fuel+1) listed a w:=by
 refine⟨λh0=>(by rw[hr] at h0;cases h0),λk hk=> ?_⟩;rw[hr] at hk;rcases q9.1 hk with rfl|hk
 ·exact wpOp_step hoi (λK' hK=>h K' (λa w hS hW=>hK a w ⟨λ_ _=>hS,hW hS⟩))
 ·obtain rfl:k=j:=by simpa using hk
  exact wpOp_step hoj (λK' hK=>h' K' (λa w hS hW=>hK a w ⟨λ_ _=>hS,hW hS⟩))
theorem bE {i:Nat}{o:Oper}{fuel:Nat}{listed:Array Bool}{a:Act}{w:World}(ho:ops[i]? =sO o)(hr:Region.ready md ops listed=[i])(hz:zs.contains i=true)
  (h:∀K':Act->World->Prop,Shut (∀a w,cI P md ops Q S zs fuel (listed.setIfInBounds i true) a w->K' a w)->if Region.wanted o (yielded ops a.tmps)=true then Oper.wp P o a w K' Q else K' (a.put o.dst undef) w):
  cI P md ops Q S zs (fuel+1) listed a w:=by
 refine⟨λh0=>(by rw[hr] at h0;cases h0),λj hj=> ?_⟩;rw[hr] at hj;obtain rfl:j=i:=by simpa using hj
 exact wpOp_step ho (λK' hK=>h K' (λa w hW=>hK a w ⟨λhn=>absurd (by simpa using hz) hn,hW⟩))

theorem aH {id:Nat}{a:Act}{w:World}(zs:List Nat)(hm:P.follows .mixedOrders=true)(hS:S w.drew)
  (h:S w.drew->cI P .any ops Q S zs ops.size (Array.replicate ops.size false) a w.drew):(Code.region id ops true).wp P Q a w:=
 wp_region_any hm (nI _ _ _ _ (h hS))
end
theorem sm {p q:Prop}(h:q)(e:q->p:=by(intro h;(try simp only[Act.put,List.getElem_toArray,List.getElem_cons_zero,List.getElem_cons_succ,List.setIfInBounds_toArray,List.set_cons_zero,List.set_cons_succ]);exact h)):p:=e h
section
variable {P:Program} {ops:Array Oper} {Q:Exit->Act->World->Prop} {md:Region.Mode} {S:World->Prop} {zs:List Nat}
theorem tZ (i:Nat){oi:Oper}(v:Value){fuel:Nat}{listed:Array Bool}{a:Act}{w:World}
  (h:cI P md ops Q S zs fuel (listed.setIfInBounds i true) (a.put oi.dst v) w)(hi:ops[i]? =some oi:=by rfl)(hy:∀w,S w->(execOp a.eval oi).run P w=.ok (.value v) w:=by(intro w hSw;(try dsimp only at hSw);first|(go_simp;done)|(go_simp;with_reducible rfl)))
  (hs:Region.noSelect ops=true:=by kernel_rfl)(hf:(Region.free md ops listed i&&zOk md ops listed i zs)=true:=by kernel_rfl)(hr:(Region.ready md ops listed).contains i=true:=by kernel_rfl)
  (hQ:∀c a w,Q (.panic c) (a.put oi.dst v) w->Q (.panic c) a w:=by exact λ_ _ _ h=>h)(hw:Region.wanted oi (yielded ops a.tmps)=true:=by rfl)(hS:S w:=by assumption):cI P md ops Q S zs (fuel+1) listed a w:=
 sh hi hs hf hr hQ (.inl ⟨hw,hy⟩) hS h
theorem tH (i:Nat){oi:Oper}(v:Value){fuel:Nat}{listed:Array Bool}{a:Act}{w:World}
  (h:wpAnyH P md ops Q S fuel (listed.setIfInBounds i true) (a.put oi.dst v) w)(hi:ops[i]? =some oi:=by rfl)(hy:∀w,S w->(execOp a.eval oi).run P w=.ok (.value v) w:=by(intro w hSw;(try dsimp only at hSw);first|(go_simp;done)|(go_simp;with_reducible rfl)))
  (hs:Region.noSelect ops=true:=by kernel_rfl)(hf:Region.free md ops listed i=true:=by kernel_rfl)(hr:(Region.ready md ops listed).contains i=true:=by kernel_rfl)
  (hQ:∀c a w,Q (.panic c) (a.put oi.dst v) w->Q (.panic c) a w:=by exact λ_ _ _ h=>h)(hw:Region.wanted oi (yielded ops a.tmps)=true:=by rfl)(hS:S w:=by assumption):wpAnyH P md ops Q S (fuel+1) listed a w:=
 wpAnyH_take hi hs hf hr hQ (.inl ⟨hw,hy⟩) hS h
theorem uH (i:Nat){oi:Oper}{fuel:Nat}{listed:Array Bool}{a:Act}{w:World}
  (h:wpAnyH P md ops Q S fuel (listed.setIfInBounds i true) (a.put oi.dst undef) w)(hi:ops[i]? =some oi:=by rfl)
  (hs:Region.noSelect ops=true:=by kernel_rfl)(hf:Region.free md ops listed i=true:=by kernel_rfl)(hr:(Region.ready md ops listed).contains i=true:=by kernel_rfl)
  (hQ:∀c a w,Q (.panic c) (a.put oi.dst undef) w->Q (.panic c) a w:=by exact λ_ _ _ h=>h)(hw:Region.wanted oi (yielded ops a.tmps)=false:=by rfl)(hS:S w:=by assumption):wpAnyH P md ops Q S (fuel+1) listed a w:=
 wpAnyH_take hi hs hf hr hQ (.inr ⟨hw,rfl⟩) hS h
theorem pZ (i:Nat){oi:Oper}(v:Value){fuel:Nat}{listed:Array Bool}{a:Act}{w:World}
  (h:cI P md ops Q S zs fuel (listed.setIfInBounds i true) (a.put oi.dst v) w)(hi:ops[i]? =some oi:=by rfl)(hy:∀w,True->(execOp a.eval oi).run P w=.ok (.value v) w:=by(intro w _;first|(go_simp;done)|(go_simp;with_reducible rfl)))
  (hs:Region.noSelect ops=true:=by kernel_rfl)(hf:Region.free md ops listed i=true:=by kernel_rfl)(hr:(Region.ready md ops listed).contains i=true:=by kernel_rfl)
  (hQ:∀c a w,Q (.panic c) (a.put oi.dst v) w->Q (.panic c) a w:=by exact λ_ _ _ h=>h)(hw:Region.wanted oi (yielded ops a.tmps)=true:=by rfl):cI P md ops Q S zs (fuel+1) listed a w:=
 Dn hi hs hf hr hQ (.inl ⟨hw,hy⟩) h
end
section
variable {P:Program} {ops:Array Oper} {Q:Exit->Act->World->Prop} {md:Region.Mode} {S:World->Prop} {zs:List Nat}
theorem vZ (i:Nat){oi:Oper}(v:Value){fuel:Nat}{listed:Array Bool}{a:Act}{w:World}{q:Prop}
  (h:q)(hi:ops[i]? =some oi:=by rfl)(hy:∀w,S w->(execOp a.eval oi).run P w=.ok (.value v) w:=by(intro w hSw;(try dsimp only at hSw);first|(go_simp;done)|(go_simp;with_reducible rfl)))
  (hs:Region.noSelect ops=true:=by kernel_rfl)(hf:(Region.free md ops listed i&&zOk md ops listed i zs)=true:=by kernel_rfl)(hr:(Region.ready md ops listed).contains i=true:=by kernel_rfl)
  (hQ:∀c a w,Q (.panic c) (a.put oi.dst v) w->Q (.panic c) a w:=by exact λ_ _ _ h=>h)(hw:Region.wanted oi (yielded ops a.tmps)=true:=by rfl)(hS:S w:=by assumption)
  (e:q->cI P md ops Q S zs fuel (listed.setIfInBounds i true) (a.put oi.dst v) w:=by(intro h;(try simp only[Act.put,List.getElem_toArray,List.getElem_cons_zero,List.getElem_cons_succ,List.setIfInBounds_toArray,List.set_cons_zero,List.set_cons_succ]);exact h)):cI P md ops Q S zs (fuel+1) listed a w:=
 sh hi hs hf hr hQ (.inl ⟨hw,hy⟩) hS (e h)
theorem vH (i:Nat){oi:Oper}(v:Value){fuel:Nat}{listed:Array Bool}{a:Act}{w:World}{q:Prop}
  (h:q)(hi:ops[i]? =some oi:=by rfl)(hy:∀w,S w->(execOp a.eval oi).run P w=.ok (.value v) w:=by(intro w hSw;(try dsimp only at hSw);first|(go_simp;done)|(go_simp;with_reducible rfl)))
  (hs:Region.noSelect ops=true:=by kernel_rfl)(hf:Region.free md ops listed i=true:=by kernel_rfl)(hr:(Region.ready md ops listed).contains i=true:=by kernel_rfl)
  (hQ:∀c a w,Q (.panic c) (a.put oi.dst v) w->Q (.panic c) a w:=by exact λ_ _ _ h=>h)(hw:Region.wanted oi (yielded ops a.tmps)=true:=by rfl)(hS:S w:=by assumption)
  (e:q->wpAnyH P md ops Q S fuel (listed.setIfInBounds i true) (a.put oi.dst v) w:=by(intro h;(try simp only[Act.put,List.getElem_toArray,List.getElem_cons_zero,List.getElem_cons_succ,List.setIfInBounds_toArray,List.set_cons_zero,List.set_cons_succ]);exact h)):wpAnyH P md ops Q S (fuel+1) listed a w:=
 wpAnyH_take hi hs hf hr hQ (.inl ⟨hw,hy⟩) hS (e h)
end
section
variable {P:Program} (w:World)
theorem yB (t ty:TypeId)(base:Nat)(e:TypeId)(i:TypeInfo)(z:Value)(size bytes:Nat)(ht:P.underlying t=sO (.slice e))(hi:P.info? e=sO i)(hz:i.zero=sO z)
  (hsize:i.size=size)(hby:i.bytes=bytes)(hzs:z.cells.size=size)(hsz:0 < size)
  (v:Value)(n:Nat)(xs:List Value)(hown:w.ownsRow base e size v n xs)
  (ao:Option Addr)(m c:Nat)(news:List Value)(hl:news.length=m * size)(hao:ao=none->m=0)(hnews:∀ad,ao=sO ad->∀j u,news[j]? =sO u->w.cell? (ad.add j)=sO u)(h1:∀u∈news,u.oneCell'=true)
  (h63:n+m<=maxLen)(hbytes:(n+m) * bytes<=140737488355328)(hbase:base<=w.heap.size):
  ∃v' w',(Builtin.append_ #[t,t] ty #[v,U ao m c]).run P w=.ok v' w'/\w'.ownsRow base e size v' (n+m) (xs++news)/\w.grownBy w' v.ownBlock/\(v'.ownBlock=v.ownBlock\/v'.ownBlock=sO w.heap.size):=by
 cases ao with
 |some ad=>
  obtain⟨v',w',hr,h2,h3,_,h5⟩:=run_append_own_at (P:=P) w base t ty e i z size bytes ht hi hz hsize hby hzs hsz v n xs hown ad m c news hl (hnews ad rfl) h1 h63 hbytes hbase;exact⟨v',w',hr,h2,h3,h5⟩
 |none=>
  obtain rfl:=hao rfl;obtain rfl:news=[]:=List.eq_nil_of_length_eq_zero (by simpa using hl);refine⟨v,w,?_,by simpa using hown,⟨rfl,rfl,rfl,lR _,λ_ _ _=>rfl⟩,.inl rfl⟩;rcases hown.2 with⟨rfl,rfl⟩|⟨g,cap,cur,rfl,_,_,hnc,_⟩
  ·simp[Builtin.append_,run_underlying ht,sizeOf,typeInfo,hi,Builtin.lenOf,Builtin.firstCells]
  ·simp[Builtin.append_,run_underlying ht,sizeOf,typeInfo,hi,Builtin.lenOf,Builtin.firstCells,hnc,storeCells]

theorem oI {o:Oper}{a:Act}{K:Act->World->Prop}{Q:Exit->Act->World->Prop}(s x:Operand)(t:TypeId)
  (ho:o.op=.call {callee:=.builtin .append,args:=#[s,x],argTypes:=#[t,t]})
  (base:Nat)(e:TypeId)(i:TypeInfo)(z:Value)(size bytes:Nat)(ht:P.underlying t=sO (.slice e))(hi:P.info? e=sO i)(hz:i.zero=sO z)
  (hsize:i.size=size)(hby:i.bytes=bytes)(hzs:z.cells.size=size)(hsz:0 < size)
  (v:Value)(n:Nat)(xs:List Value)(hs:a.eval s=v)(hown:w.ownsRow base e size v n xs)
  (ao:Option Addr)(m c:Nat)(news:List Value)(hx:a.eval x=U ao m c)(hl:news.length=m * size)(hao:ao=none->m=0)(hnews:∀ad,ao=sO ad->∀j u,news[j]? =sO u->w.cell? (ad.add j)=sO u)(h1:∀u∈news,u.oneCell'=true)
  (h63:n+m<=maxLen)(hbytes:(n+m) * bytes<=140737488355328)(hbase:base<=w.heap.size)
  (h:∀v' w',w'.ownsRow base e size v' (n+m) (xs++news)->w.grownBy w' v.ownBlock->(v'.ownBlock=v.ownBlock\/v'.ownBlock=sO w.heap.size)->K (a.put o.dst v') w'):o.wp P a w K Q:=by
 obtain⟨v',w',hr,h2,h3,h4⟩:=yB (P:=P) w t o.type base e i z size bytes ht hi hz hsize hby hzs hsz v n xs hown ao m c news hl hao hnews h1 h63 hbytes hbase;unfold Oper.wp execOp;simp only[ho,resolve,invoke,builtin,Sem.run_bind,Sem.run_pure,Result.andThen_ok,List.map_toArray,List.map_cons,List.map_nil,hs,hx,hr];exact h v' w' h2 h3 h4

theorem bi {ops:Array Oper}{rest:List Oper}{o:Oper}{a:Act}{Q:Exit->Act->World->Prop}(hgd:o.guard=nO)(s x:Operand)(t:TypeId)
  (ho:o.op=.call {callee:=.builtin .append,args:=#[s,x],argTypes:=#[t,t]})
  (base:Nat)(e:TypeId)(i:TypeInfo)(z:Value)(size bytes:Nat)(ht:P.underlying t=sO (.slice e))(hi:P.info? e=sO i)(hz:i.zero=sO z)
  (hsize:i.size=size)(hby:i.bytes=bytes)(hzs:z.cells.size=size)(hsz:0 < size)
  (v:Value)(n:Nat)(xs:List Value)(hs:a.eval s=v)(hown:w.ownsRow base e size v n xs)
  (ao:Option Addr)(m c:Nat)(news:List Value)(hx:a.eval x=U ao m c)(hl:news.length=m * size)(hao:ao=none->m=0)(hnews:∀ad,ao=sO ad->∀j u,news[j]? =sO u->w.cell? (ad.add j)=sO u)(h1:∀u∈news,u.oneCell'=true)
  (h63:n+m<=maxLen)(hbytes:(n+m) * bytes<=140737488355328)(hbase:base<=w.heap.size)
  (h:∀v' w',w'.ownsRow base e size v' (n+m) (xs++news)->w.grownBy w' v.ownBlock->(v'.ownBlock=v.ownBlock\/v'.ownBlock=sO w.heap.size)->wpList P ops Q rest (a.put o.dst v') w'):wpList P ops Q (o::rest) a w:=
 wpList_plain hgd λ_ hK=>oI w s x t ho base e i z size bytes ht hi hz hsize hby hzs hsz v n xs hs hown ao m c news hx hl hao hnews h1 h63 hbytes hbase λv' w' h2 h3 h4=>hK _ _ (h v' w' h2 h3 h4)

theorem dY {ops:Array Oper}{o:Oper}{a:Act}{K:Act->World->Prop}{Q:Exit->Act->World->Prop}{E:Prop}(hgd:o.guard=nO)(s x:Operand)(t:TypeId)
  (ho:o.op=.call {callee:=.builtin .append,args:=#[s,x],argTypes:=#[t,t]})
  (base:Nat)(e:TypeId)(i:TypeInfo)(z:Value)(size bytes:Nat)(ht:P.underlying t=sO (.slice e))(hi:P.info? e=sO i)(hz:i.zero=sO z)
  (hsize:i.size=size)(hby:i.bytes=bytes)(hzs:z.cells.size=size)(hsz:0 < size)
  (v:Value)(n:Nat)(xs:List Value)(hs:a.eval s=v)(hown:w.ownsRow base e size v n xs)
  (ao:Option Addr)(m c:Nat)(news:List Value)(hx:a.eval x=U ao m c)(hl:news.length=m * size)(hao:ao=none->m=0)(hnews:∀ad,ao=sO ad->∀j u,news[j]? =sO u->w.cell? (ad.add j)=sO u)(h1:∀u∈news,u.oneCell'=true)
  (h63:n+m<=maxLen)(hbytes:(n+m) * bytes<=140737488355328)(hbase:base<=w.heap.size)
  (h:∀v' w',w'.ownsRow base e size v' (n+m) (xs++news)->w.grownBy w' v.ownBlock->(v'.ownBlock=v.ownBlock\/v'.ownBlock=sO w.heap.size)->K (a.put o.dst v') w'):
  if Region.wanted o (yielded ops a.tmps)=true then Oper.wp P o a w K Q else E:=by
 have hw:Region.wanted o (yielded ops a.tmps)=true:=by simp[Region.wanted,hgd]
 rw[if_pos hw];exact oI w s x t ho base e i z size bytes ht hi hz hsize hby hzs hsz v n xs hs hown ao m c news hx hl hao hnews h1 h63 hbytes hbase h
end
end
section
open Go.RowKit
theorem Cx (s1 s2:oA)(c1 c2:Nat)(w:World):
  Calls pG 184 #[U s1 0 c1,U s2 0 c2] w λe w'=>e=Rt (Bb true)/\bl w w':=by
 go_enter Tryz.func184,Tryz.ntmps184;go_wp2
 go_rounds 1
 go_ret;exact⟨rfl,bR _ _⟩
abbrev w3 (s t r:Sp)(w:World):World:=((w.alloc (Cc #[Bb s.n,I Y s.lo,I Y s.hi] 89)).alloc (Cc #[Bb t.n,I Y t.lo,I Y t.hi] 89)).alloc (Cc #[Bb r.n,I Y r.lo,I Y r.hi] 89)

theorem eU {B:Nat}{s t r:Sp}{w w1:World}(hb:Below B (w3 s t r w) w1)(hB:w.heap.size+2 < B):(w1.cell? ⟨w.heap.size,0,nO⟩=sO (Bb s.n)/\w1.cell? ⟨w.heap.size,1,nO⟩=sO (I Y s.lo)/\w1.cell? ⟨w.heap.size,2,nO⟩=sO (I Y s.hi))/\(w1.cell? ⟨w.heap.size+1,0,nO⟩=sO (Bb t.n)/\w1.cell? ⟨w.heap.size+1,1,nO⟩=sO (I Y t.lo)/\w1.cell? ⟨w.heap.size+1,2,nO⟩=sO (I Y t.hi))/\(w1.cell? ⟨w.heap.size+1+1,0,nO⟩=sO (Bb r.n)/\w1.cell? ⟨w.heap.size+1+1,1,nO⟩=sO (I Y r.lo)/\w1.cell? ⟨w.heap.size+1+1,2,nO⟩=sO (I Y r.hi))/\(w1.frozen? ⟨w.heap.size+1+1,0,nO⟩=false/\w1.frozen? ⟨w.heap.size+1+1,1,nO⟩=false/\w1.frozen? ⟨w.heap.size+1+1,2,nO⟩=false)/\(w.heap.size < w1.heap.size/\w.heap.size+1 < w1.heap.size/\w.heap.size+1+1 < w1.heap.size):=by
 have hs:=hb.size;rw[hb.cell an,hb.cell an,hb.cell an,hb.cell an,hb.cell an,hb.cell an,hb.cell an,hb.cell an,hb.cell an,hb.frozen an,hb.frozen an,hb.frozen an];simp[go_sem] at hs |-;omega

theorem eR (s t r:Sp)(w:World):Below w.heap.size w (w3 s t r w):=ai

theorem rD {lo hi lo' hi' a b:Int}(ha:a=min lo lo')(hb:b=max hi hi'):bj ⟨false,lo,hi⟩ ⟨false,lo',hi'⟩=⟨false,a,b⟩:=by
 subst ha hb;rfl

theorem Hz (s t:Sp)(w:World):
  Calls pG 183 #[sv s,sv t] w λe w'=>e=Rt (sv (br s t))/\bl w w':=by
 obtain⟨n,lo,hi⟩:=s;obtain⟨n',lo',hi'⟩:=t;go_enter Tryz.func183,Tryz.ntmps183;go_wp2_with (go_at_call 182;fail);refine(BI ⟨n,lo,hi⟩ ⟨n',lo',hi'⟩ _).mono ?_;rintro e w1 ⟨rfl,hb1⟩;obtain⟨⟨c0,c1,c2⟩,⟨d0,d1,d2⟩,⟨r0,r1,r2⟩,⟨f0,f1,f2⟩,z0,z1,z2⟩:=eU (s:=⟨n,lo,hi⟩) (t:=⟨n',lo',hi'⟩) (r:=bH) hb1 ah;have H1:bl w w1:=(eR ⟨n,lo,hi⟩ ⟨n',lo',hi'⟩ bH w).trans (hb1.mono an);clear hb1;simp only[bH] at r0 r1 r2;cases n with
 |true=>
  have e0:bj ⟨true,lo,hi⟩ ⟨n',lo',hi'⟩=⟨n',lo',hi'⟩:=rfl;rw[e0];go_wp2;refine bodyPost_ret (v:=sv ⟨n',lo',hi'⟩) lf rfl ⟨rfl,?_⟩;exact(((H1.setCell an _).setCell an _).setCell an _).alloc an _
 |false=>
  cases n' with
  |true=>
   have e0:bj ⟨false,lo,hi⟩ ⟨true,lo',hi'⟩=⟨false,lo,hi⟩:=rfl;rw[e0];go_wp2;refine bodyPost_ret (v:=sv ⟨false,lo,hi⟩) lf rfl ⟨rfl,?_⟩;exact(((H1.setCell an _).setCell an _).setCell an _).alloc an _
  |false=>
  rcases Int.lt_or_le lo' lo with h1|h1<;>rcases Int.lt_or_le hi hi' with h2|h2
  ·have e0:bj ⟨false,lo,hi⟩ ⟨false,lo',hi'⟩=⟨false,lo',hi'⟩:=rD aa aa
   rw[e0];go_wp2;refine bodyPost_ret (v:=sv ⟨false,-2147483648,2147483647⟩) lf rfl ⟨?_,?_⟩
   ·exact gB rL
   ·exact(((H1.setCell an _).setCell an _).setCell an _).alloc an _
  ·have e0:bj ⟨false,lo,hi⟩ ⟨false,lo',hi'⟩=⟨false,lo',hi⟩:=rD aa aa
   rw[e0];go_wp2;refine bodyPost_ret (v:=sv ⟨false,-2147483648,hi⟩) lf rfl ⟨?_,?_⟩
   ·exact gB rL
   ·exact(((H1.setCell an _).setCell an _).setCell an _).alloc an _
  ·have e0:bj ⟨false,lo,hi⟩ ⟨false,lo',hi'⟩=⟨false,lo,hi'⟩:=rD aa aa
   rw[e0];go_wp2;refine bodyPost_ret (v:=sv ⟨false,lo,2147483647⟩) lf rfl ⟨?_,?_⟩
   ·exact gB rL
   ·exact(((H1.setCell an _).setCell an _).setCell an _).alloc an _
  ·have e0:bj ⟨false,lo,hi⟩ ⟨false,lo',hi'⟩=⟨false,lo,hi⟩:=rD aa aa
   rw[e0];go_wp2;refine bodyPost_ret (v:=sv ⟨false,lo,hi⟩) lf rfl ⟨?_,?_⟩
   ·exact gB rL
   ·exact(((H1.setCell an _).setCell an _).setCell an _).alloc an _

theorem lI (F:Nat)(s t:Sp)(w:World)(h:bB s t≠0):
  Calls pG 181 #[sv s,sv t,.func (.func F) #[] #[]] w λe w'=>e=Rt (Tu #[sv bH,I Y (bB s t)])/\bl w w':=by
 obtain⟨n,lo,hi⟩:=s;obtain⟨n',lo',hi'⟩:=t;go_enter Tryz.func181,Tryz.ntmps181;go_wp2_with (go_at_call 219;fail);refine(d9 ⟨n,lo,hi⟩ ⟨n',lo',hi'⟩ _).mono ?_;rintro e w1 ⟨rfl,hb1⟩;obtain⟨⟨c0,c1,c2⟩,⟨d0,d1,d2⟩,⟨r0,r1,r2⟩,⟨f0,f1,f2⟩,z0,z1,z2⟩:=eU (s:=⟨n,lo,hi⟩) (t:=⟨n',lo',hi'⟩) (r:=bH) hb1 ah;have H1:bl w w1:=(eR ⟨n,lo,hi⟩ ⟨n',lo',hi'⟩ bH w).trans (hb1.mono an);clear hb1;simp only[bH] at r0 r1 r2;go_wp2;refine bodyPost_ret (v:=Tu #[sv bH,I Y (bB ⟨n,lo,hi⟩ ⟨n',lo',hi'⟩)]) (by simp[results,Tryz.results181,go_sem,r0,r1,r2,bH]) rfl ⟨rfl,?_⟩;exact((H1.setCell an _).setCell an _).setCell an _

theorem oy {p:Prop}(h:p:=by
 obtain⟨rn,rlo,rhi⟩:=r;go_wp2;refine bodyPost_ret (v:=.tuple #[sv ⟨rn,rlo,rhi⟩,.int .i64 0]) (by simp[results,Tryz.results181,go_sem,g0,g1,g2]) rfl ⟨by rw[hr],?_⟩;exact((H2.setCell an _).setCell an _).setCell an _):p:=h
theorem Ai (s t:Sp)(w:World)(h:bB s t=0):
  Calls pG 181 #[sv s,sv t,.func (.func 182) #[] #[]] w λe w'=>e=Rt (Tu #[sv (bj s t),I Y 0])/\bl w w':=by
 obtain⟨n,lo,hi⟩:=s;obtain⟨n',lo',hi'⟩:=t;go_enter Tryz.func181,Tryz.ntmps181;go_wp2_with (go_at_call 219;fail);refine(d9 ⟨n,lo,hi⟩ ⟨n',lo',hi'⟩ _).mono ?_;rintro e w1 ⟨rfl,hb1⟩;obtain⟨⟨c0,c1,c2⟩,⟨d0,d1,d2⟩,⟨r0,r1,r2⟩,⟨f0,f1,f2⟩,z0,z1,z2⟩:=eU (s:=⟨n,lo,hi⟩) (t:=⟨n',lo',hi'⟩) (r:=bH) hb1 ah;have H1:bl w w1:=(eR ⟨n,lo,hi⟩ ⟨n',lo',hi'⟩ bH w).trans (hb1.mono an);rw[h];simp only[bH] at r0 r1 r2;clear hb1;go_wp2_with (go_at_call 182;fail);refine(BI ⟨n,lo,hi⟩ ⟨n',lo',hi'⟩ _).mono ?_;rintro e w2 ⟨rfl,hb2⟩;have g0:=r0;have g1:=r1;have g2:=r2;have k0:=f0;have k1:=f1;have k2:=f2
 rw[<-hb2.cell z2] at g0 g1 g2;rw[<-hb2.frozen z2] at k0 k1 k2;have H2:bl w w2:=H1.trans (hb2.mono aa);clear r0 r1 r2 f0 f1 f2 hb2 c0 c1 c2 d0 d1 d2;generalize hr:bj ⟨n,lo,hi⟩ ⟨n',lo',hi'⟩=r;exact oy

theorem AM (s t:Sp)(w:World)(h:bB s t=0):
  Calls pG 181 #[sv s,sv t,.func (.func 197) #[] #[]] w λe w'=>e=Rt (Tu #[sv (aF s t),I Y 0])/\bl w w':=by
 obtain⟨n,lo,hi⟩:=s;obtain⟨n',lo',hi'⟩:=t;go_enter Tryz.func181,Tryz.ntmps181;go_wp2_with (go_at_call 219;fail);refine(d9 ⟨n,lo,hi⟩ ⟨n',lo',hi'⟩ _).mono ?_;rintro e w1 ⟨rfl,hb1⟩;obtain⟨⟨c0,c1,c2⟩,⟨d0,d1,d2⟩,⟨r0,r1,r2⟩,⟨f0,f1,f2⟩,z0,z1,z2⟩:=eU (s:=⟨n,lo,hi⟩) (t:=⟨n',lo',hi'⟩) (r:=bH) hb1 ah;have H1:bl w w1:=(eR ⟨n,lo,hi⟩ ⟨n',lo',hi'⟩ bH w).trans (hb1.mono an);rw[h];simp only[bH] at r0 r1 r2;clear hb1;go_wp2_with (go_at_call 197;fail);refine(Mo ⟨n,lo,hi⟩ ⟨n',lo',hi'⟩ _).mono ?_;rintro e w2 ⟨rfl,hb2⟩;have g0:=r0;have g1:=r1;have g2:=r2;have k0:=f0;have k1:=f1;have k2:=f2
 rw[<-hb2.cell z2] at g0 g1 g2;rw[<-hb2.frozen z2] at k0 k1 k2;have H2:bl w w2:=H1.trans (hb2.mono aa);clear r0 r1 r2 f0 f1 f2 hb2 c0 c1 c2 d0 d1 d2;generalize hr:aF ⟨n,lo,hi⟩ ⟨n',lo',hi'⟩=r;exact oy

theorem wH (s t:Sp)(w:World)(h:bB s t=0):
  Calls pG 181 #[sv s,sv t,.func (.func 183) #[] #[]] w λe w'=>e=Rt (Tu #[sv (br s t),I Y 0])/\bl w w':=by
 obtain⟨n,lo,hi⟩:=s;obtain⟨n',lo',hi'⟩:=t;go_enter Tryz.func181,Tryz.ntmps181;go_wp2_with (go_at_call 219;fail);refine(d9 ⟨n,lo,hi⟩ ⟨n',lo',hi'⟩ _).mono ?_;rintro e w1 ⟨rfl,hb1⟩;obtain⟨⟨c0,c1,c2⟩,⟨d0,d1,d2⟩,⟨r0,r1,r2⟩,⟨f0,f1,f2⟩,z0,z1,z2⟩:=eU (s:=⟨n,lo,hi⟩) (t:=⟨n',lo',hi'⟩) (r:=bH) hb1 ah;have H1:bl w w1:=(eR ⟨n,lo,hi⟩ ⟨n',lo',hi'⟩ bH w).trans (hb1.mono an);rw[h];simp only[bH] at r0 r1 r2;clear hb1;go_wp2_with (go_at_call 183;fail);refine(Hz ⟨n,lo,hi⟩ ⟨n',lo',hi'⟩ _).mono ?_;rintro e w2 ⟨rfl,hb2⟩;have g0:=r0;have g1:=r1;have g2:=r2;have k0:=f0;have k1:=f1;have k2:=f2
 rw[<-hb2.cell z2] at g0 g1 g2;rw[<-hb2.frozen z2] at k0 k1 k2;have H2:bl w w2:=H1.trans (hb2.mono aa);clear r0 r1 r2 f0 f1 f2 hb2 c0 c1 c2 d0 d1 d2;generalize hr:br ⟨n,lo,hi⟩ ⟨n',lo',hi'⟩=r;exact oy
theorem yj (q:Nat)(p:Int->Bool)(ss:oA)(cap:Nat)(l:List Int)(w:World)(hl:l.length<=9223372036854775807)(hs:IntsAt w ss l)
  (hF:∀x wx,bl w wx->Calls pG 199 #[I Y x,Pp (sO ⟨q,0,nO⟩)] wx λe w'=>e=Rt (Bb (p x))/\bl wx w'):
  Calls pG 227 #[U ss l.length cap,.func (.func 199) #[] #[Pp (sO ⟨q,0,nO⟩)]] w λe w'=>∃n:Int,e=Rt (I Y n)/\decide (0<=n)=l.any p/\bl w w':=by
 have HF:=ae hF;clear hF;go_enter Tryz.func227,Tryz.ntmps227;go_wp2;go_loopw [8] (λi wr=>∃k:Nat,k<=l.length/\i=I Y k/\bl w wr/\Hid (l.any p=(l.drop k).any p)) (λi _=>l.length - (intOf i).toNat)
 case atStart=>exact⟨0,j9 _,rfl,bR _ _,rfl⟩
 case round=>
  obtain⟨k,hk,rfl,hbr,HA⟩:=hrel;by_cases hlt:k < l.length
  ·obtain⟨b,off,rfl,hb,hc⟩:=hs.get k hlt
   have n0:(0:Int)<=(k:Int):=aa;have n1:(k:Int) < (l.length:Int):=aa;have s0:=hbr.size;have c0:wr.cell? ⟨b,off+k,nO⟩=sO (I Y l[k]):=wK;have HN:Hid ((l.drop k).any p=(p l[k]||(l.drop (k+1)).any p)):=kh l p k hlt;clear hc hs;go_wp2_with (go_at_call 199;fail);refine(HF.out _ _ hbr).mono ?_;rintro e w1 ⟨rfl,hb1⟩;cases hp:p l[k] with
   |true=>
    have HT:Hid (l.any p=true):=fZ;clear HN HA;go_wp2;go_ret;exact⟨_,rfl,i6,hbr.trans (hb1.mono s0)⟩
   |false=>
    have HT:Hid (l.any p=(l.drop (k+1)).any p):=fZ;clear HN HA;go_wp2;go_roundw
    case rel=>exact⟨k+1,aa,aG,hbr.trans (hb1.mono s0),HT⟩
    case measure=>simp[intOf];omega
  ·go_wp2
   go_ret;exact⟨_,rfl,iA,hbr⟩

theorem cT (q:Nat)(p:Int->Bool)(ss:oA)(cap:Nat)(l:List Int)(w:World)(hl:l.length<=9223372036854775807)(hs:IntsAt w ss l)
  (hF:∀x wx,bl w wx->Calls pG 199 #[I Y x,Pp (sO ⟨q,0,nO⟩)] wx λe w'=>e=Rt (Bb (p x))/\bl wx w'):
  Calls pG 200 #[U ss l.length cap,.func (.func 199) #[] #[Pp (sO ⟨q,0,nO⟩)]] w λe w'=>e=Rt (Bb (l.any p))/\bl w w':=by
 have HF:=ae hF;clear hF;go_enter Tryz.func200,Tryz.ntmps200;go_wp2_with (go_at_call 227;fail);refine(yj q p ss cap l _ hl hs HF.out).mono ?_;rintro e w1 ⟨n,rfl,hn,hb1⟩;go_wp2;go_ret;exact⟨rfl,hb1⟩
theorem tF (q:Nat)(p:Int->Bool)(ss:oA)(cap:Nat)(l:List Int)(w:World)(hl:l.length<=9223372036854775807)(hs:IntsAt w ss l)
  (hF:∀x wx,bl w wx->Calls pG 234 #[I Y x,Pp (sO ⟨q,0,nO⟩)] wx λe w'=>e=Rt (Bb (p x))/\bl wx w'):
  Calls pG 227 #[U ss l.length cap,.func (.func 234) #[] #[Pp (sO ⟨q,0,nO⟩)]] w λe w'=>∃n:Int,e=Rt (I Y n)/\decide (0<=n)=l.any p/\bl w w':=by
 have HF:=ae hF;clear hF;go_enter Tryz.func227,Tryz.ntmps227;go_wp2;go_loopw [8] (λi wr=>∃k:Nat,k<=l.length/\i=I Y k/\bl w wr/\Hid (l.any p=(l.drop k).any p)) (λi _=>l.length - (intOf i).toNat)
 case atStart=>exact⟨0,j9 _,rfl,bR _ _,rfl⟩
 case round=>
  obtain⟨k,hk,rfl,hbr,HA⟩:=hrel;by_cases hlt:k < l.length
  ·obtain⟨b,off,rfl,hb,hc⟩:=hs.get k hlt
   have n0:(0:Int)<=(k:Int):=aa;have n1:(k:Int) < (l.length:Int):=aa;have s0:=hbr.size;have c0:wr.cell? ⟨b,off+k,nO⟩=sO (I Y l[k]):=wK;have HN:Hid ((l.drop k).any p=(p l[k]||(l.drop (k+1)).any p)):=kh l p k hlt;clear hc hs;go_wp2_with (go_at_call 234;fail);refine(HF.out _ _ hbr).mono ?_;rintro e w1 ⟨rfl,hb1⟩;cases hp:p l[k] with
   |true=>
    have HT:Hid (l.any p=true):=fZ;clear HN HA;go_wp2;go_ret;exact⟨_,rfl,i6,hbr.trans (hb1.mono s0)⟩
   |false=>
    have HT:Hid (l.any p=(l.drop (k+1)).any p):=fZ;clear HN HA;go_wp2;go_roundw
    case rel=>exact⟨k+1,aa,aG,hbr.trans (hb1.mono s0),HT⟩
    case measure=>simp[intOf];omega
  ·go_wp2
   go_ret;exact⟨_,rfl,iA,hbr⟩

theorem cD (q:Nat)(p:Int->Bool)(ss:oA)(cap:Nat)(l:List Int)(w:World)(hl:l.length<=9223372036854775807)(hs:IntsAt w ss l)
  (hF:∀x wx,bl w wx->Calls pG 234 #[I Y x,Pp (sO ⟨q,0,nO⟩)] wx λe w'=>e=Rt (Bb (p x))/\bl wx w'):
  Calls pG 200 #[U ss l.length cap,.func (.func 234) #[] #[Pp (sO ⟨q,0,nO⟩)]] w λe w'=>e=Rt (Bb (l.any p))/\bl w w':=by
 have HF:=ae hF;clear hF;go_enter Tryz.func200,Tryz.ntmps200;go_wp2_with (go_at_call 227;fail);refine(tF q p ss cap l _ hl hs HF.out).mono ?_;rintro e w1 ⟨n,rfl,hn,hb1⟩;go_wp2;go_ret;exact⟨rfl,hb1⟩
end
section
open Go.RowKit Go
section
variable {P:Program} {ops:Array Oper} {Q:Exit->Act->World->Prop} {a:Act} {w:World} {rest:List Oper} {o:Oper}
theorem tL (v:Value)(h:wpList P ops Q rest (a.put o.dst v) w)(hy:(execOp a.eval o).run P w=.ok (.value v) w:=by first|(go_simp;done)|(go_simp;with_reducible rfl))(hw:Region.wanted o (yielded ops a.tmps)=true:=by rfl):wpList P ops Q (o::rest) a w:=by
 unfold wpList;rw[if_pos hw];left;unfold Oper.wp;rw[hy];exact h
theorem tLb (b:Bool)(X:Value)(h:∀v,Hid (v=if b=true then undef else X)->wpList P ops Q rest (a.put o.dst v) w)(h0:b=false->Region.wanted o (yielded ops a.tmps)=true/\(execOp a.eval o).run P w=.ok (.value X) w)(h1:b=true->Region.wanted o (yielded ops a.tmps)=false):wpList P ops Q (o::rest) a w:=by
 cases b with
 |false=>
  obtain⟨hw,hy⟩:=h0 rfl;exact tL X (h X (by show _=_;simp)) hy hw
 |true=>
  unfold wpList;rw[if_neg (by rw[h1 rfl];decide)];exact h _ (by show _=_;simp)
end
end
section
open Go.RowKit
def cd (w:World)(b k:Nat)(x':Gc):World:=(((((((w.setCell ⟨b,k * 7,nO⟩ (Bb x'.g.n)).setCell ⟨b,k * 7+1,nO⟩ (Bb x'.g.sp.n)).setCell ⟨b,k * 7+2,nO⟩ (I Y x'.g.sp.lo)).setCell ⟨b,k * 7+3,nO⟩ (I Y x'.g.sp.hi)).setCell ⟨b,k * 7+4,nO⟩ (Bb x'.g.t)).setCell ⟨b,k * 7+5,nO⟩ (Bb x'.g.f)).setCell ⟨b,k * 7+6,nO⟩ (U x'.ss x'.g.s.length x'.cap))
section
variable {T:Nat->Prop} {B:Nat} {w w':World} {v:Ro} {fs:oA} {fc:Nat} {L:List Ro}
theorem Off.same {v v':Ro}{fb:Option Nat}{L:List Ro}{b:Nat}(hv:roB v'=roB v):Off v' fb L b↔Off v fb L b:=by unfold Off;rw[hv]
theorem gN {v:Ro}{l:List Gc}(h:l.length=v.l.length):roB ⟨v.rs,v.rc,l⟩=roB v:=by unfold roB roV;rw[h]
theorem PicG.cellV (h:PicG T B w v fs fc L){b:Nat}(hb:v.rs=sO ⟨b,0,nO⟩){k:Nat}(hk:k < v.l.length){y z:Gc}(hy:PicG T B w' ⟨v.rs,v.rc,v.l.set k y⟩ fs fc L){j:Nat}{u:Value}(hj:j < 7)(hx:bt z=(bt y).set j u)(hg:bV (λb=>T b/\Off v (j0 fs L.length fc).ownBlock L b) w' z):
  PicG T B (w'.setCell ⟨b,k * 7+j,nO⟩ u) ⟨v.rs,v.rc,v.l.set k z⟩ fs fc L:=by
 have h1:=PicG.putV hy hb (k:=k) (j:=j) (u:=u) (x':=z) gX hj (by simpa using hx) ⟨hg.1.mono λq hq _=>⟨hq.1,(Off.same (gN ah)).2 hq.2⟩,hg.2⟩;simpa[Z7] using h1
theorem aK {S:Nat->Prop}{x:Gc}{b:Nat}{o:Nat}{u:Value}(h:bV S w x)(hs:¬S b):bV S (w.setCell ⟨b,o,nO⟩ u) x:=tD h λq hq e=>hs (by have e':q=b:=e;rw[<-e'];exact hq)
theorem PicG.setV (h:PicG T B w v fs fc L){b:Nat}(hb:v.rs=sO ⟨b,0,nO⟩){k:Nat}(hk:k < v.l.length){x':Gc}(hg:bV (λb=>T b/\Off v (j0 fs L.length fc).ownBlock L b) w x'):PicG T B (cd w b k x') ⟨v.rs,v.rc,v.l.set k x'⟩ fs fc L:=by
 have eb:roB v=sO b:=lj;have nb:¬(λq=>T q/\Off v (j0 fs L.length fc).ownBlock L q) b:=λq=>q.2.1 eb;obtain⟨y,ey⟩:∃y,y=v.l[k]:=⟨_,rfl⟩;have gy:bV (λb=>T b/\Off v (j0 fs L.length fc).ownBlock L b) w y:=by rw[ey];exact h.sv _ (gM hk)
 have h0:PicG T B w ⟨v.rs,v.rc,v.l.set k y⟩ fs fc L:=by rw[ey,q2];exact h
 unfold cd;have h1:=h.cellV hb hk h0 (j:=0) (u:=Bb x'.g.n) (z:=⟨⟨x'.g.n,y.g.sp,y.g.t,y.g.f,y.g.s⟩,y.ss,y.cap⟩) aa bx gy;have h2:=h.cellV hb hk h1 (j:=1) (u:=Bb x'.g.sp.n) (z:=⟨⟨x'.g.n,⟨x'.g.sp.n,y.g.sp.lo,y.g.sp.hi⟩,y.g.t,y.g.f,y.g.s⟩,y.ss,y.cap⟩) aa bx (aK gy nb);have h3:=h.cellV hb hk h2 (j:=2) (u:=I Y x'.g.sp.lo) (z:=⟨⟨x'.g.n,⟨x'.g.sp.n,x'.g.sp.lo,y.g.sp.hi⟩,y.g.t,y.g.f,y.g.s⟩,y.ss,y.cap⟩) aa bx (aK (aK gy nb) nb);have h4:=h.cellV hb hk h3 (j:=3) (u:=I Y x'.g.sp.hi) (z:=⟨⟨x'.g.n,⟨x'.g.sp.n,x'.g.sp.lo,x'.g.sp.hi⟩,y.g.t,y.g.f,y.g.s⟩,y.ss,y.cap⟩) aa bx (aK (aK (aK gy nb) nb) nb);have h5:=h.cellV hb hk h4 (j:=4) (u:=Bb x'.g.t) (z:=⟨⟨x'.g.n,⟨x'.g.sp.n,x'.g.sp.lo,x'.g.sp.hi⟩,x'.g.t,y.g.f,y.g.s⟩,y.ss,y.cap⟩) aa bx (aK (aK (aK (aK gy nb) nb) nb) nb);have h6:=h.cellV hb hk h5 (j:=5) (u:=Bb x'.g.f) (z:=⟨⟨x'.g.n,⟨x'.g.sp.n,x'.g.sp.lo,x'.g.sp.hi⟩,x'.g.t,x'.g.f,y.g.s⟩,y.ss,y.cap⟩) aa bx (aK (aK (aK (aK (aK gy nb) nb) nb) nb) nb);have h7:=h.cellV hb hk h6 (j:=6) (u:=U x'.ss x'.g.s.length x'.cap) (z:=x') aa bx (aK (aK (aK (aK (aK (aK hg nb) nb) nb) nb) nb) nb);exact h7
theorem PicG.cellF (h:PicG T B w v fs fc L){s:Nat}(hs:s < L.length){b:Nat}(hb:L[s].rs=sO ⟨b,0,nO⟩){k:Nat}(hk:k < L[s].l.length){y z:Gc}(hy:PicG T B w' v fs fc (L.set s ⟨L[s].rs,L[s].rc,L[s].l.set k y⟩)){j:Nat}{u:Value}(hj:j < 7)(hx:bt z=(bt y).set j u)(hg:bV (λb=>T b/\Off v (j0 fs L.length fc).ownBlock L b) w' z):
  PicG T B (w'.setCell ⟨b,k * 7+j,nO⟩ u) v fs fc (L.set s ⟨L[s].rs,L[s].rc,L[s].l.set k z⟩):=by
 have eL:∀q,(∀r∈L.set s ⟨L[s].rs,L[s].rc,L[s].l.set k y⟩,roB r≠sO q)↔∀r∈L,roB r≠sO q:=λq=>by
  have e1:(L.set s ⟨L[s].rs,L[s].rc,L[s].l.set k y⟩).map roB=L.map roB:=by
   rw[Q0,gN (v:=L[s]) ah,<-z3 (f:=roB) (h:=by simpa using hs),q2]
  have e2:∀M:List Ro,(∀r∈M,roB r≠sO q)↔∀o∈M.map roB,o≠sO q:=λM=>by simp only[J7,forall_exists_index,and_imp,forall_apply_eq_imp_iff₂]
  rw[e2,e1,<-e2]
 have h1:=PicG.putF hy (s:=s) (by simpa using hs) (b:=b) (by simpa using hb) (k:=k) (j:=j) (u:=u) (x':=z) gX hj (by simpa using hx) ⟨hg.1.mono λq hq _=>⟨hq.1,hq.2.1,by rw[j5];exact hq.2.2.1,(eL q).2 hq.2.2.2⟩,hg.2⟩;simpa[Z7] using h1
theorem PicG.setF (h:PicG T B w v fs fc L){s:Nat}(hs:s < L.length){b:Nat}(hb:L[s].rs=sO ⟨b,0,nO⟩){k:Nat}(hk:k < L[s].l.length){x':Gc}(hg:bV (λb=>T b/\Off v (j0 fs L.length fc).ownBlock L b) w x'):PicG T B (cd w b k x') v fs fc (L.set s ⟨L[s].rs,L[s].rc,L[s].l.set k x'⟩):=by
 have hm:=gM hs;have eb:roB L[s]=sO b:=lj;have nb:¬(λq=>T q/\Off v (j0 fs L.length fc).ownBlock L q) b:=λq=>q.2.2.2 _ hm eb;obtain⟨y,ey⟩:∃y,y=L[s].l[k]:=⟨_,rfl⟩;have gy:bV (λb=>T b/\Off v (j0 fs L.length fc).ownBlock L b) w y:=by rw[ey];exact h.sf _ hm _ (gM hk)
 have h0:PicG T B w v fs fc (L.set s ⟨L[s].rs,L[s].rc,L[s].l.set k y⟩):=by
  rw[ey,q2];have:(⟨L[s].rs,L[s].rc,L[s].l⟩:Ro)=L[s]:=rfl;rw[this,q2];exact h
 unfold cd;have h1:=h.cellF hs hb hk h0 (j:=0) (u:=Bb x'.g.n) (z:=⟨⟨x'.g.n,y.g.sp,y.g.t,y.g.f,y.g.s⟩,y.ss,y.cap⟩) aa bx gy;have h2:=h.cellF hs hb hk h1 (j:=1) (u:=Bb x'.g.sp.n) (z:=⟨⟨x'.g.n,⟨x'.g.sp.n,y.g.sp.lo,y.g.sp.hi⟩,y.g.t,y.g.f,y.g.s⟩,y.ss,y.cap⟩) aa bx (aK gy nb);have h3:=h.cellF hs hb hk h2 (j:=2) (u:=I Y x'.g.sp.lo) (z:=⟨⟨x'.g.n,⟨x'.g.sp.n,x'.g.sp.lo,y.g.sp.hi⟩,y.g.t,y.g.f,y.g.s⟩,y.ss,y.cap⟩) aa bx (aK (aK gy nb) nb);have h4:=h.cellF hs hb hk h3 (j:=3) (u:=I Y x'.g.sp.hi) (z:=⟨⟨x'.g.n,⟨x'.g.sp.n,x'.g.sp.lo,x'.g.sp.hi⟩,y.g.t,y.g.f,y.g.s⟩,y.ss,y.cap⟩) aa bx (aK (aK (aK gy nb) nb) nb);have h5:=h.cellF hs hb hk h4 (j:=4) (u:=Bb x'.g.t) (z:=⟨⟨x'.g.n,⟨x'.g.sp.n,x'.g.sp.lo,x'.g.sp.hi⟩,x'.g.t,y.g.f,y.g.s⟩,y.ss,y.cap⟩) aa bx (aK (aK (aK (aK gy nb) nb) nb) nb);have h6:=h.cellF hs hb hk h5 (j:=5) (u:=Bb x'.g.f) (z:=⟨⟨x'.g.n,⟨x'.g.sp.n,x'.g.sp.lo,x'.g.sp.hi⟩,x'.g.t,x'.g.f,y.g.s⟩,y.ss,y.cap⟩) aa bx (aK (aK (aK (aK (aK gy nb) nb) nb) nb) nb);have h7:=h.cellF hs hb hk h6 (j:=6) (u:=U x'.ss x'.g.s.length x'.cap) (z:=x') aa bx (aK (aK (aK (aK (aK (aK hg nb) nb) nb) nb) nb) nb);exact h7
theorem dk {b k q:Nat}{x':Gc}(h:q≠b):(cd w b k x').heap[q]? =w.heap[q]? :=by
 unfold cd;rw[hSe _ _ _ _ h,hSe _ _ _ _ h,hSe _ _ _ _ h,hSe _ _ _ _ h,hSe _ _ _ _ h,hSe _ _ _ _ h,hSe _ _ _ _ h]
theorem iu {b k:Nat}{x':Gc}:(cd w b k x').heap.size=w.heap.size:=by simp[cd,q0]
theorem dx {A:Nat}{w0:World}{b k:Nat}{x':Gc}(h:Below A w0 w)(hb:A<=b):Below A w0 (cd w b k x'):=by
 unfold cd;exact((((((h.setCell hb _).setCell hb _).setCell hb _).setCell hb _).setCell hb _).setCell hb _).setCell hb _
end
def smallC:List Ins:=[⟨1,0,0,0,5,0⟩,⟨18,0,0,0,0,0⟩]

theorem Iu (w:World):
  Calls pG 39 #[] w λe w'=>∃b,e=Rt (Ag #[I Y 1,I Y 0,U (sO ⟨b,0,nO⟩) 2 2])/\CodeAt w' (sO ⟨b,0,nO⟩) smallC/\bl w w':=by
 go_enter Tryz.func39,Tryz.ntmps39;go_wp2;refine bodyPost_ret (v:=Ag #[I Y 1,I Y 0,U (sO ⟨w.heap.size+1,0,nO⟩) 2 2]) (by simp[results,Tryz.results39,go_sem]) rfl ⟨w.heap.size+1,rfl,.inr ⟨_,_,rfl,ah,?_⟩,ai⟩;intro k hk
 match k,hk with
 |0,_=>refine⟨?_,?_,?_,?_,?_,?_⟩<;>simp[go_sem,smallC]
 |1,_=>refine⟨?_,?_,?_,?_,?_,?_⟩<;>simp[go_sem,smallC]
 |k+2,h=>simp[smallC] at h;omega
end
section
open Go
section
variable {P:Program} {ops:Array Oper} {Q:Exit->Act->World->Prop} {md:Region.Mode} {l m:Nat}
def yA (ops:Array Oper):Prop:=∀o∈ops,∀c,o.op≠.defer c
theorem IJ {row:String}{args:Array Value}{w:World}{R:Value->World->Prop}(h:Rows P row args w R):RowsIn Fence.wide m P row args w R:=λc cs _=>by
 obtain⟨v,w',hr,hs⟩:=h c cs;exact⟨v,w',hr,stepsIn_wide.2 hs⟩
theorem Bg {i:Nat}{K:Act->World->Prop}{a:Act}{w:World}(hd:∀o,ops[i]? =sO o->∀c,o.op≠.defer c)(hQ:¬LetsOut Q)(h:wpOp P ops Q i K a w):wpOpIn (Fence.wide.inRound l) m P ops Q i K a w:=by
 unfold wpOp at h;unfold wpOpIn;cases e:ops[i]? with
 |none=>simpa[e] using h
 |some o=>
  simp only[e] at h |-;by_cases hw:Region.wanted o (yielded ops a.tmps)=true
  ·rw[if_pos hw] at h |-
   rcases h with h|⟨_,h⟩
   ·refine⟨λ_ _=>trivial,?_⟩
    rw[show (Fence.wide.inRound l).round=sO l from rfl,Oper.semAt_some l _ o (hd o e)];unfold Oper.wp at h;generalize Sem.run P (execOp a.eval o) w=r at h |-;unfold Oper.upon at h;unfold Oper.uponIn;split at h
    ·exact h
    ·exact h
    ·exact h
    ·exact⟨λh=>(nomatch h),callsIn_wide.2 h⟩
    ·exact⟨λh=>(nomatch h),IJ h⟩
    ·exact h
    ·exact h.elim
   ·exact absurd h hQ
  ·rw[if_neg hw] at h |-
   exact⟨λ_ _=>trivial,h⟩
theorem oH (hd:yA ops)(hQ:¬LetsOut Q):∀(fuel:Nat) (listed:Array Bool) (a:Act) (w:World),wpAny P md ops Q fuel listed a w->wpAnyIn (Fence.wide.inRound l) m P md ops Q fuel listed a w
 |0,_,_,_,h=>h
 |fuel+1,_,_,_,h=>⟨h.1,λi hi=>Bg (λo ho=>hd o (Array.mem_of_getElem? ho)) hQ (wpOp_mono (λa' w' h'=>oH hd hQ fuel _ a' w' h') (h.2 i hi))⟩
theorem Nk {S:World->Prop}{id:Nat}{a:Act}{w:World}(zs:List Nat)(hm:P.follows .mixedOrders=true)(hd:yA ops)(hQ:¬LetsOut Q)(hS:S w.drew)
  (h:S w.drew->cI P .any ops Q S zs ops.size (Array.replicate ops.size false) a w.drew):(Code.region id ops true).wpIn (Fence.wide.inRound l) m P Q a w:=
 wpIn_region_any hm (oH hd hQ _ _ _ _ (nI _ _ _ _ (h hS)))
theorem Ah {F:Fence}{d:Code}{K:Act->World->Prop}{a:Act}{w:World}(h:d.wpIn F m P (Exit.then K (λ_ _ _=>False)) a w):d.wpIn F m P (Exit.then K Q) a w:=wpIn_mono h λe a w q=>by
 cases e<;>first|exact q|exact q.elim
theorem Ox {K:Act->World->Prop}:¬LetsOut (Exit.then K (λ_ _ _=>False)):=λ⟨_,_,h⟩=>h
end
theorem Aq {P:Program}(w:World)(dT sT ty elem:TypeId)(g o dLen dCap:Nat)(a:Addr)(sLen sCap k:Nat)(cur:Array Value)(t:TypeId)(cs:List Value)
  (hu:P.underlying dT=sO (.slice elem))(hs:(P.info? elem).map (·.size)=sO k)
  (hg:w.heap[g]? =sO (Cc cur t (0,0)))(hn:cs.length=j2 sLen dLen * k)
  (hsrc:∀j v,cs[j]? =sO v->w.cell? (a.add j)=sO v)(hfit:o+cs.length<=cur.size)(h1:∀v∈cs,v.oneCell'=true):
  (Builtin.copy_ #[dT,sT] ty #[U (sO ⟨g,o,nO⟩) dLen dCap,U (sO a) sLen sCap]).run P w=
   .ok (goInt (j2 sLen dLen)) (w.setRow g (cur.toList.take o++cs++cur.toList.drop (o+cs.length)).toArray):=by
 have hl:=run_loadCells_list (P:=P) w a cs hsrc;have hst:=run_storeCells_at P g o t cs 0 cur w hg (by simpa using hfit) h1;cases hq:P.info? elem with
 |none=>simp[hq] at hs
 |some i=>
  have hi:i.size=k:=by simpa[hq] using hs
  simp[Builtin.copy_,run_underlying hu,Builtin.lenOf,Builtin.firstCells,sizeOf,typeInfo,hq,hi,<-hn,hl,hst]
end
section
open Go.RowKit
attribute [local go_sem ↓] Go.wp_at_zero Go.wp_at_succ
theorem Ei (n:Nat)(x:Gc):(aR (j1 n x)).length=n * 7:=by rw[lH,List.length_replicate]
theorem sr (a b:Nat)(x:Gc):aR (j1 a x)++aR (j1 b x)=aR (j1 (a+b) x):=by rw[<-iM,List.replicate_append_replicate]
theorem sN (m n:Nat)(x:Gc)(h:m<=n)(j:Nat)(u:Value)(hj:(aR (j1 m x))[j]? =sO u):(aR (j1 n x))[j]? =sO u:=by
 obtain⟨d,rfl⟩:∃d,n=m+d:=⟨n - m,aa⟩;rw[<-sr,Q7 (J6.1 hj).1];exact hj
theorem AD (l:List Gc):∀u∈aR l,u.oneCell'=true:=by
 intro u hu;obtain⟨x,hx,hu⟩:=Q8.1 hu;exact dD x u hu
def Filled (w:World)(b n k:Nat)(x:Gc):Prop:=k<=n/\∃cs:List Value,w.heap[b]? =sO (Cc cs.toArray 91 (0,0))/\cs.length=n * 7/\cs.take (k * 7)=aR (j1 k x)
theorem Filled.lt {w:World}{b n k:Nat}{x:Gc}(h:Filled w b n k x):b < w.heap.size:=by
 obtain⟨_,cs,h1,_⟩:=h;exact(j3.1 h1).1
theorem Filled.copy {P:Program}{w:World}{b n k:Nat}{x:Gc}(h:Filled w b n k x)(dT ty:TypeId)(a:Addr)(sLen sCap dCap m:Nat)(hu:P.underlying dT=sO (.slice 91))(hs:(P.info? 91).map (·.size)=sO 7)(hm:m=j2 sLen (n - k))
  (hsrc:∀j v,(aR (j1 m x))[j]? =sO v->w.cell? (a.add j)=sO v):
  ∃w',(Builtin.copy_ #[dT,dT] ty #[U (sO ⟨b,k * 7,nO⟩) (n - k) dCap,U (sO a) sLen sCap]).run P w=.ok (goInt m) w'/\Filled w' b n (k+m) x/\∀B w0,B<=b->Below B w0 w->Below B w0 w':=by
 obtain⟨hk,cs,h1,h2,h3⟩:=h;have hmn:m<=n - k:=by rw[hm];exact Q3 _ _
 have hl:(aR (j1 m x)).length=m * 7:=Ei m x;have hfit:k * 7+m * 7<=n * 7:=aa;refine⟨w.setRow b (cs.take (k * 7)++aR (j1 m x)++cs.drop (k * 7+(aR (j1 m x)).length)).toArray,?_,?_,λB w0 hB hb=>below_setRow hb hB _⟩
 ·have e:=Aq w dT dT ty 91 b (k * 7) (n - k) dCap a sLen sCap 7 cs.toArray 91 (aR (j1 m x)) hu hs h1 (by rw[hl,hm]) hsrc (by rw[hl];simpa[h2] using hfit) (AD _)
  rw[<-hm] at e;exact e
 ·refine⟨by omega,cs.take (k * 7)++aR (j1 m x)++cs.drop (k * 7+(aR (j1 m x)).length),?_,?_,?_⟩
  ·exact setRow_heap w b cs.toArray _ _ _ h1
  ·simp only[j8,List.length_take,Q4,hl,h2]
   omega
  ·rw[h3,sr]
   exact List.take_left' (by rw[Ei])
theorem Filled.gets {w:World}{b n:Nat}{g:Gs}(hs:g.s=[])(h:Filled w b n n ⟨g,nO,0⟩):GsIn (λk=>k=b) w (sO ⟨b,0,nO⟩) (j1 n g):=by
 have hz:=h.lt;obtain⟨_,cs,h1,h2,h3⟩:=h;rw[x9 aa] at h3;subst h3;intro i hi;have hin:i < n:=fa;have hc:∀j,j < 7->w.cell? ⟨b,i * 7+j,nO⟩=(bt ⟨g,nO,0⟩)[j]? :=λj hj=>by
  have e:=eT (j1 n (⟨g,nO,0⟩:Gc)) i (by simpa using hin) j hj;rw[Z8] at e;rw[<-e];simp[q6,h1]
 refine⟨b,0,rfl,rfl,nO,0,⟨?_,hz⟩,.inl (by simp[hs]),by simp[hs],cS⟩;simp only[Z8,j4];exact⟨hc 0 aa,hc 1 aa,hc 2 aa,hc 3 aa,hc 4 aa,hc 5 aa,hc 6 aa⟩
theorem Dr (g:Gs)(hs0:g.s=[])(n:Nat)(h8:n<=8)(b:Nat)(w:World)(hg:GuAt w b 0 g nO 0):
  Calls pG 129 #[U (sO ⟨b,0,nO⟩) 1 1,I Y (n:Int)] w λe w'=>(∃rs,e=Rt (U rs n n)/\GsIn (λb=>w.heap.size<=b) w' rs (j1 n g))/\bl w w':=by
 obtain⟨ti,hi,hz0,hz1,hz2⟩:=info_parts Tryz.info_guess;have HMU:Hid (Calls pG 187 #[.int .u64 1,.int .u64 (n:Int)] w λe w'=>e=Rt (Tu #[.int .u64 0,.int .u64 (n:Int)])/\w'=w):=by
  refine(Tryz.bits_Mul 1 n aa aa w).mono ?_;rintro e w1 ⟨rfl,rfl⟩;refine⟨?_,rfl⟩;have e1:1 * n / 18446744073709551616=0:=aa;have e2:1 * n % 18446744073709551616=n:=aa;rw[e1,e2];rfl
 have HMK:=run_makeSlice (P:=pG) w 25 91 ti (Ag #[Bb false,Bb false,I Y 0,I Y 0,Bb false,Bb false,U nO 0 0]) Tryz.underlying25 hi hz0 .i64 .i64 (n:Int) (n:Int) aa (Int.le_refl _) (by rw[hz1];omega) (by rw[hz2];omega) aa;rw[Int.toNat_natCast,hz1] at HMK;have F0:Filled (w.alloc (Cc (madeCells (q5 (Ag #[Bb false,Bb false,I Y 0,I Y 0,Bb false,Bb false,U nO 0 0])) (n * 7)) 91)) w.heap.size n 0 ⟨g,nO,0⟩:=by
  refine⟨j9 _,(madeCells (q5 (Ag #[Bb false,Bb false,I Y 0,I Y 0,Bb false,Bb false,U nO 0 0])) (n * 7)).toList,heap_alloc_new _ _,by simp[size_madeCells],by simp[aR]⟩
 have hb0:Below w.heap.size w (w.alloc (Cc (madeCells (q5 (Ag #[Bb false,Bb false,I Y 0,I Y 0,Bb false,Bb false,U nO 0 0])) (n * 7)) 91)):=ai;have G0:=hg.alloc (Cc (madeCells (q5 (Ag #[Bb false,Bb false,I Y 0,I Y 0,Bb false,Bb false,U nO 0 0])) (n * 7)) 91);have hns:¬(n:Int) < 0:=aa;have N1:(n:Int)<=9223372036854775807:=aa;obtain⟨w2,HR,F2,HB2⟩:=F0.copy (P:=pG) 25 3 ⟨b,0,nO⟩ 1 1 n (j2 1 n) Tryz.underlying25 (by rw[hi];exact congrArg sO hz1) ah (λj v hj=>by
  have hj':=sN (j2 1 n) 1 ⟨g,nO,0⟩ (Z9 _ _) j v hj;have e1:aR (j1 1 (⟨g,nO,0⟩:Gc))=bt ⟨g,nO,0⟩:=by simp[aR]
  rw[e1] at hj';obtain⟨⟨g0,g1,g2,g3,g4,g5,g6⟩,-⟩:=G0;rw[Addr.add_lit];have hj7:j < 7:=by have:=(J6.1 hj').1;rwa [eJ] at this
  rw[<-hj'];rcases (show j=0\/j=1\/j=2\/j=3\/j=4\/j=5\/j=6 by omega) with rfl|rfl|rfl|rfl|rfl|rfl|rfl
  ·exact g0
  ·exact g1
  ·exact g2
  ·exact g3
  ·exact g4
  ·exact g5
  ·exact g6)
 have hb2:=HB2 w.heap.size w (lR _) hb0;simp only[J4,Nat.sub_zero,j4] at HR F2;clear HB2 F0 hb0 G0;generalize w.alloc (Cc (madeCells (q5 (Ag #[Bb false,Bb false,I Y 0,I Y 0,Bb false,Bb false,U nO 0 0])) (n * 7)) 91)=wA at *;have HNM:n<=1->j2 1 n=n:=λh=>Nat.min_eq_right h;have HM1:j2 1 n<=n:=Q3 _ _;have HM2:1<=n->j2 1 n=1:=λh=>Nat.min_eq_left h;have m0:n=0\/1<=j2 1 n:=by by_cases h:n=0;exact .inl h;exact .inr (by rw[HM2 (by omega)];exact lR _)
 clear HNM HM2;generalize j2 1 n=m at *;go_enter Tryz.func129,Tryz.ntmps129;go_wp2_with (go_at_call 187;fail);refine HMU.out.mono ?_;rintro e w1 ⟨rfl,rfl⟩;clear HMU;go_wp2;clear HR HMK;go_loopw [8] (λi wr=>∃k:Nat,k<=n/\(n=0\/1<=k)/\i=I Y (k:Int)/\Filled wr w1.heap.size n k ⟨g,nO,0⟩/\bl w1 wr) (λi _=>n - (intOf i).toNat)
 case atStart=>exact⟨m,HM1,m0,rfl,F2,hb2⟩
 case round=>
  clear F2 hb2 HM1 m0;obtain⟨k,hk,hk0,rfl,FK,BK⟩:=hrel;have FD:Filled wr.drew w1.heap.size n k ⟨g,nO,0⟩:=FK;have BD:=BK.drew;by_cases hlt:k < n
  ·have hk1:1<=k:=by omega
   have n0:(0:Int)<=(k:Int):=aa;have n1:(k:Int) < (n:Int):=aa;have n2:(k:Int)<=(n:Int):=aa;obtain⟨w3,HR,F3,HB3⟩:=FD.copy (P:=pG) 25 3 ⟨w1.heap.size,0,nO⟩ k n (n - k) (j2 k (n - k)) Tryz.underlying25 (by rw[hi];exact congrArg sO hz1) rfl (λj v hj=>by
    obtain⟨_,cs,c1,c2,c3⟩:=FD;have hj':=sN (j2 k (n - k)) k ⟨g,nO,0⟩ (Z9 _ _) j v hj;rw[<-c3,List.getElem?_take] at hj';split at hj'
    ·rw[Addr.add_lit,j4]
     simp[q6,c1,hj']
    ·cases hj')
   have B3:=HB3 w1.heap.size w1 (lR _) BD;have hm1:1<=j2 k (n - k):=Nat.le_min.2 ⟨hk1,aa⟩;have hm2:j2 k (n - k)<=n - k:=Q3 _ _;have HR':=ae HR;clear HR HB3 FK BK FD BD;generalize j2 k (n - k)=q at *;have HS1:∀wx,(Instr.sliceAt 25 (U (sO ⟨w1.heap.size,0,nO⟩) n n) (sO (I Y (k:Int))) nO nO).run pG wx=.ok (U (sO ⟨w1.heap.size,k * 7,nO⟩) (n - k) (n - k)) wx:=by
    intro wx;simp[go_sem];rw[if_pos aa,if_neg aa]
   have HS2:∀wx,(Instr.sliceAt 25 (U (sO ⟨w1.heap.size,0,nO⟩) n n) nO (sO (I Y (k:Int))) nO).run pG wx=.ok (U (sO ⟨w1.heap.size,0,nO⟩) k n) wx:=by
    intro wx;simp[go_sem];intro h;omega
   go_upto_region 9 with fail
   refine aH (S:=λ_=>True) [] ag trivial (λhHeld=> ?_);refine vZ 0 ?_ ?_;refine vZ 1 ?_ ?_;refine vZ 2 ?_ ?_;refine vZ 3 ?_ ?_;refine vZ 4 ?_ ?_;refine vZ 5 ?_ ?_;refine vZ 6 ?_ ?_;refine aB (i:=7) rfl ag (λK hK=> ?_);refine Lib.wp_copy_run _ _ _ 25 25 rfl _ _ rfl rfl HR'.out ?_;refine hK.out _ _ trivial (λhHeld=> ?_);clear hK K;refine sm ?_;refine vZ 8 ?_ ?_;refine vZ 9 ?_ ?_;refine aD ag ?_ _;clear HS1 HS2 HR';have EW:IntKind.i64.wrap ((k:Int)+(q:Int))=((k+q:Nat):Int):=pV;rw[EW];clear EW;go_wp2;go_roundw
   case rel=>exact⟨k+q,aa,.inr aa,aG,F3,B3⟩
   case measure=>simp[intOf];omega
  ·have n1:¬(k:Int) < (n:Int):=by omega
   have ek:k=n:=aa;subst ek;go_wp2;go_ret;exact⟨⟨_,rfl,(FK.gets hs0).mono λb h _=>aa⟩,BK⟩
theorem Be (g:Gs)(hs0:g.s=[])(n:Nat)(h8:n<=8)(w:World):
  Calls pG 78 #[Ag #[Bb g.n,Bb g.sp.n,I Y g.sp.lo,I Y g.sp.hi,Bb g.t,Bb g.f,U nO 0 0],I Y (n:Int)] w λe w'=>(∃rs,e=Rt (U rs n n)/\GsIn (λb=>w.heap.size<=b) w' rs (j1 n g))/\bl w w':=by
 have hl0:g.s.length=0:=by rw[hs0];rfl
 have G1:=GuAt.new (w.alloc (Cc #[Bb g.n,Bb g.sp.n,I Y g.sp.lo,I Y g.sp.hi,Bb g.t,Bb g.f,U nO g.s.length 0] 91)) g nO 0;rw[hl0,zA] at G1;have HR:=ae (Dr g hs0 n h8 _ _ G1);clear G1;have hb1:Below w.heap.size w ((w.alloc (Cc #[Bb g.n,Bb g.sp.n,I Y g.sp.lo,I Y g.sp.hi,Bb g.t,Bb g.f,U nO 0 0] 91)).alloc (Cc #[Bb g.n,Bb g.sp.n,I Y g.sp.lo,I Y g.sp.hi,Bb g.t,Bb g.f,U nO 0 0] 91)):=ai;go_enter Tryz.func78,Tryz.ntmps78;go_wp2_with (go_at_call 129;fail);refine HR.out.mono ?_;rintro e w2 ⟨⟨rs,rfl,GV⟩,hb2⟩;go_wp2;go_ret;exact⟨⟨rs,rfl,GV.mono λb h _=>lT hb1.size h⟩,hb1.trans (hb2.mono hb1.size)⟩
end
section
open Go.RowKit
theorem un {w:World}{B:Nat}{v:Value}{l:List Int}(h:w.ownsRow B 3 1 v l.length (l.map (.int .i64))):∃s cap,v=U s l.length cap/\IntsAt w s l:=by
 cases l with
 |nil=>
  rcases h.2 with⟨rfl,_⟩|⟨g,cap,cur,rfl,_⟩
  ·exact⟨_,_,rfl,.inl rfl⟩
  ·exact⟨_,_,rfl,.inl rfl⟩
 |cons x r=>
  obtain⟨g,cap,rfl,hb,hlt⟩:=h.form ah;refine⟨_,_,rfl,.inr ⟨g,0,rfl,hlt,λk hk=> ?_⟩⟩;rw[h.cellAt _ aa,j4,List.getElem?_map,Z6 hk];rfl
end
end Go.Proofs.YtmapdpcfanecdabGreatDoor
