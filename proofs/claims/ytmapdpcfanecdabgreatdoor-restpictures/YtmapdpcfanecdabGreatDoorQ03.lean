import Derived.Test.YtmapdpcfanecdabGreatDoorProg
import Derived.WalkKit
import Derived.WalkSpells
import Derived.WalkLawsBesides
import Derived.Handy
import Derived.Deep.AppendLies
import Derived.Laws.OwnMore
import Derived.BigQuiet
import Derived.Deep.RegionHeld3
import Derived.Lib.QuietBelow
import Derived.WalkSmall
import Derived.Deep.RegionHeld
import Derived.OwnWalk
import Derived.RangeFuncNested
import Derived.RangeFuncLeaves
import Derived.Deep.QuietTactic
import Derived.Deep.DrawnRows
import Derived.BigRegion
import Derived.OrdersIn
import Derived.TacticsIn
import Derived.Laws.CopyRow
import Derived.Lib.SlBuf
open List renaming length→X,getElem_append_left→Q1,getElem_mem→gM,getElem_modify→Q2,length_append→z3,length_cons→q8,length_nil→x5,length_set→q7,map_append→j7,map_cons→j9,map_nil→q5,mem_append→J8,mem_cons→j0,mem_cons_of_mem→J6,mem_cons_self→J7,mem_map→j2,mem_singleton→z5,pairwise_cons→x4,replicate→j5,set_cons_succ→z8,zipWith→x3
open Array renaming size→R,getElem?_eq_some_iff→z6
open Go.World renaming heap→M,alloc_heap_new→Q0,cell?_of_block→j3,cell?_setCell_other→j6,cell?_setCell_same→x6,frozen?_of_block→j4,frozen?_setCell→q9,size_alloc→zA
open Go.IntKind renaming i64→Y
open Bool renaming and_eq_true→x0,false→d,true→W5
open Go.Ending renaming returned→Rt
open Go.Obj renaming cells→Cc,cells→A
open Go.Proofs.Tryz renaming prog→pG,prog→f
open Go.RowKit.Below renaming heap_setCell→hSe,refl→bR
open Go.Value renaming agg→Ag,int→I,ownBlock→j1,slice→U,tuple→Tu,bool→O
open Nat renaming le_refl→lR,lt_of_lt_of_le→lL
open Option renaming none→nO,some→sO,none→E,some→G
open Go.RowKit renaming Below→n4
open Go renaming Value→mh,World→kl,World→C
set_option linter.all false
open Go.Proofs.Tryz
set_option maxHeartbeats 4000000
set_option maxRecDepth 100000
namespace Go.Proofs.YtmapdpcfanecdabGreatDoor
variable {a:Bool}{B b:Nat}{W:C}(F T g c:Nat){P:Program}(V x y n z k u l m:Int)(w:C)
variable {p:Prop}
section
def btw (n l m:Int):Bool:=decide (l<=n/\n<=m)
def lQ {n l m:Int}(D:l<=n)(N:n<=m):btw n l m=true:=by simp[btw,D,N]
def PD {n l m:Int}(h:¬l<=n):btw n l m=false:=by simp[btw,h]
def PE {n l m:Int}(h:¬n<=m):btw n l m=false:=by simp[btw,h]

def rM {k:Int}(h:btw k 1 19=W5):k=1\/k=2\/k=3\/k=4\/k=5\/k=6\/k=7\/k=8\/k=9\/k=10\/k=11\/k=12\/k=13\/k=14\/k=15\/k=16\/k=17\/k=18\/k=19:=by
 simp[btw] at h;omega

def a5Q:btw k 1 19=(decide (1<=k)&&decide (k<=19)):=by simp[btw]

def nTo (k:Int):Bool:=btw k 1 12||decide (k=14)
def nA (k:Int):Bool:=btw k 4 10||decide (k=12)||decide (k=13)||decide (k=15)||decide (k=17)||decide (k=18)
def nB (k:Int):Bool:=btw k 5 9||decide (k=13)
def nN (k:Int):Bool:=decide (k=1)||decide (k=2)||btw k 12 14
def nG (k:Int):Bool:=decide (k=15)||decide (k=16)

structure Ins where
 k:Int
 tgt:Int
 a:Int
 b:Int
 n:Int
 g:Int

def bo (V F L:Int)(i:Ins):Int:=
 if btw i.k 1 19=false then 6
 else if (nTo i.k&& !btw i.tgt 0 (V - 1))||(nA i.k&& !btw i.a 0 (V - 1))||(nB i.k&& !btw i.b 0 (V - 1))||((decide (i.k=12)||decide (i.k=13))&& !btw i.n 0 (F - 1))||(nG i.k&& !btw i.g 0 L) then 5
 else if (decide (i.k=1)&& !btw i.n (-2147483648) 2147483647)||(decide (i.k=2)&& !btw i.n 0 1)||(decide (i.k=14)&& !btw i.n 0 1000000) then 3
 else if (!nTo i.k&&decide (i.tgt≠0))||(!nA i.k&&decide (i.a≠0))||(!nB i.k&&decide (i.b≠0))||(!nN i.k&&decide (i.n≠0))||(!nG i.k&&decide (i.g≠0)) then 1
 else 0

def ge (V F L:Int):List Ins->Int
 |[]=>0
 |i::r=>if bo V F L i=0 then ge V F L r else bo V F L i

def aA (V F:Int)(c:List Ins):Int:=
 if btw V 1 8=false||btw F 0 3=false then 3 else if 60 < X c then 2 else ge V F (X c) c

def bi:Int->ByteArray
 |1=>⟨#[110,117,109,98,101,114]⟩
 |2=>⟨#[116,114,117,116,104]⟩
 |3=>⟨#[110,117,108,108]⟩
 |4=>⟨#[99,111,112,121]⟩
 |5=>⟨#[97,100,100]⟩
 |6=>⟨#[115,117,98]⟩
 |7=>⟨#[109,117,108]⟩
 |8=>⟨#[108,101,115,115]⟩
 |9=>⟨#[115,97,109,101]⟩
 |10=>⟨#[110,111,116]⟩
 |11=>⟨#[110,101,119]⟩
 |12=>⟨#[103,101,116]⟩
 |13=>⟨#[112,117,116]⟩
 |14=>⟨#[105,110,112,117,116]⟩
 |15=>⟨#[105,102]⟩
 |16=>⟨#[103,111,116,111]⟩
 |17=>⟨#[101,120,112,101,99,116]⟩
 |18=>⟨#[112,114,105,110,116]⟩
 |19=>⟨#[101,110,100]⟩
 |_=>⟨#[]⟩

def Gz {k:Int}(h:btw k 1 19=d):bi k=⟨#[]⟩:=by
 have:¬(1<=k/\k<=19):=by simpa[btw] using h
 unfold bi;split<;>first|rfl|omega
structure Val where
 k:Int
 n:Int

structure Thg where
 site:Int
 fs:List Val

structure St where
 at_:Int
 vq:List Val
 things:List Thg
 taken:Int
 lines:List ByteArray
 fin:Int

def cS (T:Nat)(v:Val):Prop:=(v.k=0/\v.n=0)\/(v.k=1/\ -2147483648<=v.n/\v.n<=2147483647)\/(v.k=2/\(v.n=0\/v.n=1))\/(v.k=3/\0<=v.n/\v.n < T)

def cnt (v:Val):Bool:=decide (v.k=3)||((decide (v.k=1)||decide (v.k=2))&&decide (v.n≠0))

def wr (n:Int):Int:=(n+2147483648) % 4294967296 - 2147483648

def eD (b:Bool):Val:=⟨2,if b then 1 else 0⟩

def rE (s:St)(i:Int):Val:=s.vq.getD i.toNat ⟨0,0⟩
def nL (s:St)(i:Int)(v:Val):St:={s with vq:=s.vq.set i.toNat v}

def rO (n x:Int):Int:=if x > n then n else if x < -n then -n else x

def Bm (s:St)(t f:Int):Val:=((s.things.getD t.toNat ⟨0,[]⟩).fs).getD f.toNat ⟨0,0⟩
def gD (s:St)(t f:Int)(v:Val):St:={s with things:=s.things.modify t.toNat λx=>{x with fs:=x.fs.set f.toNat v}}
abbrev lI:=List Ins
abbrev bl (w w':Go.World):Prop:=Go.RowKit.Below w.heap.size w w'
def aa(h:p:=by omega):=h
def ac(h:p:=by kernel_rfl):=h
def ae(h:p:=by simp):=h
def ai(h:p:=by go_grown):=h
def an(h:p:=by decide):=h
def au(h:p:=by simp;omega):=h
def aw(h:p:=by simp only;omega):=h
def aE(h:p:=by simp[go_sem]):=h
def aJ(h:p:=by go_num):=h
def aK(h:p:=by simp[intOf];omega):=h
def fL(h:p:=by simp[aP]):=h
def bI(h:p:=by simp[World.setCell]):=h
def bL(h:p:=by rfl):=h
def bU(h:p:=by cases h):=h
def cn(h:p:=by simpa using h):=h
def cI(h:p:=by decide+kernel):=h
def cD(h:p:=by assumption):=h
def cL(h:p:=by unfold maxLen;omega):=h
def da(h:p:=by rw[xG.out];decide):=h
def dO(h:p:=by rw[ByteArray.toList_eq];rfl):=h
def gS(h:p:=by rw[HR.out];rfl):=h
def fk(h:p:=by simp at h):=h
def fj(h:p:=by simpa using xy):=h
def fu(h:p:=by simp only[List.length_set,List.length_cons,List.length_nil];omega):=h
def fr(h:p:=by simpa using z2):=h
def iZ(h:p:=by show _=_;simp):=h
def fT(h:p:=by simp[results,results59,go_sem]):=h
def gA(h:p:=by simpa using hi):=h
def gw(h:p:=by simpa using hk):=h
def gp(h:p:=by simpa using z1):=h
def lV(h:p:=by have:=vZ.size;simp at this;omega):=h
def pB(h:p:=by show _=_;rw[HA.out,HN.out,hp];rfl):=h
def gU(h:p:=by rintro e w' ⟨rfl,rfl⟩;exact⟨rfl,0,rfl⟩):=h
def gV(h:p:=by simp[aP,Value.ownBlock]):=h
def iA(h:p:=by simpa using h1):=h
def iB(h:p:=by rw[zA];exact xY):=h
def iF(h:p:=by rw[rH _ _ _ _ _ _ _ _ am];exact HW.cell hm):=h
def iX(h:p:=by simp[hk]):=h
def kL(h:p:=by simp[Value.ownBlock]):=h
def mc(h:p:=by rw[lY];exact lR _):=h
def lg(h:p:=by go_size):=h
def kU(h:p:=by cases ha):=h
def kG(h:p:=by simpa using h0):=h
def kN(h:p:=by rw[hSe _ _ _ _ hq,hSe _ _ _ _ hq,hSe _ _ _ _ hq,hSe _ _ _ _ hq,hSe _ _ _ _ hq,hSe _ _ _ _ hq,hSe _ _ _ _ hq]):=h
def kJ(h:p:=by rw[hk];rfl):=h
def Ul(h:p:=by rw[HA.out,List.drop_eq_nil_of_le (by omega)];rfl):=h
def me(h:p:=by simp;have:=zK.size;omega):=h
def lX(h:p:=by rw[zA];have:=zW.size;omega):=h
def IN(h:p:=by first|exact HB.out.size|(simp;omega)|omega):=h
def lZ(h:p:=by simp only;have:=EQB.out;omega):=h
def l9(h:p:=by simp[results,results115,go_sem,r0,r1,r2,r3,r4,r5,r6]):=h
def ma(h:p:=by simp[bQ]):=h
def nl(h:p:=by simpa using hB):=h
def mT(h:p:=by simpa using hz):=h
def np(h:p:=by simp[aP,hk]):=h
def mR(h:p:=by simpa using hm):=h
def mK(h:p:=by simpa using h2):=h
def mQ(h:p:=by simpa using hn):=h
def a3B(h:p:=by rw[HT.out];simp):=h
def mH(h:p:=by rw[e]):=h
def mS(h:p:=by simp[h.count]):=h
def m8(h:p:=by rw[hv,hn]):=h
def ny(h:p:=by simpa using hg):=h
def mN(h:p:=by rw[<-xS];simp[go_sem]):=h
def nu(h:p:=by simp only;have:=EQB.out;have:=xA.size;omega):=h
def pm(h:p:=by simp[h]):=h
def pi(h:p:=by simpa[World.setCell] using h6):=h
def pk(h:p:=by rw[World.frozen?_setCell];exact h7 j):=h
def pF(h:p:=by unfold roB roV;rw[hb];rfl):=h
def pj(h:p:=by simp at hr):=h
def pD(h:p:=by simp[results,results183,go_sem,r0,r1,r2,z2]):=h
def By(h:p:=by unfold Addr.add;split<;>simp_all):=h
def pC(h:p:=by intro e;cases e;omega):=h
def pu(h:p:=by simp[a7q]):=h
def a4n(h:p:=by have:=K.a1;have:=K.lens;omega):=h
def a4w(h:p:=by have:=hS.2.1;omega):=h
def pE(h:p:=by simp[results,results98,go_sem,d0,d1,d2,d3,d4,d5,d6]):=h
def pt(h:p:=by rw[IntKind.wrap_i64];omega):=h
def Ku(h:p:=by rw[hx.cell (by simp;omega)];exact c1):=h
def pf(h:p:=by rw[jt.cell (by simp)];simp[go_sem]):=h
def Bj(h:p:=by rw[qK.cell (by simpa using z2)];simp[go_sem,zh,qU]):=h
def Bh(h:p:=by rw[qK.cell (by simpa using z2)];simp[go_sem,zh,qV]):=h
def BG(h:p:=by rw[qK.frozen (by simpa using z2)];simp[go_sem,zh,f0]):=h
def Bn(h:p:=by rw[qK.frozen (by simpa using z2)];simp[go_sem,zh,f1]):=h
def Vg(h:p:=by have h:=nV gg ss cp wz;rw[qw.out] at h;exact h):=h
def a3z(h:p:=by rw[xG.out];rfl):=h
def UK(h:p:=by simpa using a.1.1):=h
def UO(h:p:=by simpa using a.2.1.1):=h
def a4o(h:p:=by rw[qW.out,la qL]):=h
def ph(h:p:=by simp[results,results13,go_sem]):=h
def sF(h:p:=by simpa using h'):=h
def sW(h:p:=by split<;>omega):=h
def sI(h:p:=by rw[e];simp):=h
def td(h:p:=by simpa using hj):=h
def sQ(h:p:=by simp at hx;subst hx;rfl):=h
def sS(h:p:=by rw[HY.out];simp_all):=h
def sZ(h:p:=by first|rfl|(rw[List.length_append];rfl)):=h
def s8(h:p:=by intro u hu;rw[List.mem_singleton.1 hu];rfl):=h
def sG(h:p:=by rw[hSe _ _ _ _ hb,hSe _ _ _ _ hb,hSe _ _ _ _ hb]):=h
def sC(h:p:=by rw[jv.out];go_grown):=h
def Vp(h:p:=by rw[HW.cell (by simpa using zh)];exact qU):=h
def U0(h:p:=by rw[HW.cell (by simpa using zh)];exact qV):=h
def Vz(h:p:=by rw[HW.frozen (by simpa using zh)];exact f0):=h
def Vk(h:p:=by rw[HW.frozen (by simpa using zh)];exact f1):=h
def s9(h:p:=by rw[HR.out]):=h
def sJ(h:p:=by simp[results,results102,go_sem]):=h
def sX(h:p:=by have:=HL.out;omega):=h
def tm(h:p:=by have:=xE.out;omega):=h
def Bd(h:p:=by have:=jw.size;simpa using this):=h
def sB(h:p:=by simp only[hwz];omega):=h
def Vc(h:p:=by unfold xv;rw[hn]):=h
def Up(h:p:=by show _=_;rw[qh];simp[aD,br,HK.out.kx.none,xG.out]):=h
def sH(h:p:=by simp[results,results115,go_sem,r0,r1,r2,r3,r4,r5,r6,a4q]):=h
def sU(h:p:=by rw[HK.out.kx.none];decide):=h
def Bc(h:p:=by rw[c];exact h.things_):=h
def Bf(h:p:=by rw[c];exact h.lines_):=h
def Bo(h:p:=by go_grown;exact below_drewN (by go_grown) _):=h
def Bs(h:p:=by simp at hi;omega):=h
def Cd(h:p:=by rw[eb];exact congrArg G e.symm):=h
def BM(h:p:=by rw[hn];decide):=h
def Bp(h:p:=by split<;>exact h):=h
def BF(h:p:=by rw[vZ.cell (by simp)];simp[go_sem]):=h
def Bx(h:p:=by simp[World.putObj]):=h
def Ce(h:p:=by simp[aP,e]):=h
def AT(h:p:=by simp[bH]<;>omega):=h
def AQ(h:p:=by simpa[World.setCell] using z4):=h
def BN(h:p:=by simp[results,results164,go_sem,r0,r1,r2,r3,r4,r5,r6]):=h
def AU(h:p:=by unfold maxLen;have:=LL.out;omega):=h
def AN(h:p:=by have:=LL.out;omega):=h
def Br(h:p:=by simpa[World.setCell] using z7):=h
def Cb(h:p:=by have:=HF.out;omega):=h
def Bl(h:p:=by rw[qt];omega):=h
def Ut(h:p:=by rw[xA.cell (by simpa using hb)];exact c0):=h
def US(h:p:=by rw[xA.cell (by simpa using hb)];exact c1):=h
def Vm(h:p:=by have:=xQ.size;omega):=h
def Kp(h:p:=by rw[hSe _ _ _ _ hq,hSe _ _ _ _ hq,hSe _ _ _ _ hq]):=h
def Bt(h:p:=by have:=B2.size;omega):=h
def AV(h:p:=by rw[<-EX] at hkx;simpa[bh,roG] using hkx):=h
def BI(h:p:=by rw[xV b (by omega)];exact M2.2 b hb zk):=h
def Ba(h:p:=by simp[results,results15,go_sem]):=h
def KP(h:p:=by have:=zX.size;simpa using this):=h
def a4T(h:p:=by rw[hx.cell (by simp;omega)];exact c2):=h
def a3G(h:p:=by rw[hx.cell (by simpa using VA.2.1)];exact VA.1.2):=h
def a4E(h:p:=by rw[hx.cell (by simpa using VB.2.1)];exact VB.1.2):=h
def AW(h:p:=by simp[gx]):=h
def AM(h:p:=by have h:=jx;rw[zY.out] at h;simpa[bh,roG] using h):=h
def BJ(h:p:=by rw[qw.out];decide):=h
def Ca(h:p:=by simp only[List.length_set];exact OS):=h
def BV(h:p:=by show _=_;simp[qh,dt]):=h
def a3J(h:p:=by show _=_;rw[<-hal,Yz]):=h
def a4I(h:p:=by show _=_;rw[HC.out,ek,List.take_length]):=h
def BH(h:p:=by rw[HWr.out];rfl):=h
def AO(h:p:=by simp[results,results115,go_sem,Go.Proofs.YtmapdpcfanecdabGreatDoor.lP,r0,r1,r2,r3,r4,r5,r6]):=h
def Bw(h:p:=by show _=_;unfold cE;simp only[e1,e2];simp;try omega):=h
def K6(h:p:=by rw[xA.cell (by simp)];simp[go_sem]):=h
def Kf(h:p:=by rw[World.cell?_setCell_other _ _ _ _ (by intro e;cases e)];exact h1):=h
def a3S(h:p:=by rw[xA.cell (by simpa using hb)];exact hc k xy):=h
def KB(h:p:=by rw[HR.out];simp[jy,hk]):=h
def Kn(h:p:=by rw[co 1 (by omega)];exact h.vars_):=h
def Ke(h:p:=by simp only[List.mem_cons];simp only[hk,or_true]):=h
def Kc(h:p:=by simp only[List.mem_cons];simp only[xH,or_true]):=h
def KW(h:p:=by rw[bD (by omega)];exact h1):=h
def Ko(h:p:=by simp[results,results172,go_sem,r0,r1,r2]):=h
def K5(h:p:=by show _=_;rw[List.map_append,HL.out,List.replicate_succ'];rfl):=h
def KE(h:p:=by rw[HNN.out];exact lR _):=h
def KX(h:p:=by rw[zA];have:=HW7.size;omega):=h
def Kd(h:p:=by simp[Value.oneCell']):=h
def Kw(h:p:=by intro k hk;simp[Value.ownBlock] at hk;omega):=h
def Kq(h:p:=by rw[bD (by omega)];exact h0):=h
def Kx(h:p:=by rw[bD (by omega)];exact h3):=h
def KD(h:p:=by rw[bD (by omega)];exact h5):=h
def KJ(h:p:=by show _=_;rw[HK.out,HS.out,HSG.out];rfl):=h
def IW(h:p:=by rw[zA];have:=HD.size;omega):=h
def a4L(h:p:=by have:=jt.size;simpa using this):=h
def K7(h:p:=by have:=R5.ln;have:=R5.xs.len;omega):=h
def KT(h:p:=by have h:=HE.out;rwa [List.take_of_length_le (by omega),List.take_of_length_le (by have:=HL.out;omega)] at h):=h
def Kt(h:p:=by rw[K.hi];unfold bS;simp[List.getD,hm]):=h
def UZ(h:p:=by have h:=Ie i.k wx;rw[jz] at h;exact h):=h
def Vh(h:p:=by have h:=GT i.k wx;rw[jU] at h;exact h):=h
def a4Q(h:p:=by show _=_;rw[zA,qk.out]):=h
def KM(h:p:=by show _=_;simp[aD,HK.out.kx.none,xG.out]):=h
def Ks(h:p:=by show _=_;rw[<-Hy.out,<-HA.out];simp):=h
def IU(h:p:=by rw[if_pos rfl,sy (by omega) hn]):=h
def Kr(h:p:=by rw[sy (by omega) hn];rfl):=h
def VM(h:p:=by have:=HR.out;rw[List.drop_eq_nil_of_le (by omega)] at this;exact this):=h
def Un(h:p:=by rw[World.cell?_setCell_other _ _ _ _ (by intro e;cases e)];exact h0):=h
def Uu(h:p:=by rw[World.cell?_setCell_other _ _ _ _ (by intro e;cases e)];exact h2):=h
def Vv(h:p:=by rw[World.cell?_setCell_other _ _ _ _ (by intro e;cases e;exact hi rfl),c]):=h
def Vl(h:p:=by rw[hSe _ _ _ _ h2,xJ.block k h1 h3]):=h
def Ur(h:p:=by simp only[aP,List.mem_cons];simp only[hk,or_true]):=h
def Vo(h:p:=by simp only[List.mem_cons];simp only[hx,or_true]):=h
def Um(h:p:=by simp only[List.mem_cons];rw[e];simp only[jA,or_true]):=h
def Vq(h:p:=by simp[results,results202,go_sem,r0,r1,r2,dP]):=h
def UC(h:p:=by rw[HR.out];first|(simp;done)|(simp;omega)):=h
def Vy(h:p:=by show _=_;have:=congrArg List.length HL.out;simpa using this):=h
def U8(h:p:=by simp[results,results114,go_sem,r0,r1,r2,r3,r4,r5,r6]):=h
def Vd(h:p:=by first|exact A7.same (e7 _ (by omega)) s7|(simpa using A7.same (e7 _ (by omega)) s7)):=h
def Vi(h:p:=by first|exact C7.same (e7 _ (by omega)) s7|(simpa using C7.same (e7 _ (by omega)) s7)):=h
def UT(h:p:=by first|exact S7.old (λb hb=>e7 b (by omega)) s7|(simpa using S7.old (λb hb=>e7 b (by omega)) s7)):=h
def a4S(h:p:=by rw[qM.cell (by simp only;exact zp1)];exact C1):=h
def Vn(h:p:=by simp[results,results40,go_sem,r0,r1,r2,r3,r4,r5]):=h
def Uw(h:p:=by simp only[List.mem_cons];simp only[hb,or_true]):=h
def VJ(h:p:=by have:=a3 _ (gM h);have:=b3 _ (gM h');omega):=h
def UF(h:p:=by first|exact U7.put2 _|(rw[List.length_append];exact U7.put2 _)):=h
def UB(h:p:=by simp[results,results164,go_sem,r0,r1,r2,r3,r4,r5,r6,bT]):=h
def Vj(h:p:=by have:=xE.out;have:=qk.out;simp only;omega):=h
def a4R(h:p:=by rw[hx.cell (by simp;omega),HW.cell (by simpa using hm)];exact q2):=h
def a3D(h:p:=by rw[hx.cell (by simp;omega),HW.cell (by simpa using hgt)];exact th1):=h
def UP(h:p:=by rw[hx.cell (by simp;omega),HW.cell (by simpa using hm)];exact q1):=h
def VN(h:p:=by simp[results,results14,go_sem,r0,r1,r2,r3,r4,r5]):=h
def VH(h:p:=by rw[hb.cell (by simp only;exact zrb)];exact q0):=h
def Us(h:p:=by rw[hb.cell (by simp only;exact zrb)];exact q1):=h
def VE(h:p:=by rw[hb.cell (by simp only;exact zrb)];exact q2):=h
def VP(h:p:=by unfold aF;rw[if_pos h0];unfold cN;rw[if_pos zL];unfold cN;rw[if_pos hy0];rfl):=h
def Vf(h:p:=by show _=_;rw[List.take_succ_eq_append_getElem xy,List.take_succ_eq_append_getElem hlb,HE.out,HQ.out]):=h
def VD(h:p:=by show b0a _ _ _ _ _ _ _ _ _;rw[HWD.out];have h:=HYE.out;(try simp only[Int.ofNat_le] at h |-);rw[<-h];exact⟨A9,J9,JC1,JC2,B9⟩):=h
def UX(h:p:=by show _=_;rw[qX.out,qd.out,decide_eq_true (p:=x1≠x2) zk];simp):=h
def a3O(h:p:=by simpa using(a7b.put7 a.2.2.2.2.1 (by have:=a.2.2.2.2.2.2.2;omega)).1):=h
def Uq(h:p:=by have h:=xG.out;unfold nTo btw;simp;omega):=h
def UE(h:p:=by have:=GAI.2.1;have:=GAI.2.2;unfold maxLen at *;omega):=h
def UQ(h:p:=by show _=_;unfold ci;rw[<-hfn,<-hft,<-hff,<-hfp];cases fn<;>cases ft<;>cases ff<;>cases fp<;>rfl):=h
def Uz(h:p:=by cases fn<;>cases ft<;>(have dv4:=hv4.out;simp at dv4;subst dv4;rfl)):=h
def VK(h:p:=by cases fn<;>cases ft<;>cases ff<;>(have dv8:=hv8.out;simp at dv8;subst dv8;rfl)):=h
def UG(h:p:=by cases fn<;>cases ft<;>cases ff<;>cases fp<;>(have dv14:=Qy.out;simp at dv14;subst dv14;rfl)):=h
def Uv(h:p:=by rw[show (⟨fg,E,0⟩:Gc).g.s=[] from hfs];exact lR _):=h
def a4a(h:p:=by have h:=Cn x.vq[ka] qu Qx wx;rw[HY.out,HN.out] at h;exact h):=h
def UU(h:p:=by simp[results,results19,go_sem,r0,r1,r2,r3,r4,r5]):=h
def UV(h:p:=by rw[hx.cell (by simp only;exact q4)];exact Q4.1):=h
def Vb(h:p:=by rw[hx.cell (by simp only;exact q4)];exact Q4.2):=h
def wP(h:p:=by show btw V 1 8=true;exact lQ hV xZ):=h
def tF(h:p:=by show btw F 0 3=true;exact lQ hF zd):=h
def bG(h:p:=by show (0:Int)<=(k:Int);exact aa):=h
def kA(h:p:=by show (k:Int) < (c.length:Int);exact aa):=h
def RH(h:p:=by exact show∀e,(Instr.checkKey e 10000 kt (I Y k)).run P w=.ok () w from λe=>MapKept.run_checkKey (k:=I Y k) hk rfl e 9999):=h
def Na(h:p:=by show Below (R (M w)) w (w.alloc (A #[O n,I Y lo,I Y hi] 89));exact ai):=h
def wU(h:p:=by exact show∀j,w'.cell? ⟨b,j,E⟩=w.cell? ⟨b,j,E⟩ from λj=>World.cell?_of_block (a:=⟨b,j,E⟩) hb):=h
def Dz(h:p:=by exact show∀j,w'.frozen? ⟨b,j,E⟩=w.frozen? ⟨b,j,E⟩ from λj=>World.frozen?_of_block (a:=⟨b,j,E⟩) hb):=h
def Pk(h:p:=by show w.ownsRow B 91 7 (U (G ⟨b,0,E⟩) (X r.l) r.rc) (X r.l) (aZ r.l);exact by rw[<-hb];exact h):=h
def DB(h:p:=by show k < X x.fq;exact by simpa[Go.Proofs.YtmapdpcfanecdabGreatDoor.Al] using h):=h
def RT(h:p:=by show q∈(x.fq.modify s.toNat λr=>r.set n.toNat g)[k]'(by simpa using h');exact hq):=h
def Eg(h:p:=by show k < X x.fq;exact by simpa[Go.Proofs.YtmapdpcfanecdabGreatDoor.iW] using h):=h
def RD(h:p:=by show q∈(x.fq.modify at_.toNat λr=>r.map λg=>{g with n:=true})[k]'(by simpa using h');exact hq):=h
def im(h:p:=by show (k:Int) < (X l:Int);exact aa):=h
def My(h:p:=by show Hid (x∈l.drop k↔(x=l[k]\/x∈l.drop (k+1)));exact a0s l x k xy):=h
def OO(h:p:=by show Hid (x∈l↔x∈l.drop (k+1));exact HA.out.trans (HN.out.trans ⟨λh=>h.resolve_left λe=>hp e.symm,.inr⟩)):=h
def Ep(h:p:=by show wr.cell? ⟨b,off+k,E⟩=G (I Y l[k]);exact a3S):=h
def Fc(h:p:=by show Hid ((l.drop k).any p=(p l[k]||(l.drop (k+1)).any p));exact KH l p k xy):=h
def vY(h:p:=by show Hid (l.any p=true);exact pB):=h
def tJ(h:p:=by show Hid (l.any p=(l.drop (k+1)).any p);exact pB):=h
def gF(h:p:=by exact P0.call vZ):=h
def nz(h:p:=by exact a7w.new w V F s c cap):=h
def mY(h:p:=by show Below w.heap.size w (w.alloc (A #[I .i64 V,I .i64 F,U s c.length cap] 24));exact ai):=h
def il(h:p:=by show (k:Int) < (L.length:Int);exact aa):=h
def Rq(h:p:=by exact IR.alloc (A #[O L[k].n,O L[k].sp.n,I Y L[k].sp.lo,I Y L[k].sp.hi,O L[k].t,O L[k].f,U ss (X L[k].s) gc] 91)):=h
def uO(h:p:=by exact (Array.getElem?_eq_some_iff.1 hl.lp).1):=h
def NJ(h:p:=by exact (((hv0.stored (i * 2) (I Y v.k)).1).stored (i * 2+1) (I Y v.n)).1):=h
def Sh(h:p:=by exact show∀{k:Nat},G k∈aP m vv tv lv fv->k < R (M w) from λhk=>h.lt hk):=h
def Pq(h:p:=by exact show∀j,w1.cell? ⟨m,j,E⟩=w.cell? ⟨m,j,E⟩ from λj=>World.cell?_of_block (a:=⟨m,j,E⟩) bm):=h
def Nf(h:p:=by exact show∀j,w1.frozen? ⟨m,j,E⟩=w.frozen? ⟨m,j,E⟩ from λj=>World.frozen?_of_block (a:=⟨m,j,E⟩) bm):=h
def gI(h:p:=by show bl w w1;exact (a2d ⟨n,lo,hi⟩ ⟨n',xt,xu⟩ dP w).trans (vZ.mono au)):=h
def wJ(h:p:=by show bl w w2;exact H1.trans (xj.mono aa)):=h
def Pw(h:p:=by show Below (R (M w)) w ((w.alloc (A #[O n,I Y lo,I Y hi] 89)).alloc (A #[O n',I Y xt,I Y xu] 89));exact ai):=h
def Sk(h:p:=by show (⟨R (M w),0,E⟩:Addr).add j=⟨R (M w),j,E⟩;exact By):=h
def MV(h:p:=by show bl W w5;exact (xA.alloc xA.size _).trans (xw.mono (by simp;have:=xA.size;omega))):=h
def Oa(h:p:=by show Hid (cM g=((!g.sp.n&& !decide (g.sp.lo=0/\g.sp.hi=0))||(g.t||decide (0 < X g.s))));exact rfl):=h
def vA(h:p:=by show (0:Int) < (X s:Int);exact by omega):=h
def Dn(h:p:=by exact show¬(0:Int) < (X s:Int) from by omega):=h
def Rn(h:p:=by show Hid ((L.drop k).any p=(p L[k]||(L.drop (k+1)).any p));exact KO L p k xy):=h
def DT(h:p:=by show ((s.length:Int)==0)=true;exact by simp only[beq_iff_eq];omega):=h
def Dl(h:p:=by show ((s.length:Int)==0)=false;exact by simp only[beq_eq_false_iff_ne];omega):=h
def wS(h:p:=by show Below w.heap.size w ((w.alloc (A #[O g.n,O g.sp.n,I Y g.sp.lo,I Y g.sp.hi,O g.t,O g.f,U ss (X g.s) gc] 91)).alloc (A #[O h.n,O h.sp.n,I Y h.sp.lo,I Y h.sp.hi,O h.t,O h.f,U st (X h.s) hc] 91));exact ai):=h
def DO(h:p:=by exact (a7b.new w g ss gc).alloc (A #[O h.n,O h.sp.n,I Y h.sp.lo,I Y h.sp.hi,O h.t,O h.f,U st (X h.s) hc] 91)):=h
def Eh(h:p:=by exact a7b.new (w.alloc (A #[O g.n,O g.sp.n,I Y g.sp.lo,I Y g.sp.hi,O g.t,O g.f,U ss (X g.s) gc] 91)) h st hc):=h
def it(h:p:=by exact B0.trans (vZ.mono B0.size)):=h
def fU(h:p:=by exact B1.trans (xj.mono B1.size)):=h
def EC(h:p:=by exact show¬((0:Int) < (s.length:Int)) from aa):=h
def iT(h:p:=by show maxLen<=9223372036854775807;exact an):=h
def fO(h:p:=by show (0:Int)<=(q:Int);exact aa):=h
def Nn(h:p:=by show bK (v:Int) (f:Int) c=⟨false,List.replicate v dt,List.replicate c.length (List.replicate f a4q)⟩;exact by simp[bK]):=h
def tz(h:p:=by show Hid (∀wx,Calls pG 111 #[] wx λe w'=>e=Rt (.agg #[O false,O true,I Y 0,I Y 0,O false,O false,U E 0 0])/\bl wx w');exact λwx=>gN wx):=h
def cQ(h:p:=by show (0:Int)<=(k:Int);exact by omega):=h
def Pv(h:p:=by show Below (R (M w2)) w2 (w2.alloc (A #[O true,O true,I Y 0,I Y 0,O false,O false,U E 0 0] 91));exact ai):=h
def vU(h:p:=by exact xj.trans (xp.mono xj.size)):=h
def Fk(h:p:=by show N<=R (M wr);exact lT zr xL.size):=h
def Ry(h:p:=by show Below N w9 xM;exact ((bR _ w9).alloc z9 _).grown xJ au (λk hk=>(aU jB.1 hk).2)):=h
def Ds(h:p:=by show N<=R (M xM);exact lT z9 xN.size):=h
def RO(h:p:=by exact show∀wx,a7b wx (R (M w)+1) 0 g ss gc->a7b wx (R (M w)+1+1) 0 h st hc->a8v wx jb J->KN w jb g ss gc h st hc J wx from λwx a b c=>⟨by simpa using a.1,by simpa using b.1,c.1⟩):=h
def dG(h:p:=by exact (G0.alloc _).call vZ):=h
def gL(h:p:=by exact (H0.alloc _).call vZ):=h
def iJ(h:p:=by exact (R0.alloc _).call vZ):=h
def iK(h:p:=by show Fr7 w1 (R (M w)+1+1+1);exact (F0.alloc _).call vZ):=h
def dB(h:p:=by show bl w w1;exact (B0.alloc B0.size _).trans (vZ.mono au)):=h
def NG(h:p:=by exact G3.alloc (A #[O g.n,O g.sp.n,I Y g.sp.lo,I Y g.sp.hi,O g.t,O g.f,U ss (X g.s) gc,O h.n,O h.sp.n,I Y h.sp.lo,I Y h.sp.hi,O h.t,O h.f,U st (X h.s) hc] 91)):=h
def NM(h:p:=by exact H3.alloc (A #[O g.n,O g.sp.n,I Y g.sp.lo,I Y g.sp.hi,O g.t,O g.f,U ss (X g.s) gc,O h.n,O h.sp.n,I Y h.sp.lo,I Y h.sp.hi,O h.t,O h.f,U st (X h.s) hc] 91)):=h
def NO(h:p:=by exact R3.alloc (A #[O g.n,O g.sp.n,I Y g.sp.lo,I Y g.sp.hi,O g.t,O g.f,U ss (X g.s) gc,O h.n,O h.sp.n,I Y h.sp.lo,I Y h.sp.hi,O h.t,O h.f,U st (X h.s) hc] 91)):=h
def Sj(h:p:=by exact F3.alloc (A #[O g.n,O g.sp.n,I Y g.sp.lo,I Y g.sp.hi,O g.t,O g.f,U ss (X g.s) gc,O h.n,O h.sp.n,I Y h.sp.lo,I Y h.sp.hi,O h.t,O h.f,U st (X h.s) hc] 91)):=h
def fJ(h:p:=by exact W7 w V F s c cap g ss gc h st hc):=h
def fM(h:p:=by show a2r (pH w V F s c cap g ss gc h st hc) s c;exact xC.below B0 (lR _)):=h
def fH(h:p:=by show yv (pH w V F s c cap g ss gc h st hc) ss g.s;exact hs.below B0 (lR _)):=h
def fE(h:p:=by show yv (pH w V F s c cap g ss gc h st hc) st h.s;exact ht.below B0 (lR _)):=h
def gB(h:p:=by exact a7r.new2 (pH w V F s c cap g ss gc h st hc) g ss gc h st hc I0 h1 h2 J0 h3 h4):=h
def eh(h:p:=by exact (I0.alloc _).call vZ):=h
def ik(h:p:=by exact (J0.alloc _).call vZ):=h
def Nq(h:p:=by show yv (Kl w V F s c cap g ss gc h st hc) ss g.s;exact hs.below B0 (lR _)):=h
def Sc(h:p:=by show yv (Kl w V F s c cap g ss gc h st hc) st h.s;exact ht.below B0 (lR _)):=h
def Pf(h:p:=by exact a7r.new2 (Kl w V F s c cap g ss gc h st hc) g ss gc h st hc I0 h1 h2 J0 h3 h4):=h
def SE(h:p:=by exact ag (fA V F s c cap (G ⟨R (M w)+1+1+1,0,E⟩) [g,h] 2 _ ((xC.below B0 (lR _)).alloc _) L0 ae)):=h
def pL(h:p:=by show R (M w)+1+1 < R (M w1);exact lV):=h
def mU(h:p:=by exact a7r.new1 _ g ss gc I0 h1 h2):=h
def mW(h:p:=by exact ag (fA V F s c cap (G ⟨R (M w)+1+1+1,0,E⟩) [g] 1 _ (((xC.below zD (lR _)).alloc _).alloc _) L0 ae)):=h
def OL(h:p:=by exact G0.alloc (A #[O false,O false,I Y 0,I Y 0,O false,O false,U E 0 0] 91)):=h
def NF(h:p:=by exact H0.alloc (A #[O false,O false,I Y 0,I Y 0,O false,O false,U E 0 0] 91)):=h
def MH(h:p:=by exact B0.alloc B0.size (A #[O false,O false,I Y 0,I Y 0,O false,O false,U E 0 0] 91)):=h
def MD(h:p:=by show Fr7 (((w.alloc (A #[O g.n,O g.sp.n,I Y g.sp.lo,I Y g.sp.hi,O g.t,O g.f,U ss (X g.s) gc] 91)).alloc (A #[O h.n,O h.sp.n,I Y h.sp.lo,I Y h.sp.hi,O h.t,O h.f,U st (X h.s) hc] 91)).alloc (A #[O false,O false,I Y 0,I Y 0,O false,O false,U E 0 0] 91)) (R (M w)+1+1);exact⟨λj=>aE,ae⟩):=h
def cX(h:p:=by exact ag hx):=h
def ki(h:p:=by exact congrArg List.length HL.out):=h
def dS(h:p:=by show bl wr wr.drew;exact (bR _ _).drew):=h
def m9(h:p:=by show bl wr w5;exact HD.trans (xw.mono HD.size)):=h
def wM(h:p:=by exact LR.trans (xF.mono aa)):=h
def uR(h:p:=by show (0:Int)<=(k2:Int);exact by omega):=h
def PW(h:p:=by show wr.cell? ⟨p1,q1+k2,E⟩=G (U r1 fx[k2].length rc1);exact a4S):=h
def pP(h:p:=by show (eD false).k=2;exact rfl):=h
def pJ(h:p:=by show (eD false).n=0;exact rfl):=h
def Se(h:p:=by show (⟨b,off,E⟩:Addr).add (k * 2)=⟨b,off+k * 2,E⟩;exact by unfold Addr.add;split<;>simp_all):=h
def Ou(h:p:=by show (⟨b,off,E⟩:Addr).add (k * 2+1)=⟨b,off+k * 2+1,E⟩;exact by unfold Addr.add;split<;>simp_all[Nat.add_assoc]):=h
def kB(h:p:=by exact xO.trans (vZ.mono xO.size)):=h
def EI(h:p:=by show (k:Int) < (X r.things:Int);exact aa):=h
def bV(h:p:=by show m < R (M w);exact h.lt fL):=h
def EE(h:p:=by show Below (R (M w)) w (w.alloc (A #[I Y 11,I Y t,I Y a,I Y b,I Y n,I Y g] 100));exact ai):=h
def eS(h:p:=by show m < R (M w)+1;exact aa):=h
def eQ(h:p:=by show m≠gb;exact h.vars_apart rfl m ae):=h
def eR(h:p:=by show gb < R (M w)+1;exact aa):=h
def gG(h:p:=by show (0:Int)<=(t:Int);exact aa):=h
def iq(h:p:=by show (t:Int) < (X s.vq:Int);exact aa):=h
def gC(h:p:=by exact zQ (t * 2)):=h
def gH(h:p:=by exact zQ (t * 2+1)):=h
def tK(h:p:=by show Hid ((l.drop k).any p=(p l[k]||(l.drop (k+1)).any p));exact KG l p k xy):=h
def Eu(h:p:=by show wr.cell? ⟨b,off+k * 2,E⟩=G (I Y l[k].site);exact Ut):=h
def Fm(h:p:=by show wr.cell? ⟨b,off+k * 2+1,E⟩=G (U f (X l[k].fs) fc);exact US):=h
def MN(h:p:=by exact cell_regrown (w:=(w.alloc (Cc #[I Y 2,I Y 0] 82))) (a:=⟨R (M w),0,E⟩) (v:=I Y 2) aE):=h
def OW(h:p:=by exact cell_regrown (w:=(w.alloc (Cc #[I Y 2,I Y 0] 82))) (a:=⟨R (M w),1,E⟩) (v:=I Y 0) aE):=h
def Rk(h:p:=by exact cell_regrown (w:=(w.alloc (Cc #[I Y 2,I Y 1] 82))) (a:=⟨R (M w),0,E⟩) (v:=I Y 2) aE):=h
def MJ(h:p:=by exact cell_regrown (w:=(w.alloc (Cc #[I Y 2,I Y 1] 82))) (a:=⟨R (M w),1,E⟩) (v:=I Y 1) aE):=h
def Ri(h:p:=by show Below (R (M w)) w (w.alloc (A #[I Y x,U f fs.length fc] 84));exact ai):=h
def tP(h:p:=by exact show∀(fn:Fn) (first cp:Array Value) (w:World),(Instr.makeFunc fn first cp).run pG w=.ok (.func fn first cp) w from λ_ _ _ _=>rfl):=h
def NQ(h:p:=by show Below (R (M w)) w ((w.alloc (A #[I Y V,I Y F,U s c.length cap] 24)).alloc (A #[I Y r.at_,U vs r.vq.length vc,U ts r.things.length tc,I Y r.taken,U ls r.lines.length lc,I Y r.fin] 33));exact ai):=h
def Ob(h:p:=by exact (P3.new w V F s c.length cap).call (w':=((w.alloc (A #[I Y V,I Y F,U s c.length cap] 24)).alloc (A #[I Y r.at_,U vs r.vq.length vc,U ts r.things.length tc,I Y r.taken,U ls r.lines.length lc,I Y r.fin] 33))) ai):=h
def Pn(h:p:=by exact R6.new (w.alloc (A #[I Y V,I Y F,U s c.length cap] 24)) 33 (I Y r.at_) (U vs r.vq.length vc) (U ts r.things.length tc) (I Y r.taken) (U ls r.lines.length lc) (I Y r.fin)):=h
def Rz(h:p:=by show Below (R (M w)) w ((w.alloc (A #[I Y r.at_,U vs r.vq.length vc,U ts r.things.length tc,I Y r.taken,U ls r.lines.length lc,I Y r.fin] 33)).alloc (A #[I Y 0,U E 0 0,U E 0 0,I Y 0,U E 0 0,I Y 0] 33));exact ai):=h
def Oe(h:p:=by exact (R6.new w 33 (I Y r.at_) (U vs r.vq.length vc) (U ts r.things.length tc) (I Y r.taken) (U ls r.lines.length lc) (I Y r.fin)).call (w':=((w.alloc (A #[I Y r.at_,U vs r.vq.length vc,U ts r.things.length tc,I Y r.taken,U ls r.lines.length lc,I Y r.fin] 33)).alloc (A #[I Y 0,U E 0 0,U E 0 0,I Y 0,U E 0 0,I Y 0] 33))) ai):=h
def PL(h:p:=by exact R6.new (w.alloc (A #[I Y r.at_,U vs r.vq.length vc,U ts r.things.length tc,I Y r.taken,U ls r.lines.length lc,I Y r.fin] 33)) 33 (I Y 0) (U E 0 0) (U E 0 0) (I Y 0) (U E 0 0) (I Y 0)):=h
def Pr(h:p:=by show R (M ((w.alloc (A #[I Y r.at_,U vs r.vq.length vc,U ts r.things.length tc,I Y r.taken,U ls r.lines.length lc,I Y r.fin] 33)).alloc (A #[I Y 0,U E 0 0,U E 0 0,I Y 0,U E 0 0,I Y 0] 33)))=R (M w)+1+1;exact ae):=h
def Re(h:p:=by exact (Z0.call xp).far (a:=⟨R (M w),1,E⟩) ae (U xh r.vq.length xf)):=h
def Pz(h:p:=by show bl w (w3.setCell ⟨R (M w),1,E⟩ (U xh r.vq.length xf));exact (xO.trans (xp.mono xO.size)).setCell ae _):=h
def NS(h:p:=by show a7o (w3.setCell ⟨R (M w),1,E⟩ (U xh r.vq.length xf)) (R (M w)+1+1) (U xh r.vq.length xf) r.vq;exact eF ov (eP ov aw) _):=h
def Oz(h:p:=by exact (ZA.call xw).far (a:=⟨R (M w),4,E⟩) ae (U zS r.lines.length zT)):=h
def Nu(h:p:=by show bl w (w5.setCell ⟨R (M w),4,E⟩ (U zS r.lines.length zT));exact (BA.trans (xw.mono BA.size)).setCell ae _):=h
def OU(h:p:=by exact eF (a:=⟨R (M w),4,E⟩) (di OA xw) (eP OA aw) (U zS r.lines.length zT)):=h
def Py(h:p:=by exact eF (a:=⟨R (M w),4,E⟩) ol (eP ol aw) (U zS r.lines.length zT)):=h
def Nj(h:p:=by exact show∀x,(Value.slice xh r.vq.length xf).ownBlock=G x->(Value.slice zS r.lines.length zT).ownBlock≠G x from λx hx=>eP ol (aW OA hx).1):=h
def iO(h:p:=by show bl w1 w1.drew;exact (bR _ _).drew):=h
def Ee(h:p:=by exact show¬(k:Int) < (L.length:Int) from by omega):=h
def ni(h:p:=by show Below (R (M w)) w ((w.alloc (A #[I Y V,I Y F,U s c.length cap] 24)).alloc (A #[O x.none,U vs x.vq.length vc,U fs x.fq.length fc] 28));exact ai):=h
def PN(h:p:=by show Below (R (M wr)) wr (wr.alloc (A #[O L[k].none,U vs L[k].vq.length vc,U fs L[k].fq.length fc] 28));exact ai):=h
def iw(h:p:=by exact xC.below B0 (lR _)):=h
def wZ(h:p:=by show Below (R (M w)) w (((w.alloc (A #[I Y V,I Y F,U s c.length cap] 24)).alloc (A #[O x.none,U xh x.vq.length xf,U xk x.fq.length xi] 28)).alloc (A #[O y.none,U xq y.vq.length xm,U xr y.fq.length xo] 28));exact ai):=h
def DK(h:p:=by exact (a7w.new w V F s c cap).call (w':=(((w.alloc (A #[I Y V,I Y F,U s c.length cap] 24)).alloc (A #[O x.none,U xh x.vq.length xf,U xk x.fq.length xi] 28)).alloc (A #[O y.none,U xq y.vq.length xm,U xr y.fq.length xo] 28))) ai):=h
def CX(h:p:=by exact (XAt.new (w.alloc (A #[I Y V,I Y F,U s c.length cap] 24)) x xh xf xk xi).call (w':=(((w.alloc (A #[I Y V,I Y F,U s c.length cap] 24)).alloc (A #[O x.none,U xh x.vq.length xf,U xk x.fq.length xi] 28)).alloc (A #[O y.none,U xq y.vq.length xm,U xr y.fq.length xo] 28))) ai):=h
def Ff(h:p:=by exact XAt.new ((w.alloc (A #[I Y V,I Y F,U s c.length cap] 24)).alloc (A #[O x.none,U xh x.vq.length xf,U xk x.fq.length xi] 28)) y xq xm xr xo):=h
def iN(h:p:=by exact hx.below B0 (lR _)):=h
def pK(h:p:=by exact hy.below B0 (lR _)):=h
def DW(h:p:=by exact ag (lB V F s c cap (G ⟨R (M (((w.alloc (A #[I Y V,I Y F,U s c.length cap] 24)).alloc (A #[O x.none,U xh x.vq.length xf,U xk x.fq.length xi] 28)).alloc (A #[O y.none,U xq y.vq.length xm,U xr y.fq.length xo] 28))),0,E⟩) [x,y] 2 ((((w.alloc (A #[I Y V,I Y F,U s c.length cap] 24)).alloc (A #[O x.none,U xh x.vq.length xf,U xk x.fq.length xi] 28)).alloc (A #[O y.none,U xq y.vq.length xm,U xr y.fq.length xo] 28)).alloc (A #[O x.none,U xh x.vq.length xf,U xk x.fq.length xi,O y.none,U xq y.vq.length xm,U xr y.fq.length xo] 28)) (C0.call ai) (a8k.new2 (((w.alloc (A #[I Y V,I Y F,U s c.length cap] 24)).alloc (A #[O x.none,U xh x.vq.length xf,U xk x.fq.length xi] 28)).alloc (A #[O y.none,U xq y.vq.length xm,U xr y.fq.length xo] 28)) x xh xf xk xi y xq xm xr xo PX h1 h2 PY h3 h4) ae)):=h
def Dq(h:p:=by show Below (R (M (((w.alloc (A #[I Y V,I Y F,U s c.length cap] 24)).alloc (A #[O x.none,U xh x.vq.length xf,U xk x.fq.length xi] 28)).alloc (A #[O y.none,U xq y.vq.length xm,U xr y.fq.length xo] 28)))) (((w.alloc (A #[I Y V,I Y F,U s c.length cap] 24)).alloc (A #[O x.none,U xh x.vq.length xf,U xk x.fq.length xi] 28)).alloc (A #[O y.none,U xq y.vq.length xm,U xr y.fq.length xo] 28)) ((((w.alloc (A #[I Y V,I Y F,U s c.length cap] 24)).alloc (A #[O x.none,U xh x.vq.length xf,U xk x.fq.length xi] 28)).alloc (A #[O y.none,U xq y.vq.length xm,U xr y.fq.length xo] 28)).alloc (A #[O x.none,U xh x.vq.length xf,U xk x.fq.length xi,O y.none,U xq y.vq.length xm,U xr y.fq.length xo] 28));exact ai):=h
def Ea(h:p:=by show R (M (((w.alloc (A #[I Y V,I Y F,U s c.length cap] 24)).alloc (A #[O x.none,U xh x.vq.length xf,U xk x.fq.length xi] 28)).alloc (A #[O y.none,U xq y.vq.length xm,U xr y.fq.length xo] 28)))=R (M w)+1+1+1;exact ae):=h
def Nr(h:p:=by show Below (R (M (((w.alloc (A #[I Y V,I Y F,U s c.length cap] 24)).alloc (A #[O x.none,U xh x.vq.length xf,U xk x.fq.length xi] 28)).alloc (A #[O y.none,U xq y.vq.length xm,U xr y.fq.length xo] 28)))) (((w.alloc (A #[I Y V,I Y F,U s c.length cap] 24)).alloc (A #[O x.none,U xh x.vq.length xf,U xk x.fq.length xi] 28)).alloc (A #[O y.none,U xq y.vq.length xm,U xr y.fq.length xo] 28)) w1;exact HB.out.trans (vZ.mono IN)):=h
def km(h:p:=by exact B0.trans (xQ.mono B0.size)):=h
def nr(h:p:=by show bl w4 w4.drew;exact (bR _ _).drew):=h
def vi(h:p:=by show bl w4 w5;exact HD.trans (xw.mono HD.size)):=h
def vJ(h:p:=by show (k:Int) < (a.length:Int);exact aa):=h
def R8(h:p:=by show bl w1 w9;exact ((xA.trans (xF.mono xA.size)).alloc z17 _).grown xJ au (λk hk=>(aU S8.1 hk).2)):=h
def wf(h:p:=by exact show¬(k:Int) < (a.length:Int) from by omega):=h
def ui(h:p:=by show Below (R (M w)) w ((((w.alloc (A #[I Y V,I Y F,U s (X c) cap] 24)).alloc (A #[O x.none,U xh (X x.vq) xf,U xk (X x.fq) xi] 28)).alloc (A #[O y.none,U xq (X y.vq) xm,U xr (X y.fq) xo] 28)).alloc (A #[O false,U E 0 0,U E 0 0] 28));exact ai):=h
def So(h:p:=by exact (a7w.new w V F s c cap).call (w':=((((w.alloc (A #[I Y V,I Y F,U s (X c) cap] 24)).alloc (A #[O x.none,U xh (X x.vq) xf,U xk (X x.fq) xi] 28)).alloc (A #[O y.none,U xq (X y.vq) xm,U xr (X y.fq) xo] 28)).alloc (A #[O false,U E 0 0,U E 0 0] 28))) ai):=h
def Sy(h:p:=by exact (XAt.new (w.alloc (A #[I Y V,I Y F,U s (X c) cap] 24)) x xh xf xk xi).call (w':=((((w.alloc (A #[I Y V,I Y F,U s (X c) cap] 24)).alloc (A #[O x.none,U xh (X x.vq) xf,U xk (X x.fq) xi] 28)).alloc (A #[O y.none,U xq (X y.vq) xm,U xr (X y.fq) xo] 28)).alloc (A #[O false,U E 0 0,U E 0 0] 28))) ai):=h
def Rp(h:p:=by exact (XAt.new ((w.alloc (A #[I Y V,I Y F,U s (X c) cap] 24)).alloc (A #[O x.none,U xh (X x.vq) xf,U xk (X x.fq) xi] 28)) y xq xm xr xo).call (w':=((((w.alloc (A #[I Y V,I Y F,U s (X c) cap] 24)).alloc (A #[O x.none,U xh (X x.vq) xf,U xk (X x.fq) xi] 28)).alloc (A #[O y.none,U xq (X y.vq) xm,U xr (X y.fq) xo] 28)).alloc (A #[O false,U E 0 0,U E 0 0] 28))) ai):=h
def tA(h:p:=by exact X3.new (((w.alloc (A #[I Y V,I Y F,U s (X c) cap] 24)).alloc (A #[O x.none,U xh (X x.vq) xf,U xk (X x.fq) xi] 28)).alloc (A #[O y.none,U xq (X y.vq) xm,U xr (X y.fq) xo] 28)) 28 (O false) (U E 0 0) (U E 0 0)):=h
def Pb(h:p:=by exact ag (lB V F s c cap (G ⟨R (M ((((w.alloc (A #[I Y V,I Y F,U s (X c) cap] 24)).alloc (A #[O x.none,U xh (X x.vq) xf,U xk (X x.fq) xi] 28)).alloc (A #[O y.none,U xq (X y.vq) xm,U xr (X y.fq) xo] 28)).alloc (A #[O false,U E 0 0,U E 0 0] 28))),0,E⟩) [x,y] 2 (((((w.alloc (A #[I Y V,I Y F,U s (X c) cap] 24)).alloc (A #[O x.none,U xh (X x.vq) xf,U xk (X x.fq) xi] 28)).alloc (A #[O y.none,U xq (X y.vq) xm,U xr (X y.fq) xo] 28)).alloc (A #[O false,U E 0 0,U E 0 0] 28)).alloc (A #[O x.none,U xh (X x.vq) xf,U xk (X x.fq) xi,O y.none,U xq (X y.vq) xm,U xr (X y.fq) xo] 28)) (C0.call ai) (a8k.new2 ((((w.alloc (A #[I Y V,I Y F,U s (X c) cap] 24)).alloc (A #[O x.none,U xh (X x.vq) xf,U xk (X x.fq) xi] 28)).alloc (A #[O y.none,U xq (X y.vq) xm,U xr (X y.fq) xo] 28)).alloc (A #[O false,U E 0 0,U E 0 0] 28)) x xh xf xk xi y xq xm xr xo PX h1 h2 PY h3 h4) ae)):=h
def Sz(h:p:=by show Below (R (M ((((w.alloc (A #[I Y V,I Y F,U s (X c) cap] 24)).alloc (A #[O x.none,U xh (X x.vq) xf,U xk (X x.fq) xi] 28)).alloc (A #[O y.none,U xq (X y.vq) xm,U xr (X y.fq) xo] 28)).alloc (A #[O false,U E 0 0,U E 0 0] 28)))) ((((w.alloc (A #[I Y V,I Y F,U s (X c) cap] 24)).alloc (A #[O x.none,U xh (X x.vq) xf,U xk (X x.fq) xi] 28)).alloc (A #[O y.none,U xq (X y.vq) xm,U xr (X y.fq) xo] 28)).alloc (A #[O false,U E 0 0,U E 0 0] 28)) (((((w.alloc (A #[I Y V,I Y F,U s (X c) cap] 24)).alloc (A #[O x.none,U xh (X x.vq) xf,U xk (X x.fq) xi] 28)).alloc (A #[O y.none,U xq (X y.vq) xm,U xr (X y.fq) xo] 28)).alloc (A #[O false,U E 0 0,U E 0 0] 28)).alloc (A #[O x.none,U xh (X x.vq) xf,U xk (X x.fq) xi,O y.none,U xq (X y.vq) xm,U xr (X y.fq) xo] 28));exact ai):=h
def tW(h:p:=by show R (M ((((w.alloc (A #[I Y V,I Y F,U s (X c) cap] 24)).alloc (A #[O x.none,U xh (X x.vq) xf,U xk (X x.fq) xi] 28)).alloc (A #[O y.none,U xq (X y.vq) xm,U xr (X y.fq) xo] 28)).alloc (A #[O false,U E 0 0,U E 0 0] 28)))=R (M w)+1+1+1+1;exact ae):=h
def Sx(h:p:=by show Below (R (M ((((w.alloc (A #[I Y V,I Y F,U s (X c) cap] 24)).alloc (A #[O x.none,U xh (X x.vq) xf,U xk (X x.fq) xi] 28)).alloc (A #[O y.none,U xq (X y.vq) xm,U xr (X y.fq) xo] 28)).alloc (A #[O false,U E 0 0,U E 0 0] 28)))) ((((w.alloc (A #[I Y V,I Y F,U s (X c) cap] 24)).alloc (A #[O x.none,U xh (X x.vq) xf,U xk (X x.fq) xi] 28)).alloc (A #[O y.none,U xq (X y.vq) xm,U xr (X y.fq) xo] 28)).alloc (A #[O false,U E 0 0,U E 0 0] 28)) w1;exact HB.out.trans (vZ.mono IN)):=h
def vp(h:p:=by show bl w2 w2.drew;exact (bR _ _).drew):=h
def ir(h:p:=by exact B2.trans (xp.mono B2.size)):=h
def NZ(h:p:=by show Hid (∀(x:Value) b,b≠zb->(w7.setCell ⟨zb,2,E⟩ x).heap[b]? =w7.heap[b]?);exact λx b hb=>hSe _ _ _ _ hb):=h
def NW(h:p:=by show Hid (∀(x:Value),R (M w7)<=R (M (w7.setCell ⟨zb,2,E⟩ x)));exact λx=>bI):=h
def pI(h:p:=by show bl w w.drew;exact (bR _ _).drew):=h
def lN(h:p:=by exact B1.trans (xj.mono (B1.size))):=h
def Nx(h:p:=by show Below (R (M w2)) w2 (w2.alloc (A #[O false,U E 0 0,U E 0 0] 28));exact ai):=h
def kF(h:p:=by exact B2.trans (xp.mono (B2.size))):=h
def Rs(h:p:=by show Below (R (M w1)) w1 (w1.alloc (A #[O false,U E 0 0,U E 0 0] 28));exact ai):=h
def yj(h:p:=by show bl wx wx.drew;exact (bR _ _).drew):=h
def uD(h:p:=by show xb≠vb;exact λe=>OF.1 (by rw[jC,e])):=h
def vg(h:p:=by show (k:Int) < (v.l.length:Int);exact aa):=h
def RI(h:p:=by show Below (R (M w)) wx wx.drew;exact zy.mono (lT xO.size (lR _))):=h
def NT(h:p:=by show Hid (wx.drew.cell? ⟨xb,1,E⟩=sO (U (sO ⟨vb,0,E⟩) (X v.l) v.rc)/\wx.drew.cell? ⟨pb,0,E⟩=sO (Pp (sO ⟨sb,0,E⟩))/\wx.drew.cell? ⟨sb,2,E⟩=sO (I Y (k:Int)));exact⟨A1,P1,S1⟩):=h
def ON(h:p:=by exact show¬(λq=>ClT n sb eb xb q/\Off v (Value.slice gs (X L) jD).ownBlock L q) vb from λq=>q.2.1 jC):=h
def tM(h:p:=by show Below (R (M w)) w (w.alloc (A #[Pp (G ⟨sb,0,E⟩)] 150));exact ai):=h
def tO(h:p:=by show sT (w.alloc (A #[Pp (G ⟨sb,0,E⟩)] 150)) (R (M w)) [Pp (G ⟨sb,0,E⟩)];exact sT.new w 150 [Pp (G ⟨sb,0,E⟩)]):=h
def Ox(h:p:=by show Hid (∀wx,bl w wx->Calls f 95 #[Pp (G ⟨sb,0,E⟩)] wx λe w'=>e=Rt (Tu #[O (cM (gAt x i.a)),O (dp (gAt x i.a))])/\bl wx w');exact λwx hb=>FB sb i V F s c cap at_ x vs vc fs fc _ wr fl wx (hS.call hb) (zZ.below (zv.trans (hb.mono zv.size)) (lR _)) (zL.below (zv.trans (hb.mono zv.size)) (lR _)) K hA):=h
def Pa(h:p:=by show Hid (sT w sb (bk i V F s c cap at_ x vs vc fs fc (U es (X EL) ec) wr fl)/\a7t sb sb w (U es (X EL) ec) EL);exact⟨hS,hER⟩):=h
def ns(h:p:=by show at_<=1000;exact a4n):=h
def NC(h:p:=by show Hid (dj sb w3 (λzx=>bk i V F s c cap at_ x vs vc fs fc zx wr fl) EL [⟨at_+1,xx⟩]);exact⟨zx,[q],C3,E3,by simp[jV]⟩):=h
def vK(h:p:=by show bl w3 w3.drew;exact (bR _ _).drew):=h
def M8(h:p:=by exact show∀l:List Ro,(∀r∈l,roB r≠G q)↔∀o∈l.map roB,o≠G q from λl=>ae):=h
def kk(h:p:=by show (0:Int)<=(m:Int);exact aa):=h
def mM(h:p:=by show (0:Int)<=(j:Int);exact by omega):=h
def NI(h:p:=by show (gAt x i.a).s.length<=60;exact dJ (ckGs_iff.1 oj).2.2 (dY qA oj).1):=h
def Fd(h:p:=by show (kb:Int) < (x.vq.length:Int);exact aa):=h
def yu(h:p:=by show (0:Int)<=(p:Int);exact aa):=h
def M9(h:p:=by exact sT.new (w.alloc (A #[O false,O false,I Y 0,I Y 0,O false,O false,U E 0 0] 91)) 89 [O true,I Y 0,I Y 0]):=h
def mJ(h:p:=by show Below (R (M w)) w ((w.alloc (A #[O false,O false,I Y 0,I Y 0,O false,O false,U E 0 0] 91)).alloc (A #[O true,I Y 0,I Y 0] 89));exact ai):=h
def mV(h:p:=by show sT ((w.alloc (A #[O false,O false,I Y 0,I Y 0,O false,O false,U E 0 0] 91)).alloc (A #[O true,I Y 0,I Y 0] 89)) (R (M w)) [O false,O false,I Y 0,I Y 0,O false,O false,U E 0 0];exact (sT.new w 91 [O false,O false,I Y 0,I Y 0,O false,O false,U E 0 0]).call ai):=h
def fi(h:p:=by exact hS.1 0 _ rfl):=h
def mO(h:p:=by show R (M w)≠sb;exact a4w):=h
def uF(h:p:=by exact a7v.of (vZ.trans (zy.mono vZ.size)) xE.out):=h
def pR(h:p:=by exact C2.same (xV sb (Ne.symm qY.out)) xT):=h
def NR(h:p:=by exact a8n.new2 ((w.alloc (A #[O g.n,O g.sp.n,I Y g.sp.lo,I Y g.sp.hi,O g.t,O g.f,U ss (X g.s) gc] 91)).alloc (A #[O h.n,O h.sp.n,I Y h.sp.lo,I Y h.sp.hi,O h.t,O h.f,U st (X h.s) hc] 91)) g ss gc h st hc):=h
def Rg(h:p:=by exact ag (λlc wx hL=>sA (G ⟨w.heap.size+1+1,0,E⟩) [g,h] lc wx ae hL)):=h
def ug(h:p:=by exact B3.trans (xD.mono B3.size)):=h
def nw(h:p:=by exact ag (fA V F s c cap (G ⟨R (M w)+1+1+1+1,0,E⟩) [g,h] 2 _ (C0.alloc _) L0 ae)):=h
def OG(h:p:=by show k=4\/k=5\/k=6\/k=7\/k=8\/k=9\/k=10;exact aa):=h
def RZ(h:p:=by exact (zv.trans (vZ.mono zv.size)).trans (hb.mono (zv.trans (vZ.mono zv.size)).size)):=h
def lE(h:p:=by show (0:Int)<=(ka:Int);exact aa):=h
def Du(h:p:=by show (ka:Int) < (X x.vq:Int);exact aa):=h
def uZ(h:p:=by exact B3.trans (xD.mono (B3.size))):=h
def Po(h:p:=by exact ag (And.intro zZ (And.intro zL (And.intro xS (And.intro zv (And.intro K hA)))))):=h
def ut(h:p:=by show sT ((w.alloc (A #[I Y V,I Y F,U s c.length cap] 24)).alloc (A #[O x.none,U vs x.vq.length vc,U fs x.fq.length fc] 28)) (R (M w)) [I Y V,I Y F,U s c.length cap];exact (sT.new w 24 [I Y V,I Y F,U s c.length cap]).call ai):=h
def ue(h:p:=by exact ag (uW V F s c cap x vs vc fs fc ((w.alloc (A #[I Y V,I Y F,U s c.length cap] 24)).alloc (A #[O x.none,U vs x.vq.length vc,U fs x.fq.length fc] 28)) (hc.below xO (lR _)) (hx.below xO (lR _)) h1 h2)):=h
def dn(h:p:=by show m < c.length;exact aa):=h
def vu(h:p:=by show (m:Int) < (c.length:Int);exact aa):=h
def iu(h:p:=by show (0:Int)<=(x:Int);exact aa):=h
def iv(h:p:=by show (x:Int) < (X s.vq:Int);exact aa):=h
def Fo(h:p:=by show (y:Int) < (X s.vq:Int);exact aa):=h
def Rx(h:p:=by show Below (R (M w)+1) (w.alloc (Cc #[I Y k,I Y t,I Y x,I Y y,I Y n,I Y g] 100)) (wq.alloc (Cc #[I Y 0,I Y 0] 82));exact jw.alloc Bd _):=h
def rj(h:p:=by exact VAt.new wq ⟨0,0⟩):=h
def NV(h:p:=by show R (M (wq.alloc (Cc #[I Y 0,I Y 0] 82)))=R (M w)+1+1;exact by simp[xS]):=h
def Rc(h:p:=by show Below (R (M w)+1) (w.alloc (Cc #[I Y k,I Y t,I Y x,I Y y,I Y n,I Y g] 100)) (wa.alloc (Cc #[I Y 0,I Y 0] 82));exact zX.alloc KP _):=h
def tY(h:p:=by exact show∀wx,bl wc wx->wx.cell? ⟨m,1,E⟩=G (U (G ⟨gb,0,E⟩) (X s.vq) cap)/\wx.cell? ⟨R (M w),1,E⟩=G (I Y t)/\wx.cell? ⟨ba,1,E⟩=G (I Y s.vq[x].n)/\wx.cell? ⟨bb,1,E⟩=G (I Y s.vq[y].n) from λwx hx=>⟨Ku,a4T,a3G,a4E⟩):=h
def uN(h:p:=by show bl wc w1;exact Below.trans (bR _ _).drew vZ):=h
def tS(h:p:=by show Below (R (M w)) w w1;exact Below.trans ai (((jW.trans (zX.mono aa))).mono (Nat.le_succ _))):=h
def vC(h:p:=by show w1.cell? ⟨gb,t * 2,E⟩=G (I Y s.vq[t].k);exact Vp):=h
def uu(h:p:=by show w1.cell? ⟨gb,t * 2+1,E⟩=G (I Y s.vq[t].n);exact U0):=h
def ud(h:p:=by show w1.frozen? ⟨gb,t * 2,E⟩=false;exact Vz):=h
def uA(h:p:=by show w1.frozen? ⟨gb,t * 2+1,E⟩=false;exact Vk):=h
def N9(h:p:=by exact aL (And.intro (h.below (Below.trans ai (jW.mono (Nat.le_succ _)):Below (R (M w)) w wc)) (Below.trans ai (jW.mono (Nat.le_succ _)):Below (R (M w)) w wc))):=h
def Fb(h:p:=by show R (M w)+1<=R (M wd);exact a4L):=h
def Fi(h:p:=by show Below (R (M w)) w wd;exact Below.trans ai (jt.mono (Nat.le_succ _))):=h
def RQ(h:p:=by exact show∀wx,bl wd wx->wx.cell? ⟨m,2,E⟩=G (U (G ⟨gt,0,E⟩) (X s.things) tc)/\wx.cell? ⟨R (M w)+1,1,E⟩=G (I Y q)/\wx.cell? ⟨gt,q * 2+1,E⟩=G (U (G ⟨gf,0,E⟩) (X s.things[q].fs) fc)/\wx.cell? ⟨R (M w),4,E⟩=G (I Y f) from λwx hx=>⟨a4R,by rw[hx.cell (by simpa using VA.2.1)];exact va1,a3D,by rw[hx.cell (by simp;omega)];exact c4⟩):=h
def DA(h:p:=by show (w1).cell? ⟨gb,t * 2,E⟩=G (I Y s.vq[t].k);exact Bj):=h
def CV(h:p:=by show (w1).cell? ⟨gb,t * 2+1,E⟩=G (I Y s.vq[t].n);exact Bh):=h
def Do(h:p:=by show (w1).frozen? ⟨gb,t * 2,E⟩=false;exact BG):=h
def Fp(h:p:=by show (w1).frozen? ⟨gb,t * 2+1,E⟩=false;exact Bn):=h
def nd(h:p:=by show Below (R (M w)) w wl;exact Below.trans ai (qK.mono (Nat.le_succ _))):=h
def OI(h:p:=by show Below (R (M w)) w (w.alloc (A #[I Y 16,I Y t,I Y a,I Y b,I Y n,I Y g] 100));exact ai):=h
def uX(h:p:=by show Below (R (M w)) w (w.alloc (A #[I Y (q:Int),O z.none,U zs z.vq.length zc,U gs z.fq.length gc] 45));exact ai):=h
def vE(h:p:=by show sT (w.alloc (A #[I Y (q:Int),O z.none,U zs z.vq.length zc,U gs z.fq.length gc] 45)) (R (M w)) [I Y (q:Int),O z.none,U zs z.vq.length zc,U gs z.fq.length gc];exact sT.new w _ [_,_,_,_]):=h
def pY(h:p:=by show pb < R (M w);exact hP.choose_spec.1.2.1):=h
def DV(h:p:=by show R (M (w.alloc (A #[I Y (q:Int),O z.none,U zs z.vq.length zc,U gs z.fq.length gc] 45)))=R (M w)+1;exact zA _ _):=h
def RN(h:p:=by show Hid (Calls f 165 #[Pp (G ⟨sb,0,E⟩),.agg #[I Y (q:Int),O z.none,U zs z.vq.length zc,U gs z.fq.length gc],.func (.func 32) #[] #[]] (w.alloc (A #[I Y (q:Int),O z.none,U zs z.vq.length zc,U gs z.fq.length gc] 45)) λe w'=>(∃v,e=Rt v)/\a8f S w' pb (L.set q r)/\(∀b,b≠pb->b < R (M (w.alloc (A #[I Y (q:Int),O z.none,U zs z.vq.length zc,U gs z.fq.length gc] 45)))->w'.heap[b]? =(w.alloc (A #[I Y (q:Int),O z.none,U zs z.vq.length zc,U gs z.fq.length gc] 45)).heap[b]?)/\R (M (w.alloc (A #[I Y (q:Int),O z.none,U zs z.vq.length zc,U gs z.fq.length gc] 45)))<=R (M w')/\∀{B:Nat} {a:World},B<=pb->B<=R (M (w.alloc (A #[I Y (q:Int),O z.none,U zs z.vq.length zc,U gs z.fq.length gc] 45)))->Below B a (w.alloc (A #[I Y (q:Int),O z.none,U zs z.vq.length zc,U gs z.fq.length gc] 45))->Below B a w');exact Ni V F s c cap sb pb pc q _ L z zs zc gs gc 32 r _ (enters_of func32 ac rfl) qN PR1 (λb hb=>(hS b hb).1) (λb hb=>hS2 b aa) hq (λwx vx qZ fx jf hb k1 k2 k3=>Qt wx vx qZ fx jf (B1.trans (hb.mono B1.size)) k1 k2 k3)):=h
def Sg(h:p:=by show Hid (∀wx,bl w2 wx->wx.cell? ⟨sb,4,E⟩=G (U (G ⟨db,0,E⟩) D.length dc)/\wx.cell? ⟨R (M w),0,E⟩=G (I Y (q:Int))/\wx.cell? ⟨db,q,E⟩=G (I Y D[q]));exact λwx hb=>⟨(ST3.call hb).1 4 _ rfl,(X3.call hb).1 0 _ rfl,(DR3.call hb).get hqD⟩):=h
def vM(h:p:=by exact show¬(k:Int) < (c.length:Int) from by omega):=h
def wO(h:p:=by show Below w1.heap.size w1 (w1.alloc (A #[O bg.none,U bs bg.vq.length bc,U bf bg.fq.length be] 28));exact ai):=h
def ul(h:p:=by exact B1.trans (zG.mono B1.size)):=h
def RB(h:p:=by show sT (w1.alloc (A #[O bg.none,U bs bg.vq.length bc,U bf bg.fq.length be] 28)) w1.heap.size [O bg.none,U bs bg.vq.length bc,U bf bg.fq.length be];exact sT.new w1 _ [_,_,_]):=h
def tG(h:p:=by exact xW.trans (xw.mono xW.size)):=h
def Es(h:p:=by show (W.putObj (R (M w6)+1) r').heap[R (M w6)]? =G (.deferred (G []));exact (World.putObj_heap_other aa).trans hl.dfr):=h
def ND(h:p:=by show Below (R (M W)) W (W.alloc (A #[I Y e.tgt,O e.pic.none,U vs e.pic.vq.length vc,U fs e.pic.fq.length fc] 45));exact ai):=h
def Rv(h:p:=by show sT (W.alloc (A #[I Y e.tgt,O e.pic.none,U vs e.pic.vq.length vc,U fs e.pic.fq.length fc] 45)) (R (M W)) [I Y e.tgt,O e.pic.none,U vs e.pic.vq.length vc,U fs e.pic.fq.length fc];exact sT.new W _ [_,_,_,_]):=h
def Dp(h:p:=by show R (M (W.alloc O))=R (M W)+1;exact zA _ _):=h
def NH(h:p:=by show bl w W4;exact (n5.alloc aa O).grown xJ aa (λk hk=>by cases hk;omega)):=h
def Nz(h:p:=by exact HN.out.pr.kept (World.grownBy_alloc wr (A #[O true,U nO 0 0,U nO 0 0] 28) nO) (.inr kL)):=h
def ET(h:p:=by show ((X a:Int)!=(X b:Int))=true;exact by simpa using λh=>hl aa):=h
def Of(h:p:=by show sT (((w8.setCell ⟨yb,0,nO⟩ (O Y.none)).setCell ⟨yb,1,nO⟩ (U js Y.vq.length jc)).setCell ⟨yb,2,nO⟩ (U ks Y.fq.length kc)) yb [O Y.none,U js Y.vq.length jc,U ks Y.fq.length kc];exact ((A8.put 0 ae _).put 1 ae _).put 2 ae _):=h
def Pi(h:p:=by show bl wr (((w8.setCell ⟨yb,0,nO⟩ (O Y.none)).setCell ⟨yb,1,nO⟩ (U js Y.vq.length jc)).setCell ⟨yb,2,nO⟩ (U ks Y.fq.length kc));exact ((B8.setCell zyb _).setCell zyb _).setCell zyb _):=h
def OV(h:p:=by exact show∀q,q≠yb->(((w8.setCell ⟨yb,0,nO⟩ (O Y.none)).setCell ⟨yb,1,nO⟩ (U js Y.vq.length jc)).setCell ⟨yb,2,nO⟩ (U ks Y.fq.length kc)).heap[q]? =w8.heap[q]? from λq hq=>Kp):=h
def Sn(h:p:=by show w8.heap.size<=(((w8.setCell ⟨yb,0,nO⟩ (O Y.none)).setCell ⟨yb,1,nO⟩ (U js Y.vq.length jc)).setCell ⟨yb,2,nO⟩ (U ks Y.fq.length kc)).heap.size;exact bI):=h
def OD(h:p:=by show a7d (λb=>b≠g) (((w8.setCell ⟨yb,0,nO⟩ (O Y.none)).setCell ⟨yb,1,nO⟩ (U js Y.vq.length jc)).setCell ⟨yb,2,nO⟩ (U ks Y.fq.length kc)) Y js ks;exact (J8.same (λb hb _=>xV b hb.2) xT).mono λb hb _=>hb.1.1):=h
def uJ(h:p:=by show xv x vs vc fs fc=.agg #[O false,U vs (X x.vq) vc,U fs (X x.fq) fc];exact Vc):=h
def EU(h:p:=by show Below (R (M w)) w ((w.alloc (A #[I Y V,I Y F,U s (X c) cap] 24)).alloc (A #[O false,U vs (X x.vq) vc,U fs (X x.fq) fc] 28));exact ai):=h
def EK(h:p:=by show sT ((w.alloc (A #[I Y V,I Y F,U s (X c) cap] 24)).alloc (A #[O false,U vs (X x.vq) vc,U fs (X x.fq) fc] 28)) (R (M w)) [I Y V,I Y F,U s (X c) cap];exact (sT.new w 24 [I Y V,I Y F,U s (X c) cap]).call ai):=h
def Ej(h:p:=by show Hid (R (M ((w.alloc (A #[I Y V,I Y F,U s (X c) cap] 24)).alloc (A #[O false,U vs (X x.vq) vc,U fs (X x.fq) fc] 28)))=R (M w)+1+1);exact iZ):=h
def Nb(h:p:=by show Hid (∀wx,Calls f 108 #[I Y i.k] wx λe w'=>e=Rt (O false)/\w'=wx);exact λwx=>Vh):=h
def dF(h:p:=by show (m:Int)<=60;exact aa):=h
def E6(h:p:=by show Below (R (M w1)) w1 (w1.alloc (A #[I Y i.k,I Y i.tgt,I Y i.a,I Y i.b,I Y i.n,I Y i.g] 100));exact ai):=h
def DJ(h:p:=by show sT (w1.alloc (A #[I Y i.k,I Y i.tgt,I Y i.a,I Y i.b,I Y i.n,I Y i.g] 100)) (R (M w1)) [I Y i.k,I Y i.tgt,I Y i.a,I Y i.b,I Y i.n,I Y i.g];exact sT.new w1 100 [I Y i.k,I Y i.tgt,I Y i.a,I Y i.b,I Y i.n,I Y i.g]):=h
def Dr(h:p:=by show Hid (R (M (w1.alloc (A #[I Y i.k,I Y i.tgt,I Y i.a,I Y i.b,I Y i.n,I Y i.g] 100)))=R (M w)+1+1+1);exact a4Q):=h
def lK(h:p:=by exact vZ.trans (xj.mono vZ.size)):=h
def Df(h:p:=by show Below (R (M w3)) w3 (w3.alloc (A #[O false,U v.rs (X v.l) v.rc,U gs (X L) gc] 28));exact ai):=h
def Dv(h:p:=by show sT (w3.alloc (A #[O false,U v.rs (X v.l) v.rc,U gs (X L) gc] 28)) (R (M w3)) [O false,U v.rs (X v.l) v.rc,U gs (X L) gc];exact sT.new w3 28 [O false,U v.rs (X v.l) v.rc,U gs (X L) gc]):=h
def Ei(h:p:=by show Hid (R (M (w3.alloc (A #[O false,U v.rs (X v.l) v.rc,U gs (X L) gc] 28)))=R (M w3)+1);exact iZ):=h
def DH(h:p:=by show Below (R (M w4)) w4 (w4.alloc (A #[I Y ((m:Int)+1),O false,U v.rs (X v.l) v.rc,U gs (X L) gc] 45));exact ai):=h
def Ex(h:p:=by show sT (w4.alloc (A #[I Y ((m:Int)+1),O false,U v.rs (X v.l) v.rc,U gs (X L) gc] 45)) (R (M w4)) [I Y ((m:Int)+1),O false,U v.rs (X v.l) v.rc,U gs (X L) gc];exact sT.new w4 45 [I Y ((m:Int)+1),O false,U v.rs (X v.l) v.rc,U gs (X L) gc]):=h
def Ev(h:p:=by show Below (R (M w7)) w7 ((w7.alloc (A #[O false,O true,I Y 0,I Y 0,O false,O false,U E 0 0] 91)).alloc (A #[O false,O true,I Y 0,I Y 0,O false,O false,U E 0 0] 91));exact ai):=h
def Da(h:p:=by show sT ((w7.alloc (A #[O false,O true,I Y 0,I Y 0,O false,O false,U E 0 0] 91)).alloc (A #[O false,O true,I Y 0,I Y 0,O false,O false,U E 0 0] 91)) (R (M w7)) [O false,O true,I Y 0,I Y 0,O false,O false,U E 0 0];exact (sT.new w7 91 [O false,O true,I Y 0,I Y 0,O false,O false,U E 0 0]).call ai):=h
def DD(h:p:=by show bl w4 w8;exact xw.trans (((zI.trans (ql.mono zI.size)).trans (zJ.mono (zI.trans (ql.mono zI.size)).size)).mono xw.size)):=h
def CY(h:p:=by show bl w2 w8;exact (xp.trans (xD.mono xp.size)).trans (qO.mono (xp.trans (xD.mono xp.size)).size)):=h
def Dj(h:p:=by show bl w3 w8;exact xD.trans (qO.mono xD.size)):=h
def DE(h:p:=by exact O5.call ((zI.trans (ql.mono zI.size)).trans (zJ.mono (zI.trans (ql.mono zI.size)).size))):=h
def Dd(h:p:=by show Below (R (M xl)) xl (xl.alloc (A #[O false,O true,I Y 0,I Y 0,O false,O false,U E 0 0] 91));exact ai):=h
def DI(h:p:=by show sT (xl.alloc (A #[O false,O true,I Y 0,I Y 0,O false,O false,U E 0 0] 91)) (R (M xl)) [O false,O true,I Y 0,I Y 0,O false,O false,U E 0 0];exact sT.new xl 91 [O false,O true,I Y 0,I Y 0,O false,O false,U E 0 0]):=h
def De(h:p:=by show bl xM (xl.alloc (A #[O false,O true,I Y 0,I Y 0,O false,O false,U E 0 0] 91));exact qP.trans (Qu.mono qP.size)):=h
def NL(h:p:=by show Hid (∀wx,Calls f 107 #[I Y i.k] wx λe w'=>e=Rt (O true)/\w'=wx);exact λwx=>UZ):=h
def fI(h:p:=by exact ag xR):=h
def fa(h:p:=by show (0:Int)<=(m:Int);exact K.a0):=h
def eX(h:p:=by show (m:Int) < (c.length:Int);exact K.a1):=h
def eU(h:p:=by exact ag zE):=h
def eH(h:p:=by exact IP.1 0 _ rfl):=h
def wQ(h:p:=by show Hid (∀wz,Calls pG 116 #[.agg #[O gg.n,O gg.sp.n,I Y gg.sp.lo,I Y gg.sp.hi,O gg.t,O gg.f,U ss gg.s.length cp]] wz λe w'=>e=Rt (O false)/\bl wz w');exact λwz=>Vg):=h
def nj(h:p:=by exact BX.trans (xU.mono BX.size)):=h
def pT(h:p:=by exact jh.trans (xU.mono jh.size)):=h
def mZ(h:p:=by exact ag (a7c.call qQ.out xU)):=h
def Eb(h:p:=by exact zH.same (w':=wy) (λb _ xy=>qB.block b xy) qB.size):=h
def vX(h:p:=by exact a4B (T:=T) (y:=⟨gg,ss,cp⟩) zH aa aa qx.out HCP.out.1 HCP.out.2):=h
def uQ(h:p:=by exact (GP.mono (T':=λb=>T b\/R (M w)<=b) λb hb _=>.inr hb)):=h
def uP(h:p:=by exact GP.vq.gu zM (k:=kt) jE):=h
def uy(h:p:=by show (0:Int)<=(kt:Int);exact aa):=h
def yB(h:p:=by show (kt:Int) < (v.l.length:Int);exact aa):=h
def El(h:p:=by show sT (cR wy vb kt ⟨gg,ss,cp⟩) (R (M w4)) [I Y ((m:Int)+1),O false,U v.rs (X v.l) v.rc,U gs (X L) gc];exact OY.same (fw aa) mc):=h
def uv(h:p:=by show bl w (cR wy vb kt ⟨gg,ss,cp⟩);exact fZ BY aa):=h
def tV(h:p:=by exact ag (And.intro HF.out BS)):=h
def uE(h:p:=by show Hid (aD i (m:Int) x=if aq gg then([],false,false) else([⟨(m:Int)+1,bq x i.tgt gg⟩],false,false));exact Up):=h
def rk(h:p:=by exact ag (And.intro qh (And.intro qR qy))):=h
def kg(h:p:=by exact ag (λw=>nV g ss gc w)):=h
def ko(h:p:=by exact ag (λw=>nV h st hc w)):=h
def PI(h:p:=by show (g.f=true/\h.f=true)\/g.f=false\/(g.f=true/\h.f=false);exact by cases g.f<;>cases h.f<;>simp):=h
def tw(h:p:=by show Hid (∀w,Calls f 169 #[sv g.sp,sv h.sp] w λe w'=>e=Rt (.agg #[O (aS g.sp h.sp).n,I Y (aS g.sp h.sp).lo,I Y (aS g.sp h.sp).hi])/\bl w w');exact λw=>Nh g.sp h.sp w):=h
def wu(h:p:=by exact ag (λw=>Iz g ss gc w)):=h
def ua(h:p:=by exact ag (λw=>Iz h st hc w)):=h
def vt(h:p:=by show Hid (al=(decide (cx g < 0)||(decide (cx g≠cx h)||@decide _ (@instDecidableNot _ (g.sp.dq h.sp)))));exact a3J):=h
def yc(h:p:=by exact show∀wx:World,(Instr.field 89 (.agg #[O ms.n,I Y ms.lo,I Y ms.hi]) 0).run f wx=.ok (O ms.n) wx from λ_=>ac):=h
def uS(h:p:=by exact hs.below DR.2.2.2.2.2.2.1 (lR _)):=h
def ym(h:p:=by show Hid (cb=g.s.any λx=>h.s.contains x);exact a4I):=h
def vd(h:p:=by exact show∀{o:Gs} wx,DG w g ss gc h st hc ob o wx->yx (R (M w)) g ss gc h st hc wx from λwx a=>⟨UK,UO⟩):=h
def MW(h:p:=by exact show∀wx,DG w g ss gc h st hc ob o wx->Kz (R (M w)) ob g ss gc h st hc o wx from λwx a=>⟨UK,UO,by simpa using a.2.2.2.2.1.1⟩):=h
def No(h:p:=by exact show∀wx,DG w g ss gc h st hc ob o wx->Kz (R (M w)) ob g ss gc h st hc o (Go.Proofs.YtmapdpcfanecdabGreatDoor.lP wx (R (M w)+1+1) (O o.n) (O o.sp.n) (I Y o.sp.lo) (I Y o.sp.hi) (O o.t) (O o.f) (U E (X o.s) 0)) from λwx a=>⟨by simpa using(a7b.put7 a.1 (by omega)).1,by simpa using(a7b.put7 a.2.1 (by omega)).1,a3O⟩):=h
def wV(h:p:=by exact ag (λw=>AE g ss gc w)):=h
def vh(h:p:=by exact ag (λw=>AE h st hc w)):=h
def vV(h:p:=by show Hid (wr=(og||oh));exact jF.out.symm):=h
def RJ(h:p:=by show Hid (∀wz,Calls f 116 #[.agg #[O gg.n,O gg.sp.n,I Y gg.sp.lo,I Y gg.sp.hi,O gg.t,O gg.f,U ss (X gg.s) cp]] wz λe w'=>e=Rt (O true)/\bl wz w');exact λwz=>Vg):=h
def nv(h:p:=by show gAt x i.a=x.vq[ka];exact a4o):=h
def uL(h:p:=by exact HK.out.kx.gv _ (gM qL)):=h
def Rl(h:p:=by show a7c (λb=>T b/\b < R (M w)) wx qu x.vq[ka].s;exact (GAI.1.mono (S':=λb=>T b/\b < R (M w)) λb hb xy=>⟨hb,xy⟩).same (λb hb xy=>qC.block b xy) qC.size):=h
def O0(h:p:=by show x.vq[ka].s.length<=60;exact dJ (ckGs_iff.1 jG).2.2 (dY qA jG).1):=h
def Di(h:p:=by show Hid (R (M xl) < R (M wp));exact TP.2.1):=h
def Pm(h:p:=by show Hid (∀wx,Calls f 112 #[.agg #[O x.vq[ka].n,O x.vq[ka].sp.n,I Y x.vq[ka].sp.lo,I Y x.vq[ka].sp.hi,O x.vq[ka].t,O x.vq[ka].f,U qu (X x.vq[ka].s) Qx]] wx λe w'=>e=Rt (Tu #[O yb,O nb])/\bl wx w');exact λwx=>a4a):=h
def tE(h:p:=by show aA 1 0 aV=0;exact cI):=h
def yt(h:p:=by exact E3.trans (xD.mono E3.size)):=h
def vm(h:p:=by show Below (R (M w)) w (((w.alloc (A #[I Y V,I Y F,U s (X c) cap] 24)).alloc (A #[O x.none,U xh (X x.vq) xf,U xk (X x.fq) xi] 28)).alloc (A #[I Y r.at_,U rv (X r.vq) zP,U rt (X r.things) zF,I Y r.taken,U rl (X r.lines) zU,I Y r.fin] 33));exact ai):=h
def yr(h:p:=by exact (a7w.new w V F s c cap).call (w':=(((w.alloc (A #[I Y V,I Y F,U s (X c) cap] 24)).alloc (A #[O x.none,U xh (X x.vq) xf,U xk (X x.fq) xi] 28)).alloc (A #[I Y r.at_,U rv (X r.vq) zP,U rt (X r.things) zF,I Y r.taken,U rl (X r.lines) zU,I Y r.fin] 33))) ai):=h
def tr(h:p:=by exact (XAt.new (w.alloc (A #[I Y V,I Y F,U s (X c) cap] 24)) x xh xf xk xi).call (w':=(((w.alloc (A #[I Y V,I Y F,U s (X c) cap] 24)).alloc (A #[O x.none,U xh (X x.vq) xf,U xk (X x.fq) xi] 28)).alloc (A #[I Y r.at_,U rv (X r.vq) zP,U rt (X r.things) zF,I Y r.taken,U rl (X r.lines) zU,I Y r.fin] 33))) ai):=h
def uY(h:p:=by exact R6.new ((w.alloc (A #[I Y V,I Y F,U s (X c) cap] 24)).alloc (A #[O x.none,U xh (X x.vq) xf,U xk (X x.fq) xi] 28)) 33 (I Y r.at_) (U rv (X r.vq) zP) (U rt (X r.things) zF) (I Y r.taken) (U rl (X r.lines) zU) (I Y r.fin)):=h
def vT(h:p:=by exact ag (lB V F s c cap (G ⟨R (M (((w.alloc (A #[I Y V,I Y F,U s (X c) cap] 24)).alloc (A #[O x.none,U xh (X x.vq) xf,U xk (X x.fq) xi] 28)).alloc (A #[I Y r.at_,U rv (X r.vq) zP,U rt (X r.things) zF,I Y r.taken,U rl (X r.lines) zU,I Y r.fin] 33))),0,E⟩) [x] 1 ((((w.alloc (A #[I Y V,I Y F,U s (X c) cap] 24)).alloc (A #[O x.none,U xh (X x.vq) xf,U xk (X x.fq) xi] 28)).alloc (A #[I Y r.at_,U rv (X r.vq) zP,U rt (X r.things) zF,I Y r.taken,U rl (X r.lines) zU,I Y r.fin] 33)).alloc (A #[O x.none,U xh (X x.vq) xf,U xk (X x.fq) xi] 28)) (C0.call ai) (a8k.new1 (((w.alloc (A #[I Y V,I Y F,U s (X c) cap] 24)).alloc (A #[O x.none,U xh (X x.vq) xf,U xk (X x.fq) xi] 28)).alloc (A #[I Y r.at_,U rv (X r.vq) zP,U rt (X r.things) zF,I Y r.taken,U rl (X r.lines) zU,I Y r.fin] 33)) x xh xf xk xi PX h1 h2) ae)):=h
def uU(h:p:=by show Below (R (M (((w.alloc (A #[I Y V,I Y F,U s (X c) cap] 24)).alloc (A #[O x.none,U xh (X x.vq) xf,U xk (X x.fq) xi] 28)).alloc (A #[I Y r.at_,U rv (X r.vq) zP,U rt (X r.things) zF,I Y r.taken,U rl (X r.lines) zU,I Y r.fin] 33)))) (((w.alloc (A #[I Y V,I Y F,U s (X c) cap] 24)).alloc (A #[O x.none,U xh (X x.vq) xf,U xk (X x.fq) xi] 28)).alloc (A #[I Y r.at_,U rv (X r.vq) zP,U rt (X r.things) zF,I Y r.taken,U rl (X r.lines) zU,I Y r.fin] 33)) ((((w.alloc (A #[I Y V,I Y F,U s (X c) cap] 24)).alloc (A #[O x.none,U xh (X x.vq) xf,U xk (X x.fq) xi] 28)).alloc (A #[I Y r.at_,U rv (X r.vq) zP,U rt (X r.things) zF,I Y r.taken,U rl (X r.lines) zU,I Y r.fin] 33)).alloc (A #[O x.none,U xh (X x.vq) xf,U xk (X x.fq) xi] 28));exact ai):=h
def wI(h:p:=by show R (M (((w.alloc (A #[I Y V,I Y F,U s (X c) cap] 24)).alloc (A #[O x.none,U xh (X x.vq) xf,U xk (X x.fq) xi] 28)).alloc (A #[I Y r.at_,U rv (X r.vq) zP,U rt (X r.things) zF,I Y r.taken,U rl (X r.lines) zU,I Y r.fin] 33)))=R (M w)+1+1+1;exact ae):=h
def vQ(h:p:=by show Below (R (M (((w.alloc (A #[I Y V,I Y F,U s (X c) cap] 24)).alloc (A #[O x.none,U xh (X x.vq) xf,U xk (X x.fq) xi] 28)).alloc (A #[I Y r.at_,U rv (X r.vq) zP,U rt (X r.things) zF,I Y r.taken,U rl (X r.lines) zU,I Y r.fin] 33)))) (((w.alloc (A #[I Y V,I Y F,U s (X c) cap] 24)).alloc (A #[O x.none,U xh (X x.vq) xf,U xk (X x.fq) xi] 28)).alloc (A #[I Y r.at_,U rv (X r.vq) zP,U rt (X r.things) zF,I Y r.taken,U rl (X r.lines) zU,I Y r.fin] 33)) w1;exact HB.out.trans (vZ.mono IN)):=h
def EQ(h:p:=by show Hid (∀wx,bl w wx->Calls f 42 #[.agg #[I Y V,I Y F,U s (X c) cap],.agg #[I Y r.at_,U rv (X r.vq) zP,U rt (X r.things) zF,I Y r.taken,U rl (X r.lines) zU,I Y r.fin]] wx λe w'=>e=Rt (I Y (cu V F c r))/\bl wx w');exact λwx hx=>mC V F s c cap r rv zP rt zF rl zU wx (xC.below hx (lR _)) hl (hr.below hx (lR _))):=h
def Fj(h:p:=by show R (M w)+1+1+1<=R (M w1);exact Vm):=h
def Oy(h:p:=by show Below (R (M w2)) w2 (w2.alloc (A #[O false,U vs 1 vc,U fs 2 fc] 28));exact ai):=h
def pQ(h:p:=by show (0:Int)<=(q:Int);exact by omega):=h
def Ov(h:p:=by exact a7m.set (B:=wA.heap.size) (v:=I Y 9) k0 (.inr (.inr (.inl ⟨_,_,rfl,rfl⟩))) hBb):=h
def OM(h:p:=by exact ag (SR.trans (S1.trans (a7m.set (v:=I Y 0) kz (.inr (.inr (.inl ⟨_,_,rfl,rfl⟩))) hBb)))):=h
def Sb(h:p:=by exact show∀n,(⟨b,off,E⟩:Addr).add n=⟨b,off+n,E⟩ from λn=>By):=h
def cA(h:p:=by exact .inl h):=h
def Np(h:p:=by exact .inr ⟨b,off,hs,lL xy hb.size,λk h=>by rw[hb.cell (by simp;omega)];exact hi k h⟩):=h
def cP(h:p:=by exact⟨rfl,ai⟩):=h
def Db(h:p:=by exact⟨bF (by simp<;>omega),rfl⟩):=h
def tD(h:p:=by exact⟨hc 0 aa,hc 1 aa,hc 2 aa,hc 3 aa,hc 4 aa,hc 5 aa,hc 6 aa⟩):=h
def Nv(h:p:=by exact⟨⟨by rw[hb.cell hB];exact h0,by rw[hb.cell hB];exact h1,by rw[hb.cell hB];exact h2⟩,lL hz hb.size⟩):=h
def dC(h:p:=by exact h.form aa):=h
def Pj(h:p:=by exact HR _ rfl hr.tk rfl hr.vq hr.things hr.sites hr.fields hr.vals hr.fvals hm):=h
def lS(h:p:=by exact List.mem_singleton.1 he):=h
def lG(h:p:=by exact⟨_,rfl,a3B,xA.trans (vZ.mono s0)⟩):=h
def lD(h:p:=by exact⟨_,rfl,Ul,xA⟩):=h
def io(h:p:=by exact⟨rfl,vZ⟩):=h
def kv(h:p:=by exact yv.own xK):=h
def Nc(h:p:=by exact aG xK (λk hk=>by cases hk;exact hSe _ _ _ _ jA)):=h
def pW(h:p:=by exact⟨rfl,bR _ _⟩):=h
def gO(h:p:=by exact a2J (s:=⟨n,lo,hi⟩) (t:=⟨n',xt,xu⟩) (r:=dP) vZ ae):=h
def mX(h:p:=by exact (((H1.setCell au _).setCell au _).setCell au _).alloc au _):=h
def DL(h:p:=by exact ((H1.setCell au _).setCell au _).setCell au _):=h
def lH(h:p:=by exact info_parts Tryz.info_guess):=h
def rq(h:p:=by exact info_parts Tryz.info_row):=h
def CZ(h:p:=by exact (FX.olden (w':=wz) (λb hb xy=>hs b aa xy) hz).rows):=h
def Eo(h:p:=by exact⟨(GX.same (λb hS xy=>hs b (by have:=hS.1;omega) xy) hz).mono λ_ _ _=>trivial,RW0.mono λ_ _ _=>trivial⟩):=h
def dR(h:p:=by exact Or.inr ⟨rfl,rfl⟩):=h
def fN(h:p:=by exact a4p w V F s c cap g ss gc h st hc):=h
def Ez(h:p:=by exact⟨rfl,(B0.alloc B0.size _).trans (vZ.mono au)⟩):=h
def lJ(h:p:=by exact⟨iy gS rfl,B1⟩):=h
def lU(h:p:=by exact a5J w V F s c cap g ss gc):=h
def RL(h:p:=by exact⟨rfl,⟨_,_,_,_,HX.out.1⟩,HX.out.2.1,λj _=>HX.out.2.2.1 j,ed HX.out.2.2.2⟩):=h
def fX(h:p:=by exact dM h0):=h
def wT(h:p:=by exact⟨rfl,B0.trans (vZ.mono B0.size)⟩):=h
def Ef(h:p:=by exact ((B1.setCell aw _).setCell aw _).setCell aw _):=h
def yg(h:p:=by exact Int.eq_ofNat_of_zero_le h.1):=h
def Pu(h:p:=by exact⟨⟨_,_,_,_,HX.out.1⟩,HX.out.2.mono hB,λj _=>HX.out.2.cell hm,ed HX.out.2⟩):=h
def MU(h:p:=by exact⟨a7u.no λe=>HQ.out (by subst e;rfl),xA.trans (qi.mono xA.size)⟩):=h
def DF(h:p:=by exact (hc.below vZ (lR _)).get m hm):=h
def tB(h:p:=by exact⟨E,0,rfl,a8e.nil⟩):=h
def mG(h:p:=by exact zH.vq.form aa):=h
def na(h:p:=by exact HK.out.varTo a3z):=h
def lF(h:p:=by exact⟨by rw[<-qa.out];first|done|rfl|simp,D2⟩):=h
def rm(h:p:=by exact bP D2.2.2.2.2.2.2.1 aa):=h
def MO(h:p:=by exact⟨es,ec,by rw[List.length_map],ER.eds.mono λb hb _=>.inr aa⟩):=h
def MK(h:p:=by exact⟨_,_,_,fv,rfl,HY.out.1,HY.out.2.2,by show X st.lines<=5000;omega,HY.out.2.1⟩):=h
def vW(h:p:=by exact DataW.trod_int underlying3 g0):=h
abbrev oA:=Option Go.Addr
open Go.RowKit

def bF{b:Bool}(h:a=b):Ending.returned (O a)=Rt (O b):=by rw[h]
def bE {k:IntKind}{a b:Int}(h:a=b):Ending.returned (.int k a)=Rt (.int k b):=by rw[h]
def a4g {a b:ByteArray}(h:a=b):Ending.returned (.string a)=Rt (.string b):=by rw[h]

def Mr{w1:C}(y:n4 (R (M W)) W w1):(∀b o,b < R (M W)->w1.cell? ⟨b,o,E⟩=W.cell? ⟨b,o,E⟩)/\(∀b o,b < R (M W)->w1.frozen? ⟨b,o,E⟩=W.frozen? ⟨b,o,E⟩):=
 ⟨λb o h=>y.cell (p:=⟨b,o,E⟩) h,λb o h=>y.frozen (p:=⟨b,o,E⟩) h⟩

def fS:
  Calls f 57 #[I Y n,I Y l,I Y m] w λe w'=>e=Rt (O (btw n l m))/\w'=w:=by
 by_cases D:l<=n
 .by_cases N:n<=m
  .have y:=lQ D N
   go_enter func57,ntmps57;go_wp2;go_ret;exact⟨bF y.symm,rfl⟩
  .have y:=PE (l:=l) N
   go_enter func57,ntmps57;go_wp2;go_ret;exact⟨rfl,rfl⟩
 .have y:=PD (m:=m) D
  go_enter func57,ntmps57;go_wp2;go_ret;exact⟨rfl,rfl⟩
end
section
open Go.RowKit
def pa(h:p:=by
 go_wp2_with (go_at_call 57;refine(fS _ _ _ _).mono ?_;rintro e w' ⟨rfl,rfl⟩);all_goals go_ret
 all_goals exact⟨bF (by simp_all[BEq.beq]),rfl⟩):=h
def Te:
  Calls f 106 #[I Y k] w λe w'=>e=Rt (O (nTo k))/\w'=w:=by
 unfold nTo;go_enter func106,ntmps106;exact pa

def Ie:
  Calls f 107 #[I Y k] w λe w'=>e=Rt (O (nA k))/\w'=w:=by
 unfold nA;go_enter func107,ntmps107;exact pa

def GT:
  Calls f 108 #[I Y k] w λe w'=>e=Rt (O (nB k))/\w'=w:=by
 unfold nB;go_enter func108,ntmps108;exact pa

def Yr:
  Calls f 110 #[I Y k] w λe w'=>e=Rt (O (nN k))/\w'=w:=by
 unfold nN;go_enter func110,ntmps110;exact pa

def Mk:
  Calls f 109 #[I Y k] w λe w'=>e=Rt (O (nG k))/\w'=w:=by
 unfold nG;go_enter func109,ntmps109;go_wp2;all_goals go_ret
 all_goals exact⟨bF (by simp_all[BEq.beq]),rfl⟩
def a9b (w:World)(b o:Nat)(i:Ins):Prop:=
 w.cell? ⟨b,o,E⟩=G (I .i64 i.k)/\w.cell? ⟨b,o+1,E⟩=G (I .i64 i.tgt)/\w.cell? ⟨b,o+2,E⟩=G (I .i64 i.a)/\
 w.cell? ⟨b,o+3,E⟩=G (I .i64 i.b)/\w.cell? ⟨b,o+4,E⟩=G (I .i64 i.n)/\w.cell? ⟨b,o+5,E⟩=G (I .i64 i.g)

def a2r (w:World)(s:oA)(c:lI):Prop:=
 c=[]\/∃b off,s=G ⟨b,off,E⟩/\b < R (M w)/\∀k (h:k < X c),a9b w b (off+k * 6) c[k]

def a9b.below{w w':C}{b o:Nat}{i:Ins}(h:a9b w b o i)(y:n4 B w w')(hB:b < B):a9b w' b o i:=by
 obtain⟨K,D,N,T,k,c⟩:=h;refine⟨?_,?_,?_,?_,?_,?_⟩<;>rw[y.cell nl]<;>assumption

def a2r.below{w w':C}{s:oA}{c:lI}(h:a2r w s c)(y:n4 B w w')(u:R (M w)<=B):a2r w' s c:=by
 rcases h with h|⟨b,j,hs,H,hi⟩
 .exact cA
 .exact .inr ⟨b,j,hs,lL H y.size,λk h=>(hi k h).below y aa⟩

def yv (w:World)(s:oA)(l:List Int):Prop:=
 l=[]\/∃b off,s=G ⟨b,off,E⟩/\b < R (M w)/\∀k (h:k < X l),w.cell? ⟨b,off+k,E⟩=G (I .i64 l[k])

def a7j (w:World)(s:oA)(l:List Val):Prop:=
 l=[]\/∃b off,s=G ⟨b,off,E⟩/\b < R (M w)/\∀k (h:k < X l),w.cell? ⟨b,off+k * 2,E⟩=G (I .i64 l[k].k)/\w.cell? ⟨b,off+k * 2+1,E⟩=G (I .i64 l[k].n)

def yv.below{w w':C}{s:oA}{l:List Int}(h:yv w s l)(hb:n4 B w w')(u:R (M w)<=B):yv w' s l:=by
 rcases h with h|⟨b,off,hs,xy,hi⟩
 .exact cA
 .exact Np

def a7j.below{w w':C}{s:oA}{l:List Val}(h:a7j w s l)(y:n4 B w w')(u:R (M w)<=B):a7j w' s l:=by
 rcases h with h|⟨b,j,hs,H,hi⟩
 .exact cA
 .exact .inr ⟨b,j,hs,lL H y.size,λk h=>by rw[y.cell (by simp;omega),y.cell (by simp;omega)];exact hi k h⟩
def a1I:
  Calls f 105 #[I Y k] w λe w'=>e=Rt (.string (bi k))/\bl w w':=by
 by_cases h:btw k 1 19=W5
 .rcases rM h with rfl|rfl|rfl|rfl|rfl|rfl|rfl|rfl|rfl|rfl|rfl|rfl|rfl|rfl|rfl|rfl|rfl|rfl|rfl
  all_goals
   go_enter func105,ntmps105;go_wp2_with (go_at_call 57;refine(fS _ _ _ _).mono ?_;rintro e w' ⟨rfl,rfl⟩);go_ret;exact cP
 .have h:btw k 1 19=false:=by simpa using h
  have Z:=Gz h;go_enter func105,ntmps105;go_wp2_with (go_at_call 57;refine(fS _ _ _ _).mono ?_;rintro e w' ⟨rfl,rfl⟩);go_ret;exact⟨a4g Z.symm,ai⟩
def cy(h:p:=by
 go_enter func58,ntmps58;go_wp2_with (first
  |(go_at_call 57;refine(fS _ _ _ _).mono ?_;rintro e w' ⟨rfl,rfl⟩)
  |(go_at_call 106;refine(Te _ _).mono ?_;rintro e w' ⟨rfl,rfl⟩)
  |(go_at_call 107;refine(Ie _ _).mono ?_;rintro e w' ⟨rfl,rfl⟩)
  |(go_at_call 108;refine(GT _ _).mono ?_;rintro e w' ⟨rfl,rfl⟩)
  |(go_at_call 110;refine(Yr _ _).mono ?_;rintro e w' ⟨rfl,rfl⟩)
  |(go_at_call 109;refine(Mk _ _).mono ?_;rintro e w' ⟨rfl,rfl⟩)
  |(go_at_call 105;refine(a1I _ _).mono ?_;rintro e w1 ⟨rfl,vZ⟩;obtain⟨hc1,hf1⟩:=Mr vZ))
 all_goals clear hc1 hf1
 all_goals go_ret
 all_goals exact⟨bE (by simp_all[bo,a5Q]),Below.trans ai (vZ.mono lg)⟩):=h
def cw:List Val->List Value
 |[]=>[]
 |v::r=>I .i64 v.k::I .i64 v.n::cw r

section
variable (l:List Val)
def g9:X (cw l)=X l * 2:=by
 induction l with
 |nil=>rfl
 |cons v r ih=>simp[cw,ih];omega

def o8:∀(i:Nat) (h:i < X l),(cw l)[i * 2]? =G (I Y l[i].k):=by
 induction l with
 |nil=>intro i h;simp at h
 |cons v r ih=>
  intro i h;cases i with
  |zero=>rfl
  |succ i=>rw[show (i+1) * 2=i * 2+1+1 by omega];simpa[cw] using ih i cn

def oJ:∀(i:Nat) (h:i < X l),(cw l)[i * 2+1]? =G (I Y l[i].n):=by
 induction l with
 |nil=>intro i h;simp at h
 |cons v r ih=>
  intro i h;cases i with
  |zero=>rfl
  |succ i=>rw[show (i+1) * 2+1=(i * 2+1)+1+1 by omega];simpa[cw] using ih i cn

def Aw(v:Val):∀(i:Nat),i < X l->((cw l).set (i * 2) (I Y v.k)).set (i * 2+1) (I Y v.n)=cw (l.set i v):=by
 induction l with
 |nil=>intro i h;simp at h
 |cons x r ih=>
  intro i h;cases i with
  |zero=>rfl
  |succ i=>
   have:=ih i cn;rw[show (i+1) * 2+1=(i * 2+1)+1+1 by omega,show (i+1) * 2=i * 2+1+1 by omega];simp only[cw,z8,this]
end
abbrev a7o (w:World)(B:Nat)(v:Value)(l:List Val):Prop:=w.ownsRow B 82 2 v l.length (cw l)

def cd:List Int->List Value->List Value
 |s::ss,f::fs=>I .i64 s::f::cd ss fs
 |_,_=>[]

structure a7a (w:World) (B m:Nat) (s:St) (vv tv lv:Value) (fv:List Value):Prop where
 low:B<=m
 at_:w.cell? ⟨m,0,E⟩=G (I .i64 s.at_)
 vars_:w.cell? ⟨m,1,E⟩=G vv
 things_:w.cell? ⟨m,2,E⟩=G tv
 taken_:w.cell? ⟨m,3,E⟩=G (I .i64 s.taken)
 lines_:w.cell? ⟨m,4,E⟩=G lv
 fin_:w.cell? ⟨m,5,E⟩=G (I .i64 s.fin)
 thaw:∀j,w.frozen? ⟨m,j,E⟩=false
 vq:a7o w B vv s.vq
 things:w.ownsRow B 84 2 tv s.things.length (cd (s.things.map (·.site)) fv)
 count:fv.length=s.things.length
 fields:∀i (h:i < s.things.length),a7o w B (fv[i]'(by rw[count];exact h)) (s.things[i].fs)
 lines:w.ownsRow B 9 1 lv s.lines.length (s.lines.map .string)
 apart:(G m::vv.ownBlock::tv.ownBlock::lv.ownBlock::fv.map j1).Pairwise λa b=>∀x,a=G x->b≠G x

def aW {w:C}{B:Nat}{e:TypeId}{z:Nat}{v:mh}{n:Nat}{xs:List mh}(h:w.ownsRow B e z v n xs){k:Nat}(u:v.ownBlock=G k):k < R (M w)/\B<=k:=by
 rcases h.2 with⟨rfl,_⟩|⟨g,c,p,rfl,y,H,_⟩
 .cases u
 .cases u
  exact⟨(z6.1 H).1,y⟩

def aG {w w':C}{B:Nat}{e:TypeId}{z:Nat}{v:mh}{n:Nat}{xs:List mh}(h:w.ownsRow B e z v n xs)(y:∀k,v.ownBlock=G k->w'.heap[k]? =w.heap[k]?):w'.ownsRow B e z v n xs:=by
 obtain⟨D,N⟩:=h;refine⟨D,?_⟩;rcases N with N|⟨g,c,p,T,u,H,r⟩
 .exact .inl N
 .exact .inr ⟨g,c,p,T,u,by rw[y g (by rw[T];rfl)];exact H,r⟩

def aP (m:Nat)(vv tv lv:Value)(fv:List Value):List (Option Nat):=G m::vv.ownBlock::tv.ownBlock::lv.ownBlock::fv.map j1

def a7a.same {w w':C}{B m:Nat}{s:St}{vv tv lv:mh}{fv:List mh}(h:a7a w B m s vv tv lv fv)(y:∀k,G k∈aP m vv tv lv fv->w'.heap[k]? =w.heap[k]?):a7a w' B m s vv tv lv fv:=by
 have z:=y m fL;have c:∀j,w'.cell? ⟨m,j,E⟩=w.cell? ⟨m,j,E⟩:=λj=>j3 (a:=⟨m,j,E⟩) z;have L:∀j,w'.frozen? ⟨m,j,E⟩=w.frozen? ⟨m,j,E⟩:=λj=>j4 (a:=⟨m,j,E⟩) z;exact⟨h.low,by rw[c];exact h.at_,by rw[c];exact h.vars_,Bc,by rw[c];exact h.taken_,Bf,by rw[c];exact h.fin_,λj=>by rw[L];exact h.thaw j,
  aG h.vq (λk hk=>y k np),aG h.things (λk hk=>y k np),h.count,
  λi hi=>aG (h.fields i hi) (λk hk=>y k (by
   simp only[aP,j0];right;right;right;right;exact j2.2 ⟨_,gM _,hk⟩)),
  aG h.lines (λk hk=>y k np),h.apart⟩

def a7a.lt {w:C}{B m:Nat}{s:St}{vv tv lv:mh}{fv:List mh}(h:a7a w B m s vv tv lv fv){k:Nat}(u:G k∈aP m vv tv lv fv):k < R (M w):=by
 simp only[aP,j0] at u;rcases u with u|u|u|u|u
 .cases u
  exact World.block_lt_of_cell? w ⟨m,0,E⟩ h.at_
 .exact(aW h.vq u.symm).1
 .exact(aW h.things u.symm).1
 .exact(aW h.lines u.symm).1
 .obtain⟨x,Z,b⟩:=j2.1 u
  obtain⟨i,hi,rfl⟩:=List.getElem_of_mem Z;exact(aW (h.fields i (by rw[<-h.count];exact hi)) b).1

def a7a.below {w w':C}{B m:Nat}{s:St}{vv tv lv:mh}{fv:List mh}(h:a7a w B m s vv tv lv fv)(y:bl w w'):a7a w' B m s vv tv lv fv:=
 h.same λk u=>y.block k (h.lt u)
end
section
structure Sp where
 n:Bool
 lo:Int
 hi:Int
def Sp.dq(s t:Sp):Decidable (s=t):=decidable_of_iff (s.n=t.n/\s.lo=t.lo/\s.hi=t.hi) (by cases s;cases t;simp)

abbrev bA (x:Int):Prop:= -2147483648<=x/\x<=2147483647

def cY (s:Sp):Int:=
 if¬(bA s.lo/\bA s.hi) then 3 else if s.n=true/\¬(s.lo=0/\s.hi=0) then 1 else if s.hi < s.lo then 4 else 0

def bO (s t:Sp):Int:=if cY s=0 then cY t else cY s

def Sp.Ok (s:Sp):Prop:=bA s.lo/\bA s.hi/\(s.n=true->s.lo=0/\s.hi=0)/\s.lo<=s.hi

def ckSp_ok {s:Sp}:cY s=0↔s.Ok:=by
 unfold cY Sp.Ok;by_cases D:bA s.lo/\bA s.hi
 .rw[if_neg (not_not_intro D)]
  by_cases N:s.n=W5/\¬(s.lo=0/\s.hi=0)
  .rw[if_pos N]
   refine⟨λh=>absurd h (by decide),λh=>absurd (h.2.2.1 N.1) N.2⟩
  .rw[if_neg N]
   have T:s.n=W5->s.lo=0/\s.hi=0:=λu=>Decidable.not_not.1 λj=>N ⟨u,j⟩;by_cases k:s.hi < s.lo
   .rw[if_pos k]
    exact⟨λh=>absurd h (by decide),λh=>absurd h.2.2.2 (by omega)⟩
   .rw[if_neg k]
    exact⟨λ_=>⟨D.1,D.2,T,by omega⟩,λ_=>rfl⟩
 .rw[if_pos D]
  exact⟨λh=>absurd h (by decide),λh=>absurd ⟨h.1,h.2.1⟩ D⟩

def ckSps_ok {s t:Sp}:bO s t=0↔s.Ok/\t.Ok:=by
 unfold bO;by_cases h:cY s=0
 .rw[if_pos h,ckSp_ok]
  exact⟨λF=>⟨ckSp_ok.1 h,F⟩,λF=>F.2⟩
 .rw[if_neg h]
  exact⟨λF=>absurd F h,λF=>absurd (ckSp_ok.2 F.1) h⟩

def Sp.has (s:Sp)(x:Int):Bool:= !s.n&&(decide (s.lo<=x)&&decide (x<=s.hi))
def bw (s t:Sp):Sp:=if s.n then t else if t.n then s else⟨false,min s.lo t.lo,max s.hi t.hi⟩
def bH (s t:Sp):Sp:=if s.n then t else if t.n then s else⟨false,if t.lo < s.lo then -2147483648 else s.lo,if s.hi < t.hi then 2147483647 else s.hi⟩
def aS (s t:Sp):Sp:=if s.n||t.n||decide (min s.hi t.hi < max s.lo t.lo) then⟨true,0,0⟩ else⟨false,max s.lo t.lo,min s.hi t.hi⟩
def gP (s t:Sp):Bool:=s.n||(t.has s.lo&&t.has s.hi)

def Af (k x y:Int):Int:=if k=5 then x+y else if k=6 then x - y else x * y
def fF (a b c d:Int):Int:=min (min (min a b) c) d
def fK (a b c d:Int):Int:=max (max (max a b) c) d
def i7 (a b c d:Int):Sp:=if bA (fF a b c d)/\bA (fK a b c d) then⟨false,fF a b c d,fK a b c d⟩ else⟨false,-2147483648,2147483647⟩
def cT (k:Int)(s t:Sp):Sp:=if s.n||t.n then⟨true,0,0⟩ else i7 (Af k s.lo t.lo) (Af k s.lo t.hi) (Af k s.hi t.lo) (Af k s.hi t.hi)

def dP:Sp:=⟨false,0,0⟩
def a5Y {k:Int}{s t:Sp}(hs:s.Ok)(F:t.Ok):(cT k s t).Ok:=by
 unfold cT;split
 .exact⟨by decide,by decide,λ_=>⟨rfl,rfl⟩,Int.le_refl _⟩
 .unfold i7
  split
  .rename_i h
   refine⟨h.1,h.2,λu=>(by cases u),?_⟩;unfold fF fK;simp only;omega
  .exact⟨by decide,by decide,λu=>(by cases u),by decide⟩

section
variable {s t:Sp}(hs:s.Ok)(F:t.Ok)
def a3R:(bw s t).Ok:=by
 unfold bw;split
 .exact F
 .split
  .exact hs
  .obtain⟨a,b,_,i⟩:=hs
   obtain⟨j,k,_,p⟩:=F;unfold bA at a b j k;refine⟨?_,?_,λu=>(by cases u),?_⟩<;>(try unfold bA)<;>simp only<;>omega

def a3t:(bH s t).Ok:=by
 unfold bH;split
 .exact F
 .split
  .exact hs
  .obtain⟨a,b,_,i⟩:=hs
   obtain⟨j,k,_⟩:=F;unfold bA at a b j k;refine⟨?_,?_,λu=>(by cases u),?_⟩<;>(try unfold bA)<;>simp only<;>(repeat' split)<;>omega
end
structure Gs where
 n:Bool
 sp:Sp
 t:Bool
 f:Bool
 s:List Int

def cJ (c:List Ins)(x:Int):Bool:=decide (0<=x)&&(decide (x < X c)&&decide ((c.getD x.toNat ⟨0,0,0,0,0,0⟩).k=11))

def dQ:List Int->Bool
 |[]=>true
 |[_]=>true
 |a::b::r=>decide (a < b)&&dQ (b::r)

def aH (c:List Ins)(g:Gs):Int:=if cY g.sp≠0 then cY g.sp else if g.s.all (cJ c)=false then 5 else if dQ g.s=false then 4 else 0

def cG (c:List Ins):List Gs->Int
 |[]=>0
 |g::r=>if aH c g=0 then cG c r else aH c g

def aY (V F:Int)(c:List Ins)(l:List Gs):Int:=if aA V F c=0 then cG c l else aA V F c

def kV (a b:List Int):List Int:=((List.range 60).map λn:Nat=>(n:Int)).filter λx=>a.contains x||b.contains x

def aj (wide:Bool)(g h:Gs):Gs:=⟨g.n||h.n,if wide then bH g.sp h.sp else bw g.sp h.sp,g.t||h.t,g.f||h.f,kV g.s h.s⟩
def dX (g h:Gs):Bool:= !(g.n&& !h.n)&&(!(g.t&& !h.t)&&(!(g.f&& !h.f)&&(gP g.sp h.sp&&g.s.all λx=>h.s.contains x)))
def AF (g:Gs)(k n site:Int):Bool:=if k=0 then g.n else if k=1 then g.sp.has n else if k=2 then(g.t&&decide (n=1))||(g.f&&decide (n=0)) else g.s.contains site
def cM (g:Gs):Bool:=(!g.sp.n&& !decide (g.sp.lo=0/\g.sp.hi=0))||(g.t||decide (0 < X g.s))
def dp (g:Gs):Bool:=g.sp.has 0||(g.n||g.f)
def aT (g:Gs):Bool:=g.n||(g.t||(g.f||decide (0 < X g.s)))
def aq (g:Gs):Bool:=g.sp.n&& !aT g
def a4q:Gs:=⟨false,⟨true,0,0⟩,false,false,[]⟩
def bT:Gs:=⟨false,⟨false,0,0⟩,false,false,[]⟩
def b2n (b:Bool):Nat:=if b then 1 else 0
def gJ (g:Gs):Bool:=decide (b2n g.n+b2n (!g.sp.n)+b2n g.t+b2n g.f=1)&&(decide (g.sp.lo=g.sp.hi)&&decide (X g.s=0))
def dw (g h:Gs):Bool:=gJ g&&(gJ h&&(g.n==h.n&&(@decide _ (g.sp.dq h.sp)&&(g.t==h.t&&g.f==h.f))))

def de (k:Int)(g h:Gs):Gs×Bool:=
 if k=4 then(g,false)
 else if k=10 then(⟨false,⟨true,0,0⟩,dp g,cM g,[]⟩,false)
 else if aq g||aq h then(a4q,false)
 else if k=9 then(⟨false,⟨true,0,0⟩,(g.n&&h.n)||(!(aS g.sp h.sp).n||((g.t&&h.t)||((g.f&&h.f)||g.s.any λx=>h.s.contains x))),!dw g h,[]⟩,false)
 else if k=8 then(⟨false,⟨true,0,0⟩,!(g.sp.n||h.sp.n)&&decide (g.sp.lo < h.sp.hi),!(g.sp.n||h.sp.n)&&decide (h.sp.lo<=g.sp.hi),[]⟩,aT g||aT h)
 else(⟨false,cT k g.sp h.sp,false,false,[]⟩,aT g||aT h)
end
section
open Go.RowKit
abbrev sv (s:Sp):Value:=Ag #[O s.n,I .i64 s.lo,I .i64 s.hi]

def kR:
  Calls f 225 #[I Y n] w λe w'=>e=Rt (O (!decide (bA n)))/\w'=w:=by
 have Z:decide (bA n)=(decide (-2147483648<=n)&&decide (n<=2147483647)):=by unfold bA;exact Bool.decide_and _ _
 rw[Z];by_cases D:n < -2147483648
 .go_enter func225,ntmps225
  go_wp2;go_ret;exact Db
 .by_cases N:n > 2147483647
  .go_enter func225,ntmps225
   go_wp2;go_ret;exact Db
  .go_enter func225,ntmps225
   go_wp2;go_ret;exact Db

def KA:
  Calls f 226 #[] w λe w'=>e=Rt (sv ⟨W5,0,0⟩)/\w'=w.alloc (A #[O W5,I Y 0,I Y 0] 89):=by
 go_enter func226,ntmps226;go_wp2
 go_returns
 exact⟨rfl,aE⟩

def a2i:
  Calls f 226 #[] w λe w'=>e=Rt (sv ⟨W5,0,0⟩)/\bl w w':=by
 go_call KA w as e w' ⟨rfl,rfl⟩;exact cP

def a0p:
  Calls f 245 #[] w λe w'=>e=Rt (sv ⟨d,-2147483648,2147483647⟩)/\w'=w.alloc (A #[O d,I Y (-2147483648),I Y 2147483647] 89):=by
 go_enter func245,ntmps245;go_wp2
 go_returns
 exact⟨rfl,aE⟩

def BO(h:wrap64 (n+m)=n+m):
  Calls f 229 #[I Y n,I Y m] w λe w'=>e=Rt (I Y (n+m))/\w'=w:=by
 go_enter func229,ntmps229;go_wp2;go_ret;exact⟨bE h,rfl⟩

def Cf(h:wrap64 (n - m)=n - m):
  Calls f 230 #[I Y n,I Y m] w λe w'=>e=Rt (I Y (n - m))/\w'=w:=by
 go_enter func230,ntmps230;go_wp2;go_ret;exact⟨bE h,rfl⟩

def Bi(h:wrap64 (n * m)=n * m):
  Calls f 231 #[I Y n,I Y m] w λe w'=>e=Rt (I Y (n * m))/\w'=w:=by
 go_enter func231,ntmps231;go_wp2;go_ret;exact⟨bE h,rfl⟩

def FU(h:p:=by
 go_enter func195,ntmps195;go_wp2_with (go_at_call 225;refine(kR _ _).mono ?_;rintro e w' ⟨rfl,rfl⟩);go_ret;exact⟨rfl,ai⟩):=h
section
variable (n:Bool)(lo hi:Int)(w:C)
def a4t(h:¬bA lo):
  Calls f 195 #[sv ⟨n,lo,hi⟩] w λe w'=>e=Rt (I Y 3)/\bl w w':=by
 exact FU

def a4v(h:bA lo)(h':¬bA hi):
  Calls f 195 #[sv ⟨n,lo,hi⟩] w λe w'=>e=Rt (I Y 3)/\bl w w':=by
 exact FU
end
def uV(h:p:=by
 go_enter func195,ntmps195;go_wp2_with (go_at_call 225;refine(kR _ _).mono ?_;rintro e w' ⟨rfl,rfl⟩);refine wp_region_quiet_below ac ac ?_;repeat (quiet_step (exact Calls.regrown_of (a2i _)))
 refine wpQuiet_nil ?_;intro _ qp;obtain⟨⟨dq,osq⟩,qq⟩:=qp;subst qq;go_wp2;go_ret;exact⟨rfl,Below.trans ai ((below_regrown _ dq osq).mono lg)⟩):=h
def a3c (lo hi:Int)(w:C)(h:bA lo)(h':bA hi)(r:(lo==0)=d):
  Calls f 195 #[sv ⟨W5,lo,hi⟩] w λe w'=>e=Rt (I Y 1)/\bl w w':=by
 have k:=cell_regrown (w:=w.alloc (A #[O W5,I Y lo,I Y hi] 89)) (a:=⟨R (M w),0,E⟩) (v:=O W5) aE;have j:=cell_regrown (w:=w.alloc (A #[O W5,I Y lo,I Y hi] 89)) (a:=⟨R (M w),1,E⟩) (v:=I Y lo) aE;have z:=cell_regrown (w:=w.alloc (A #[O W5,I Y lo,I Y hi] 89)) (a:=⟨R (M w),2,E⟩) (v:=I Y hi) aE;exact uV

def a2p (hi:Int)(w:C)(h':bA hi)(r:(hi==0)=d):
  Calls f 195 #[sv ⟨W5,0,hi⟩] w λe w'=>e=Rt (I Y 1)/\bl w w':=by
 have D:decide (bA 0)=true:=an;have k:=cell_regrown (w:=w.alloc (A #[O W5,I Y 0,I Y hi] 89)) (a:=⟨R (M w),0,E⟩) (v:=O W5) aE;have j:=cell_regrown (w:=w.alloc (A #[O W5,I Y 0,I Y hi] 89)) (a:=⟨R (M w),1,E⟩) (v:=I Y 0) aE;have z:=cell_regrown (w:=w.alloc (A #[O W5,I Y 0,I Y hi] 89)) (a:=⟨R (M w),2,E⟩) (v:=I Y hi) aE;exact uV

def a3K:
  Calls f 195 #[sv ⟨W5,0,0⟩] w λe w'=>e=Rt (I Y 0)/\bl w w':=by
 have D:decide (bA 0)=true:=an;have k:=cell_regrown (w:=w.alloc (A #[O W5,I Y 0,I Y 0] 89)) (a:=⟨R (M w),0,E⟩) (v:=O W5) aE;have j:=cell_regrown (w:=w.alloc (A #[O W5,I Y 0,I Y 0] 89)) (a:=⟨R (M w),1,E⟩) (v:=I Y 0) aE;have z:=cell_regrown (w:=w.alloc (A #[O W5,I Y 0,I Y 0] 89)) (a:=⟨R (M w),2,E⟩) (v:=I Y 0) aE;exact uV

def Hh(h:p:=by
 have h1:decide (bA lo)=true:=cn;have h2:decide (bA hi)=true:=sF;go_enter func195,ntmps195;go_wp2_with (go_at_call 225;refine(kR _ _).mono ?_;rintro e w' ⟨rfl,rfl⟩)
 go_quiet (fail)
 go_wp2;go_ret;exact⟨rfl,below_drewN ai _⟩):=h
section
variable (lo hi:Int)(w:C)(h:bA lo)(h':bA hi)
def a3N(r:hi < lo):
  Calls f 195 #[sv ⟨d,lo,hi⟩] w λe w'=>e=Rt (I Y 4)/\bl w w':=Hh

def a4s(r:¬hi < lo):
  Calls f 195 #[sv ⟨d,lo,hi⟩] w λe w'=>e=Rt (I Y 0)/\bl w w':=Hh
end
def lW (s:Sp)(w:C):
  Calls f 195 #[sv s] w λe w'=>e=Rt (I Y (cY s))/\bl w w':=by
 obtain⟨n,lo,hi⟩:=s;unfold cY;by_cases h:bA lo
 .by_cases z:bA hi
  .rw[if_neg (by simp[h,z])]
   cases n with
   |true=>
    by_cases hz:lo=0
    .subst hz
     by_cases b:hi=0
     .subst b
      rw[if_neg ae,if_neg ae];exact a3K w
     .rw[if_pos (by simp[b])]
      exact a2p hi w z (by simpa using b)
    .rw[if_pos (by simp[hz])]
     exact a3c lo hi w h z mT
   |false=>
    rw[if_neg ae];by_cases hz:hi < lo
    .rw[if_pos hz]
     exact a3N lo hi w h z hz
    .rw[if_neg hz]
     exact a4s lo hi w h z hz
  .rw[if_pos (by simp[z])]
   exact a4v n lo hi w h z
 .rw[if_pos pm]
  exact a4t n lo hi w h
def DX{n:Bool}{lo hi:Int}{w w1:C}(y:n4 B (w.alloc (A #[O n,I Y lo,I Y hi] 89)) w1)(hB:R (M w) < B):w1.cell? ⟨R (M w),0,E⟩=G (O n)/\w1.cell? ⟨R (M w),1,E⟩=G (I Y lo)/\w1.cell? ⟨R (M w),2,E⟩=G (I Y hi):=by
 rw[y.cell nl,y.cell nl,y.cell nl];simp[go_sem]

def Az{n n':Bool}{lo hi c r:Int}{w w1:C}(y:n4 B ((w.alloc (A #[O n,I Y lo,I Y hi] 89)).alloc (A #[O n',I Y c,I Y r] 89)) w1)(hB:R (M w)+1 < B):w1.cell? ⟨R (M w),0,E⟩=G (O n)/\w1.cell? ⟨R (M w),1,E⟩=G (I Y lo)/\w1.cell? ⟨R (M w),2,E⟩=G (I Y hi)/\w1.cell? ⟨R (M w)+1,0,E⟩=G (O n')/\w1.cell? ⟨R (M w)+1,1,E⟩=G (I Y c)/\w1.cell? ⟨R (M w)+1,2,E⟩=G (I Y r):=by
 rw[y.cell au,y.cell au,y.cell au,y.cell nl,y.cell nl,y.cell nl];simp[go_sem]

def UI{b:Bool}{v:mh}(h:a=b):Ending.returned (Tu #[O a,v])=Rt (Tu #[O b,v]):=by rw[h]

section
variable (s:Sp)(x:Int)(w:C)
def a4k(h:cY s≠0):
  Calls f 143 #[sv s,I Y x] w λe w'=>e=Rt (Tu #[O d,I Y (cY s)])/\bl w w':=by
 obtain⟨n,lo,hi⟩:=s;have K:=Na;go_enter func143,ntmps143;go_wp2_with (go_at_call 195;refine(lW ⟨n,lo,hi⟩ _).mono ?_;rintro e w1 ⟨rfl,k⟩)
 go_ret2
 exact⟨rfl,K.trans (k.mono ae)⟩

def vL(h:p:=by
 go_wp2
 go_ret2
 exact⟨UI (by simp[Sp.has, *]),h0.trans (vZ.mono ae)⟩):=h
def a5O(h:cY s=0):
  Calls f 143 #[sv s,I Y x] w λe w'=>e=Rt (Tu #[O (s.has x),I Y 0])/\bl w w':=by
 obtain⟨n,lo,hi⟩:=s;have h0:=Na;go_enter func143,ntmps143;go_wp2_with fail;go_call lW ⟨n,lo,hi⟩ _ as e w1 ⟨rfl,vZ⟩;rw[h];obtain⟨k,j,z⟩:=DX vZ ae;have i:R (M w) < R (M w1):=lV;cases n with
 |true=>
  exact vL
 |false=>
  by_cases b:lo<=x
  .have q:decide (lo<=x)=true:=by simpa using b
   exact vL
  .have q:decide (lo<=x)=false:=by simpa using b
   exact vL

def Vw:
  Calls f 143 #[sv s,I Y x] w λe w'=>e=Rt (Tu #[O (decide (cY s=0)&&s.has x),I Y (cY s)])/\bl w w':=by
 by_cases h:cY s=0
 .have:=a5O s x w h
  rw[h];simpa using this
 .have:=a4k s x w h
  simpa[h] using this
end
def fW (s t:Sp)(w:C):
  Calls f 219 #[sv s,sv t] w λe w'=>e=Rt (I Y (bO s t))/\bl w w':=by
 have K:bO s t=if cY s=0 then cY t else cY s:=rfl
 obtain⟨n,lo,hi⟩:=s;obtain⟨b,c,r⟩:=t;by_cases h:cY ⟨n,lo,hi⟩=0
 .rw[if_pos h] at K
  rw[K];go_enter func219,ntmps219;go_wp2_with fail;go_call lW ⟨n,lo,hi⟩ _ as e w1 ⟨rfl,vZ⟩;rw[h];obtain⟨k,j,z,y,q,D⟩:=Az vZ ae;have i:R (M w)+1 < R (M w1):=lV;go_wp2_with fail;go_call lW ⟨b,c,r⟩ _ as e v ⟨rfl,u⟩;go_wp2;go_ret;refine⟨rfl,?_⟩;exact(Below.trans ai (vZ.mono au)).trans (u.mono aa)
 .rw[if_neg h] at K
  rw[K];go_enter func219,ntmps219;go_wp2_with fail;go_call lW ⟨n,lo,hi⟩ _ as e w1 ⟨rfl,vZ⟩;go_wp2;go_ret;refine⟨rfl,?_⟩;exact Below.trans ai (vZ.mono au)

def kq {n:Bool}{lo hi:Int}{t:Sp}(h:t=⟨n,lo,hi⟩):Ending.returned (Ag #[O n,I Y lo,I Y hi])=Rt (sv t):=by rw[h]

def Ss (s t:Sp)(w:C):
  Calls f 182 #[sv s,sv t] w λe w'=>e=Rt (sv (bw s t))/\bl w w':=by
 obtain⟨n,lo,hi⟩:=s;obtain⟨b,c,r⟩:=t;cases n with
 |true=>
  go_enter func182,ntmps182;go_wp2
  go_returns
  exact cP
 |false=>
  cases b with
  |true=>
   go_enter func182,ntmps182;go_wp2
   go_returns
   exact cP
  |false=>
   go_enter func182,ntmps182;go_wp2;all_goals go_returns
   all_goals exact⟨kq (by simp[bw]<;>omega),ai⟩

def a1n {lo hi c r:Int}(h:min hi r < max lo c):aS ⟨d,lo,hi⟩ ⟨d,c,r⟩=⟨W5,0,0⟩:=by
 unfold aS;rw[if_pos (by simp only[Bool.false_or];exact decide_eq_true h)]
def Vs {lo hi c r a b:Int}(t:a=max lo c)(y:b=min hi r)(h:a<=b):aS ⟨d,lo,hi⟩ ⟨d,c,r⟩=⟨d,a,b⟩:=by
 subst t y;unfold aS;rw[if_neg (by simp only[Bool.false_or,decide_eq_true_eq];omega)]

def a1E (s t:Sp)(w:C):
  Calls f 197 #[sv s,sv t] w λe w'=>e=Rt (sv (aS s t))/\bl w w':=by
 obtain⟨n,lo,hi⟩:=s;obtain⟨b,c,r⟩:=t;have K:n4 (R (M w)) w (((w.alloc (A #[O n,I Y lo,I Y hi] 89)).alloc (A #[O b,I Y c,I Y r] 89)).alloc (A #[O d,I Y 0,I Y 0] 89)):=ai;rcases Int.lt_or_le lo c with h1|h1<;>rcases Int.lt_or_le r hi with h2|h2<;>cases n<;>cases b
 all_goals
  go_enter func197,ntmps197;go_wp2
  go_quiet (fail)
  go_wp2_with (go_at_call 226;refine(KA _).mono ?_;rintro e w1 ⟨rfl,rfl⟩)
 all_goals go_returns
 all_goals exact⟨kq (by first|rfl|exact meet_n _ _ _ _ _|exact Vs (by omega) (by omega) (by omega)|exact a1n (by omega)),Bo⟩
def a8v (w:World)(b:Nat)(s:Sp):Prop:=(w.cell? ⟨b,0,E⟩=G (O s.n)/\w.cell? ⟨b,1,E⟩=G (I .i64 s.lo)/\w.cell? ⟨b,2,E⟩=G (I .i64 s.hi))/\b < R (M w)

section
variable {s:Sp}{w:C}
def a8v.below{w':C}(h:a8v w b s)(y:n4 B w w')(u:R (M w)<=B):a8v w' b s:=by
 obtain⟨⟨K,D,N⟩,r⟩:=h;refine⟨?_,lL r y.size⟩;rw[y.cell au,y.cell au,y.cell au];exact⟨K,D,N⟩
def a8v.call{w':C}(h:a8v w b s)(y:bl w w'):a8v w' b s:=h.below y (lR _)
def a8v.alloc(h:a8v w b s)(o:Obj):a8v (w.alloc o) b s:=h.below (Below.alloc (bR _ _) (lR _) o) (lR _)
def a8v.drew(h:a8v w b s):a8v w.drew b s:=h
end
def a8v.new(s:Sp):a8v (w.alloc (A #[O s.n,I Y s.lo,I Y s.hi] 89)) (R (M w)) s:=⟨aE,ae⟩
def Thw (w:World)(b:Nat):Prop:=∀j,w.frozen? ⟨b,j,E⟩=false
def Thw.same {w w':C}{b:Nat}(h:Thw w b)(y:w'.heap[b]? =w.heap[b]?):Thw w' b:=λj=>by rw[j4 (a:=⟨b,j,E⟩) y];exact h j
def Thw.own {w:C}{B:Nat}{e:TypeId}{z:Nat}{v:mh}{n:Nat}{xs:List mh}(h:w.ownsRow B e z v n xs){k:Nat}(u:v.ownBlock=G k):Thw w k:=by
 rcases h.2 with⟨rfl,_⟩|⟨g,c,p,rfl,y,H,_⟩
 .cases u
 .cases u;exact λj=>by simp[World.frozen?,H]

def ag(h:p):Hid p:=h

def yv.get {w:C}{ss:oA}{l:List Int}(h:yv w ss l)(k:Nat)(u:k < X l):
  ∃b j,ss=G ⟨b,j,E⟩/\b < R (M w)/\∀k (h:k < X l),w.cell? ⟨b,j+k,E⟩=G (I Y l[k]):=by
 rcases h with rfl|h
 .exact absurd u ae
 .exact h
def yv.call {w w':C}{ss:oA}{l:List Int}(h:yv w ss l)(y:bl w w'):yv w' ss l:=h.below y (lR _)
section
variable {w:C}{ss:oA}{l:List Int}(h:yv w ss l)
def yv.alloc(o:Obj):yv (w.alloc o) ss l:=h.call (Below.alloc (bR _ _) (lR _) o)
def yv.drew:yv w.drew ss l:=h
def yv.drewN(n:Nat):yv (w.drewN n) ss l:=h.call (below_drewN (bR _ _) n)
end
def a2r.get {w:C}{s:oA}{c:lI}(h:a2r w s c)(k:Nat)(u:k < X c):
  ∃b j,s=G ⟨b,j,E⟩/\b < R (M w)/\∀k (h:k < X c),a9b w b (j+k * 6) c[k]:=by
 rcases h with rfl|h
 .exact absurd u ae
 .exact h
def a2r.call {w w':C}{s:oA}{c:lI}(h:a2r w s c)(y:bl w w'):a2r w' s c:=h.below y (lR _)
def a2r.alloc {w:C}{s:oA}{c:lI}(h:a2r w s c)(o:Obj):a2r (w.alloc o) s c:=h.call (Below.alloc (bR _ _) (lR _) o)

abbrev gv (g:Gs)(ss:oA)(cap:Nat):Value:=Ag #[O g.n,O g.sp.n,I .i64 g.sp.lo,I .i64 g.sp.hi,O g.t,O g.f,U ss g.s.length cap]
abbrev pv (V F:Int)(s:oA)(c:lI)(cap:Nat):Value:=Ag #[I .i64 V,I .i64 F,U s c.length cap]

def a7b (w:World)(b o:Nat)(g:Gs)(ss:oA)(cap:Nat):Prop:=
 (w.cell? ⟨b,o,E⟩=G (O g.n)/\w.cell? ⟨b,o+1,E⟩=G (O g.sp.n)/\w.cell? ⟨b,o+2,E⟩=G (I .i64 g.sp.lo)/\w.cell? ⟨b,o+3,E⟩=G (I .i64 g.sp.hi)/\w.cell? ⟨b,o+4,E⟩=G (O g.t)/\w.cell? ⟨b,o+5,E⟩=G (O g.f)/\w.cell? ⟨b,o+6,E⟩=G (U ss (X g.s) cap))/\b < R (M w)
section
variable {w w':C}{b o:Nat}{g:Gs}{ss:oA}{cap:Nat}(h:a7b w b o g ss cap)
def a7b.below(y:n4 B w w')(u:R (M w)<=B):a7b w' b o g ss cap:=by
 obtain⟨⟨K,D,N,T,k,c,e⟩,r⟩:=h;refine⟨⟨?_,?_,?_,?_,?_,?_,?_⟩,lL r y.size⟩<;>rw[y.cell au]<;>assumption
def a7b.call(y:bl w w'):a7b w' b o g ss cap:=h.below y (lR _)
end
section
variable {w:C}{b o:Nat}{g:Gs}{ss:oA}{cap:Nat}(h:a7b w b o g ss cap)
def a7b.alloc(x:Obj):a7b (w.alloc x) b o g ss cap:=h.call (Below.alloc (bR _ _) (lR _) x)
def a7b.drew:a7b w.drew b o g ss cap:=h
end
def a7b.new(g:Gs)(ss:oA)(cap:Nat):a7b (w.alloc (A #[O g.n,O g.sp.n,I Y g.sp.lo,I Y g.sp.hi,O g.t,O g.f,U ss (X g.s) cap] 91)) (R (M w)) 0 g ss cap:=⟨aE,ae⟩

def a7w (w:World)(b:Nat)(V F:Int)(s:oA)(c:lI)(cap:Nat):Prop:=
 (w.cell? ⟨b,0,E⟩=G (I .i64 V)/\w.cell? ⟨b,1,E⟩=G (I .i64 F)/\w.cell? ⟨b,2,E⟩=G (U s (X c) cap))/\b < R (M w)
section
variable {w w':C}{b:Nat}{V F:Int}{s:oA}{c:lI}{cap:Nat}(h:a7w w b V F s c cap)
def a7w.below(y:n4 B w w')(u:R (M w)<=B):a7w w' b V F s c cap:=by
 obtain⟨⟨K,D,N⟩,r⟩:=h;refine⟨⟨?_,?_,?_⟩,lL r y.size⟩<;>rw[y.cell au]<;>assumption
def a7w.call(y:bl w w'):a7w w' b V F s c cap:=h.below y (lR _)
end
def a7w.alloc {w:C}{b:Nat}{V F:Int}{s:oA}{c:lI}{cap:Nat}(h:a7w w b V F s c cap)(x:Obj):a7w (w.alloc x) b V F s c cap:=h.call (Below.alloc (bR _ _) (lR _) x)
def a7w.new(V F:Int)(s:oA)(c:lI)(cap:Nat):a7w (w.alloc (A #[I Y V,I Y F,U s (X c) cap] 24)) (R (M w)) V F s c cap:=⟨aE,ae⟩

def a7r (w:World)(ls:oA)(L:List Gs):Prop:=
 ∀i (h:i < X L),∃b off,ls=G ⟨b,off,E⟩/\∃ss cap,a7b w b (off+i * 7) L[i] ss cap/\yv w ss L[i].s/\X L[i].s<=cap/\cap<=maxLen
section
variable {w w':C}{ls:oA}{L:List Gs}(h:a7r w ls L)
def a7r.below(y:n4 B w w')(u:R (M w)<=B):a7r w' ls L:=by
 intro i hi;obtain⟨b,j,e,p,c,D,N,T,k⟩:=h i hi;exact⟨b,j,e,p,c,D.below y u,N.below y u,T,k⟩
def a7r.call(y:bl w w'):a7r w' ls L:=h.below y (lR _)
end
def a7r.alloc {w:C}{ls:oA}{L:List Gs}(h:a7r w ls L)(o:Obj):a7r (w.alloc o) ls L:=h.call (Below.alloc (bR _ _) (lR _) o)

def a8n (w:World)(ls:oA)(L:List Gs):Prop:=
 ∀i (h:i < X L),∃b off,ls=G ⟨b,off,E⟩/\∃ss cap,a7b w b (off+i * 7) L[i] ss cap
section
variable {w w':C}{ls:oA}{L:List Gs}(h:a8n w ls L)
def a8n.below(y:n4 B w w')(u:R (M w)<=B):a8n w' ls L:=by
 intro i hi;obtain⟨b,j,e,p,c,D⟩:=h i hi;exact⟨b,j,e,p,c,D.below y u⟩
def a8n.call(y:bl w w'):a8n w' ls L:=h.below y (lR _)
end
def a7r.new1(g:Gs)(ss:oA)(b:Nat)(hs:yv w ss g.s)(D:X g.s<=b)(N:b<=maxLen):
  a7r (w.alloc (A #[O g.n,O g.sp.n,I Y g.sp.lo,I Y g.sp.hi,O g.t,O g.f,U ss (X g.s) b] 91)) (G ⟨R (M w),0,E⟩) [g]:=by
 intro i hi;obtain rfl:i=0:=Bs;exact⟨R (M w),0,rfl,ss,b,a7b.new w g ss b,hs.alloc _,D,N⟩

def a8n.new1(g:Gs)(ss:oA)(b:Nat):
  a8n (w.alloc (A #[O g.n,O g.sp.n,I Y g.sp.lo,I Y g.sp.hi,O g.t,O g.f,U ss (X g.s) b] 91)) (G ⟨R (M w),0,E⟩) [g]:=by
 intro i hi;obtain rfl:i=0:=Bs;exact⟨R (M w),0,rfl,ss,b,a7b.new w g ss b⟩

abbrev yV (w:World)(g:Gs)(ss:oA)(gc:Nat)(h:Gs)(st:oA)(hc:Nat):World:=
 w.alloc (A #[O g.n,O g.sp.n,I .i64 g.sp.lo,I .i64 g.sp.hi,O g.t,O g.f,U ss g.s.length gc,O h.n,O h.sp.n,I .i64 h.sp.lo,I .i64 h.sp.hi,O h.t,O h.f,U st h.s.length hc] 91)
section
variable (g:Gs)(ss:oA)(b:Nat)(h:Gs)(c:oA)(j:Nat)
def a7b.two0:a7b (yV w g ss b h c j) (R (M w)) 0 g ss b:=⟨aE,ae⟩
def a7b.two1:a7b (yV w g ss b h c j) (R (M w)) 7 h c j:=⟨aE,ae⟩
def a7r.new2(hs:yv w ss g.s)(D:X g.s<=b)(N:b<=maxLen)(F:yv w c h.s)(T:X h.s<=j)(k:j<=maxLen):
  a7r (yV w g ss b h c j) (G ⟨R (M w),0,E⟩) [g,h]:=by
 intro i hi;by_cases e:i=0
 .subst e;exact⟨R (M w),0,rfl,ss,b,a7b.two0 w g ss b h c j,hs.alloc _,D,N⟩
 .obtain rfl:i=1:=by simp at hi;omega
  exact⟨R (M w),0,rfl,c,j,a7b.two1 w g ss b h c j,F.alloc _,T,k⟩
def a8n.new2:a8n (yV w g ss b h c j) (G ⟨R (M w),0,E⟩) [g,h]:=by
 intro i hi;by_cases e:i=0
 .subst e;exact⟨R (M w),0,rfl,ss,b,a7b.two0 w g ss b h c j⟩
 .obtain rfl:i=1:=by simp at hi;omega
  exact⟨R (M w),0,rfl,c,j,a7b.two1 w g ss b h c j⟩
end
end
section
structure Pic where
 none:Bool
 vq:List Gs
 fq:List (List Gs)

def a7q:Pic:=⟨true,[],[]⟩
def gx:Pic:=⟨false,[],[]⟩
def cj (x:Pic):List Gs:=x.vq++x.fq.flatten
def fD (g h:Gs):Bool:=g.n==h.n&&(@decide _ (g.sp.dq h.sp)&&(g.t==h.t&&(g.f==h.f&&decide (g.s=h.s))))
def sameGs_iff {g h:Gs}:fD g h=W5↔g=h:=by
 obtain⟨a,b,c,i,e⟩:=g;obtain⟨j,k,q,p,K⟩:=h;simp only[fD,x0,beq_iff_eq,decide_eq_true_eq,Gs.mk.injEq]
def dE (g:Gs):Bool:= !fD g a4q
def bW (V F:Int)(c:List Ins)(x:Pic):Bool:=
 if x.none then decide (X x.vq=0)&&decide (X x.fq=0)
 else decide ((X x.vq:Int)=V)&&(decide (X x.fq=X c)&& !(x.fq.any λr=> !decide ((X r:Int)=F)))
def fG (c:List Ins)(p:Gs->Bool):Nat->List (List Gs)->Bool
 |_,[]=>false
 |i,r::l=>(!cJ c i&&r.any p)||fG c p (i+1) l
def aO (V F:Int)(c:List Ins)(x:Pic):Int:=
 if bW V F c x=false then 1 else if cG c (cj x)≠0 then cG c (cj x) else if fG c (λg=> !aq g) 0 x.fq then 4 else 0
def cN (V F:Int)(c:List Ins):List Pic->Int
 |[]=>0
 |x::l=>if aO V F c x=0 then cN V F c l else aO V F c x
def aF (V F:Int)(c:List Ins)(l:List Pic):Int:=if aA V F c=0 then cN V F c l else aA V F c

def dt:Gs:=⟨true,⟨true,0,0⟩,false,false,[]⟩
def bK (V F:Int)(c:List Ins):Pic:=⟨false,j5 V.toNat dt,j5 (X c) (j5 F.toNat a4q)⟩
def aX (j:Gs->Gs->Gs)(a b:List Gs):List Gs:=x3 j a b
def aI (j:Gs->Gs->Gs)(x y:Pic):Pic:=if x.none then y else if y.none then x else⟨false,aX j x.vq y.vq,x3 (aX j) x.fq y.fq⟩
def ix (a b:List Gs):Bool:=(x3 dX a b).all id
def bu (x y:Pic):Bool:=x.none||(!y.none&&(ix x.vq y.vq&&(x3 ix x.fq y.fq).all id))

def AB {c:List Ins}:∀{l:List Gs},cG c l=0->∀g∈l,aH c g=0
 |[],_,g,H=>by simp at H
 |a::r,h,g,H=>by
  unfold cG at h;split at h
  .rename_i h1
   rcases j0.1 H with rfl|H
   .exact h1
   .exact AB h g H
  .contradiction
def a0H {c:List Ins}{g:Gs}(h:aH c g=0):dE g= !aq g:=by
 have hs:cY g.sp=0:=by
  unfold aH at h;split at h
  .exact h
  .rename_i h1;simpa using h1
 have e:=ckSp_ok.1 hs;obtain⟨n,⟨i,lo,hi⟩,t,f,s⟩:=g;have T:=e.2.2.1;simp only at T;unfold dE aq aT fD a4q;cases i with
 |false=>simp
 |true=>
  obtain⟨Z,b⟩:=T rfl;subst Z b;cases n<;>cases t<;>cases f<;>cases s<;>simp
def yG {c:List Ins}{p q:Gs->Bool}:∀{l:List (List Gs)} {i:Nat},(∀r∈l,∀g∈r,p g=q g)->fG c p i l=fG c q i l
 |[],_,_=>rfl
 |r::l,i,h=>by
  unfold fG;rw[yG (l:=l) λj b=>h j (J6 _ b)];have:r.any p=r.any q:=by
   have D:=h r J7;clear h;induction r with
   |nil=>rfl
   |cons a r ih=>
    simp only[List.any_cons];rw[D a J7,ih λg H=>D g (J6 _ H)]
  rw[this]
def Yf(F:Int)(c:List Ins)(x:Pic):aO V F c x=if bW V F c x=d then 1 else if cG c (cj x)≠0 then cG c (cj x) else if fG c dE 0 x.fq then 4 else 0:=by
 unfold aO;by_cases D:bW V F c x=d
 .rw[if_pos D,if_pos D]
 rw[if_neg D,if_neg D];by_cases N:cG c (cj x)≠0
 .rw[if_pos N,if_pos N]
 rw[if_neg N,if_neg N];have T:cG c (cj x)=0:=by simpa using N
 rw[yG (p:=dE) (q:=λg=> !aq g) λr L g H=>a0H (AB T g ?_)];unfold cj;rw[J8,List.mem_flatten];exact .inr ⟨r,L,H⟩
end
section
open Go
section
variable {P:Program} (w:World)
def KF (t ty:TypeId)(base:Nat)(e:TypeId)(i:TypeInfo)(z:mh)(size k:Nat)(F:P.underlying t=G (.slice e))(hi:P.info? e=G i)(r:i.zero=G z)
  (y:i.size=size)(ah:i.bytes=k)(ab:z.cells.size=size)(H:0 < size)
  (v:mh)(n:Nat)(xs:List mh)(Z:w.ownsRow base e size v n xs)
  (h:Option Addr)(m c:Nat)(news:List mh)(b:X news=m * size)(x:h=none->m=0)(V:∀ad,h=G ad->∀j u,news[j]? =G u->w.cell? (ad.add j)=G u)(D:∀u∈news,u.oneCell'=W5)
  (q:n+m<=maxLen)(p:(n+m) * k<=140737488355328)(W:base<=R (M w)):
  ∃K w',(Builtin.append_ #[t,t] ty #[v,U h m c]).run P w=.ok K w'/\w'.ownsRow base e size K (n+m) (xs++news)/\w.grownBy w' v.ownBlock/\(K.ownBlock=v.ownBlock\/K.ownBlock=G (R (M w))):=by
 cases h with
 |some ad=>
  obtain⟨K,w',L,N,T,_,h5⟩:=run_append_own_at (P:=P) w base t ty e i z size k F hi r y ah ab H v n xs Z ad m c news b (V ad rfl) D q p W;exact⟨K,w',L,N,T,h5⟩
 |none=>
  obtain rfl:=x rfl;obtain rfl:news=[]:=List.eq_nil_of_length_eq_zero (by simpa using b);refine⟨v,w,?_,by simpa using Z,⟨rfl,rfl,rfl,lR _,λ_ _ _=>rfl⟩,.inl rfl⟩;rcases Z.2 with⟨rfl,rfl⟩|⟨g,al,ak,rfl,_,_,af,_⟩
  .simp[Builtin.append_,run_underlying F,sizeOf,typeInfo,hi,Builtin.lenOf,Builtin.firstCells]
  .simp[Builtin.append_,run_underlying F,sizeOf,typeInfo,hi,Builtin.lenOf,Builtin.firstCells,af,storeCells]

def yF {o:Oper}{a:Act}{K:Act->C->Prop}{Q:Exit->Act->C->Prop}(s x:Operand)(t:TypeId)
  (H:o.op=.call {callee:=.builtin .append,args:=#[s,x],argTypes:=#[t,t]})
  (base:Nat)(e:TypeId)(i:TypeInfo)(z:mh)(size k:Nat)(F:P.underlying t=G (.slice e))(hi:P.info? e=G i)(r:i.zero=G z)
  (y:i.size=size)(ak:i.bytes=k)(ah:z.cells.size=size)(af:0 < size)
  (v:mh)(n:Nat)(xs:List mh)(hs:a.eval s=v)(Z:w.ownsRow base e size v n xs)
  (ao:Option Addr)(m c:Nat)(news:List mh)(hx:a.eval x=U ao m c)(b:X news=m * size)(ab:ao=none->m=0)(V:∀ad,ao=G ad->∀j u,news[j]? =G u->w.cell? (ad.add j)=G u)(D:∀u∈news,u.oneCell'=W5)
  (q:n+m<=maxLen)(p:(n+m) * k<=140737488355328)(W:base<=R (M w))
  (h:∀v' w',w'.ownsRow base e size v' (n+m) (xs++news)->w.grownBy w' v.ownBlock->(v'.ownBlock=v.ownBlock\/v'.ownBlock=G (R (M w)))->K (a.put o.dst v') w'):o.wp P a w K Q:=by
 obtain⟨v',w',L,N,T,h4⟩:=KF (P:=P) w t o.type base e i z size k F hi r y ak ah af v n xs Z ao m c news b ab V D q p W;unfold Oper.wp execOp;simp only[H,resolve,invoke,builtin,Sem.run_bind,Sem.run_pure,Result.andThen_ok,List.map_toArray,j9,q5,hs,hx,L];exact h v' w' N T h4

def bn {xg:Array Oper}{rest:List Oper}{o:Oper}{a:Act}{Q:Exit->Act->C->Prop}(al:o.guard=E)(s x:Operand)(t:TypeId)
  (H:o.op=.call {callee:=.builtin .append,args:=#[s,x],argTypes:=#[t,t]})
  (af:Nat)(e:TypeId)(i:TypeInfo)(z:mh)(ab k:Nat)(F:P.underlying t=G (.slice e))(hi:P.info? e=G i)(r:i.zero=G z)
  (y:i.size=ab)(am:i.bytes=k)(L:z.cells.size=ab)(ak:0 < ab)
  (v:mh)(n:Nat)(xs:List mh)(hs:a.eval s=v)(Z:w.ownsRow af e ab v n xs)
  (ao:Option Addr)(m c:Nat)(news:List mh)(hx:a.eval x=U ao m c)(b:X news=m * ab)(ah:ao=none->m=0)(V:∀ad,ao=G ad->∀j u,news[j]? =G u->w.cell? (ad.add j)=G u)(D:∀u∈news,u.oneCell'=W5)
  (q:n+m<=maxLen)(p:(n+m) * k<=140737488355328)(W:af<=R (M w))
  (h:∀K w',w'.ownsRow af e ab K (n+m) (xs++news)->w.grownBy w' v.ownBlock->(K.ownBlock=v.ownBlock\/K.ownBlock=G (R (M w)))->wpList P xg Q rest (a.put o.dst K) w'):wpList P xg Q (o::rest) a w:=
 wpList_plain al λ_ hK=>yF w s x t H af e i z ab k F hi r y am L ak v n xs hs Z ao m c news hx b ah V D q p W λK w' N T h4=>hK _ _ (h K w' N T h4)

def fe {xg:Array Oper}{o:Oper}{a:Act}{K:Act->C->Prop}{Q:Exit->Act->C->Prop}{E:Prop}(ah:o.guard=nO)(s x:Operand)(t:TypeId)
  (H:o.op=.call {callee:=.builtin .append,args:=#[s,x],argTypes:=#[t,t]})
  (base:Nat)(e:TypeId)(i:TypeInfo)(z:mh)(size k:Nat)(F:P.underlying t=G (.slice e))(hi:P.info? e=G i)(r:i.zero=G z)
  (y:i.size=size)(N:i.bytes=k)(L:z.cells.size=size)(af:0 < size)
  (v:mh)(n:Nat)(xs:List mh)(hs:a.eval s=v)(Z:w.ownsRow base e size v n xs)
  (ao:Option Addr)(m c:Nat)(news:List mh)(hx:a.eval x=U ao m c)(b:X news=m * size)(ab:ao=none->m=0)(V:∀T,ao=G T->∀j u,news[j]? =G u->w.cell? (T.add j)=G u)(D:∀u∈news,u.oneCell'=W5)
  (q:n+m<=maxLen)(p:(n+m) * k<=140737488355328)(W:base<=R (M w))
  (h:∀v' w',w'.ownsRow base e size v' (n+m) (xs++news)->w.grownBy w' v.ownBlock->(v'.ownBlock=v.ownBlock\/v'.ownBlock=G (R (M w)))->K (a.put o.dst v') w'):
  if Region.wanted o (yielded xg a.tmps)=W5 then Oper.wp P o a w K Q else E:=by
 have hw:Region.wanted o (yielded xg a.tmps)=true:=by simp[Region.wanted,ah]
 rw[if_pos hw];exact yF w s x t H base e i z size k F hi r y N L af v n xs hs Z ao m c news hx b ab V D q p W h
end
end
section
open Go.RowKit
def Tryz.info_int:(Tryz.prog.info? 3).map (λi=>(i.zero,i.size,i.bytes))=G (G (I Y 0),1,8):=ac
end
section
open Go
section
variable {P:Program} {xg:Array Oper} {Q:Exit->Act->World->Prop} {md:Region.Mode} {S:World->Prop} {zs:List Nat}

def cH (P:Program)(md:Region.Mode)(xg:Array Oper)(Q:Exit->Act->World->Prop)(S:World->Prop)(zs:List Nat):Nat->Array Bool->Act->World->Prop
 |0,xI,a,w=>Region.ready md xg xI=[]/\Q .normal a w
 |zC+1,xI,a,w=>
  (Region.ready md xg xI=[]->Q .normal a w)/\
  ∀i∈Region.ready md xg xI,wpOp P xg Q i (λa' w'=>(i∉zs->S w->S w')/\cH P md xg Q S zs zC (xI.setIfInBounds i true) a' w') a w

def yi:∀(q:Nat) (p:Array Bool) (a:Act) (w:C),cH P md xg Q S zs q p a w->wpAny P md xg Q q p a w
 |0,_,_,_,h=>h
 |q+1,_,_,_,h=>⟨h.1,λi hi=>wpOp_mono (λj w' z=>yi q _ j w' z.2) (h.2 i hi)⟩

def Kv (md:Region.Mode)(xg:Array Oper)(i:Nat):Nat->List Nat->List Nat
 |0,ws=>ws
 |n+1,ws=>Kv md xg i n ((List.range xg.size).filter λx=>((xg[x]?).map λo=>o.after.any λe=>Region.binds md e&&(e.on==i||ws.contains e.on)).getD false)
def UD (md:Region.Mode)(xg:Array Oper)(xI:Array Bool)(i:Nat)(ws:List Nat):Bool:=
 ws.all λx=> !(xI.getD x true)&&((xg[x]?).map λo=>o.after.any λe=>Region.binds md e&&(e.on==i||ws.contains e.on)).getD false
def zOk (md:Region.Mode)(xg:Array Oper)(xI:Array Bool)(i:Nat)(zs:List Nat):Bool:=
 !zs.contains i&&(let ws:=Kv md xg i 8 [];UD md xg xI i ws&&zs.all λz=>xI.getD z true||ws.contains z)

section
variable {i:Nat}{F:Oper}{v:mh}
def R9(hi:xg[i]? =G F)(ap:∀(j:Nat) (o:Oper) cs b,xg[j]? =G o->o.op≠.select cs b)(t:∀c a w,Q (.panic c) (a.put F.dst v) w->Q (.panic c) a w)(a8:i∉zs)(ws:List Nat)(a4:∀x∈ws,∀o,xg[x]? =G o->∃e∈o.after,Region.binds md e=W5/\(e.on=i\/e.on∈ws)):
  ∀(q:Nat) (p:Array Bool) (a:Act) (w:C),
   (∀j V,xg[j]? =G V->j≠i->p.getD j W5=d->(∀e∈V.after,Region.binds md e=W5->e.on≠i)->F.apart xg V=W5)->
   (∀x∈ws,p.getD x W5=d)->(∀z∈zs,p.getD z W5=W5\/z∈ws)->
   i∈Region.ready md xg p->YieldsIf P xg S F v a->S w->
   cH P md xg Q S zs q (p.setIfInBounds i W5) (a.put F.dst v) w->cH P md xg Q S zs (q+1) p a w:=by
 intro q;induction q with
 |zero=>
  intro p a w _ _ _ L hy W H;refine⟨λh=>(by rw[h] at L;cases L),λj hj=> ?_⟩;by_cases ab:j=i
  .subst ab;exact hy.wpOp hi W ⟨λ_ _=>W,H⟩
  .have:=ready_mono hj ab
   rw[H.1] at this;cases this
 |succ q ih=>
  intro p a w ah a2 ay L hy W H;refine⟨λh=>(by rw[h] at L;cases L),λj hj=> ?_⟩;by_cases ab:j=i
  .subst ab;exact hy.wpOp hi W ⟨λ_ _=>W,H⟩
  .have D:=H.2 j (ready_mono hj ab)
   obtain⟨ad,V,am,ao⟩:=mem_ready.1 hj;have K:=(mem_ready.1 L).1;have hf:∀x,p.getD x W5=d->p.getD x d=false:=λx Z=>by
    rcases Nat.lt_or_ge x p.size with h'|h'
    .simp[h'] at Z |-;exact Z
    .simp[Array.getElem?_eq_none h'] at Z
   have a3:j∉ws:=λar=>by
    obtain⟨e,he,y,ak⟩:=a4 j ar V am;have N:=ao e he y;rcases ak with ak|ak
    .rw[ak,hf i K] at N;cases N
    .rw[hf _ (a2 _ ak)] at N;cases N
   have az:j∉zs:=λar=>by
    rcases ay j ar with h|h
    .rw[h] at ad;cases ad
    .exact a3 h
   have ax:∀e∈V.after,Region.binds md e=W5->e.on≠i:=λe he y a5=>by
    have N:=ao e he y;rw[a5,hf i K] at N;cases N
   have N:=wpOp_putIf am (ah j V am ab ad ax) (λcs b=>ap i F cs b hi) (λcs b=>ap j V cs b am) t hy D;have a1:∀k,(p.setIfInBounds j W5).getD k W5=d->p.getD k W5=false:=λk u=>by
    by_cases af:j=k
    .subst af;exact ad
    .rw[getD_set_ne W5 af] at u;exact u
   have al:∀k ok,xg[k]? =G ok->k≠i->(p.setIfInBounds j W5).getD k W5=d->
     (∀e∈ok.after,Region.binds md e=W5->e.on≠i)->F.apart xg ok=true:=λk ok u a7 a0 a6=>ah k ok u a7 (a1 k a0) a6
   refine wpOp_mono (λa' w' T=>⟨T.2.1,ih (p.setIfInBounds j W5) a' w' al (λx Z=> ?_) (λz r=> ?_) (ready_mono L (Ne.symm ab)) T.1 (T.2.1 az W) ?_⟩) N
   .rw[getD_set_ne W5 (λe=>a3 (by rw[e];exact Z))];exact a2 x Z
   .rcases ay z r with h|h
    .left
     by_cases af:j=z
     .exact absurd (af ▸ r) az
     .rw[getD_set_ne W5 af];exact h
    .exact .inr h
   .rw[Array.setIfInBounds_comm _ _ ab]
    exact T.2.2

def SJ(hi:xg[i]? =G F)(r:∀(j:Nat) (o:Oper) cs b,xg[j]? =G o->o.op≠.select cs b)(t:∀c a w,Q (.panic c) (a.put F.dst v) w->Q (.panic c) a w):
  ∀(q:Nat) (p:Array Bool) (a:Act) (w:C),
   (∀j V,xg[j]? =G V->j≠i->p.getD j W5=d->(∀e∈V.after,Region.binds md e=W5->e.on≠i)->F.apart xg V=W5)->
   i∈Region.ready md xg p->YieldsIf P xg (λ_=>True) F v a->
   cH P md xg Q S zs q (p.setIfInBounds i W5) (a.put F.dst v) w->cH P md xg Q S zs (q+1) p a w:=by
 intro q;induction q with
 |zero=>
  intro p a w _ L hy H;refine⟨λh=>(by rw[h] at L;cases L),λj hj=> ?_⟩;by_cases W:j=i
  .subst W;exact hy.wpOp hi trivial ⟨λ_ h=>h,H⟩
  .have:=ready_mono hj W
   rw[H.1] at this;cases this
 |succ q ih=>
  intro p a w ab L hy H;refine⟨λh=>(by rw[h] at L;cases L),λj hj=> ?_⟩;by_cases W:j=i
  .subst W;exact hy.wpOp hi trivial ⟨λ_ h=>h,H⟩
  .have D:=H.2 j (ready_mono hj W)
   obtain⟨af,V,ah,ap⟩:=mem_ready.1 hj;have K:=(mem_ready.1 L).1;have hf:∀x,p.getD x W5=d->p.getD x d=false:=λx Z=>by
    rcases Nat.lt_or_ge x p.size with z|z
    .simp[z] at Z |-;exact Z
    .simp[Array.getElem?_eq_none z] at Z
   have ak:∀e∈V.after,Region.binds md e=W5->e.on≠i:=λe he y ar=>by
    have N:=ap e he y;rw[ar,hf i K] at N;cases N
   have N:=wpOp_putIf ah (ab j V ah W af ak) (λcs b=>r i F cs b hi) (λcs b=>r j V cs b ah) t hy D;have am:∀k,(p.setIfInBounds j W5).getD k W5=d->p.getD k W5=false:=λk u=>by
    by_cases ao:j=k
    .subst ao;exact af
    .rw[getD_set_ne W5 ao] at u;exact u
   have ad:∀k ok,xg[k]? =G ok->k≠i->(p.setIfInBounds j W5).getD k W5=d->
     (∀e∈ok.after,Region.binds md e=W5->e.on≠i)->F.apart xg ok=true:=λk ok u ay al ax=>ab k ok u ay (am k al) ax
   refine wpOp_mono (λa' w' T=>⟨T.2.1,ih (p.setIfInBounds j W5) a' w' ad (ready_mono L (Ne.symm W)) T.1 ?_⟩) N;rw[Array.setIfInBounds_comm _ _ W];exact T.2.2
def Td{q:Nat}{p:Array Bool}{a:Act}{w:C}(hi:xg[i]? =G F)(hs:Region.noSelect xg=W5)(D:Region.free md xg p i=W5)(L:(Region.ready md xg p).contains i=W5)(t:∀c a w,Q (.panic c) (a.put F.dst v) w->Q (.panic c) a w)(e:YieldsIf P xg (λ_=>True) F v a)(h:cH P md xg Q S zs q (p.setIfInBounds i W5) (a.put F.dst v) w):cH P md xg Q S zs (q+1) p a w:=
 SJ hi (Region.noSelect_spec hs) t q p a w (Region.free_spec hi D) (by simpa using L) e h

def nH{q:Nat}{p:Array Bool}{a:Act}{w:C}(hi:xg[i]? =G F)(hs:Region.noSelect xg=W5)(D:(Region.free md xg p i&&zOk md xg p i zs)=W5)(L:(Region.ready md xg p).contains i=W5)(t:∀c a w,Q (.panic c) (a.put F.dst v) w->Q (.panic c) a w)(e:YieldsIf P xg S F v a)(W:S w)(h:cH P md xg Q S zs q (p.setIfInBounds i W5) (a.put F.dst v) w):cH P md xg Q S zs (q+1) p a w:=by
 rw[x0] at D;obtain⟨D,r⟩:=D;simp only[zOk,x0,UD,List.all_eq_true,Bool.not_eq_true',Bool.or_eq_true] at r;obtain⟨K,j,N⟩:=r;refine R9 hi (Region.noSelect_spec hs) t (by simpa using K) (Kv md xg i 8 []) (λx Z o H=> ?_) q p a w (Region.free_spec hi D) (λx Z=>(j x Z).1) (λz r=> ?_) (by simpa using L) e W h
 .have:=(j x Z).2
  rw[H] at this;simp only[Option.map_some,Option.getD_some,Array.any_eq_true,x0,Bool.or_eq_true,beq_iff_eq] at this;obtain⟨k,u,y,b⟩:=this;exact⟨_,Array.getElem_mem u,y,b.imp id (by simp)⟩
 .rcases N z r with h|h
  .exact .inl h
  .exact .inr (by simpa using h)
end
def aB {p:Array Bool}{a:Act}{w:C}(L:Region.ready md xg p=[])(h:Q .normal a w):
  ∀q,cH P md xg Q S zs q p a w
 |0=>⟨L,h⟩
 |_+1=>⟨λ_=>h,by rw[L];simp⟩

def av {i:Nat}{o:Oper}{q:Nat}{p:Array Bool}{a:Act}{w:C}(H:xg[i]? =G o)(L:Region.ready md xg p=[i])
  (h:∀b:Act->C->Prop,Shut (∀a w,S w->(S w->cH P md xg Q S zs q (p.setIfInBounds i W5) a w)->b a w)->if Region.wanted o (yielded xg a.tmps)=W5 then Oper.wp P o a w b Q else b (a.put o.dst undef) w):
  cH P md xg Q S zs (q+1) p a w:=by
 refine⟨λK=>(by rw[L] at K;cases K),λj T=> ?_⟩;rw[L] at T;obtain rfl:j=i:=by simpa using T
 exact wpOp_step H (λb x=>h b (λa w W t=>x a w ⟨λ_ _=>W,t W⟩))
def wN {i j:Nat}{F V:Oper}{q:Nat}{p:Array Bool}{a:Act}{w:C}(e:xg[i]? =G F)(c:xg[j]? =G V)(L:Region.ready md xg p=[i,j])
  (h:∀b:Act->C->Prop,Shut (∀a w,S w->(S w->cH P md xg Q S zs q (p.setIfInBounds i W5) a w)->b a w)->if Region.wanted F (yielded xg a.tmps)=W5 then Oper.wp P F a w b Q else b (a.put F.dst undef) w)
  (z:∀b:Act->C->Prop,Shut (∀a w,S w->(S w->cH P md xg Q S zs q (p.setIfInBounds j W5) a w)->b a w)->if Region.wanted V (yielded xg a.tmps)=W5 then Oper.wp P V a w b Q else b (a.put V.dst undef) w):
  cH P md xg Q S zs (q+1) p a w:=by
 refine⟨λK=>(by rw[L] at K;cases K),λk u=> ?_⟩;rw[L] at u;rcases j0.1 u with rfl|u
 .exact wpOp_step e (λb x=>h b (λa w W t=>x a w ⟨λ_ _=>W,t W⟩))
 .obtain rfl:k=j:=by simpa using u
  exact wpOp_step c (λb x=>z b (λa w W t=>x a w ⟨λ_ _=>W,t W⟩))
def IM {o:Oper}{a:Act}{K:Act->kl->Prop}{w:kl}{E:Prop}(H:o.guard=nO)(l c:Operand)(t:TypeId)(h:o.op=Op.makeSlice t l c)
  (base:Nat)(e:TypeId)(i:TypeInfo)(z:mh)(size:Nat)(D:P.underlying t=G (.slice e))(N:P.info? e=G i)(T:i.zero=G z)(k:i.size=size)
  (p q:IntKind)(L C:Int)(n:Nat)(b:a.eval l=.int p L)(j:a.eval c=.int q C)(F:L=(n:Int))(u:C=(n:Int))(v:i.bytes * n<=281474976710656)(y:n<=maxLen)(r:base<=R (M w))
  (x:∀w',w'.ownsRow base e size (U (G ⟨R (M w),0,nO⟩) n n) n (madeCells z.cells (n * size)).toList->w.grownBy w' none->K (a.put o.dst (U (G ⟨R (M w),0,nO⟩) n n)) w'):
  if Region.wanted o (yielded xg a.tmps)=W5 then Oper.wp P o a w K Q else E:=by
 have Z:Region.wanted o (yielded xg a.tmps)=true:=by simp[Region.wanted,H]
 rw[if_pos Z];obtain⟨w',ab,W,V⟩:=run_make_full (P:=P) w base t e i z size D N T k p q n v y r;subst F;subst u;unfold Oper.wp;simp[execOp,h,b,j,ab,Result.andThen];exact x w' W V
def aM {i:Nat}{o:Oper}{q:Nat}{p:Array Bool}{a:Act}{w:C}(H:xg[i]? =G o)(L:Region.ready md xg p=[i])(r:zs.contains i=W5)
  (h:∀b:Act->C->Prop,Shut (∀a w,cH P md xg Q S zs q (p.setIfInBounds i W5) a w->b a w)->if Region.wanted o (yielded xg a.tmps)=W5 then Oper.wp P o a w b Q else b (a.put o.dst undef) w):
  cH P md xg Q S zs (q+1) p a w:=by
 refine⟨λK=>(by rw[L] at K;cases K),λj T=> ?_⟩;rw[L] at T;obtain rfl:j=i:=by simpa using T
 exact wpOp_step H (λb x=>h b (λa w t=>x a w ⟨λu=>absurd (by simpa using r) u,t⟩))

section
variable {id:Nat}{a:Act}{w:C}
def aC(zs:List Nat)(z:P.follows .mixedOrders=W5)(W:S w.drew)(h:S w.drew->cH P .any xg Q S zs xg.size (Array.replicate xg.size d) a w.drew):(Code.region id xg W5).wp P Q a w:=
 wp_region_any z (yi _ _ _ _ (h W))
def XK{D:C->Prop}(zs:List Nat)(z:P.follows .mixedOrders=W5)(K:∀x,D x->S x)(W:D w.drew)(h:S w.drew->cH P .any xg Q S zs xg.size (Array.replicate xg.size d) a w.drew):(Code.region id xg W5).wp P Q a w:=aC zs z (K _ W) h
def XL{D:C->Prop}(z:P.follows .mixedOrders=W5)(K:∀x,D x->S x)(W:D w.drew)(h:S w.drew->wpAnyH P .any xg Q S xg.size (Array.replicate xg.size d) a w.drew):(Code.region id xg W5).wp P Q a w:=wp_region_held_drew z (K _ W) h
end
end
end
section
open Go.RowKit Go
def dH (fn:FuncId)(tmps:Array Value)(ps:Array Tmp)(assign body:Code)(D:Nat)(st:LoopState)(pe:Option Code):Loop:={state:=st,pending:=pe,fn:=fn,tmps:=tmps,params:=ps,assign:=assign,body:=body,defers:=D}
structure a7h (W:World) (l D:Nat) (r:Loop):Prop where
 lp:W.heap[l]? =G (.loop r)
 dfr:W.heap[D]? =G (.deferred (G []))
def a7h.below{i:C}{l D:Nat}{r:Loop}(h:a7h W l D r)(y:n4 (R (M W)) W i):a7h i l D r:=⟨(y.block l (z6.1 h.lp).1).trans h.lp,(y.block D (z6.1 h.dfr).1).trans h.dfr⟩
section
variable {P:Program} {n:Nat} {fn:FuncId} {g:Operand} {ps:Array Tmp} {assign body:Code} {Q:Exit->Act->World->Prop} {a:Act} {w:World}
def H7 {gf:Nat}{lb:Array mh}(H:a.eval g=.func (.func gf) #[] lb)(t:∀args w,(callFunc gf args).run P w=.ok (.enter gf args) w)
  (p:Nat->Nat->Loop->C->Prop)(q:Nat->Nat->Loop->Code->C->Prop)
  (hit:∀fn k,a7h k (R (M w)+1) (R (M w)) (dH fn a.tmps ps assign body (R (M w)) .ready E)->n4 (R (M w)) w k->CallsIn Fence.wide (n - 1) P gf (#[.func (.yield (R (M w)+1)) #[] #[]]++lb) k λe i=>(∃v,e=Rt v)/\((a7h i (R (M w)+1) (R (M w)) (dH fn a.tmps ps assign body (R (M w)) .ready E)/\p (R (M w)+1) (R (M w)) (dH fn a.tmps ps assign body (R (M w)) .ready E) i)\/∃c,a7h i (R (M w)+1) (R (M w)) (dH fn a.tmps ps assign body (R (M w)) .done (G c))/\q (R (M w)+1) (R (M w)) (dH fn a.tmps ps assign body (R (M w)) .done (G c)) c i))
  (hdone:∀r W,a7h W (R (M w)+1) (R (M w)) r->p (R (M w)+1) (R (M w)) r W->∀j,Q .normal {a with defers:={target:=.collected (R (M w)),args:=#[]}::a.defers} (W.putObj (R (M w)+1) j))
  (hstop:∀r c W,a7h W (R (M w)+1) (R (M w)) r->q (R (M w)+1) (R (M w)) r c W->∀j,c.wpIn Fence.wide n P Q {a with defers:={target:=.collected (R (M w)),args:=#[]}::a.defers} (W.putObj (R (M w)+1) j)):
  (Code.rangeFunc g ps assign body).wpIn Fence.wide n P Q a w:=by
 refine wpIn_rangeFunc λfn _=> ?_;have hs:R (M (w.alloc (.deferred (G []))))=R (M w)+1:=zA _ _;obtain⟨k,u⟩:∃k,k=(w.alloc (.deferred (G []))).alloc (.loop (dH fn a.tmps ps assign body (R (M w)) .ready E)):=⟨_,rfl⟩;have y:n4 (R (M w)) w k:=by rw[u];exact((bR _ w).alloc (lR _) _).alloc (by rw[hs];omega) _
 have D:a7h k (R (M w)+1) (R (M w)) (dH fn a.tmps ps assign body (R (M w)) .ready E):=by
  rw[u];refine⟨?_,(Below.heap_alloc _ _ _ (by rw[hs];omega)).trans (Q0 w _)⟩;have:=Q0 (w.alloc (.deferred (G []))) (.loop (dH fn a.tmps ps assign body (R (M w)) .ready E));rwa [hs] at this
 refine⟨R (M w)+1,[{target:=.collected (R (M w)),args:=#[]}],k,{target:=.fn (.func gf) lb,args:=#[.func (.yield (R (M w)+1)) #[] #[]]},k,gf,#[.func (.yield (R (M w)+1)) #[] #[]]++lb,k,?_,?_,λ_ _=>trivial,?_,λh=>(by cases h),?_⟩
 .rw[u]
  exact run_enterLoop_outer _ _ _ _ _
 .simp only[resolve,H]
  simp[go_sem]
 .simp[invoke,go_sem,t]
 .refine(hit fn _ D y).mono ?_
  rintro e i ⟨⟨v,rfl⟩,⟨b,T⟩|⟨c,b,T⟩⟩
  .exact⟨E,_,run_endLoop b.lp (by simp[dH]),hdone _ _ b T _⟩
  .exact⟨G c,_,run_endLoop b.lp (by simp[dH]),hstop _ c _ b T _⟩
def RG {l D m:Nat}{args:Array mh}{tmps:Array mh}{W:C}{R:Ending->C->Prop}(b:a7h W l D (dH fn tmps ps assign body D .ready E))(r:args.size=ps.size)
  (h:assign.wpIn (Fence.wide.inRound l) m P (Exit.then (λa₁ W₁=>a7h W₁ l D (dH fn tmps ps assign body D .ready E)/\body.wpIn (Fence.wide.inRound l) m P (λe _ W₃=>a7h W₃ l D (dH fn tmps ps assign body D .busy E)/\(match e with
    |.normal=>R (Rt (O W5)) (W₃.putObj l (.loop (dH fn tmps ps assign body D .ready E)))
    |.ret=>R (Rt (O d)) (W₃.putObj l (.loop (dH fn tmps ps assign body D .done (G .ret))))
    |.exit i=>R (Rt (O d)) (W₃.putObj l (.loop (dH fn tmps ps assign body D .done (G (.exit i)))))
    |_=>False)) a₁ (W₁.putObj l (.loop (dH fn tmps ps assign body D .busy E)))) (λ_ _ _=>False)) {tmps:=(ps.zip args).foldl (λt (p,v)=>t.setIfInBounds p v) tmps,defers:=[]} W):
  YieldAt Fence.wide m P l args W R:=by
 refine⟨fn,_,assign,body,run_yield b.lp r,roundIn_of_wpIn trivial (wpIn_mono h ?_)⟩;intro e x k q;cases e with
 |normal=>
  obtain⟨j,y⟩:=q;refine⟨_,run_beginRound j.lp rfl,wpIn_mono y ?_⟩;intro e u z q3;obtain⟨c,q3⟩:=q3;cases e with
  |normal=>exact⟨_,_,run_endRound E c.lp,q3⟩
  |ret=>exact⟨_,_,run_endRound (G .ret) c.lp,q3⟩
  |exit i=>exact⟨_,_,run_endRound (G (.exit i)) c.lp,q3⟩
  |goto t=>exact q3.elim
  |panic ch=>exact q3.elim
  |outgrown=>exact q3.elim
 |ret=>exact q
 |exit i=>exact q
 |goto t=>exact q
 |panic ch=>exact q
 |outgrown=>exact q
end
end
section
open Go.RowKit
section
variable {w w':World} {B m:Nat} {s:St} {vv tv lv:Value} {fv:List Value}

def rN (w:C)(g j c:Nat)(u b:mh)(k:Nat)(h:k≠g):((w.setCell ⟨g,j,E⟩ u).setCell ⟨g,c,E⟩ b).heap[k]? =w.heap[k]? :=by
 rw[hSe _ _ _ _ h,hSe _ _ _ _ h]

section
variable (h:a7a w B m s vv tv lv fv)
def a7a.vars_apart{g:Nat}(H:vv.ownBlock=G g):∀k,G k∈(G m::tv.ownBlock::lv.ownBlock::fv.map j1)->k≠g:=by
 have t:=h.apart;simp only[x4,j0] at t;obtain⟨D,N,_⟩:=t;intro k u e;subst e;rcases j0.1 u with u|u
 .cases u
  exact D _ (.inl rfl) _ rfl H
 .exact N (G k) (by simpa[or_assoc] using u) k H rfl

def a7a.m_apart:∀k,G k∈(vv.ownBlock::tv.ownBlock::lv.ownBlock::fv.map j1)->k≠m:=by
 have t:=h.apart;simp only[x4] at t;intro k u e;subst e;exact t.1 (G k) u k rfl rfl
end
def CU {e:TypeId}{z:Nat}{a:oA}{n n' cap:Nat}{xs:List mh}(h:w.ownsRow B e z (U a n cap) n' xs):n=n':=by
 rcases h.2 with⟨T,u⟩|⟨g,c,p,T,_⟩
 .cases T;exact u.symm
 .cases T;rfl

def a7a.put {g n cap:Nat}(h:a7a w B m s (U (G ⟨g,0,E⟩) n cap) tv lv fv)(i:Nat)(hi:i < X s.vq)(v:Val):
  a7a ((w.setCell ⟨g,i * 2,E⟩ (I Y v.k)).setCell ⟨g,i * 2+1,E⟩ (I Y v.n)) B m {s with vq:=s.vq.set i v} (U (G ⟨g,0,E⟩) n cap) tv lv fv:=by
 have b:=h.vars_apart (g:=g) rfl;have y:=rN w g (i * 2) (i * 2+1) (I Y v.k) (I Y v.n);have z:=y m (b m ae);have c:∀j,((w.setCell ⟨g,i * 2,E⟩ (I Y v.k)).setCell ⟨g,i * 2+1,E⟩ (I Y v.n)).cell? ⟨m,j,E⟩=w.cell? ⟨m,j,E⟩:=λj=>j3 (a:=⟨m,j,E⟩) z;have L:∀j,((w.setCell ⟨g,i * 2,E⟩ (I Y v.k)).setCell ⟨g,i * 2+1,E⟩ (I Y v.n)).frozen? ⟨m,j,E⟩=w.frozen? ⟨m,j,E⟩:=λj=>j4 (a:=⟨m,j,E⟩) z;have u:=CU h.vq;have hv0:w.ownsRow B 82 2 (U (G ⟨g,0,E⟩) n cap) n (cw s.vq):=by have:=h.vq;unfold a7o at this;rw[<-u] at this;exact this
 have r:=NJ;rw[Aw s.vq v i hi] at r;refine⟨h.low,by rw[c];exact h.at_,by rw[c];exact h.vars_,Bc,by rw[c];exact h.taken_,Bf,by rw[c];exact h.fin_,λj=>by rw[L];exact h.thaw j,
  ?_,aG h.things (λk hk=>y k (b k iX)),h.count,λj T=>aG (h.fields j T) (λk hk=>y k (b k (by
   simp only[j0];right;right;right;exact j2.2 ⟨_,gM _,hk⟩))),aG h.lines (λk hk=>y k (b k iX)),h.apart⟩
 unfold a7o;simp only[q7];rw[<-u];exact r

def a7a.setM (h:a7a w B m s vv tv lv fv)(j:Nat)(x:Int)(T:j=0\/j=3\/j=5):
  a7a (w.setCell ⟨m,j,E⟩ (I Y x)) B m {s with at_:=if j=0 then x else s.at_,taken:=if j=3 then x else s.taken,fin:=if j=5 then x else s.fin} vv tv lv fv:=by
 have b:=h.m_apart;have y:∀k,k≠m->(w.setCell ⟨m,j,E⟩ (I Y x)).heap[k]? =w.heap[k]? :=λk hk=>hSe _ _ _ _ hk;have c:∃u,w.cell? ⟨m,j,E⟩=G u:=by
  rcases T with rfl|rfl|rfl
  .exact⟨_,h.at_⟩
  .exact⟨_,h.taken_⟩
  .exact⟨_,h.fin_⟩
 obtain⟨u,z⟩:=c;have N:(w.setCell ⟨m,j,E⟩ (I Y x)).cell? ⟨m,j,E⟩=G (I Y x):=x6 _ _ _ z;have co:∀i,i≠j->(w.setCell ⟨m,j,E⟩ (I Y x)).cell? ⟨m,i,E⟩=w.cell? ⟨m,i,E⟩:=λi hi=>j6 _ _ _ _ (by intro e;cases e;exact hi rfl);refine⟨h.low,?_,Kn,by rw[co 2 (by omega)];exact h.things_,?_,by rw[co 4 (by omega)];exact h.lines_,?_,λi=>by rw[q9];exact h.thaw i,
  aG h.vq (λk hk=>y k (b k iX)),aG h.things (λk hk=>y k (b k iX)),h.count,λi hi=>aG (h.fields i hi) (λk hk=>y k (b k (by
   simp only[j0];right;right;right;exact j2.2 ⟨_,gM _,hk⟩))),aG h.lines (λk hk=>y k (b k iX)),h.apart⟩
 .rcases T with rfl|rfl|rfl
  .simpa using N
  .rw[co 0 aa];simpa using h.at_
  .rw[co 0 aa];simpa using h.at_
 .rcases T with rfl|rfl|rfl
  .rw[co 3 aa];simpa using h.taken_
  .simpa using N
  .rw[co 3 aa];simpa using h.taken_
 .rcases T with rfl|rfl|rfl
  .rw[co 5 aa];simpa using h.fin_
  .rw[co 5 aa];simpa using h.fin_
  .simpa using N
end
section
variable {w w' w1:World} {B m:Nat} {s:St} {vv tv lv:Value} {fv:List Value}

def a7a.parted (h:a7a w B m s vv tv lv fv):(∀x,G x∈(vv.ownBlock::tv.ownBlock::lv.ownBlock::fv.map j1)->x≠m)/\(∀x,vv.ownBlock=G x->G x∉(tv.ownBlock::lv.ownBlock::fv.map j1))/\(∀x,tv.ownBlock=G x->G x∉(lv.ownBlock::fv.map j1))/\(∀x,lv.ownBlock=G x->G x∉fv.map j1)/\(fv.map j1).Pairwise (λa b=>∀x,a=G x->b≠G x):=by
 have t:=h.apart;simp only[x4] at t;obtain⟨D,N,T,k,c⟩:=t;exact⟨λx Z e=>D _ Z m rfl mH,λx Z z=>N _ z x Z rfl,λx Z z=>T _ z x Z rfl,λx Z z=>k _ z x Z rfl,c⟩

def O7 (D:∀x,G x∈(vv.ownBlock::tv.ownBlock::lv.ownBlock::fv.map j1)->x≠m)(N:∀x,vv.ownBlock=G x->G x∉(tv.ownBlock::lv.ownBlock::fv.map j1))(T:∀x,tv.ownBlock=G x->G x∉(lv.ownBlock::fv.map j1))(k:∀x,lv.ownBlock=G x->G x∉fv.map j1)(c:(fv.map j1).Pairwise (λa b=>∀x,a=G x->b≠G x)):
  (G m::vv.ownBlock::tv.ownBlock::lv.ownBlock::fv.map j1).Pairwise λa b=>∀x,a=G x->b≠G x:=by
 simp only[x4];refine⟨λb y x Z e=> ?_,λb y x Z e=> ?_,λb y x Z e=> ?_,λb y x Z e=> ?_,c⟩
 .cases Z;subst e;exact D _ y rfl
 .subst e;exact N x Z y
 .subst e;exact T x Z y
 .subst e;exact k x Z y

def a7a.grow_lines (h:a7a w B m s vv tv lv fv){g cap:Nat}{t:ByteArray}(u:B<=R (M w))
  (xK:w1.ownsRow B 9 1 (U (G ⟨g,0,E⟩) (X s.lines+1) cap) (X s.lines+1) (s.lines.map .string++[.string t]))(xJ:w.grownBy w1 lv.ownBlock)(v:lv.ownBlock=G g\/R (M w)<=g):
  a7a (w1.setCell ⟨m,4,E⟩ (U (G ⟨g,0,E⟩) (X s.lines+1) cap)) B m {s with lines:=s.lines++[t]} vv tv (U (G ⟨g,0,E⟩) (X s.lines+1) cap) fv:=by
 obtain⟨V,W,Z,p4,r⟩:=h.parted;have lt:=Sh;have z:m < R (M w):=lt fL;have b:G m≠lv.ownBlock:=λe=>V m sI rfl;have jA:g≠m:=by
  rcases v with e|e
  .exact V g (by rw[<-e];simp)
  .omega
 have bm:=xJ.block m z b;have c:=Pq;have L:=Nf;have co:∀i,i≠4->(w1.setCell ⟨m,4,E⟩ (U (G ⟨g,0,E⟩) (X s.lines+1) cap)).cell? ⟨m,i,E⟩=w.cell? ⟨m,i,E⟩:=λi hi=>Vv;have N:(w1.setCell ⟨m,4,E⟩ (U (G ⟨g,0,E⟩) (X s.lines+1) cap)).cell? ⟨m,4,E⟩=G (U (G ⟨g,0,E⟩) (X s.lines+1) cap):=x6 _ _ _ Bf;have y:∀k,k < R (M w)->k≠m->G k≠lv.ownBlock->(w1.setCell ⟨m,4,E⟩ (U (G ⟨g,0,E⟩) (X s.lines+1) cap)).heap[k]? =w.heap[k]? :=λk h1 h2 h3=>Vl;have T:∀k,vv.ownBlock=G k->k < R (M w)/\k≠m/\G k≠lv.ownBlock:=λk hk=>⟨lt np,V k iX,λe=>W k hk (by simp[e])⟩;have F:∀k,tv.ownBlock=G k->k < R (M w)/\k≠m/\G k≠lv.ownBlock:=λk hk=>⟨lt np,V k iX,λe=>Z k hk (by simp[e])⟩;have D:∀k,G k∈fv.map j1->k < R (M w)/\k≠m/\G k≠lv.ownBlock:=λk hk=>⟨lt Ur,V k Ke,λe=>p4 k e.symm hk⟩;have H:∀k,k < R (M w)->G k≠lv.ownBlock->k≠g:=λk h1 h2 e=>by
  rcases v with K|K
  .exact h2 (by rw[K,e])
  .omega
 refine⟨h.low,by rw[co 0 (by omega)];exact h.at_,Kn,by rw[co 2 (by omega)];exact h.things_,by rw[co 3 (by omega)];exact h.taken_,N,by rw[co 5 (by omega)];exact h.fin_,
  λj=>by rw[q9,L];exact h.thaw j,aG h.vq (λk hk=>y k (T k hk).1 (T k hk).2.1 (T k hk).2.2),aG h.things (λk hk=>y k (F k hk).1 (F k hk).2.1 (F k hk).2.2),h.count,
  λi hi=>aG (h.fields i hi) (λk hk=> ?_),?_,?_⟩
 .have q:=D k (j2.2 ⟨_,gM _,hk⟩)
  exact y k q.1 q.2.1 q.2.2
 .simp only[z3,q8,x5,j7,j9,q5]
  exact Nc
 .refine O7 (λx hx=> ?_) (λx hx xH=> ?_) (λx hx xH=> ?_) (λx hx xH=> ?_) r
  .rcases j0.1 hx with hx|hx
   .exact V x (by simp[hx])
   .rcases j0.1 hx with hx|hx
    .exact V x (by simp[hx])
    .rcases j0.1 hx with hx|hx
     .cases hx;exact jA
     .exact V x Vo
  .rcases j0.1 xH with xH|xH
   .exact W x hx (by simp[xH])
   .rcases j0.1 xH with xH|xH
    .cases xH;exact H g (T g hx).1 (T g hx).2.2 rfl
    .exact W x hx Kc
  .rcases j0.1 xH with xH|xH
   .cases xH;exact H g (F g hx).1 (F g hx).2.2 rfl
   .exact Z x hx Kc
  .cases hx
   have q:=D g xH;exact H g q.1 q.2.2 rfl

def nU:∀(ss:List Int) (fs:List mh) (_:X fs=X ss) (x:Int) (f:mh),cd (ss++[x]) (fs++[f])=cd ss fs++[I Y x,f]
 |[],[],_,_,_=>rfl
 |[],_::_,h,_,_=>fk
 |_::_,[],h,_,_=>fk
 |a::ss,b::fs,h,x,f=>by
  have:=nU ss fs cn x f;simp only[List.cons_append,cd,this]
def i8:∀(ss:List Int) (fs:List mh) (_:X fs=X ss),X (cd ss fs)=X ss * 2
 |[],_,_=>by simp[cd]
 |_::_,[],h=>fk
 |_::ss,_::fs,h=>by
  have:=i8 ss fs cn;simp only[cd,q8,this];omega
def lz:∀(ss:List Int) (fs:List mh) (_:X fs=X ss) (i:Nat) (h:i < X ss),(cd ss fs)[i * 2]? =G (I Y ss[i])
 |[],_,_,_,h=>fk
 |_::_,[],h,_,_=>fk
 |_::_,_::_,_,0,_=>rfl
 |_::ss,_::fs,h,i+1,hi=>by
  rw[show (i+1) * 2=i * 2+1+1 by omega];simpa[cd] using lz ss fs cn i gA
def gr:∀(ss:List Int) (fs:List mh) (_:X fs=X ss) (i:Nat) (h:i < X fs),(cd ss fs)[i * 2+1]? =G fs[i]
 |[],[],_,_,h=>fk
 |[],_::_,h,_,_=>fk
 |_::_,[],h,_,_=>fk
 |_::_,_::_,_,0,_=>rfl
 |_::ss,_::fs,h,i+1,hi=>by
  rw[show (i+1) * 2+1=(i * 2+1)+1+1 by omega];simpa[cd] using gr ss fs cn i gA

def a7a.grow_things (h:a7a w B m s vv tv lv fv){g cap:Nat}{x:Int}{l:List Val}{fn:mh}(L:a7o w B fn l)(K:∀k,fn.ownBlock=G k->G k∉aP m vv tv lv fv)
  (xK:w1.ownsRow B 84 2 (U (G ⟨g,0,E⟩) (X s.things+1) cap) (X s.things+1) (cd (s.things.map (·.site)) fv++[I Y x,fn]))(xJ:w.grownBy w1 tv.ownBlock)(v:tv.ownBlock=G g\/R (M w)<=g):
  a7a (w1.setCell ⟨m,2,E⟩ (U (G ⟨g,0,E⟩) (X s.things+1) cap)) B m {s with things:=s.things++[⟨x,l⟩]} vv (U (G ⟨g,0,E⟩) (X s.things+1) cap) lv (fv++[fn]):=by
 obtain⟨V,p2,p3,p4,p5⟩:=h.parted;have lt:=Sh;have z:m < R (M w):=lt fL;have af:G m≠tv.ownBlock:=λe=>V m sI rfl;have jA:g≠m:=by
  rcases v with e|e
  .exact V g (by rw[<-e];simp)
  .omega
 have bm:=xJ.block m z af;have c:=Pq;have fz:=Nf;have co:∀i,i≠2->(w1.setCell ⟨m,2,E⟩ (U (G ⟨g,0,E⟩) (X s.things+1) cap)).cell? ⟨m,i,E⟩=w.cell? ⟨m,i,E⟩:=λi hi=>Vv;have N:(w1.setCell ⟨m,2,E⟩ (U (G ⟨g,0,E⟩) (X s.things+1) cap)).cell? ⟨m,2,E⟩=G (U (G ⟨g,0,E⟩) (X s.things+1) cap):=x6 _ _ _ Bc;have y:∀k,k < R (M w)->k≠m->G k≠tv.ownBlock->(w1.setCell ⟨m,2,E⟩ (U (G ⟨g,0,E⟩) (X s.things+1) cap)).heap[k]? =w.heap[k]? :=λk h1 h2 h3=>Vl;have T:∀k,vv.ownBlock=G k->k < R (M w)/\k≠m/\G k≠tv.ownBlock:=λk hk=>⟨lt np,V k iX,λe=>p2 k hk (by simp[e])⟩;have F:∀k,lv.ownBlock=G k->k < R (M w)/\k≠m/\G k≠tv.ownBlock:=λk hk=>⟨lt np,V k iX,λe=>p3 k e.symm iX⟩;have D:∀k,G k∈fv.map j1->k < R (M w)/\k≠m/\G k≠tv.ownBlock:=λk hk=>⟨lt Ur,V k Ke,λe=>p3 k e.symm Ke⟩;have u:∀k,fn.ownBlock=G k->k < R (M w)/\k≠m/\G k≠tv.ownBlock:=λk hk=>⟨(aW L hk).1,λe=>K k hk Ce,λe=>K k hk Ce⟩;have H:∀k,k < R (M w)->G k≠tv.ownBlock->k≠g:=λk h1 h2 e=>by
  rcases v with e'|e'
  .exact h2 (by rw[e',e])
  .omega
 have ab:∀k,fn.ownBlock=G k->vv.ownBlock≠G k/\lv.ownBlock≠G k/\G k∉fv.map j1:=λk hk=>⟨λe=>K k hk Ce,λe=>K k hk Ce,λe=>K k hk (by simp only[aP,j0];simp only[e,or_true])⟩;refine⟨h.low,by rw[co 0 (by omega)];exact h.at_,Kn,N,by rw[co 3 (by omega)];exact h.taken_,by rw[co 4 (by omega)];exact h.lines_,by rw[co 5 (by omega)];exact h.fin_,
  λj=>by rw[q9,fz];exact h.thaw j,aG h.vq (λk hk=>y k (T k hk).1 (T k hk).2.1 (T k hk).2.2),?_,mS,
  λi hi=> ?_,aG h.lines (λk hk=>y k (F k hk).1 (F k hk).2.1 (F k hk).2.2),?_⟩
 .simp only[z3,q8,x5,j7,j9,q5]
  rw[nU _ _ mS];exact Nc
 .by_cases r:i < X s.things
  .have Z:(fv++[fn])[i]'(by simp[h.count];omega)=fv[i]'(by rw[h.count];exact r):=Q1 _
   have e2:(s.things++[(⟨x,l⟩:Thg)])[i]=s.things[i]:=Q1 r;rw[Z,e2];refine aG (h.fields i r) (λk hk=> ?_);have q:=D k (j2.2 ⟨_,gM _,hk⟩);exact y k q.1 q.2.1 q.2.2
  .have ah:i=X s.things:=by simp at hi;omega
   subst ah;have Z:(fv++[fn])[X s.things]'(by simp[h.count])=fn:=by simp[<-h.count]
   have e2:(s.things++[(⟨x,l⟩:Thg)])[X s.things]=⟨x,l⟩:=ae;rw[Z,e2];exact aG L (λk hk=>y k (u k hk).1 (u k hk).2.1 (u k hk).2.2)
 .have W:∀x,G x∈(fv++[fn]).map j1->G x∈fv.map j1\/fn.ownBlock=G x:=λx hx=>by
   simp only[j7,j9,q5,J8,z5] at hx;exact hx.imp id Eq.symm
  refine O7 (λx hx=> ?_) (λx hx xH=> ?_) (λx hx xH=> ?_) (λx hx xH=> ?_) ?_
  .rcases j0.1 hx with hx|hx
   .exact V x (by simp[hx])
   .rcases j0.1 hx with hx|hx
    .cases hx;exact jA
    .rcases j0.1 hx with hx|hx
     .exact V x (by simp[hx])
     .rcases W x hx with hx|hx
      .exact V x Vo
      .exact(u x hx).2.1
  .rcases j0.1 xH with xH|xH
   .cases xH;exact H g (T g hx).1 (T g hx).2.2 rfl
   .rcases j0.1 xH with xH|xH
    .exact p2 x hx (by simp[xH])
    .rcases W x xH with xH|xH
     .exact p2 x hx Kc
     .exact(ab x xH).1 hx
  .cases hx
   rcases j0.1 xH with xH|xH
   .exact H g (F g xH.symm).1 (F g xH.symm).2.2 rfl
   .rcases W g xH with xH|xH
    .exact H g (D g xH).1 (D g xH).2.2 rfl
    .exact H g (u g xH).1 (u g xH).2.2 rfl
  .rcases W x xH with xH|xH
   .exact p4 x hx xH
   .exact(ab x xH).2.1 hx
  .rw[j7]
   refine List.pairwise_append.2 ⟨p5,ae,λa t b ad x hx e=> ?_⟩;simp only[j9,q5,z5] at ad;subst ad;subst hx;exact(ab x e).2.2 t

def a7a.put_field {g n cap:Nat}(h:a7a w B m s vv tv lv fv)(t:Nat)(F:t < X s.things)(b:fv[t]'(by rw[h.count];exact F)=U (G ⟨g,0,E⟩) n cap)(i:Nat)(hi:i < X s.things[t].fs)(v:Val):
  a7a ((w.setCell ⟨g,i * 2,E⟩ (I Y v.k)).setCell ⟨g,i * 2+1,E⟩ (I Y v.n)) B m (gD s t i v) vv tv lv fv:=by
 obtain⟨V,W,Z,p4,p5⟩:=h.parted;have ab:t < X fv:=by rw[h.count];exact F
 have jA:G g∈fv.map j1:=j2.2 ⟨_,gM ab,by rw[b];rfl⟩;have y:=rN w g (i * 2) (i * 2+1) (I Y v.k) (I Y v.n);have am:m≠g:=λe=>V g (by simp only[j0];simp only[jA,or_true]) e.symm;have bm:=y m am;have c:∀j,((w.setCell ⟨g,i * 2,E⟩ (I Y v.k)).setCell ⟨g,i * 2+1,E⟩ (I Y v.n)).cell? ⟨m,j,E⟩=w.cell? ⟨m,j,E⟩:=λj=>j3 (a:=⟨m,j,E⟩) bm;have L:∀j,((w.setCell ⟨g,i * 2,E⟩ (I Y v.k)).setCell ⟨g,i * 2+1,E⟩ (I Y v.n)).frozen? ⟨m,j,E⟩=w.frozen? ⟨m,j,E⟩:=λj=>j4 (a:=⟨m,j,E⟩) bm;have ad:=h.fields t F;rw[b] at ad;have u:n=X s.things[t].fs:=CU ad;have hv0:w.ownsRow B 82 2 (U (G ⟨g,0,E⟩) n cap) n (cw s.things[t].fs):=by have:=ad;unfold a7o at this;rw[<-u] at this;exact this
 have r:=NJ;rw[Aw s.things[t].fs v i hi] at r;have z:X (s.things.modify t λx=>{x with fs:=x.fs.set i v})=X s.things:=List.length_modify ..;have ah:(s.things.modify t λx=>{x with fs:=x.fs.set i v}).map (·.site)=s.things.map (·.site):=by
  apply List.ext_getElem
  .simp
  .intro k D N
   simp only[List.getElem_map,Q2];split<;>rfl
 have K:gD s t i v={s with things:=s.things.modify t λx=>{x with fs:=x.fs.set i v}}:=by simp[gD]
 rw[K];refine⟨h.low,by rw[c];exact h.at_,by rw[c];exact h.vars_,Bc,by rw[c];exact h.taken_,Bf,by rw[c];exact h.fin_,λj=>by rw[L];exact h.thaw j,
  aG h.vq (λk hk=>y k (λe=>W k hk Um)),?_,by rw[z];exact h.count,λj T=> ?_,aG h.lines (λk hk=>y k (λe=>p4 k hk (by rw[e];exact jA))),h.apart⟩
 .simp only[z,ah]
  exact aG h.things (λk hk=>y k (λe=>Z k hk Um))
 .have q:j < X s.things:=by rw[z] at T;exact T
  simp only[Q2];by_cases af:t=j
  .subst af
   simp only[if_true];rw[b];unfold a7o;simp only[q7];rw[<-u];exact r
  .simp only[af,if_false]
   refine aG (h.fields j q) (λk hk=>y k (λe=> ?_));subst e;have ak:j < X fv:=by rw[h.count];exact q
   rw[List.pairwise_iff_getElem] at p5;rcases Nat.lt_or_gt_of_ne af with H|H
   .exact p5 t j (by simpa using ab) (by simpa using ak) H k (by simp[b,j1]) gw
   .exact p5 j t (by simpa using ak) (by simpa using ab) H k gw (by simp[b,j1])
end
def iG(h:p:=by
 go_enter func209,ntmps209;go_wp2_with (go_at_call 57;refine(fS _ _ _ _).mono ?_;rintro e w' ⟨rfl,rfl⟩);go_ret;exact⟨rfl,ai⟩):=h
def yL (s:Sp)(w:C):
  Calls f 209 #[sv s] w λe w'=>e=Rt (I Y (cY s))/\bl w w':=by
 obtain⟨n,lo,hi⟩:=s;have K:cY ⟨n,lo,hi⟩=if¬(bA lo/\bA hi) then 3 else if n=W5/\¬(lo=0/\hi=0) then 1 else if hi < lo then 4 else 0:=rfl
 rw[K];clear K;by_cases h:bA lo
 .have c:btw lo (-2147483648) 2147483647=true:=decide_eq_true h
  by_cases z:bA hi
  .have v:btw hi (-2147483648) 2147483647=true:=decide_eq_true z
   rw[if_neg (by simp[h,z])];clear h z;cases n with
   |true=>
    by_cases r:lo=0
    .subst r
     by_cases b:hi=0
     .subst b
      rw[if_neg ae,if_neg ae];exact iG
     .have q:(hi==0)=false:=by simpa using b
      rw[if_pos (by simp[b])];exact iG
    .have q:(lo==0)=false:=by simpa using r
     rw[if_pos (by simp[r])];exact iG
   |false=>
    rw[if_neg ae];by_cases r:hi < lo
    .rw[if_pos r]
     exact iG
    .rw[if_neg r]
     exact iG
  .have v:btw hi (-2147483648) 2147483647=false:=decide_eq_false z
   rw[if_pos (by simp[z])];clear h z;exact iG
 .have c:btw lo (-2147483648) 2147483647=false:=decide_eq_false h
  rw[if_pos pm];clear h;exact iG

def Ir (s:Sp)(x:Int)(w:C):
  Calls f 113 #[sv s,I Y x] w λe w'=>e=Rt (O (s.has x))/\bl w w':=by
 obtain⟨n,lo,hi⟩:=s;have K:btw x lo hi=(decide (lo<=x)&&decide (x<=hi)):=by unfold btw;exact Bool.decide_and _ _
 have Z:Sp.has ⟨n,lo,hi⟩ x=(!n&&btw x lo hi):=by rw[K];rfl
 rw[Z];cases n with
 |true=>
  go_enter func113,ntmps113;go_wp2;go_ret;exact cP
 |false=>
  clear K Z;generalize hB:btw x lo hi=B;go_enter func113,ntmps113;go_wp2_with (go_at_call 57;refine(fS _ _ _ _).mono ?_;rintro e w' ⟨rfl,rfl⟩);go_ret;exact⟨bF (by simp[hB]),ai⟩

section
variable (K:w.cell? ⟨g,0,E⟩=G (I Y x))(D:w.cell? ⟨g,1,E⟩=G (I Y y))
def Rr:
  Calls f 207 #[U (G ⟨g,0,E⟩) 2 c] w λe w'=>e=Rt (I Y (min x y))/\w'=w:=by
 go_enter func207,ntmps207;go_wp2
 go_rounds 2
 all_goals go_ret
 all_goals exact⟨bE aa,rfl⟩

def a1d(N:w.cell? ⟨g,2,E⟩=G (I Y z))(T:w.cell? ⟨g,3,E⟩=G (I Y u)):
  Calls f 207 #[U (G ⟨g,0,E⟩) 4 c] w λe w'=>e=Rt (I Y (fF x y z u))/\w'=w:=by
 go_enter func207,ntmps207;go_wp2
 go_rounds 4
 all_goals go_ret
 all_goals exact⟨bE (by unfold fF;omega),rfl⟩

def WM:
  Calls f 208 #[U (G ⟨g,0,E⟩) 2 c] w λe w'=>e=Rt (I Y (max x y))/\w'=w:=by
 go_enter func208,ntmps208;go_wp2
 go_rounds 2
 all_goals go_ret
 all_goals exact⟨bE aa,rfl⟩

def a3j(N:w.cell? ⟨g,2,E⟩=G (I Y z))(T:w.cell? ⟨g,3,E⟩=G (I Y u)):
  Calls f 208 #[U (G ⟨g,0,E⟩) 4 c] w λe w'=>e=Rt (I Y (fK x y z u))/\w'=w:=by
 go_enter func208,ntmps208;go_wp2
 go_rounds 4
 all_goals go_ret
 all_goals exact⟨bE (by unfold fK;omega),rfl⟩
end
end
section
open Go
def sm {p q:Prop}(h:q)(e:q->p:=by(intro h;(try simp only[Act.put,List.getElem_toArray,List.getElem_cons_zero,List.getElem_cons_succ,List.setIfInBounds_toArray,List.set_cons_zero,List.set_cons_succ]);exact h)):p:=e h
section
variable {P:Program} {xg:Array Oper} {Q:Exit->Act->World->Prop} {md:Region.Mode} {S:World->Prop} {zs:List Nat}
section
variable (i:Nat){oi:Oper}(v:Value){zC:Nat}{xI:Array Bool}{a:Act}{w:World}
end
def uH (i:Nat){oi:Oper}{zC:Nat}{xI:Array Bool}{a:Act}{w:World}
  (h:wpAnyH P md xg Q S zC (xI.setIfInBounds i true) (a.put oi.dst undef) w)(hi:xg[i]? =some oi:=by rfl)
  (hs:Region.noSelect xg=true:=by kernel_rfl)(hf:Region.free md xg xI i=true:=by kernel_rfl)(hr:(Region.ready md xg xI).contains i=true:=by kernel_rfl)
  (hQ:∀c a w,Q (.panic c) (a.put oi.dst undef) w->Q (.panic c) a w:=by exact λ_ _ _ h=>h)(hw:Region.wanted oi (yielded xg a.tmps)=false:=by rfl)(hS:S w:=by assumption):wpAnyH P md xg Q S (zC+1) xI a w:=
 wpAnyH_take hi hs hf hr hQ (.inr ⟨hw,rfl⟩) hS h
def pZ (i:Nat){oi:Oper}(v:Value){zC:Nat}{xI:Array Bool}{a:Act}{w:World}
  (h:cH P md xg Q S zs zC (xI.setIfInBounds i true) (a.put oi.dst v) w)(hi:xg[i]? =some oi:=by rfl)(hy:∀w,True->(execOp a.eval oi).run P w=.ok (.value v) w:=by(intro w _;first|(go_simp;done)|(go_simp;with_reducible rfl)))
  (hs:Region.noSelect xg=true:=by kernel_rfl)(hf:Region.free md xg xI i=true:=by kernel_rfl)(hr:(Region.ready md xg xI).contains i=true:=by kernel_rfl)
  (hQ:∀c a w,Q (.panic c) (a.put oi.dst v) w->Q (.panic c) a w:=by exact λ_ _ _ h=>h)(hw:Region.wanted oi (yielded xg a.tmps)=true:=by rfl):cH P md xg Q S zs (zC+1) xI a w:=
 Td hi hs hf hr hQ (.inl ⟨hw,hy⟩) h
end
section
variable {P:Program} {xg:Array Oper} {Q:Exit->Act->World->Prop} {md:Region.Mode} {S:World->Prop} {zs:List Nat}
section
variable (i:Nat){oi:Oper}
def J(v:Value){zC:Nat}{xI:Array Bool}{a:Act}{w:World}{q:Prop}(h:q)(hi:xg[i]? =some oi:=by rfl)(hy:∀w,S w->(execOp a.eval oi).run P w=.ok (.value v) w:=by(intro w xB;(try dsimp only at xB);first|(go_simp;done)|(go_simp;with_reducible rfl)))
  (hs:Region.noSelect xg=true:=by kernel_rfl)(hf:(Region.free md xg xI i&&zOk md xg xI i zs)=true:=by kernel_rfl)(hr:(Region.ready md xg xI).contains i=true:=by kernel_rfl)
  (hQ:∀c a w,Q (.panic c) (a.put oi.dst v) w->Q (.panic c) a w:=by exact λ_ _ _ h=>h)(hw:Region.wanted oi (yielded xg a.tmps)=true:=by rfl)(hS:S w:=by assumption)
  (e:q->cH P md xg Q S zs zC (xI.setIfInBounds i true) (a.put oi.dst v) w:=by(intro h;(try simp only[Act.put,List.getElem_toArray,List.getElem_cons_zero,List.getElem_cons_succ,List.setIfInBounds_toArray,List.set_cons_zero,List.set_cons_succ]);exact h)):cH P md xg Q S zs (zC+1) xI a w:=
 nH hi hs hf hr hQ (.inl ⟨hw,hy⟩) hS (e h)
def QN{v:Value}{zC:Nat}{xI:Array Bool}{a:Act}{w:World}{q:Prop}(h:q)(hi:xg[i]? =some oi:=by rfl)(hy:∀w,S w->(execOp a.eval oi).run P w=.ok (.value v) w:=by(intro w xB;(try dsimp only at xB);first|(go_simp;done)|(go_simp;with_reducible rfl)))
  (hs:Region.noSelect xg=true:=by kernel_rfl)(hf:(Region.free md xg xI i&&zOk md xg xI i zs)=true:=by kernel_rfl)(hr:(Region.ready md xg xI).contains i=true:=by kernel_rfl)
  (hQ:∀c a w,Q (.panic c) (a.put oi.dst v) w->Q (.panic c) a w:=by exact λ_ _ _ h=>h)(hw:Region.wanted oi (yielded xg a.tmps)=true:=by rfl)(hS:S w:=by assumption)
  (e:q->cH P md xg Q S zs zC (xI.setIfInBounds i true) (a.put oi.dst v) w:=by(intro h;(try simp only[Act.put,List.getElem_toArray,List.getElem_cons_zero,List.getElem_cons_succ,List.setIfInBounds_toArray,List.set_cons_zero,List.set_cons_succ]);exact h)):cH P md xg Q S zs (zC+1) xI a w:=
 nH hi hs hf hr hQ (.inl ⟨hw,hy⟩) hS (e h)
def QO{v:Value}{zC:Nat}{xI:Array Bool}{a:Act}{w:World}{q:Prop}(h:q)(hi:xg[i]? =some oi:=by rfl)(hy:∀w,S w->(execOp a.eval oi).run P w=.ok (.value v) w:=by(intro w xB;(try dsimp only at xB);first|(go_simp;done)|(go_simp;with_reducible rfl)))
  (hs:Region.noSelect xg=true:=by kernel_rfl)(hf:Region.free md xg xI i=true:=by kernel_rfl)(hr:(Region.ready md xg xI).contains i=true:=by kernel_rfl)
  (hQ:∀c a w,Q (.panic c) (a.put oi.dst v) w->Q (.panic c) a w:=by exact λ_ _ _ h=>h)(hw:Region.wanted oi (yielded xg a.tmps)=true:=by rfl)(hS:S w:=by assumption)
  (e:q->wpAnyH P md xg Q S zC (xI.setIfInBounds i true) (a.put oi.dst v) w:=by(intro h;(try simp only[Act.put,List.getElem_toArray,List.getElem_cons_zero,List.getElem_cons_succ,List.setIfInBounds_toArray,List.set_cons_zero,List.set_cons_succ]);exact h)):wpAnyH P md xg Q S (zC+1) xI a w:=
 wpAnyH_take hi hs hf hr hQ (.inl ⟨hw,hy⟩) hS (e h)
end
end
structure QP(q:Prop):Prop where
 o:q
def QQ{p q:Prop}(h:q)(e:QP q->p:=by intro h;refine QN 0 ?_;refine QN 1 ?_;refine QN 2 ?_;refine QN 3 ?_;refine QN 4 ?_;refine QN 5 ?_;refine QN 6 ?_;refine QN 7 ?_;exact h.o):p:=e ⟨h⟩
def QS{p q:Prop}(h:q)(e:QP q->p:=by intro h;refine QN 8 ?_;refine QN 9 ?_;refine QN 10 ?_;refine QN 11 ?_;refine QN 12 ?_;refine QN 13 ?_;exact h.o):p:=e ⟨h⟩
def QT{p q:Prop}(h:q)(e:QP q->p:=by intro h;refine QO 0 ?_;refine QO 1 ?_;refine QO 2 ?_;refine QO 3 ?_;refine QO 4 ?_;refine QO 5 ?_;refine QO 6 ?_;refine QO 7 ?_;refine QO 8 ?_;refine QO 9 ?_;refine QO 10 ?_;refine QO 11 ?_;exact h.o):p:=e ⟨h⟩
def QU{p q:Prop}(h:q)(e:QP q->p:=by intro h;refine QN 0 ?_;refine QN 1 ?_;refine QN 2 ?_;refine QN 3 ?_;refine QN 4 ?_;exact h.o):p:=e ⟨h⟩
def QV{p q:Prop}(h:q)(e:QP q->p:=by intro h;refine QN 8 ?_;refine QN 9 ?_;refine QN 10 ?_;exact h.o):p:=e ⟨h⟩
def QW{p q:Prop}(h:q)(e:QP q->p:=by intro h;refine QO 12 ?_;refine QO 13 ?_;refine QO 14 ?_;refine QO 15 ?_;refine QO 16 ?_;refine QO 17 ?_;refine QO 18 ?_;refine QO 19 ?_;refine QO 20 ?_;refine QO 21 ?_;refine QO 22 ?_;refine QO 23 ?_;refine QO 24 ?_;refine QO 25 ?_;exact h.o):p:=e ⟨h⟩
def QZ{p q:Prop}(h:q)(e:QP q->p:=by intro h;refine QN 14 ?_;refine QN 15 ?_;refine QN 16 ?_;refine QN 17 ?_;refine QN 18 ?_;refine QN 19 ?_;exact h.o):p:=e ⟨h⟩
def XC{p q:Prop}(h:q)(e:QP q->p:=by intro h;refine QO 26 ?_;refine QO 27 ?_;refine QO 28 ?_;refine QO 29 ?_;refine QO 30 ?_;refine QO 31 ?_;refine QO 32 ?_;exact h.o):p:=e ⟨h⟩
def XD{p q:Prop}(h:q)(e:QP q->p:=by intro h;refine QO 8 ?_;refine QO 9 ?_;refine QO 10 ?_;exact h.o):p:=e ⟨h⟩
def XE{p q:Prop}(h:q)(e:QP q->p:=by intro h;refine QO 3 ?_;refine QO 4 ?_;exact h.o):p:=e ⟨h⟩
def XF{p q:Prop}(h:q)(e:QP q->p:=by intro h;refine QO 12 ?_;refine QO 13 ?_;refine QO 14 ?_;exact h.o):p:=e ⟨h⟩
def XG{p q:Prop}(h:q)(e:QP q->p:=by intro h;refine QO 16 ?_;refine QO 17 ?_;exact h.o):p:=e ⟨h⟩
def XH{p q:Prop}(h:q)(e:QP q->p:=by intro h;refine QN 14 ?_;refine QN 15 ?_;exact h.o):p:=e ⟨h⟩
def XI{p q:Prop}(h:q)(e:QP q->p:=by intro h;refine QO 0 ?_;refine QO 1 ?_;refine QO 2 ?_;exact h.o):p:=e ⟨h⟩
def XJ{p q:Prop}(h:q)(e:QP q->p:=by intro h;refine QN 0 ?_;refine QN 1 ?_;refine QN 3 ?_;exact h.o):p:=e ⟨h⟩
def rH1{xg:Array Oper}{Q:Exit->Act->World->Prop}{md:Region.Mode}{S:World->Prop}(i:Nat){o:Oper}{zC:Nat}{xI:Array Bool}{a:Act}{w:World}(h:∀K':Act->World->Prop,Shut (∀a w,S w->(S w->wpAnyH P md xg Q S zC (xI.setIfInBounds i true) a w)->K' a w)->if Region.wanted o (yielded xg a.tmps)=true then Oper.wp P o a w K' Q else K' (a.put o.dst undef) w)(ho:xg[i]? =sO o:=by rfl)(hr:Region.ready md xg xI=[i]:=by kernel_rfl):wpAnyH P md xg Q S (zC+1) xI a w:=wpAnyH_ready hr (by simp) (AllReadyH.cons ho h AllReadyH.nil)
end
section
open Go.RowKit
def Oq (i b:oA)(j z:Nat)(w:C):
  Calls f 184 #[U i 0 j,U b 0 z] w λe w'=>e=Rt (O W5)/\bl w w':=by
 go_enter func184,ntmps184;go_wp2
 go_rounds 1
 go_ret;exact pW
abbrev w3 (s t r:Sp)(w:World):World:=((w.alloc (A #[O s.n,I .i64 s.lo,I .i64 s.hi] 89)).alloc (A #[O t.n,I .i64 t.lo,I .i64 t.hi] 89)).alloc (A #[O r.n,I .i64 r.lo,I .i64 r.hi] 89)

def a2J{s t r:Sp}{w w1:C}(y:n4 B (w3 s t r w) w1)(u:R (M w)+2 < B):(w1.cell? ⟨R (M w),0,E⟩=G (O s.n)/\w1.cell? ⟨R (M w),1,E⟩=G (I Y s.lo)/\w1.cell? ⟨R (M w),2,E⟩=G (I Y s.hi))/\(w1.cell? ⟨R (M w)+1,0,E⟩=G (O t.n)/\w1.cell? ⟨R (M w)+1,1,E⟩=G (I Y t.lo)/\w1.cell? ⟨R (M w)+1,2,E⟩=G (I Y t.hi))/\(w1.cell? ⟨R (M w)+1+1,0,E⟩=G (O r.n)/\w1.cell? ⟨R (M w)+1+1,1,E⟩=G (I Y r.lo)/\w1.cell? ⟨R (M w)+1+1,2,E⟩=G (I Y r.hi))/\(w1.frozen? ⟨R (M w)+1+1,0,E⟩=d/\w1.frozen? ⟨R (M w)+1+1,1,E⟩=d/\w1.frozen? ⟨R (M w)+1+1,2,E⟩=d)/\(R (M w) < R (M w1)/\R (M w)+1 < R (M w1)/\R (M w)+1+1 < R (M w1)):=by
 have hs:=y.size;rw[y.cell au,y.cell au,y.cell au,y.cell au,y.cell au,y.cell au,y.cell au,y.cell au,y.cell au,y.frozen au,y.frozen au,y.frozen au];simp[go_sem] at hs |-;omega

def a2d (s t r:Sp)(w:C):n4 (R (M w)) w (w3 s t r w):=ai

def Bu {lo hi c r a b:Int}(t:a=min lo c)(y:b=max hi r):bw ⟨d,lo,hi⟩ ⟨d,c,r⟩=⟨d,a,b⟩:=by
 subst t y;rfl

section
variable (s t:Sp)(w:C)
def YB:
  Calls f 183 #[sv s,sv t] w λe w'=>e=Rt (sv (bH s t))/\bl w w':=by
 obtain⟨n,lo,hi⟩:=s;obtain⟨n',xt,xu⟩:=t;go_enter func183,ntmps183;go_wp2_with fail;go_call Ss ⟨n,lo,hi⟩ ⟨n',xt,xu⟩ _ as e w1 ⟨rfl,vZ⟩;obtain⟨⟨k,j,z⟩,⟨y,q,D⟩,⟨r0,r1,r2⟩,⟨i,u,c⟩,z0,z1,z2⟩:=gO;have H1:=gI;clear vZ;simp only[dP] at r0 r1 r2;cases n with
 |true=>
  have K:bw ⟨W5,lo,hi⟩ ⟨n',xt,xu⟩=⟨n',xt,xu⟩:=rfl;rw[K];go_wp2;refine bodyPost_ret (v:=sv ⟨n',xt,xu⟩) pD rfl ⟨rfl,?_⟩;exact mX
 |false=>
  cases n' with
  |true=>
   have K:bw ⟨d,lo,hi⟩ ⟨W5,xt,xu⟩=⟨d,lo,hi⟩:=rfl;rw[K];go_wp2;refine bodyPost_ret (v:=sv ⟨d,lo,hi⟩) pD rfl ⟨rfl,?_⟩;exact mX
  |false=>
  rcases Int.lt_or_le xt lo with h1|h1<;>rcases Int.lt_or_le hi xu with N|N
  .have K:bw ⟨d,lo,hi⟩ ⟨d,xt,xu⟩=⟨d,xt,xu⟩:=Bu aa aa
   rw[K];go_wp2;refine bodyPost_ret (v:=sv ⟨d,-2147483648,2147483647⟩) pD rfl ⟨?_,?_⟩
   .exact kq AT
   .exact mX
  .have K:bw ⟨d,lo,hi⟩ ⟨d,xt,xu⟩=⟨d,xt,hi⟩:=Bu aa aa
   rw[K];go_wp2;refine bodyPost_ret (v:=sv ⟨d,-2147483648,hi⟩) pD rfl ⟨?_,?_⟩
   .exact kq AT
   .exact mX
  .have K:bw ⟨d,lo,hi⟩ ⟨d,xt,xu⟩=⟨d,lo,xu⟩:=Bu aa aa
   rw[K];go_wp2;refine bodyPost_ret (v:=sv ⟨d,lo,2147483647⟩) pD rfl ⟨?_,?_⟩
   .exact kq AT
   .exact mX
  .have K:bw ⟨d,lo,hi⟩ ⟨d,xt,xu⟩=⟨d,lo,hi⟩:=Bu aa aa
   rw[K];go_wp2;refine bodyPost_ret (v:=sv ⟨d,lo,hi⟩) pD rfl ⟨?_,?_⟩
   .exact kq AT
   .exact mX

def pX(h:bO s t≠0):
  Calls f 181 #[sv s,sv t,.func (.func F) #[] #[]] w λe w'=>e=Rt (Tu #[sv dP,I Y (bO s t)])/\bl w w':=by
 obtain⟨n,lo,hi⟩:=s;obtain⟨n',xt,xu⟩:=t;go_enter func181,ntmps181;go_wp2_with fail;go_call fW ⟨n,lo,hi⟩ ⟨n',xt,xu⟩ _ as e w1 ⟨rfl,vZ⟩;obtain⟨⟨k,_⟩,⟨y,_⟩,⟨b,W,V⟩,⟨i,u,c⟩,z0,z1,x⟩:=gO;have H1:=gI;clear vZ;simp only[dP] at b W V;go_wp2;refine bodyPost_ret (v:=Tu #[sv dP,I Y (bO ⟨n,lo,hi⟩ ⟨n',xt,xu⟩)]) (by simp[results,results181,go_sem,b,W,V,dP]) rfl ⟨rfl,?_⟩;exact DL

def vN(h:p:=by
 obtain⟨rn,rlo,rhi⟩:=r;go_wp2;refine bodyPost_ret (v:=Tu #[sv ⟨rn,rlo,rhi⟩,I Y 0]) (by simp[results,results181,go_sem,g0,g1,g2]) rfl ⟨by rw[hr],?_⟩;exact((H2.setCell au _).setCell au _).setCell au _):=h
def LE(h:bO s t=0):
  Calls f 181 #[sv s,sv t,.func (.func 182) #[] #[]] w λe w'=>e=Rt (Tu #[sv (bw s t),I Y 0])/\bl w w':=by
 obtain⟨n,lo,hi⟩:=s;obtain⟨n',xt,xu⟩:=t;go_enter func181,ntmps181;go_wp2_with fail;go_call fW ⟨n,lo,hi⟩ ⟨n',xt,xu⟩ _ as e w1 ⟨rfl,vZ⟩;obtain⟨⟨k,j,z⟩,⟨y,q,D⟩,⟨b,W,V⟩,⟨i,u,c⟩,z0,z1,x⟩:=gO;have H1:=gI;rw[h];simp only[dP] at b W V;clear vZ;go_wp2_with fail;go_call Ss ⟨n,lo,hi⟩ ⟨n',xt,xu⟩ _ as e w2 ⟨rfl,xj⟩;have g0:=b;have g1:=W;have g2:=V;have K:=i;have F:=u;have H:=c
 rw[<-xj.cell x] at g0 g1 g2;rw[<-xj.frozen x] at K F H;have H2:=wJ;clear b W V i u c xj k j z y q D;generalize hr:bw ⟨n,lo,hi⟩ ⟨n',xt,xu⟩=r;exact vN

def LD(h:bO s t=0):
  Calls f 181 #[sv s,sv t,.func (.func 197) #[] #[]] w λe w'=>e=Rt (Tu #[sv (aS s t),I Y 0])/\bl w w':=by
 obtain⟨n,lo,hi⟩:=s;obtain⟨n',xt,xu⟩:=t;go_enter func181,ntmps181;go_wp2_with fail;go_call fW ⟨n,lo,hi⟩ ⟨n',xt,xu⟩ _ as e w1 ⟨rfl,vZ⟩;obtain⟨⟨k,j,z⟩,⟨y,q,D⟩,⟨b,W,V⟩,⟨i,u,c⟩,z0,z1,x⟩:=gO;have H1:=gI;rw[h];simp only[dP] at b W V;clear vZ;go_wp2_with fail;go_call a1E ⟨n,lo,hi⟩ ⟨n',xt,xu⟩ _ as e w2 ⟨rfl,xj⟩;have g0:=b;have g1:=W;have g2:=V;have K:=i;have F:=u;have H:=c
 rw[<-xj.cell x] at g0 g1 g2;rw[<-xj.frozen x] at K F H;have H2:=wJ;clear b W V i u c xj k j z y q D;generalize hr:aS ⟨n,lo,hi⟩ ⟨n',xt,xu⟩=r;exact vN

def Kb(h:bO s t=0):
  Calls f 181 #[sv s,sv t,.func (.func 183) #[] #[]] w λe w'=>e=Rt (Tu #[sv (bH s t),I Y 0])/\bl w w':=by
 obtain⟨n,lo,hi⟩:=s;obtain⟨n',xt,xu⟩:=t;go_enter func181,ntmps181;go_wp2_with fail;go_call fW ⟨n,lo,hi⟩ ⟨n',xt,xu⟩ _ as e w1 ⟨rfl,vZ⟩;obtain⟨⟨k,j,z⟩,⟨y,q,D⟩,⟨b,W,V⟩,⟨i,u,c⟩,z0,z1,x⟩:=gO;have H1:=gI;rw[h];simp only[dP] at b W V;clear vZ;go_wp2_with fail;go_call YB ⟨n,lo,hi⟩ ⟨n',xt,xu⟩ _ as e w2 ⟨rfl,xj⟩;have g0:=b;have g1:=W;have g2:=V;have K:=i;have F:=u;have H:=c
 rw[<-xj.cell x] at g0 g1 g2;rw[<-xj.frozen x] at K F H;have H2:=wJ;clear b W V i u c xj k j z y q D;generalize hr:bH ⟨n,lo,hi⟩ ⟨n',xt,xu⟩=r;exact vN
end
def YM:wrap32 n=wr n:=by unfold wrap32 wr;omega

def Mh:wrap64 (wrap32 n)=wrap32 n:=by unfold wrap64 wrap32;omega

def a2A {a b c i:mh}(h:a=c)(z:b=i):Ending.returned (Ag #[a,b])=Rt (Ag #[c,i]):=by rw[h,z]

def kQ:
  Calls f 145 #[I Y n] w λe w'=>e=Rt (Ag #[I Y 1,I Y (wr n)])/\bl w w':=by
 go_enter func145,ntmps145;go_wp2
 go_returns
 exact⟨a2A rfl (by rw[<-YM,Mh]),ai⟩

def dD (b:Bool)(w:C):
  Calls f 146 #[O b] w λe w'=>e=Rt (Ag #[I Y (eD b).k,I Y (eD b).n])/\bl w w':=by
 cases b;all_goals
  go_enter func146,ntmps146;go_wp2
  go_returns
  exact cP

def kH(h:p:=by
 have t0:=pP;have t1:=pJ;have t2:wr 0=0:=rfl;go_enter func148,ntmps148;go_wp2;refine wp_region_quiet_below ac ac ?_;repeat (quiet_step (first|exact Calls.regrown_of (dD false _)|exact Calls.regrown_of (kQ 0 _)))
 refine wpQuiet_nil ?_;intro _ qp;obtain⟨⟨dq,osq⟩,qq⟩:=qp;subst qq;go_wp2;go_ret;exact⟨rfl,Below.trans ai ((below_regrown _ dq osq).mono lg)⟩):=h
def SF:
  Calls f 148 #[Ag #[I Y 0,I Y 0]] w λe w'=>e=Rt (O d)/\bl w w':=by
 have k:=cell_regrown (w:=w.alloc (A #[I Y 0,I Y 0] 82)) (a:=⟨R (M w),0,E⟩) (v:=I Y 0) aE;have j:=cell_regrown (w:=w.alloc (A #[I Y 0,I Y 0] 82)) (a:=⟨R (M w),1,E⟩) (v:=I Y 0) aE;exact kH

def WK(h:(n==0)=d):
  Calls f 148 #[Ag #[I Y 1,I Y n]] w λe w'=>e=Rt (O W5)/\bl w w':=by
 have k:=cell_regrown (w:=w.alloc (A #[I Y 1,I Y n] 82)) (a:=⟨R (M w),0,E⟩) (v:=I Y 1) aE;have j:=cell_regrown (w:=w.alloc (A #[I Y 1,I Y n] 82)) (a:=⟨R (M w),1,E⟩) (v:=I Y n) aE;exact kH

def Ud:
  Calls f 148 #[Ag #[I Y 1,I Y 0]] w λe w'=>e=Rt (O d)/\bl w w':=by
 have k:=cell_regrown (w:=w.alloc (A #[I Y 1,I Y 0] 82)) (a:=⟨R (M w),0,E⟩) (v:=I Y 1) aE;have j:=cell_regrown (w:=w.alloc (A #[I Y 1,I Y 0] 82)) (a:=⟨R (M w),1,E⟩) (v:=I Y 0) aE;exact kH

def TG:
  Calls f 148 #[Ag #[I Y 2,I Y 1]] w λe w'=>e=Rt (O W5)/\bl w w':=by
 have k:=cell_regrown (w:=w.alloc (A #[I Y 2,I Y 1] 82)) (a:=⟨R (M w),0,E⟩) (v:=I Y 2) aE;have j:=cell_regrown (w:=w.alloc (A #[I Y 2,I Y 1] 82)) (a:=⟨R (M w),1,E⟩) (v:=I Y 1) aE;exact kH

def OJ:
  Calls f 148 #[Ag #[I Y 2,I Y 0]] w λe w'=>e=Rt (O d)/\bl w w':=by
 have k:=cell_regrown (w:=w.alloc (A #[I Y 2,I Y 0] 82)) (a:=⟨R (M w),0,E⟩) (v:=I Y 2) aE;have j:=cell_regrown (w:=w.alloc (A #[I Y 2,I Y 0] 82)) (a:=⟨R (M w),1,E⟩) (v:=I Y 0) aE;exact kH

def Ol:
  Calls f 148 #[Ag #[I Y 3,I Y n]] w λe w'=>e=Rt (O W5)/\bl w w':=by
 have k:=cell_regrown (w:=w.alloc (A #[I Y 3,I Y n] 82)) (a:=⟨R (M w),0,E⟩) (v:=I Y 3) aE;have j:=cell_regrown (w:=w.alloc (A #[I Y 3,I Y n] 82)) (a:=⟨R (M w),1,E⟩) (v:=I Y n) aE;exact kH

def vI(v:Val)(w:C)(h:cS T v):
  Calls f 148 #[Ag #[I Y v.k,I Y v.n]] w λe w'=>e=Rt (O (cnt v))/\bl w w':=by
 obtain⟨k,n⟩:=v;simp only[cS] at h;rcases h with⟨rfl,rfl⟩|⟨rfl,_⟩|⟨rfl,rfl|rfl⟩|⟨rfl,_⟩
 .exact SF w
 .by_cases hn:n=0
  .subst hn;exact Ud w
  .simpa[cnt,hn] using WK n w mQ
 .exact OJ w
 .exact TG w
 .exact Ol n w
end
section
open Go.RowKit
attribute [local go_sem ↓] Go.wp_at_zero Go.wp_at_succ
def a7a.form {w:C}{B m:Nat}{s:St}{vv tv lv:mh}{fv:List mh}(h:a7a w B m s vv tv lv fv)(u:0 < X s.vq):
  ∃g cap,vv=U (G ⟨g,0,E⟩) (X s.vq) cap/\B<=g/\g < R (M w)/\(∀i (hi:i < X s.vq),w.cell? ⟨g,i * 2,E⟩=G (I Y s.vq[i].k)/\w.cell? ⟨g,i * 2+1,E⟩=G (I Y s.vq[i].n))/\(∀j,w.frozen? ⟨g,j,E⟩=d):=by
 obtain⟨g,cap,rfl,y,H⟩:=h.vq.form u;have T:=h.vq;refine⟨g,cap,rfl,y,H,λi hi=>⟨?_,?_⟩,λj=>T.frozenAt j⟩
 .rw[T.cellAt (i * 2) aa];exact o8 _ i hi
 .rw[T.cellAt (i * 2+1) aa];exact oJ _ i hi


def rH(g j c:Nat)(u b:mh)(k i:Nat)(h:k≠g):((w.setCell ⟨g,j,E⟩ u).setCell ⟨g,c,E⟩ b).cell? ⟨k,i,E⟩=w.cell? ⟨k,i,E⟩:=
 j3 (a:=⟨k,i,E⟩) (rN w g j c u b k h)
end
section
open Go.RowKit
def FI(x j v t z:Nat)(l:List Val)(w:C)(q:X l<=maxLen)(b:c < R (M w))(r:v < R (M w))(D:∀k (h:k < X l),w.cell? ⟨c,x+k * 2,E⟩=G (I Y l[k].k)/\w.cell? ⟨c,x+k * 2+1,E⟩=G (I Y l[k].n))(N:∀k (h:k < X l),w.cell? ⟨v,t+k * 2,E⟩=G (I Y l[k].k)/\w.cell? ⟨v,t+k * 2+1,E⟩=G (I Y l[k].n)):
  Calls f 75 #[U (G ⟨c,x,E⟩) (X l) j,U (G ⟨v,t,E⟩) (X l) z] w λe w'=>e=Rt (O W5)/\bl w w':=by
 unfold maxLen at q;go_enter func75,ntmps75;go_wp2;go_loopw [5] (λi wr=>∃k:Nat,k<=X l/\i=I Y k/\bl w wr) (λi _=>X l - (intOf i).toNat)
 case atStart=>exact⟨0,Nat.zero_le _,rfl,bR _ _⟩
 case round=>
  obtain⟨k,u,rfl,y⟩:=hrel;by_cases H:k < X l
  .have K:=cQ
   have F:=im;have ⟨q0,q1⟩:wr.cell? ⟨c,x+k * 2,E⟩=G (I Y l[k].k)/\wr.cell? ⟨c,x+k * 2+1,E⟩=G (I Y l[k].n):=by rw[y.cell (p:=⟨c,_,E⟩) b,y.cell (p:=⟨c,_,E⟩) b];exact D k H
   have ⟨r0,r1⟩:wr.cell? ⟨v,t+k * 2,E⟩=G (I Y l[k].k)/\wr.cell? ⟨v,t+k * 2+1,E⟩=G (I Y l[k].n):=by rw[y.cell (p:=⟨v,_,E⟩) r,y.cell (p:=⟨v,_,E⟩) r];exact N k H
   clear D N;go_wp2
   go_quiet (fail)
   go_wp2;go_roundw
   case rel=>exact⟨k+1,aa,aJ,below_drewN y _⟩
   case measure=>exact aK
  .go_wp2
   go_ret;exact⟨rfl,y⟩

def sL (i b:oA)(j z:Nat)(w:C):
  Calls f 75 #[U i 0 j,U b 0 z] w λe w'=>e=Rt (O W5)/\bl w w':=by
 go_enter func75,ntmps75;go_wp2
 go_rounds 1
 go_ret;exact pW

def sE (i b:oA)(j z:Nat)(l:List Val)(w:C)(q:X l<=maxLen)(D:a7j w i l)(N:a7j w b l):
  Calls f 75 #[U i (X l) j,U b (X l) z] w λe w'=>e=Rt (O W5)/\bl w w':=by
 rcases D with rfl|⟨c,x,rfl,k,D⟩
 .exact sL i b j z w
 .rcases N with rfl|⟨v,t,rfl,u,N⟩
  .exact sL _ b j z w
  .exact FI c x j v t z l w q k u D N
end
section
open Go
section
variable {P:Program} {xg:Array Oper} {Q:Exit->Act->World->Prop} {md:Region.Mode} {l m:Nat}
def Bz (xg:Array Oper):Prop:=∀o∈xg,∀c,o.op≠.defer c
def a0Q {b:String}{args:Array mh}{w:C}{R:mh->C->Prop}(h:Rows P b args w R):RowsIn Fence.wide m P b args w R:=λc cs _=>by
 obtain⟨v,w',L,hs⟩:=h c cs;exact⟨v,w',L,stepsIn_wide.2 hs⟩
def Nw {i:Nat}{K:Act->C->Prop}{a:Act}{w:C}(b:∀o,xg[i]? =G o->∀c,o.op≠.defer c)(t:¬LetsOut Q)(h:wpOp P xg Q i K a w):wpOpIn (Fence.wide.inRound l) m P xg Q i K a w:=by
 unfold wpOp at h;unfold wpOpIn;cases e:xg[i]? with
 |none=>simpa[e] using h
 |some o=>
  simp only[e] at h |-;by_cases Z:Region.wanted o (yielded xg a.tmps)=W5
  .rw[if_pos Z] at h |-
   rcases h with h|⟨_,h⟩
   .refine⟨λ_ _=>trivial,?_⟩
    rw[show (Fence.wide.inRound l).round=G l from rfl,Oper.semAt_some l _ o (b o e)];unfold Oper.wp at h;generalize Sem.run P (execOp a.eval o) w=r at h |-;unfold Oper.upon at h;unfold Oper.uponIn;split at h
    .exact h
    .exact h
    .exact h
    .exact⟨λh=>(by cases h),callsIn_wide.2 h⟩
    .exact⟨λh=>(by cases h),a0Q h⟩
    .exact h
    .exact h.elim
   .exact absurd h t
  .rw[if_neg Z] at h |-
   exact⟨λ_ _=>trivial,h⟩
def yM (b:Bz xg)(t:¬LetsOut Q):∀(q:Nat) (p:Array Bool) (a:Act) (w:C),wpAny P md xg Q q p a w->wpAnyIn (Fence.wide.inRound l) m P md xg Q q p a w
 |0,_,_,_,h=>h
 |q+1,_,_,_,h=>⟨h.1,λi hi=>Nw (λo H=>b o (Array.mem_of_getElem? H)) t (wpOp_mono (λj w' z=>yM b t q _ j w' z) (h.2 i hi))⟩
def Vx {S:C->Prop}{id:Nat}{a:Act}{w:C}(zs:List Nat)(z:P.follows .mixedOrders=W5)(b:Bz xg)(t:¬LetsOut Q)(W:S w.drew)
  (h:S w.drew->cH P .any xg Q S zs xg.size (Array.replicate xg.size d) a w.drew):(Code.region id xg W5).wpIn (Fence.wide.inRound l) m P Q a w:=
 wpIn_region_any z (yM b t _ _ _ _ (yi _ _ _ _ (h W)))
def Am {F:Fence}{i:Code}{K:Act->C->Prop}{a:Act}{w:C}(h:i.wpIn F m P (Exit.then K (λ_ _ _=>False)) a w):i.wpIn F m P (Exit.then K Q) a w:=wpIn_mono h λe a w q=>by
 cases e<;>first|exact q|exact q.elim
def a1z {K:Act->C->Prop}:¬LetsOut (Exit.then K (λ_ _ _=>False)):=λ⟨_,_,h⟩=>h
end
def LU(F K ty c:TypeId)(g o e r:Nat)(a:Addr)(h x k:Nat)(p:Array mh)(t:TypeId)(cs:List mh)(z:P.underlying F=G (.slice c))(hs:(P.info? c).map (·.size)=G k)(H:w.heap[g]? =G (A p t (0,0)))(u:X cs=Nat.min h e * k)(q:∀j v,cs[j]? =G v->w.cell? (a.add j)=G v)(y:o+X cs<=p.size)(D:∀v∈cs,v.oneCell'=W5):
  (Builtin.copy_ #[F,K] ty #[U (G ⟨g,o,E⟩) e r,U (G a) h x]).run P w=
   .ok (goInt (Nat.min h e)) (w.setRow g (p.toList.take o++cs++p.toList.drop (o+X cs)).toArray):=by
 have b:=run_loadCells_list (P:=P) w a cs q;have L:=run_storeCells_at P g o t cs 0 p w H (by simpa using y) D;cases hq:P.info? c with
 |none=>simp[hq] at hs
 |some i=>
  have hi:i.size=k:=by simpa[hq] using hs
  simp[Builtin.copy_,run_underlying z,Builtin.lenOf,Builtin.firstCells,sizeOf,typeInfo,hq,hi,<-u,b,L]
end
section
open Go.RowKit Go
section
variable {P:Program} {xg:Array Oper} {Q:Exit->Act->World->Prop} {a:Act} {w:World} {rest:List Oper} {o:Oper}
def tL (v:mh)(h:wpList P xg Q rest (a.put o.dst v) w)(e:(execOp a.eval o).run P w=.ok (.value v) w:=by first|(go_simp;done)|(go_simp;with_reducible rfl))(Z:Region.wanted o (yielded xg a.tmps)=true:=by rfl):wpList P xg Q (o::rest) a w:=by
 unfold wpList;rw[if_pos Z];left;unfold Oper.wp;rw[e];exact h
def tLb (b:Bool)(c:mh)(h:∀v,Hid (v=if b=W5 then undef else c)->wpList P xg Q rest (a.put o.dst v) w)(K:b=d->Region.wanted o (yielded xg a.tmps)=W5/\(execOp a.eval o).run P w=.ok (.value c) w)(D:b=W5->Region.wanted o (yielded xg a.tmps)=d):wpList P xg Q (o::rest) a w:=by
 cases b with
 |false=>
  obtain⟨Z,e⟩:=K rfl;exact tL c (h c (by show _=_;simp)) e Z
 |true=>
  unfold wpList;rw[if_neg (by rw[D rfl];decide)];exact h _ (by show _=_;simp)
end
end
section
open Go.RowKit
def aV:lI:=[⟨1,0,0,0,5,0⟩,⟨18,0,0,0,0,0⟩]

def dI:
  Calls f 39 #[] w λe w'=>∃b,e=Rt (Ag #[I Y 1,I Y 0,U (G ⟨b,0,E⟩) 2 2])/\a2r w' (G ⟨b,0,E⟩) aV/\bl w w':=by
 go_enter func39,ntmps39;go_wp2;refine bodyPost_ret (v:=Ag #[I Y 1,I Y 0,U (G ⟨R (M w)+1,0,E⟩) 2 2]) (by simp[results,results39,go_sem]) rfl ⟨R (M w)+1,rfl,.inr ⟨_,_,rfl,ae,?_⟩,ai⟩;intro k u
 match k,u with
 |0,_=>refine⟨?_,?_,?_,?_,?_,?_⟩<;>simp[go_sem,aV]
 |1,_=>refine⟨?_,?_,?_,?_,?_,?_⟩<;>simp[go_sem,aV]
 |k+2,h=>simp[aV] at h;omega
