import Derived.Test.YtmapdpcfanecdabGreatDoorM22
import Derived.Test.YtmapdpcfanecdabGreatDoorM20
import Derived.FnData
import Derived.LaidLaws
import Derived.Test.YtmapdpcfanecdabGreatDoorM13
import Derived.Lib.SliceRun
open Array renaming getElem?_eq_some_iff→q8,toList_inj→x8
open Go.Ending renaming returned→Rt
open Go.Obj renaming cells→Cc
open Go.Proofs.Tryz renaming prog→pG
open Go.RowKit.Below renaming heap_setCell→hSe,refl→bR
open Go.Value renaming agg→Ag,bool→Bb,ownBlock→z7,pointer→Pp,slice→U,slice→j2,string→z6,tuple→Tu
open Go.World renaming cell?→q9,cell?_of_block→j3,cell?_setCell_other→x6,frozen?_setCell→Z2,ownsRow_made→Q9,ownsRow_nil→q6,setCell→j9,size_alloc→j1
open Int renaming eq_ofNat_of_zero_le→j6,toNat_natCast→j0
open List renaming drop_eq_getElem_cons→Q4,drop_eq_nil_of_le→Z9,drop_zero→Q7,eq_nil_of_length_eq_zero→Q8,find?_eq_none→Z6,getD→J6,getElem?_eq_getElem→Q3,getElem?_eq_none→X0,getElem_mem→gM,getElem_of_mem→X5,isEmpty_eq_false_iff→Q6,length_cons→j7,length_map→Z7,length_nil→Q5,map_append→z9,map_cons→z8,map_nil→J8,mem_append→Z4,mem_cons→j5,mem_cons_of_mem→J5,mem_map→X4,nil_append→X6,not_mem_nil→Z5,pairwise_cons→x7,range→j4,range'→J9,replicate→J7
open Nat renaming le_of_lt→x9,le_refl→lR,le_trans→lT,lt_irrefl→X2,lt_of_lt_of_le→lL,ne_of_lt→J4,zero_add→q7,zero_le→j8
open Option renaming isSome→Z8,none→nO,some→sO
set_option linter.unusedSimpArgs false
set_option linter.unusedVariables false
set_option maxHeartbeats 16000000
set_option maxRecDepth 100000
namespace Go.Proofs.YtmapdpcfanecdabGreatDoor
section
open Go.RowKit
def ErrS (w:World):Prop:=∃ev,w.cell? ⟨2,0,nO⟩=sO ev∧(ev=.nilIface∨∃te pe,ev=.iface te pe)
theorem ErrS.below {w w':World}(h:ErrS w)(hb:Below w.heap.size w w'):ErrS w':=by
 obtain⟨m,hm,hi⟩:=h
 exact⟨m,by rw[hb.cell (World.block_lt_of_cell? w _ hm)];exact hm,hi⟩

theorem oJ {p:Prop}(h:p):Hid p:=h
theorem fK (s:ByteArray):s.data.toList.length=s.size:=by show s.data.toList.length=s.data.size;exact Array.length_toList
theorem rH (v:Int):(fI v).data.toList=Lib.itoa v:=by simp[fI]

theorem ii (s:ByteArray)(w:World)(ht:Tab w)(hE:ErrS w):
  Calls pG 212 #[.string s] w λe w'=>∃v,e=Rt (Tu #[.int .i64 v,Bb (dm s.data.toList).isSome])∧(∀n,dm s.data.toList=sO n→v=n)∧Below w.heap.size w w':=by
 by_cases hl:s.size≤11
 ·have n1:¬(11:Int) < (s.size:Int):=by omega
  have hat:=Lib.atoiAll_short s.data.toList (by rw[fK];omega)
  cases ha:Lib.atoi s.data.toList with
  |none=>
   rw[ha] at hat
   have hno:dm s.data.toList=none:=by unfold dm;rw[ha];simp
   rw[hno]
   obtain⟨ev,hev,hev2⟩:=hE
   have hA:=Tryz.strconv_Atoi_syntax s (by omega) hat ev w hev hev2
   clear hat ha
   go_enter Tryz.func212,Tryz.ntmps212
   go_wp2_with (go_at_call 238;fail)
   refine hA.mono ?_
   rintro e w1 ⟨M,rfl,-,-,hb1⟩
   clear hA
   go_wp2
   go_ret2
   exact⟨0,rfl,λn h=>(by cases h),hb1⟩
  |some v=>
   rw[ha] at hat
   have hf:kZ v:=Lib.atoiAll_bounds hat
   by_cases hi:Lib.itoa v=s.data.toList
   ·have hi':fI v=s:=by
     apply ByteArray.ext
     apply x8.1
     rw[rH];exact hi
    have hno:dm s.data.toList=sO v:=by unfold dm;rw[if_pos (by rw[fK];exact hl),ha];simp[hi]
    rw[hno]
    refine(tS s v w hat hf hi' hl ht).mono ?_
    rintro e w' ⟨rfl,hb⟩
    exact⟨v,rfl,λn h=>(by cases h;rfl),hb⟩
   ·have hno:dm s.data.toList=none:=by unfold dm;rw[if_pos (by rw[fK];exact hl),ha];simp[hi]
    rw[hno]
    have hne:((fI v).toList==s.toList)=false:=by
     rw[beq_eq_false_iff_ne,ByteArray.toList_eq,ByteArray.toList_eq,rH]
     exact hi
    have hA:∀w,Calls pG 238 #[.string s] w λe w'=>e=Rt (Tu #[.int .i64 v,.nilIface])∧Below w.heap.size w w':=by
     intro w
     refine(Tryz.strconv_Atoi_ok s (by omega) v hat w).mono ?_
     rintro e w' ⟨rfl,rfl|⟨t,rfl⟩⟩
     ·exact⟨rfl,bR _ _⟩
     ·exact⟨rfl,Lib.bytesWorld_below _ _ _⟩
    clear hat ha hi hno
    go_enter Tryz.func212,Tryz.ntmps212
    go_wp2_with (first
     |(go_at_call 238;refine(hA _).mono ?_;rintro e w1 ⟨rfl,hb1⟩)
     |(go_at_call 118;refine(kU v _ hf (ht.below hb1)).mono ?_;rintro e w2 ⟨rfl,hb2⟩))
    go_ret2
    exact⟨v,rfl,λn h=>(by cases h),hb1.trans (hb2.mono hb1.size)⟩
 ·have n1:(11:Int) < (s.size:Int):=by omega
  have hno:dm s.data.toList=none:=by unfold dm;rw[if_neg (by rw[fK];exact hl)]
  rw[hno]
  go_enter Tryz.func212,Tryz.ntmps212
  go_wp2
  go_ret2
  exact⟨0,rfl,λn h=>(by cases h),bR _ _⟩

theorem Cm (x:ByteArray)(sa:Option Addr)(np p g n c:Nat)(w:World)(h0:0 < n)(hn:n≤5000)(hp:p < w.heap.size)(hg:g < w.heap.size)(hc:w.cell? ⟨p,0,nO⟩=sO (U (sO ⟨g,0,nO⟩) n c))(hx:w.cell? ⟨g,0,nO⟩=sO (.string x))(he:np+1≠n):
  Calls pG 214 #[Ag #[.string x,U sa np np],Pp (sO ⟨p,0,nO⟩)] w λe w'=>e=Rt (Bb false)∧Below w.heap.size w w':=by
 have n0:(0:Int) < (n:Int):=by omega
 have e1:((np:Int)==(n:Int) - 1)=false:=by simp;omega
 have z1:p < w.heap.size+1:=by omega
 have z2:g < w.heap.size+1:=by omega
 clear he
 go_enter Tryz.func214,Tryz.ntmps214
 go_wp2
 go_quiet (fail)
 go_wp2
 go_ret
 exact⟨rfl,below_drewN (by go_grown) _⟩
theorem yF (x:ByteArray)(sa:Option Addr)(np p g n c:Nat)(w:World)(h0:0 < n)(hn:n≤5000)(hp:p < w.heap.size)(hg:g < w.heap.size)(hc:w.cell? ⟨p,0,nO⟩=sO (U (sO ⟨g,0,nO⟩) n c))(hx:w.cell? ⟨g,0,nO⟩=sO (.string x))(he:np+1=n):
  Calls pG 214 #[Ag #[.string x,U sa np np],Pp (sO ⟨p,0,nO⟩)] w λe w'=>e=Rt (Bb true)∧Below w.heap.size w w':=by
 have n0:(0:Int) < (n:Int):=by omega
 have e1:((np:Int)==(n:Int) - 1)=true:=by simp;omega
 have z1:p < w.heap.size+1:=by omega
 have z2:g < w.heap.size+1:=by omega
 clear he
 go_enter Tryz.func214,Tryz.ntmps214
 go_wp2
 go_quiet (fail)
 go_wp2
 go_ret
 exact⟨rfl,below_drewN (by go_grown) _⟩
theorem An (x y:ByteArray)(sa:Option Addr)(np p g n c:Nat)(w:World)(h0:0 < n)(hn:n≤5000)(hp:p < w.heap.size)(hg:g < w.heap.size)(hc:w.cell? ⟨p,0,nO⟩=sO (U (sO ⟨g,0,nO⟩) n c))(hx:w.cell? ⟨g,0,nO⟩=sO (.string x))(hne:(y.toList==x.toList)=false):
  Calls pG 214 #[Ag #[.string y,U sa np np],Pp (sO ⟨p,0,nO⟩)] w λe w'=>e=Rt (Bb false)∧Below w.heap.size w w':=by
 have n0:(0:Int) < (n:Int):=by omega
 have z1:p < w.heap.size+1:=by omega
 have z2:g < w.heap.size+1:=by omega
 go_enter Tryz.func214,Tryz.ntmps214
 go_wp2
 go_quiet (fail)
 go_wp2
 go_ret
 exact⟨rfl,below_drewN (by go_grown) _⟩
theorem Bl (x y:ByteArray)(sa:Option Addr)(np p g n c:Nat)(w:World)(h0:0 < n)(hn:n≤5000)(hp:p < w.heap.size)(hg:g < w.heap.size)(hc:w.cell? ⟨p,0,nO⟩=sO (U (sO ⟨g,0,nO⟩) n c))(hx:w.cell? ⟨g,0,nO⟩=sO (.string x)):
  Calls pG 214 #[Ag #[.string y,U sa np np],Pp (sO ⟨p,0,nO⟩)] w λe w'=>e=Rt (Bb (y.data.toList==x.data.toList&&np==n - 1))∧Below w.heap.size w w':=by
 cases hb:(y.data.toList==x.data.toList)
 ·rw[Bool.false_and]
  exact An x y sa np p g n c w h0 hn hp hg hc hx (by rw[ByteArray.toList_eq,ByteArray.toList_eq];exact hb)
 ·have hyx:y=x:=by
   apply ByteArray.ext
   apply x8.1
   exact beq_iff_eq.1 hb
  subst hyx
  rw[Bool.true_and]
  by_cases he:np+1=n
  ·have:(np==n - 1)=true:=by rw[beq_iff_eq];omega
   rw[this]
   exact yF y sa np p g n c w h0 hn hp hg hc hx he
  ·have:(np==n - 1)=false:=by rw[beq_eq_false_iff_ne];omega
   rw[this]
   exact Cm y sa np p g n c w h0 hn hp hg hc hx he

theorem Gk {k:Nat}(h1:1≤k)(h:k≤19):npt k=(prt k).length:=by
 rcases lg h1 h with rfl|rfl|rfl|rfl|rfl|rfl|rfl|rfl|rfl|rfl|rfl|rfl|rfl|rfl|rfl|rfl|rfl|rfl|rfl<;>rfl
theorem yW {x:List UInt8}{n:Nat}(h:∀j,1≤j→j < 20→fX x n j=false):fM x n=none:=by
 unfold fM
 rw[Z6]
 intro j hj
 simp at hj
 rw[h j (by omega) (by omega)]
 simp
theorem yA {x:List UInt8}{n k:Nat}(h:∀j,1≤j→j < k→fX x n j=false)(h1:1≤k)(h19:k≤19)(hk:fX x n k=true):fM x n=sO k:=by
 unfold fM
 have hs:[1,2,3,4,5,6,7,8,9,10,11,12,13,14,15,16,17,18,19]=J9 1 (k - 1)++J9 k (20 - k):=by
  rcases lg h1 h19 with rfl|rfl|rfl|rfl|rfl|rfl|rfl|rfl|rfl|rfl|rfl|rfl|rfl|rfl|rfl|rfl|rfl|rfl|rfl<;>rfl
 rw[hs,List.find?_append]
 have hn:(J9 1 (k - 1)).find? (fX x n)=none:=by
  rw[Z6]
  intro j hj
  rw[List.mem_range'_1] at hj
  rw[h j (by omega) (by omega)]
  simp
 rw[hn,show 20 - k=(19 - k)+1 by omega,List.range'_succ,List.find?_cons,hk]
 rfl

def BG (o:Option Nat):Value:=match o with
 |some k=>Tu #[.int .i64 k,Bb true]
 |none=>Tu #[.int .i64 0,Bb false]

theorem Er (x:ByteArray)(N p g n c:Nat)(w:World)(h0:0 < n)(hs:ShpAt N shps w)(hn:n≤5000)(hp:p < w.heap.size)(hg:g < w.heap.size)(hc:w.cell? ⟨p,0,nO⟩=sO (U (sO ⟨g,0,nO⟩) n c))(hx:w.cell? ⟨g,0,nO⟩=sO (.string x)):
  Calls pG 213 #[.map (sO N),.func (.func 214) #[] #[Pp (sO ⟨p,0,nO⟩)]] w λe w'=>e=Rt (BG (fM x.data.toList (n - 1)))∧Below w.heap.size w w':=by
 generalize hans:fM x.data.toList (n - 1)=ans
 have Hans:=oJ hans
 clear hans
 go_enter Tryz.func213,Tryz.ntmps213
 go_wp2
 go_loopw [6] (λi wr=>∃k:Nat,1≤k∧k≤20∧i=.int .i64 k∧Hid (∀j,1≤j→j < k→fX x.data.toList (n - 1) j=false)∧Below w.heap.size w wr) (λi _=>20 - (intOf i).toNat)
 case atStart=>exact⟨1,lR _,by omega,rfl,(by intro j h1 h2;omega),bR _ _⟩
 case round=>
  obtain⟨k,hk1,hk,rfl,hno,hbr⟩:=hrel
  by_cases h20:k=20
  ·subst h20
   have e0:fM x.data.toList (n - 1)=none:=yW hno.out
   obtain rfl:nO=ans:=e0.symm.trans Hans.out
   clear hno e0 hc hx hs Hans
   go_wp2
   go_ret2
   exact⟨rfl,hbr⟩
  ·have hk19:k≤19:=by omega
   obtain⟨sa,hl⟩:=Fu (hs.below hbr (lR _)) k hk1 hk19
   have hc':wr.cell? ⟨p,0,nO⟩=sO (U (sO ⟨g,0,nO⟩) n c):=by rw[hbr.cell hp];exact hc
   have hx':wr.cell? ⟨g,0,nO⟩=sO (.string x):=by rw[hbr.cell hg];exact hx
   have s0:=hbr.size
   have m1:(k:Int)≤19:=by omega
   have hW:=Bl x (bi k) sa (npt k) p g n c wr h0 hn (by omega) (by omega) hc' hx'
   have hik:((bi k).data.toList==x.data.toList&&npt k==n - 1)=fX x.data.toList (n - 1) k:=by unfold fX;rw[Gk hk1 hk19]
   rw[hik] at hW
   cases hb:fX x.data.toList (n - 1) k with
   |true=>
    have e0:=yA hno.out hk1 hk19 hb
    obtain rfl:sO k=ans:=e0.symm.trans Hans.out
    rw[hb] at hW
    clear hc' hx' hc hx hs hno e0 hik hb Hans
    go_wp2_with (go_at_call 214;refine hW.mono ?_;rintro e w1 ⟨rfl,hb1⟩)
    go_ret2
    exact⟨rfl,hbr.trans (hb1.mono s0)⟩
   |false=>
    rw[hb] at hW
    have hno':Hid (∀j,1≤j→j < k+1→fX x.data.toList (n - 1) j=false):=by
     intro j h1 h2
     by_cases hj:j=k
     ·rw[hj];exact hb
     ·exact hno.out j h1 (by omega)
    clear hc' hx' hc hx hs hno hik hb
    go_wp2_with (go_at_call 214;refine hW.mono ?_;rintro e w1 ⟨rfl,hb1⟩)
    go_roundw
    case rel=>exact⟨k+1,by omega,by omega,by go_num,hno',hbr.trans (hb1.mono s0)⟩
    case measure=>simp[intOf];omega

def cG (q:Nat):Nat:=match q with
 |0=>1|1=>2|2=>3|3=>5|_=>4
theorem FH (b q:Nat)(w:World):
  Calls pG 185 #[Pp (sO ⟨b,0,nO⟩),.int .i64 q] w λe w'=>e=Rt (Pp (sO ⟨b,cG q,nO⟩))∧w'=w:=by
 by_cases h0:q=0
 ·subst h0
  go_enter Tryz.func185,Tryz.ntmps185
  go_wp2
  go_ret
  exact⟨rfl,rfl⟩
 by_cases h1:q=1
 ·subst h1
  go_enter Tryz.func185,Tryz.ntmps185
  go_wp2
  go_ret
  exact⟨rfl,rfl⟩
 by_cases h2:q=2
 ·subst h2
  go_enter Tryz.func185,Tryz.ntmps185
  go_wp2
  go_ret
  exact⟨rfl,rfl⟩
 by_cases h3:q=3
 ·subst h3
  go_enter Tryz.func185,Tryz.ntmps185
  go_wp2
  go_ret
  exact⟨rfl,rfl⟩
 have e0:((q:Int)==0)=false:=by simp;omega
 have e1:((q:Int)==1)=false:=by simp;omega
 have e2:((q:Int)==2)=false:=by simp;omega
 have e3:((q:Int)==3)=false:=by simp;omega
 have ep:cG q=4:=by
  unfold cG
  split<;>first|rfl|omega
 rw[ep]
 go_enter Tryz.func185,Tryz.ntmps185
 go_wp2
 go_ret
 exact⟨rfl,rfl⟩

theorem rP {N:Nat}{w:World}(h:ShpAt N shps w)(k:Nat)(h1:1≤k)(h19:k≤19):∃sa,(Instr.lookup 179 (.map (sO N)) (.int .i64 (k:Int)) false).run pG w=.ok (Ag #[.string (bi k),U sa (prt k).length (prt k).length]) w∧∀j (hj:j < (prt k).length),sa=sO ⟨N+k,0,nO⟩∧w.cell? ⟨N+k,j,nO⟩=sO (.int .i64 ((prt k)[j]:Nat))∧N+k < w.heap.size:=by
 rcases lg h1 h19 with rfl|rfl|rfl|rfl|rfl|rfl|rfl|rfl|rfl|rfl|rfl|rfl|rfl|rfl|rfl|rfl|rfl|rfl|rfl
 ·refine⟨_,bk h 1 0 _ rfl,λj hj=> ?_⟩
  match j,hj with
  |0,_=>exact⟨rfl,aj h 0 0 (by decide) (by decide) (.int .i64 0) rfl⟩
  |1,_=>exact⟨rfl,aj h 0 1 (by decide) (by decide) (.int .i64 4) rfl⟩
 ·refine⟨_,bk h 2 1 _ rfl,λj hj=> ?_⟩
  match j,hj with
  |0,_=>exact⟨rfl,aj h 1 0 (by decide) (by decide) (.int .i64 0) rfl⟩
  |1,_=>exact⟨rfl,aj h 1 1 (by decide) (by decide) (.int .i64 5) rfl⟩
 ·refine⟨_,bk h 3 2 _ rfl,λj hj=> ?_⟩
  match j,hj with
  |0,_=>exact⟨rfl,aj h 2 0 (by decide) (by decide) (.int .i64 0) rfl⟩
 ·refine⟨_,bk h 4 3 _ rfl,λj hj=> ?_⟩
  match j,hj with
  |0,_=>exact⟨rfl,aj h 3 0 (by decide) (by decide) (.int .i64 0) rfl⟩
  |1,_=>exact⟨rfl,aj h 3 1 (by decide) (by decide) (.int .i64 1) rfl⟩
 ·refine⟨_,bk h 5 4 _ rfl,λj hj=> ?_⟩
  match j,hj with
  |0,_=>exact⟨rfl,aj h 4 0 (by decide) (by decide) (.int .i64 0) rfl⟩
  |1,_=>exact⟨rfl,aj h 4 1 (by decide) (by decide) (.int .i64 1) rfl⟩
  |2,_=>exact⟨rfl,aj h 4 2 (by decide) (by decide) (.int .i64 2) rfl⟩
 ·refine⟨_,bk h 6 5 _ rfl,λj hj=> ?_⟩
  match j,hj with
  |0,_=>exact⟨rfl,aj h 5 0 (by decide) (by decide) (.int .i64 0) rfl⟩
  |1,_=>exact⟨rfl,aj h 5 1 (by decide) (by decide) (.int .i64 1) rfl⟩
  |2,_=>exact⟨rfl,aj h 5 2 (by decide) (by decide) (.int .i64 2) rfl⟩
 ·refine⟨_,bk h 7 6 _ rfl,λj hj=> ?_⟩
  match j,hj with
  |0,_=>exact⟨rfl,aj h 6 0 (by decide) (by decide) (.int .i64 0) rfl⟩
  |1,_=>exact⟨rfl,aj h 6 1 (by decide) (by decide) (.int .i64 1) rfl⟩
  |2,_=>exact⟨rfl,aj h 6 2 (by decide) (by decide) (.int .i64 2) rfl⟩
 ·refine⟨_,bk h 8 7 _ rfl,λj hj=> ?_⟩
  match j,hj with
  |0,_=>exact⟨rfl,aj h 7 0 (by decide) (by decide) (.int .i64 0) rfl⟩
  |1,_=>exact⟨rfl,aj h 7 1 (by decide) (by decide) (.int .i64 1) rfl⟩
  |2,_=>exact⟨rfl,aj h 7 2 (by decide) (by decide) (.int .i64 2) rfl⟩
 ·refine⟨_,bk h 9 8 _ rfl,λj hj=> ?_⟩
  match j,hj with
  |0,_=>exact⟨rfl,aj h 8 0 (by decide) (by decide) (.int .i64 0) rfl⟩
  |1,_=>exact⟨rfl,aj h 8 1 (by decide) (by decide) (.int .i64 1) rfl⟩
  |2,_=>exact⟨rfl,aj h 8 2 (by decide) (by decide) (.int .i64 2) rfl⟩
 ·refine⟨_,bk h 10 9 _ rfl,λj hj=> ?_⟩
  match j,hj with
  |0,_=>exact⟨rfl,aj h 9 0 (by decide) (by decide) (.int .i64 0) rfl⟩
  |1,_=>exact⟨rfl,aj h 9 1 (by decide) (by decide) (.int .i64 1) rfl⟩
 ·refine⟨_,bk h 11 10 _ rfl,λj hj=> ?_⟩
  match j,hj with
  |0,_=>exact⟨rfl,aj h 10 0 (by decide) (by decide) (.int .i64 0) rfl⟩
 ·refine⟨_,bk h 12 11 _ rfl,λj hj=> ?_⟩
  match j,hj with
  |0,_=>exact⟨rfl,aj h 11 0 (by decide) (by decide) (.int .i64 0) rfl⟩
  |1,_=>exact⟨rfl,aj h 11 1 (by decide) (by decide) (.int .i64 1) rfl⟩
  |2,_=>exact⟨rfl,aj h 11 2 (by decide) (by decide) (.int .i64 7) rfl⟩
 ·refine⟨_,bk h 13 12 _ rfl,λj hj=> ?_⟩
  match j,hj with
  |0,_=>exact⟨rfl,aj h 12 0 (by decide) (by decide) (.int .i64 1) rfl⟩
  |1,_=>exact⟨rfl,aj h 12 1 (by decide) (by decide) (.int .i64 7) rfl⟩
  |2,_=>exact⟨rfl,aj h 12 2 (by decide) (by decide) (.int .i64 2) rfl⟩
 ·refine⟨_,bk h 14 13 _ rfl,λj hj=> ?_⟩
  match j,hj with
  |0,_=>exact⟨rfl,aj h 13 0 (by decide) (by decide) (.int .i64 0) rfl⟩
  |1,_=>exact⟨rfl,aj h 13 1 (by decide) (by decide) (.int .i64 6) rfl⟩
 ·refine⟨_,bk h 15 14 _ rfl,λj hj=> ?_⟩
  match j,hj with
  |0,_=>exact⟨rfl,aj h 14 0 (by decide) (by decide) (.int .i64 1) rfl⟩
  |1,_=>exact⟨rfl,aj h 14 1 (by decide) (by decide) (.int .i64 3) rfl⟩
 ·refine⟨_,bk h 16 15 _ rfl,λj hj=> ?_⟩
  match j,hj with
  |0,_=>exact⟨rfl,aj h 15 0 (by decide) (by decide) (.int .i64 3) rfl⟩
 ·refine⟨_,bk h 17 16 _ rfl,λj hj=> ?_⟩
  match j,hj with
  |0,_=>exact⟨rfl,aj h 16 0 (by decide) (by decide) (.int .i64 1) rfl⟩
 ·refine⟨_,bk h 18 17 _ rfl,λj hj=> ?_⟩
  match j,hj with
  |0,_=>exact⟨rfl,aj h 17 0 (by decide) (by decide) (.int .i64 1) rfl⟩
 ·refine⟨_,bk h 19 18 _ rfl,λj hj=> ?_⟩
  exact absurd hj (by simp[prt])
end
section
open Go.ChangeShapes Go.WideShapes Go.ChangeAt Go.RowKit
theorem Gf: "*" ++ "errors.errorString" = "*errors.errorString" :=by decide
theorem KU (u:TypeId)(h:Tryz.prog.typeName? 3 u=sO "*errors.errorString"):u=327:=
 typeName_ptr_named (nm:= "errors.errorString") (by rw[Gf];kernel_rfl) (by kernel_rfl) (by decide) u (by rw[Gf];exact h)
theorem Gu {r:List (String×DataW Unit)}{W:World}(h:laidMet pG (("strconv.ErrSyntax",Rows.laid_strconv_ErrSyntax)::r) W):ErrS W:=by
 obtain⟨a,s,hv,-,-,-⟩:=laid_sentinel (g:=2) (ti:=124) (tp:=327) (te:=329) (ts:=9) h (by kernel_rfl) (by kernel_rfl) Tryz.underlying124 KU Tryz.underlying327 Tryz.underlying329 rfl rfl Tryz.underlying9 (by kernel_rfl) (by kernel_rfl)
 exact⟨_,World.var?_cell (by kernel_rfl) hv 0,.inr ⟨_,_,rfl⟩⟩
theorem EI (os:Os)(args:Array Value):Go.LaidIn pG ((iY pG os).forCall (λ_ _=>0) ⟨#[],args,[]⟩).memory Rows.alarmSoundRow.laid [4,5,1,7,3,2,(World.settled pG default).heap.size,(World.settled pG default).heap.size+1,6]:=
 Go.LaidIn.of_run _ 8 (by kernel_rfl) (by kernel_rfl) (by kernel_rfl) (by kernel_rfl)
theorem DJ (os:Os)(args:Array Value):laidMet pG Rows.alarmSoundRow.laid ((iY pG os).forCall (λ_ _=>0) ⟨#[],args,[]⟩).memory:=(EI os args).met
end
section
open Go.RowKit
abbrev bH (w:World)(V F:Int)(s:Option Addr)(c:List Ins)(cap:Nat)(g:Gs)(ss:Option Addr)(gc:Nat)(h:Gs)(st:Option Addr)(hc:Nat):World:=
 (((w.alloc (Cc #[.int .i64 V,.int .i64 F,U s c.length cap] 24)).alloc (Cc #[Bb g.n,Bb g.sp.n,.int .i64 g.sp.lo,.int .i64 g.sp.hi,Bb g.t,Bb g.f,U ss g.s.length gc] 91)).alloc (Cc #[Bb h.n,Bb h.sp.n,.int .i64 h.sp.lo,.int .i64 h.sp.hi,Bb h.t,Bb h.f,U st h.s.length hc] 91)).alloc (Cc #[Bb false,Bb false,.int .i64 0,.int .i64 0,Bb false,Bb false,U nO 0 0] 91)

def Fr7 (w:World)(b:Nat):Prop:=(∀j,w.frozen? ⟨b,j,nO⟩=false)∧b < w.heap.size
theorem Fr7.call {w w':World}{b:Nat}(h:Fr7 w b)(hb:Below w.heap.size w w'):Fr7 w' b:=
 ⟨λj=>by rw[hb.frozen (by simpa using h.2)];exact h.1 j,lL h.2 hb.size⟩

theorem Fr7.drew {w:World}{b:Nat}(h:Fr7 w b):Fr7 w.drew b:=h.call (bR _ _).drew
theorem Fr7.alloc {w:World}{b:Nat}(h:Fr7 w b)(o:Obj):Fr7 (w.alloc o) b:=h.call (Below.alloc (bR _ _) (lR _) o)

theorem eH {V F:Int}{c:List Ins}{g h:Gs}(hk:aX V F c [g,h]=0):br g.sp h.sp=0:=by
 unfold aX at hk
 split at hk
 ·have e:bW c [g,h]=if aC c g=0 then(if aC c h=0 then 0 else aC c h) else aC c g:=rfl
  have sp0:∀x,aC c x=0→dd x.sp=0:=λx hx=>by
   unfold aC at hx
   split at hx
   ·assumption
   ·rename_i hn;exact Decidable.not_not.1 hn
  rw[e] at hk
  by_cases hg:aC c g=0
  ·rw[if_pos hg] at hk
   by_cases hh:aC c h=0
   ·exact ckSps_ok.2 ⟨ckSp_ok.1 (sp0 g hg),ckSp_ok.1 (sp0 h hh)⟩
   ·rw[if_neg hh] at hk;exact absurd hk hh
  ·rw[if_neg hg] at hk;exact absurd hk hg
 ·rename_i hn;exact absurd hk hn

theorem eC (w:World)(V F:Int)(s:Option Addr)(c:List Ins)(cap:Nat)(g:Gs)(ss:Option Addr)(gc:Nat)(h:Gs)(st:Option Addr)(hc:Nat):
  PrAt (bH w V F s c cap g ss gc h st hc) w.heap.size V F s c cap∧GuAt (bH w V F s c cap g ss gc h st hc) (w.heap.size+1) 0 g ss gc∧GuAt (bH w V F s c cap g ss gc h st hc) (w.heap.size+1+1) 0 h st hc∧GuAt (bH w V F s c cap g ss gc h st hc) (w.heap.size+1+1+1) 0 dK nO 0∧Fr7 (bH w V F s c cap g ss gc h st hc) (w.heap.size+1+1+1):=by
 refine⟨?_,?_,?_,?_,?_⟩
 ·exact(((PrAt.new w V F s c cap).alloc _).alloc _).alloc _
 ·have:=GuAt.new (w.alloc (Cc #[.int .i64 V,.int .i64 F,U s c.length cap] 24)) g ss gc
  rw[j1] at this
  exact(this.alloc _).alloc _
 ·have:=GuAt.new ((w.alloc (Cc #[.int .i64 V,.int .i64 F,U s c.length cap] 24)).alloc (Cc #[Bb g.n,Bb g.sp.n,.int .i64 g.sp.lo,.int .i64 g.sp.hi,Bb g.t,Bb g.f,U ss g.s.length gc] 91)) h st hc
  simp only[j1] at this
  exact this.alloc _
 ·have:=GuAt.new (((w.alloc (Cc #[.int .i64 V,.int .i64 F,U s c.length cap] 24)).alloc (Cc #[Bb g.n,Bb g.sp.n,.int .i64 g.sp.lo,.int .i64 g.sp.hi,Bb g.t,Bb g.f,U ss g.s.length gc] 91)).alloc (Cc #[Bb h.n,Bb h.sp.n,.int .i64 h.sp.lo,.int .i64 h.sp.hi,Bb h.t,Bb h.f,U st h.s.length hc] 91)) dK nO 0
  simp only[j1] at this
  exact this
 ·refine⟨λj=> ?_,by simp⟩
  simp[go_sem]

theorem cU (w:World)(V F:Int)(s:Option Addr)(c:List Ins)(cap:Nat)(g:Gs)(ss:Option Addr)(gc:Nat)(h:Gs)(st:Option Addr)(hc:Nat):Below w.heap.size w (bH w V F s c cap g ss gc h st hc):=by go_grown

def pL (w:World)(jb:Nat)(g:Gs)(ss:Option Addr)(gc:Nat)(h:Gs)(st:Option Addr)(hc:Nat)(J:Sp)(w':World):Prop:=
 (w'.cell? ⟨w.heap.size+1,0,nO⟩=sO (Bb g.n)∧w'.cell? ⟨w.heap.size+1,1,nO⟩=sO (Bb g.sp.n)∧w'.cell? ⟨w.heap.size+1,2,nO⟩=sO (.int .i64 g.sp.lo)∧w'.cell? ⟨w.heap.size+1,3,nO⟩=sO (.int .i64 g.sp.hi)∧w'.cell? ⟨w.heap.size+1,4,nO⟩=sO (Bb g.t)∧w'.cell? ⟨w.heap.size+1,5,nO⟩=sO (Bb g.f)∧w'.cell? ⟨w.heap.size+1,6,nO⟩=sO (U ss g.s.length gc))∧
 (w'.cell? ⟨w.heap.size+1+1,0,nO⟩=sO (Bb h.n)∧w'.cell? ⟨w.heap.size+1+1,1,nO⟩=sO (Bb h.sp.n)∧w'.cell? ⟨w.heap.size+1+1,2,nO⟩=sO (.int .i64 h.sp.lo)∧w'.cell? ⟨w.heap.size+1+1,3,nO⟩=sO (.int .i64 h.sp.hi)∧w'.cell? ⟨w.heap.size+1+1,4,nO⟩=sO (Bb h.t)∧w'.cell? ⟨w.heap.size+1+1,5,nO⟩=sO (Bb h.f)∧w'.cell? ⟨w.heap.size+1+1,6,nO⟩=sO (U st h.s.length hc))∧
 (w'.cell? ⟨jb,0,nO⟩=sO (Bb J.n)∧w'.cell? ⟨jb,1,nO⟩=sO (.int .i64 J.lo)∧w'.cell? ⟨jb,2,nO⟩=sO (.int .i64 J.hi))


abbrev mW (w:World)(b:Nat)(v0 v1 v2 v3 v4 v5 v6:Value):World:=((((((w.setCell ⟨b,0,nO⟩ v0).setCell ⟨b,1,nO⟩ v1).setCell ⟨b,2,nO⟩ v2).setCell ⟨b,3,nO⟩ v3).setCell ⟨b,4,nO⟩ v4).setCell ⟨b,5,nO⟩ v5).setCell ⟨b,6,nO⟩ v6
theorem uD (w:World)(b k:Nat)(v0 v1 v2 v3 v4 v5 v6:Value)(h:k≠b):(mW w b v0 v1 v2 v3 v4 v5 v6).heap[k]? =w.heap[k]? :=by
 unfold mW
 rw[hSe _ _ _ _ h,hSe _ _ _ _ h,hSe _ _ _ _ h,hSe _ _ _ _ h,hSe _ _ _ _ h,hSe _ _ _ _ h,hSe _ _ _ _ h]
theorem tV (w:World)(b:Nat)(v0 v1 v2 v3 v4 v5 v6:Value):(mW w b v0 v1 v2 v3 v4 v5 v6).heap.size=w.heap.size:=by simp[mW]
theorem uA (w:World)(b k j:Nat)(v0 v1 v2 v3 v4 v5 v6:Value)(h:k≠b):(mW w b v0 v1 v2 v3 v4 v5 v6).cell? ⟨k,j,nO⟩=w.cell? ⟨k,j,nO⟩:=j3 (a:=⟨k,j,nO⟩) (uD w b k v0 v1 v2 v3 v4 v5 v6 h)
theorem GuAt.put7 {w:World}{b k o:Nat}{g:Gs}{ss:Option Addr}{cap:Nat}{v0 v1 v2 v3 v4 v5 v6:Value}(hg:GuAt w k o g ss cap)(h:k≠b):GuAt (mW w b v0 v1 v2 v3 v4 v5 v6) k o g ss cap:=by
 obtain⟨⟨h0,h1,h2,h3,h4,h5,h6⟩,hz⟩:=hg
 refine⟨⟨?_,?_,?_,?_,?_,?_,?_⟩,by rw[tV];exact hz⟩<;>rw[uA _ _ _ _ _ _ _ _ _ _ _ h]<;>assumption
theorem SpAt.put7 {w:World}{b k:Nat}{s:Sp}{v0 v1 v2 v3 v4 v5 v6:Value}(hg:SpAt w k s)(h:k≠b):SpAt (mW w b v0 v1 v2 v3 v4 v5 v6) k s:=by
 obtain⟨⟨h0,h1,h2⟩,hz⟩:=hg
 refine⟨⟨?_,?_,?_⟩,by rw[tV];exact hz⟩<;>rw[uA _ _ _ _ _ _ _ _ _ _ _ h]<;>assumption
theorem dM {B b:Nat}{a w:World}{v0 v1 v2 v3 v4 v5 v6:Value}(h:Below B a w)(hg:B≤b):Below B a (mW w b v0 v1 v2 v3 v4 v5 v6):=((((((h.setCell (by simpa using hg) _).setCell (by simpa using hg) _).setCell (by simpa using hg) _).setCell (by simpa using hg) _).setCell (by simpa using hg) _).setCell (by simpa using hg) _).setCell (by simpa using hg) _
theorem iv {w:World}{B B' n z:Nat}{e:TypeId}{v:Value}{xs:List Value}(h:w.ownsRow B e z v n xs)(hB:B'≤B):w.ownsRow B' e z v n xs:=
 ⟨h.1,h.2.imp id λ⟨g,cap,cur,r1,r2,r3⟩=>⟨g,cap,cur,r1,by omega,r3⟩⟩
theorem ix {w:World}{B n b z:Nat}{e:TypeId}{v:Value}{xs:List Value}{v0 v1 v2 v3 v4 v5 v6:Value}(h:w.ownsRow B e z v n xs)(hb:b < B):(mW w b v0 v1 v2 v3 v4 v5 v6).ownsRow B e z v n xs:=
 ⟨h.1,h.2.imp id λ⟨g,cap,cur,r1,r2,r3,r4⟩=>⟨g,cap,cur,r1,r2,by rw[uD _ _ _ _ _ _ _ _ _ _ (by omega)];exact r3,r4⟩⟩
theorem GsAt.drew {w:World}{ls:Option Addr}{L:List Gs}(h:GsAt w ls L):GsAt w.drew ls L:=h.call ((bR _ _).drew)

theorem s7 {p:Prop}(h:p:=by
 refine(hJ.out _).mono ?_
 rintro e w2 ⟨rfl,hb2⟩
 have G2:=G1.call hb2
 have H2:=H1.call hb2
 have R2:=R1.call hb2
 have I2:=I1.call hb2
 have J2:=J1.call hb2
 have F2:=F1.call hb2
 have B2:=B1.trans (hb2.mono B1.size)
 clear hb2 G1 H1 R1 I1 J1 F1 B1 g0 g1 g2 g3 g4 g5 g6 gz k0 k1 k2 k3 k4 k5 k6 kz hJ
 go_wp2
 have G3:=G2.alloc (.cells #[.bool J.n,.int .i64 J.lo,.int .i64 J.hi] 89)
 have H3:=H2.alloc (.cells #[.bool J.n,.int .i64 J.lo,.int .i64 J.hi] 89)
 have R3:=R2.alloc (.cells #[.bool J.n,.int .i64 J.lo,.int .i64 J.hi] 89)
 have I3:=I2.alloc (.cells #[.bool J.n,.int .i64 J.lo,.int .i64 J.hi] 89)
 have J3:=J2.alloc (.cells #[.bool J.n,.int .i64 J.lo,.int .i64 J.hi] 89)
 have F3:=F2.alloc (.cells #[.bool J.n,.int .i64 J.lo,.int .i64 J.hi] 89)
 have B3:=B2.alloc B2.size (.cells #[.bool J.n,.int .i64 J.lo,.int .i64 J.hi] 89)
 have S3:=SpAt.new w2 J
 have zj:w.heap.size+1+1+1 < w2.heap.size:=F2.2
 clear G2 H2 R2 I2 J2 F2 B2
 generalize w2.alloc (.cells #[.bool J.n,.int .i64 J.lo,.int .i64 J.hi] 89)=w3 at *
 generalize w2.heap.size=jb at *
 have KS:∀wx,GuAt wx (w.heap.size+1) 0 g ss gc→GuAt wx (w.heap.size+1+1) 0 h st hc→SpAt wx jb J→pL w jb g ss gc h st hc J wx:=λwx a b c=>⟨by simpa using a.1,by simpa using b.1,c.1⟩
 unfold pL at KS
 obtain⟨n,sp,t,f,sl⟩:=g
 refine wp_region_held_drew (S:=pL w jb ⟨n,sp,t,f,sl⟩ ss gc h st hc J) (by kernel_rfl) (KS _ G3.drew H3.drew S3.drew) (λhHeld=> ?_)
 unfold pL at hHeld ⊢
 refine vH 0 ?_ ?_
 refine vH 1 ?_ ?_
 refine vH 2 ?_ ?_
 refine wpAnyH_take (i:=3) (v:=if n=true then undef else .pointer (some ⟨w.heap.size+1+1,0,none⟩)) rfl (by kernel_rfl) (by kernel_rfl) (by kernel_rfl) (λ_ _ _ h=>h) ?_ (by assumption) ?_
 ·cases n
  ·refine Or.inl ⟨?_,?_⟩
   ·rfl
   ·(intro w hSw;(try dsimp only at hSw);first|(go_simp;done)|(go_simp;with_reducible rfl))
  ·exact Or.inr ⟨rfl,rfl⟩
 refine sm ?_
 refine wpAnyH_take (i:=4) (v:=if n=true then undef else .bool h.n) rfl (by kernel_rfl) (by kernel_rfl) (by kernel_rfl) (λ_ _ _ h=>h) ?_ (by assumption) ?_
 ·cases n
  ·refine Or.inl ⟨?_,?_⟩
   ·rfl
   ·(intro w hSw;(try dsimp only at hSw);first|(go_simp;done)|(go_simp;with_reducible rfl))
  ·exact Or.inr ⟨rfl,rfl⟩
 refine sm ?_
 refine wpAnyH_take (i:=5) (v:=.bool (n||h.n)) rfl (by kernel_rfl) (by kernel_rfl) (by kernel_rfl) (λ_ _ _ h=>h) ?_ (by assumption) ?_
 ·cases n
  ·refine Or.inl ⟨?_,?_⟩
   ·rfl
   ·(intro w hSw;(try dsimp only at hSw);first|(go_simp;done)|(go_simp;with_reducible rfl))
  ·refine Or.inl ⟨?_,?_⟩
   ·rfl
   ·(intro w hSw;(try dsimp only at hSw);first|(go_simp;done)|(go_simp;with_reducible rfl))
 refine sm ?_
 refine vH 6 ?_ ?_
 refine vH 7 ?_ ?_
 refine vH 8 ?_ ?_
 refine vH 9 ?_ ?_
 refine wpAnyH_take (i:=10) (v:=if t=true then undef else .pointer (some ⟨w.heap.size+1+1,4,none⟩)) rfl (by kernel_rfl) (by kernel_rfl) (by kernel_rfl) (λ_ _ _ h=>h) ?_ (by assumption) ?_
 ·cases t
  ·refine Or.inl ⟨?_,?_⟩
   ·rfl
   ·(intro w hSw;(try dsimp only at hSw);first|(go_simp;done)|(go_simp;with_reducible rfl))
  ·exact Or.inr ⟨rfl,rfl⟩
 refine sm ?_
 refine wpAnyH_take (i:=11) (v:=if t=true then undef else .bool h.t) rfl (by kernel_rfl) (by kernel_rfl) (by kernel_rfl) (λ_ _ _ h=>h) ?_ (by assumption) ?_
 ·cases t
  ·refine Or.inl ⟨?_,?_⟩
   ·rfl
   ·(intro w hSw;(try dsimp only at hSw);first|(go_simp;done)|(go_simp;with_reducible rfl))
  ·exact Or.inr ⟨rfl,rfl⟩
 refine sm ?_
 refine wpAnyH_take (i:=12) (v:=.bool (t||h.t)) rfl (by kernel_rfl) (by kernel_rfl) (by kernel_rfl) (λ_ _ _ h=>h) ?_ (by assumption) ?_
 ·cases t
  ·refine Or.inl ⟨?_,?_⟩
   ·rfl
   ·(intro w hSw;(try dsimp only at hSw);first|(go_simp;done)|(go_simp;with_reducible rfl))
  ·refine Or.inl ⟨?_,?_⟩
   ·rfl
   ·(intro w hSw;(try dsimp only at hSw);first|(go_simp;done)|(go_simp;with_reducible rfl))
 refine sm ?_
 refine vH 13 ?_ ?_
 refine vH 14 ?_ ?_
 refine vH 15 ?_ ?_
 refine wpAnyH_take (i:=16) (v:=if f=true then undef else .pointer (some ⟨w.heap.size+1+1,5,none⟩)) rfl (by kernel_rfl) (by kernel_rfl) (by kernel_rfl) (λ_ _ _ h=>h) ?_ (by assumption) ?_
 ·cases f
  ·refine Or.inl ⟨?_,?_⟩
   ·rfl
   ·(intro w hSw;(try dsimp only at hSw);first|(go_simp;done)|(go_simp;with_reducible rfl))
  ·exact Or.inr ⟨rfl,rfl⟩
 refine sm ?_
 refine wpAnyH_take (i:=17) (v:=if f=true then undef else .bool h.f) rfl (by kernel_rfl) (by kernel_rfl) (by kernel_rfl) (λ_ _ _ h=>h) ?_ (by assumption) ?_
 ·cases f
  ·refine Or.inl ⟨?_,?_⟩
   ·rfl
   ·(intro w hSw;(try dsimp only at hSw);first|(go_simp;done)|(go_simp;with_reducible rfl))
  ·exact Or.inr ⟨rfl,rfl⟩
 refine sm ?_
 refine wpAnyH_take (i:=18) (v:=.bool (f||h.f)) rfl (by kernel_rfl) (by kernel_rfl) (by kernel_rfl) (λ_ _ _ h=>h) ?_ (by assumption) ?_
 ·cases f
  ·refine Or.inl ⟨?_,?_⟩
   ·rfl
   ·(intro w hSw;(try dsimp only at hSw);first|(go_simp;done)|(go_simp;with_reducible rfl))
  ·refine Or.inl ⟨?_,?_⟩
   ·rfl
   ·(intro w hSw;(try dsimp only at hSw);first|(go_simp;done)|(go_simp;with_reducible rfl))
 refine sm ?_
 refine vH 19 ?_ ?_
 refine vH 20 ?_ ?_
 have L3:=(GsAt.new2 w3 ⟨n,sp,t,f,sl⟩ ss gc h st hc I3 h1 h2 J3 h3 h4).drew
 have G4:=G3.alloc (.cells #[.bool n,.bool sp.n,.int .i64 sp.lo,.int .i64 sp.hi,.bool t,.bool f,.slice ss sl.length gc,.bool h.n,.bool h.sp.n,.int .i64 h.sp.lo,.int .i64 h.sp.hi,.bool h.t,.bool h.f,.slice st h.s.length hc] 91)
 have H4:=H3.alloc (.cells #[.bool n,.bool sp.n,.int .i64 sp.lo,.int .i64 sp.hi,.bool t,.bool f,.slice ss sl.length gc,.bool h.n,.bool h.sp.n,.int .i64 h.sp.lo,.int .i64 h.sp.hi,.bool h.t,.bool h.f,.slice st h.s.length hc] 91)
 have R4:=R3.alloc (.cells #[.bool n,.bool sp.n,.int .i64 sp.lo,.int .i64 sp.hi,.bool t,.bool f,.slice ss sl.length gc,.bool h.n,.bool h.sp.n,.int .i64 h.sp.lo,.int .i64 h.sp.hi,.bool h.t,.bool h.f,.slice st h.s.length hc] 91)
 have F4:=F3.alloc (.cells #[.bool n,.bool sp.n,.int .i64 sp.lo,.int .i64 sp.hi,.bool t,.bool f,.slice ss sl.length gc,.bool h.n,.bool h.sp.n,.int .i64 h.sp.lo,.int .i64 h.sp.hi,.bool h.t,.bool h.f,.slice st h.s.length hc] 91)
 have S4:=S3.alloc (.cells #[.bool n,.bool sp.n,.int .i64 sp.lo,.int .i64 sp.hi,.bool t,.bool f,.slice ss sl.length gc,.bool h.n,.bool h.sp.n,.int .i64 h.sp.lo,.int .i64 h.sp.hi,.bool h.t,.bool h.f,.slice st h.s.length hc] 91)
 have B4:=(B3.alloc B3.size (.cells #[.bool n,.bool sp.n,.int .i64 sp.lo,.int .i64 sp.hi,.bool t,.bool f,.slice ss sl.length gc,.bool h.n,.bool h.sp.n,.int .i64 h.sp.lo,.int .i64 h.sp.hi,.bool h.t,.bool h.f,.slice st h.s.length hc] 91)).drew
 refine wpAnyH_ready (rs:=[21]) (by kernel_rfl) (by simp) ?_
 refine AllReadyH.cons rfl (λK hK=> ?_) AllReadyH.nil
 go_simp
 refine hK.out _ _ (KS _ G4.drew H4.drew S4.drew) (λhHeld=> ?_)
 clear hK K
 refine sm ?_
 refine wpAnyH_ready (rs:=[22]) (by kernel_rfl) (by simp) ?_
 refine AllReadyH.cons rfl (λK hK=> ?_) AllReadyH.nil
 go_simp
 refine(vG _ [⟨n,sp,t,f,sl⟩,h] 2 _ L3 (by simp) hlen).mono ?_
 rintro e w5 ⟨v,rfl,hown,hb5⟩
 have G5:=G4.drew.call hb5
 have H5:=H4.drew.call hb5
 have R5:=R4.drew.call hb5
 have F5:=F4.drew.call hb5
 have S5:=S4.drew.call hb5
 have B5:Below w.heap.size w w5:=B4.trans (hb5.mono B4.size)
 have z5:w.heap.size+1+1+1 < w3.heap.size:=F3.2
 simp only[World.size_drew,World.size_alloc] at hown
 have O5:=hown
 clear hb5 G4 H4 R4 F4 S4 B4 L3 G3 H3 R3 F3 S3 B3 I3 J3
 obtain⟨vs,vc,rfl,-,-,-,hvb⟩:=IntsAt.own hown
 refine hK.out _ _ (KS _ G5 H5 S5) (λhHeld=> ?_)
 clear hK K hown
 refine sm ?_
 refine vH 23 ?_ ?_
 obtain⟨⟨r0,r1,r2,r3,r4,r5,r6⟩,rz⟩:=id R5
 simp only[Nat.zero_add,dK] at r0 r1 r2 r3 r4 r5 r6
 have fz:=F5.1
 refine wpAnyH_ready (rs:=[24]) (by kernel_rfl) (by simp) ?_
 refine AllReadyH.cons rfl (λK hK=> ?_) AllReadyH.nil
 go_simp
 refine hK.out _ _ (KS _ (G5.put7 (by omega)) (H5.put7 (by omega)) (S5.put7 (by omega))) (λhHeld=> ?_)
 clear hK K
 refine sm ?_
 refine vH 25 ?_ ?_
 refine wpAnyH_done (by kernel_rfl) ?_ _
 generalize (if n=true then undef else(.pointer (some ⟨w.heap.size+1+1,0,none⟩):Value))=y0
 generalize (if n=true then undef else(.bool h.n:Value))=y1
 generalize (if t=true then undef else(.pointer (some ⟨w.heap.size+1+1,4,none⟩):Value))=y2
 generalize (if t=true then undef else(.bool h.t:Value))=y3
 generalize (if f=true then undef else(.pointer (some ⟨w.heap.size+1+1,5,none⟩):Value))=y4
 generalize (if f=true then undef else(.bool h.f:Value))=y5
 go_wp2
 refine bodyPost_ret (v:=.tuple #[.agg #[.bool (n||h.n),.bool J.n,.int .i64 J.lo,.int .i64 J.hi,.bool (t||h.t),.bool (f||h.f),.slice vs (cA [⟨n,sp,t,f,sl⟩,h]).length vc],.int .i64 0]) (by simp[results,Tryz.results123,go_sem,r0,r1,r2,r3,r4,r5,r6]) rfl ⟨_,rfl,?_,?_⟩
 ·exact iv (ix O5 (by omega)) (by omega)
 ·exact dM B5 (by omega)):p:=h
theorem mK {p:Prop}(h:p:=by
 have HW:=aa (λls lc w hL=>pm ls [g,h] lc w (by simp) hL)
 generalize ([g,h].any aW&& ![g,h].any aB)=wr at HW ⊢
 go_enter Tryz.func164,Tryz.ntmps164
 go_wp2_with (go_at_call 142;fail)
 refine(bZ V F s c cap _ [g,h] 2 _ (C0.alloc _) L0 (by simp)).mono ?_
 rintro e w1 ⟨rfl,hb1⟩
 rw[HK.out]
 have G1:=(G0.alloc _).call hb1
 have H1:=(H0.alloc _).call hb1
 have R1:=(R0.alloc _).call hb1
 have F1:Fr7 w1 (w.heap.size+1+1+1):=(F0.alloc _).call hb1
 have B1:Below w.heap.size w w1:=(B0.alloc B0.size _).trans (hb1.mono (by simp;omega))
 clear hb1 G0 H0 R0 I0 J0 F0 B0 C0 P0 L0 hcd hs ht HK
 obtain⟨⟨g0,g1,g2,g3,g4,g5,g6⟩,gz⟩:=id G1
 obtain⟨⟨k0,k1,k2,k3,k4,k5,k6⟩,kz⟩:=id H1
 simp only[Nat.zero_add] at g0 g1 g2 g3 g4 g5 g6 k0 k1 k2 k3 k4 k5 k6
 go_wp2_with (go_at_call 202;fail)
 refine(hJ.out _).mono ?_
 rintro e w2 ⟨rfl,hb2⟩
 have G2:=G1.call hb2
 have H2:=H1.call hb2
 have R2:=R1.call hb2
 have F2:=F1.call hb2
 have B2:=B1.trans (hb2.mono B1.size)
 clear hb2 G1 H1 R1 F1 B1 g0 g1 g2 g3 g4 g5 g6 gz k0 k1 k2 k3 k4 k5 k6 kz hJ
 go_wp2
 have G3:=G2.alloc (.cells #[.bool J.n,.int .i64 J.lo,.int .i64 J.hi] 89)
 have H3:=H2.alloc (.cells #[.bool J.n,.int .i64 J.lo,.int .i64 J.hi] 89)
 have R3:=R2.alloc (.cells #[.bool J.n,.int .i64 J.lo,.int .i64 J.hi] 89)
 have F3:=F2.alloc (.cells #[.bool J.n,.int .i64 J.lo,.int .i64 J.hi] 89)
 have B3:=B2.alloc B2.size (.cells #[.bool J.n,.int .i64 J.lo,.int .i64 J.hi] 89)
 have S3:=SpAt.new w2 J
 have zj:w.heap.size+1+1+1 < w2.heap.size:=F2.2
 clear G2 H2 R2 F2 B2
 generalize w2.alloc (.cells #[.bool J.n,.int .i64 J.lo,.int .i64 J.hi] 89)=w3 at *
 generalize w2.heap.size=jb at *
 have KS:∀wx,GuAt wx (w.heap.size+1) 0 g ss gc→GuAt wx (w.heap.size+1+1) 0 h st hc→SpAt wx jb J→pL w jb g ss gc h st hc J wx:=λwx a b c=>⟨by simpa using a.1,by simpa using b.1,c.1⟩
 refine wp_region_held_drew (S:=pL w jb g ss gc h st hc J) (by kernel_rfl) (KS _ G3.drew H3.drew S3.drew) (λhHeld=> ?_)
 unfold pL at hHeld KS ⊢
 refine vH 0 ?_ ?_
 refine vH 1 ?_ ?_
 refine vH 2 ?_ ?_
 refine vH 3 ?_ ?_
 have L3:GhAt (nK w3 g ss gc h st hc).drew (some ⟨w3.heap.size,0,none⟩) [g,h]:=(GhAt.new2 w3 g ss gc h st hc).call (Below.refl _ _).drew
 have G4:=G3.alloc (.cells #[.bool g.n,.bool g.sp.n,.int .i64 g.sp.lo,.int .i64 g.sp.hi,.bool g.t,.bool g.f,.slice ss g.s.length gc,.bool h.n,.bool h.sp.n,.int .i64 h.sp.lo,.int .i64 h.sp.hi,.bool h.t,.bool h.f,.slice st h.s.length hc] 91)
 have H4:=H3.alloc (.cells #[.bool g.n,.bool g.sp.n,.int .i64 g.sp.lo,.int .i64 g.sp.hi,.bool g.t,.bool g.f,.slice ss g.s.length gc,.bool h.n,.bool h.sp.n,.int .i64 h.sp.lo,.int .i64 h.sp.hi,.bool h.t,.bool h.f,.slice st h.s.length hc] 91)
 have R4:=R3.alloc (.cells #[.bool g.n,.bool g.sp.n,.int .i64 g.sp.lo,.int .i64 g.sp.hi,.bool g.t,.bool g.f,.slice ss g.s.length gc,.bool h.n,.bool h.sp.n,.int .i64 h.sp.lo,.int .i64 h.sp.hi,.bool h.t,.bool h.f,.slice st h.s.length hc] 91)
 have F4:=F3.alloc (.cells #[.bool g.n,.bool g.sp.n,.int .i64 g.sp.lo,.int .i64 g.sp.hi,.bool g.t,.bool g.f,.slice ss g.s.length gc,.bool h.n,.bool h.sp.n,.int .i64 h.sp.lo,.int .i64 h.sp.hi,.bool h.t,.bool h.f,.slice st h.s.length hc] 91)
 have S4:=S3.alloc (.cells #[.bool g.n,.bool g.sp.n,.int .i64 g.sp.lo,.int .i64 g.sp.hi,.bool g.t,.bool g.f,.slice ss g.s.length gc,.bool h.n,.bool h.sp.n,.int .i64 h.sp.lo,.int .i64 h.sp.hi,.bool h.t,.bool h.f,.slice st h.s.length hc] 91)
 have B4:=(B3.alloc B3.size (.cells #[.bool g.n,.bool g.sp.n,.int .i64 g.sp.lo,.int .i64 g.sp.hi,.bool g.t,.bool g.f,.slice ss g.s.length gc,.bool h.n,.bool h.sp.n,.int .i64 h.sp.lo,.int .i64 h.sp.hi,.bool h.t,.bool h.f,.slice st h.s.length hc] 91)).drew
 refine wpAnyH_ready (rs:=[4]) (by kernel_rfl) (by simp) ?_
 refine AllReadyH.cons rfl (λK hK=> ?_) AllReadyH.nil
 go_simp
 refine hK.out _ _ (KS _ G4.drew H4.drew S4.drew) (λhHeld=> ?_)
 clear hK K
 refine sm ?_
 refine wpAnyH_ready (rs:=[5]) (by kernel_rfl) (by simp) ?_
 refine AllReadyH.cons rfl (λK hK=> ?_) AllReadyH.nil
 go_simp
 refine(HW.out _ 2 _ L3).mono ?_
 rintro e w5 ⟨rfl,hb5⟩
 have G5:=G4.drew.call hb5
 have H5:=H4.drew.call hb5
 have R5:=R4.drew.call hb5
 have F5:=F4.drew.call hb5
 have S5:=S4.drew.call hb5
 have B5:Below w.heap.size w w5:=B4.trans (hb5.mono B4.size)
 clear hb5 G4 H4 R4 F4 S4 B4 L3 G3 H3 R3 F3 S3 B3
 refine hK.out _ _ (KS _ G5 H5 S5) (λhHeld=> ?_)
 clear hK K
 refine sm ?_
 obtain⟨⟨r0,r1,r2,r3,r4,r5,r6⟩,rz⟩:=id R5
 simp only[Nat.zero_add,dK] at r0 r1 r2 r3 r4 r5 r6
 have fz:=F5.1
 refine wpAnyH_ready (rs:=[6]) (by kernel_rfl) (by simp) ?_
 refine AllReadyH.cons rfl (λK hK=> ?_) AllReadyH.nil
 go_simp
 refine hK.out _ _ (KS _ (G5.put7 (by omega)) (H5.put7 (by omega)) (S5.put7 (by omega))) (λhHeld=> ?_)
 clear hK K
 refine sm ?_
 refine vH 7 ?_ ?_
 refine vH 8 ?_ ?_
 refine wpAnyH_done (by kernel_rfl) ?_ _
 go_wp2
 refine bodyPost_ret (v:=.tuple #[gv ⟨false,J,false,false,[]⟩ none 0,.bool wr,.int .i64 0]) (by simp[results,Tryz.results164,go_sem,r0,r1,r2,r3,r4,r5,r6]) rfl ⟨rfl,?_⟩
 exact dM B5 (by omega)):p:=h
section
variable {S:Nat→Prop} {w:World} {x:Pic} {vs fs:Option Addr}
end
def EdsOn (S:Nat→Prop)(w:World)(es:Option Addr)(L:List Edg):Prop:=
 ∀i (h:i < L.length),∃b off,es=sO ⟨b,off,nO⟩∧S b∧b < w.heap.size∧∃vs vc fs fc,(w.cell? ⟨b,off+i * 4,nO⟩=sO (.int .i64 L[i].tgt)∧w.cell? ⟨b,off+i * 4+1,nO⟩=sO (Bb L[i].pic.none)∧w.cell? ⟨b,off+i * 4+2,nO⟩=sO (U vs L[i].pic.vars.length vc)∧w.cell? ⟨b,off+i * 4+3,nO⟩=sO (U fs L[i].pic.flds.length fc))∧PicOn S w L[i].pic vs fs∧(L[i].pic.vars.length≤vc∧vc≤maxLen)∧(L[i].pic.flds.length≤fc∧fc≤maxLen)
section
variable {S S':Nat→Prop} {w w':World} {es:Option Addr} {L:List Edg}
theorem EdsOn.nil:EdsOn S w es []:=λi h=>absurd h (by simp)
theorem EdsOn.same (h:EdsOn S w es L)(hs:∀b,S b→b < w.heap.size→w'.heap[b]? =w.heap[b]?)(hz:w.heap.size≤w'.heap.size):EdsOn S w' es L:=by
 intro i hi
 obtain⟨b,off,e,hS,hb,vs,vc,fs,fc,⟨c0,c1,c2,c3⟩,hp,hv,hf⟩:=h i hi
 have hc:∀j,w'.cell? ⟨b,j,nO⟩=w.cell? ⟨b,j,nO⟩:=λj=>j3 (a:=⟨b,j,nO⟩) (hs b hS hb)
 exact⟨b,off,e,hS,lL hb hz,vs,vc,fs,fc,⟨(hc _).trans c0,(hc _).trans c1,(hc _).trans c2,(hc _).trans c3⟩,(hp.same hs hz).mono λb hb _=>hb.1,hv,hf⟩
theorem EdsOn.mono (h:EdsOn S w es L)(hs:∀b,S b→b < w.heap.size→S' b):EdsOn S' w es L:=by
 intro i hi
 obtain⟨b,off,e,hS,hb,vs,vc,fs,fc,hc,hp,hv,hf⟩:=h i hi
 exact⟨b,off,e,hs b hS hb,hb,vs,vc,fs,fc,hc,hp.mono hs,hv,hf⟩
end
theorem ERow.eds {n sb:Nat}{w:World}{es:Option Addr}{ec:Nat}{L:List Ed}(h:ERow n sb w (U es L.length ec) L):EdsOn (λb=>n≤b) w es (L.map edG):=by
 intro i hi
 have hil:i < L.length:=by simpa using hi
 have ei:(L.map edG)[i]=edG L[i]:=by simp
 rw[ei]
 rcases h.own.2 with⟨e,h0⟩|⟨g,cap,cur,e,hb,hg,k1,k2,k3,k4⟩
 ·omega
 ·simp only[j2.injEq] at e
  obtain⟨e1,-,-⟩:=e
  subst e1
  obtain⟨p1,p2,p3⟩:=h.pics _ (gM hil)
  have hc:∀j,j < 4→w.cell? ⟨g,i * 4+j,nO⟩=(dQ L[i])[j]? :=λj hj=>by
   rw[←o3 L i hil j hj]
   exact World.ownsRow.cellAt h.own _ (by omega)
  refine⟨g,0,rfl,hb,(q8.1 hg).1,L[i].vs,L[i].vc,L[i].fs,L[i].fc,?_,p1.mono λb hb _=>hb.1,p2,p3⟩
  simp only[q7]
  exact⟨hc 0 (by omega),hc 1 (by omega),hc 2 (by omega),hc 3 (by omega)⟩
theorem pO (s a b:ByteArray)(w:World)(hm:Cap w)(hs:s.size < 4294967281)(hc:Lib.cut s.data.toList [10]=(a.data.toList,b.data.toList,true)):
  Calls pG 173 #[.string s,.string ⟨#[10]⟩] w λe w'=>e=Rt (Tu #[.string a,.string b,Bb true])∧Below w.heap.size w w':=by
 obtain⟨m,hm⟩:=hm
 refine(Tryz.strings_Cut s ⟨#[10]⟩ m w hs hm).mono ?_
 rintro e w' ⟨rfl,n,rfl⟩
 have hc':Lib.cut s.data.toList (⟨#[10]⟩:ByteArray).data.toList=(a.data.toList,b.data.toList,true):=hc
 rw[hc']
 exact⟨rfl,below_drewN (bR _ _) n⟩

def fm (i:Ins):List Value:=[.int .i64 i.k,.int .i64 i.tgt,.int .i64 i.a,.int .i64 i.b,.int .i64 i.n,.int .i64 i.g]
def gV (c:List Ins):List Value:=c.flatMap fm

theorem EO (c:List Ins):∀k (h:k < c.length) j,j < 6→(gV c)[k * 6+j]? =(fm c[k])[j]? :=by
 induction c with
 |nil=>intro k h;simp at h
 |cons x r ih=>
  intro k h j hj
  have hl:(fm x).length=6:=rfl
  simp only[gV,List.flatMap_cons]
  match k,h with
  |0,_=>simp only[Nat.zero_mul,q7];rw[List.getElem?_append_left (by rw[hl];exact hj)];rfl
  |k+1,h=>
   rw[List.getElem?_append_right (by rw[hl];omega),hl,show (k+1) * 6+j - 6=k * 6+j by omega]
   exact ih k (by simpa using h) j hj

theorem ut (w:World)(xs:List Value)(t:TypeId):∀j u,xs[j]? =sO u→(w.alloc (Cc xs.toArray t)).cell? ((⟨w.heap.size,0,nO⟩:Addr).add j)=sO u:=by
 intro j u hj
 have e:((⟨w.heap.size,0,nO⟩:Addr).add j)=⟨w.heap.size,j,nO⟩:=by
  cases j with
  |zero=>rfl
  |succ j=>simp[Addr.add]
 rw[e]
 simp[go_sem,hj]

theorem iA {w:World}{B:Nat}{v:Value}{c:List Ins}(h:w.ownsRow B 100 6 v c.length (gV c)):∃s cap,v=U s c.length cap∧CodeAt w s c:=by
 cases c with
 |nil=>
  rcases h.2 with⟨rfl,_⟩|⟨g,cap,cur,rfl,_⟩
  ·exact⟨_,_,rfl,.inl rfl⟩
  ·exact⟨_,_,rfl,.inl rfl⟩
 |cons x r=>
  obtain⟨g,cap,rfl,hb,hlt⟩:=h.form (by simp)
  refine⟨_,_,rfl,.inr ⟨g,0,rfl,hlt,λk hk=> ?_⟩⟩
  have hf:∀j,j < 6→w.cell? ⟨g,0+k * 6+j,nO⟩=(fm (x::r)[k])[j]? :=λj hj=>by
   rw[h.cellAt _ (by omega),show 0+k * 6+j=k * 6+j by omega]
   exact EO _ k hk j hj
  exact⟨hf 0 (by omega),hf 1 (by omega),hf 2 (by omega),hf 3 (by omega),hf 4 (by omega),hf 5 (by omega)⟩

theorem kf {w:World}{B B':Nat}{e:TypeId}{z:Nat}{v:Value}{n:Nat}{xs:List Value}(h:w.ownsRow B e z v n xs)(hb:B'≤B):w.ownsRow B' e z v n xs:=by
 obtain⟨h1,h2⟩:=h
 refine⟨h1,?_⟩
 rcases h2 with h2|⟨g,cap,cur,hv,hB,r⟩
 ·exact .inl h2
 ·exact .inr ⟨g,cap,cur,hv,lT hb hB,r⟩

theorem ShpAt.of_blocks {N:Nat}{l:List Shp}{w w':World}(h:ShpAt N l w)(hb:∀k,N≤k→k < w.heap.size→w'.heap[k]? =w.heap[k]?):ShpAt N l w':=by
 have hl:∀{k o},w.heap[k]? =sO o→k < w.heap.size:=λhk=>(q8.1 hk).1
 exact⟨by rw[hb N (lR _) (hl h.map)];exact h.map,λj hj hne=>by rw[hb _ (by omega) (hl (h.parts j hj hne))];exact h.parts j hj hne⟩

def PrgAt (w:World)(B:Nat)(V F:Int)(v:Value):Prop:=
 w.cell? ⟨B,0,nO⟩=sO (.int .i64 V)∧w.cell? ⟨B,1,nO⟩=sO (.int .i64 F)∧w.cell? ⟨B,2,nO⟩=sO v∧∀j,w.frozen? ⟨B,j,nO⟩=false

theorem PrgAt.block {w w':World}{B:Nat}{V F:Int}{v:Value}(h:PrgAt w B V F v)(hb:w'.heap[B]? =w.heap[B]?):PrgAt w' B V F v:=by
 have hc:∀j,w'.cell? ⟨B,j,nO⟩=w.cell? ⟨B,j,nO⟩:=λj=>j3 (a:=⟨B,j,nO⟩) hb
 have hf:∀j,w'.frozen? ⟨B,j,nO⟩=w.frozen? ⟨B,j,nO⟩:=λj=>World.frozen?_of_block (a:=⟨B,j,nO⟩) hb
 obtain⟨h0,h1,h2,h3⟩:=h
 exact⟨by rw[hc];exact h0,by rw[hc];exact h1,by rw[hc];exact h2,λj=>by rw[hf];exact h3 j⟩

theorem PrgAt.set {w:World}{B:Nat}{V F:Int}{v:Value}(h:PrgAt w B V F v)(u:Value):PrgAt (w.setCell ⟨B,2,nO⟩ u) B V F u:=by
 obtain⟨h0,h1,h2,h3⟩:=h
 refine⟨?_,?_,?_,λj=> ?_⟩<;>simp[go_sem,h0,h1,h2,h3]

theorem wT:(Tryz.prog.info? 100).map (λi=>(i.zero,i.size,i.bytes))=sO (sO (Ag #[.int .i64 0,.int .i64 0,.int .i64 0,.int .i64 0,.int .i64 0,.int .i64 0]),6,48):=by kernel_rfl

theorem EZ (V F:Int)(c:List Ins)(s:ByteArray)(w:World)(hs:s.size≤4000)(h0:ai V F c=0)
  (hp:∀w',Below w.heap.size w w'→Calls pG 117 #[.string s] w' λe w''=>∃v,e=Rt (Tu #[Ag #[.int .i64 V,.int .i64 F,v],.int .i64 0])∧w''.ownsRow w'.heap.size 100 6 v c.length (gV c)∧Below w'.heap.size w' w''):
  Calls pG 60 #[.string s] w λe w'=>∃v,e=Rt (Tu #[Ag #[.int .i64 V,.int .i64 F,v],.int .i64 0,.int .i64 0])∧w'.ownsRow w.heap.size 100 6 v c.length (gV c)∧Below w.heap.size w w':=by
 have n0:¬(4000:Int) < (s.size:Int):=by omega
 go_enter Tryz.func60,Tryz.ntmps60
 have hb0:Below w.heap.size w (w.alloc (Cc #[.int .i64 0,.int .i64 0,U nO 0 0] 24)):=by go_grown
 have hP:=hp _ hb0
 clear hp
 go_wp2_with (go_at_call 117;fail)
 refine hP.mono ?_
 rintro e w1 ⟨v,rfl,hown,hb1⟩
 obtain⟨sl,cap,rfl,hc⟩:=iA hown
 have HB1:Below w.heap.size w w1:=hb0.trans (hb1.mono (by simp))
 have hb2:Below w1.heap.size w1 (w1.alloc (Cc #[.int .i64 V,.int .i64 F,U sl c.length cap] 24)):=by go_grown
 have hC2:=di V F sl cap c _ (hc.below hb2 (lR _))
 rw[h0] at hC2
 have rb:w1.heap[w.heap.size]? =sO (Cc #[.int .i64 0,.int .i64 0,U nO 0 0] 24 (0,0)):=by
  rw[hb1.block _ (by simp)]
  exact(MapKept.heap_alloc _ _).1
 have z1:w.heap.size < w1.heap.size:=(q8.1 rb).1
 go_wp2_with (go_at_call 76;fail)
 refine hC2.mono ?_
 rintro e w2 ⟨rfl,hb3⟩
 have HB2:Below w.heap.size w w2:=(HB1.trans (hb2.mono HB1.size)).trans (hb3.mono (by simp;omega))
 have z2:w1.heap.size < w2.heap.size:=by have:=hb3.size;simp at this;omega
 have z3:w.heap.size < w2.heap.size:=by omega
 have pb:w2.heap[w1.heap.size]? =sO (Cc #[.int .i64 V,.int .i64 F,U sl c.length cap] 24 (0,0)):=by
  rw[hb3.block _ (by simp)]
  exact(MapKept.heap_alloc _ _).1
 have rb2:w2.heap[w.heap.size]? =sO (Cc #[.int .i64 0,.int .i64 0,U nO 0 0] 24 (0,0)):=by
  rw[hb3.block _ (by simp;omega),Below.heap_alloc _ _ _ (by omega)]
  exact rb
 have pc:∀j,w2.cell? ⟨w1.heap.size,j,nO⟩=(#[.int .i64 V,.int .i64 F,U sl c.length cap]:Array Value)[j]? :=λj=>by simp[q9,pb]
 have rc:∀j,w2.cell? ⟨w.heap.size,j,nO⟩=(#[.int .i64 0,.int .i64 0,U nO 0 0]:Array Value)[j]? :=λj=>by simp[q9,rb2]
 have rf:∀j,w2.frozen? ⟨w.heap.size,j,nO⟩=false:=λj=>by simp[World.frozen?,rb2]
 have p0:w2.cell? ⟨w1.heap.size,0,nO⟩=sO (.int .i64 V):=pc 0
 have p1:w2.cell? ⟨w1.heap.size,1,nO⟩=sO (.int .i64 F):=pc 1
 have p3:w2.cell? ⟨w1.heap.size,2,nO⟩=sO (U sl c.length cap):=pc 2
 have r0:w2.cell? ⟨w.heap.size,0,nO⟩=sO (.int .i64 0):=rc 0
 have r1:w2.cell? ⟨w.heap.size,1,nO⟩=sO (.int .i64 0):=rc 1
 have r3:w2.cell? ⟨w.heap.size,2,nO⟩=sO (U nO 0 0):=rc 2
 have hown2:w2.ownsRow (w.heap.size+1) 100 6 (U sl c.length cap) c.length (gV c):=by
  have h1:=aw (w':=w2) hown (λj hj=>by
   have hl:=(aM hown hj).1
   rw[hb3.block _ (by simp;omega),Below.heap_alloc _ _ _ hl])
  simpa using h1
 clear pb rb rb2 pc rc hP hC2
 go_wp2
 refine bodyPost_ret (v:=Tu #[Ag #[.int .i64 V,.int .i64 F,U sl c.length cap],.int .i64 0,.int .i64 0]) (by simp[results,Tryz.results60,go_sem,r0,r1,r3]) rfl ⟨U sl c.length cap,rfl,?_,?_⟩
 ·have hz:=Nat.lt_succ_self w.heap.size
  exact kf (ownsRow_setCell_below (a:=⟨w.heap.size,2,nO⟩) (ownsRow_setCell_below (a:=⟨w.heap.size,1,nO⟩) (ownsRow_setCell_below (a:=⟨w.heap.size,0,nO⟩) hown2 hz (.int .i64 V)) hz (.int .i64 F)) hz (U sl c.length cap)) (x9 hz)
 ·exact((HB2.setCell (lR _) _).setCell (lR _) _).setCell (lR _) _
def fT:Ins:=⟨0,0,0,0,0,0⟩
def pD (i:Ins):Value:=Ag #[.int .i64 i.k,.int .i64 i.tgt,.int .i64 i.a,.int .i64 i.b,.int .i64 i.n,.int .i64 i.g]
def iy:Option Ins→Value
 |some i=>Tu #[pD i,Bb true]
 |none=>Tu #[pD fT,Bb false]

def goI (qs:List Nat)(xs:List (List UInt8))(i:Ins):Option Ins:=match no xs with
 |none=>nO
 |some t=>sO (wF qs t i)
theorem Gz (i:Ins):goI [] [] i=sO i:=rfl
theorem En (q:Nat)(qs:List Nat)(x:List UInt8)(xs:List (List UInt8))(i:Ins):goI (q::qs) (x::xs) i=match dm x with
  |none=>nO
  |some v=>goI qs xs (cV q v i):=by
 unfold goI
 rw[no]
 cases dm x with
 |none=>rfl
 |some v=>
  cases no xs with
  |none=>rfl
  |some t=>rfl

def XAtO (w:World)(X:Nat)(i:Ins):Prop:=
 (w.cell? ⟨X,0,nO⟩=sO (.int .i64 i.k)∧w.cell? ⟨X,1,nO⟩=sO (.int .i64 i.tgt)∧w.cell? ⟨X,2,nO⟩=sO (.int .i64 i.a)∧w.cell? ⟨X,3,nO⟩=sO (.int .i64 i.b)∧w.cell? ⟨X,4,nO⟩=sO (.int .i64 i.n)∧w.cell? ⟨X,5,nO⟩=sO (.int .i64 i.g))∧(∀j,w.frozen? ⟨X,j,nO⟩=false)∧X < w.heap.size
theorem XAtO.call {w w':World}{X:Nat}{i:Ins}(h:XAtO w X i)(hb:Below w.heap.size w w'):XAtO w' X i:=by
 obtain⟨⟨h0,h1,h2,h3,h4,h5⟩,hf,hz⟩:=h
 exact⟨⟨by rw[hb.cell hz];exact h0,by rw[hb.cell hz];exact h1,by rw[hb.cell hz];exact h2,by rw[hb.cell hz];exact h3,by rw[hb.cell hz];exact h4,by rw[hb.cell hz];exact h5⟩,λj=>by rw[hb.frozen hz];exact hf j,lL hz hb.size⟩
theorem XAtO.at {w:World}{X q:Nat}{i:Ins}(h:XAtO w X i):∃z,w.cell? ⟨X,cG q,nO⟩=sO (.int .i64 z):=by
 obtain⟨⟨h0,h1,h2,h3,h4,h5⟩,hf,hz⟩:=h
 match q with
 |0=>exact⟨_,h1⟩
 |1=>exact⟨_,h2⟩
 |2=>exact⟨_,h3⟩
 |3=>exact⟨_,h5⟩
 |q+4=>exact⟨_,h4⟩
theorem XAtO.put {w:World}{X q:Nat}{i:Ins}(v:Int)(h:XAtO w X i):XAtO (w.setCell ⟨X,cG q,nO⟩ (.int .i64 v)) X (cV q v i):=by
 obtain⟨⟨h0,h1,h2,h3,h4,h5⟩,hf,hz⟩:=h
 match q with
 |0=>exact⟨⟨by simp[go_sem,cG,cV,h0],by simp[go_sem,cG,cV,h1],by simp[go_sem,cG,cV,h2],by simp[go_sem,cG,cV,h3],by simp[go_sem,cG,cV,h4],by simp[go_sem,cG,cV,h5]⟩,λj=>by simp[go_sem,hf],by simpa using hz⟩
 |1=>exact⟨⟨by simp[go_sem,cG,cV,h0],by simp[go_sem,cG,cV,h1],by simp[go_sem,cG,cV,h2],by simp[go_sem,cG,cV,h3],by simp[go_sem,cG,cV,h4],by simp[go_sem,cG,cV,h5]⟩,λj=>by simp[go_sem,hf],by simpa using hz⟩
 |2=>exact⟨⟨by simp[go_sem,cG,cV,h0],by simp[go_sem,cG,cV,h1],by simp[go_sem,cG,cV,h2],by simp[go_sem,cG,cV,h3],by simp[go_sem,cG,cV,h4],by simp[go_sem,cG,cV,h5]⟩,λj=>by simp[go_sem,hf],by simpa using hz⟩
 |3=>exact⟨⟨by simp[go_sem,cG,cV,h0],by simp[go_sem,cG,cV,h1],by simp[go_sem,cG,cV,h2],by simp[go_sem,cG,cV,h3],by simp[go_sem,cG,cV,h4],by simp[go_sem,cG,cV,h5]⟩,λj=>by simp[go_sem,hf],by simpa using hz⟩
 |q+4=>exact⟨⟨by simp[go_sem,cG,cV,h0],by simp[go_sem,cG,cV,h1],by simp[go_sem,cG,cV,h2],by simp[go_sem,cG,cV,h3],by simp[go_sem,cG,cV,h4],by simp[go_sem,cG,cV,h5]⟩,λj=>by simp[go_sem,hf],by simpa using hz⟩

theorem ui (l:ByteArray)(w:World)(hm:Cap w)(hl:l.size≤4000):∃x ns,((x::ns).map λb:ByteArray=>b.data.toList)=cO 32 l.data.toList∧ns.length≤4000∧
  Calls pG 211 #[.string l,.string ⟨#[32]⟩] w λe w'=>e=Rt (U (sO ⟨w.heap.size,0,nO⟩) (ns.length+1) (ns.length+1))∧(∀j (hj:j < (x::ns).length),w'.cell? ⟨w.heap.size,j,nO⟩=sO (.string (x::ns)[j]))∧w.heap.size < w'.heap.size∧Below w.heap.size w w':=by
 have hlen:=Lib.splitB_all ⟨#[32]⟩ (by decide) 0 _ l rfl
 have hle:=Lib.countB_le ⟨#[32]⟩ (by decide) l.size l (lR _)
 have hdat:=Lib.splitB_data ⟨#[32]⟩ 0 (Lib.countB l ⟨#[32]⟩) l
 have hcnt:Lib.countB l ⟨#[32]⟩=Lib.count l.data.toList [32]:=by first|rfl|exact Lib.countB_eq _ _|simp[Lib.countB]
 have hk:=rJ 32 l.data.toList
 rw[←hcnt] at hk
 have hd2:(Lib.splitB ⟨#[32]⟩ 0 (Lib.countB l ⟨#[32]⟩) l).map (λb:ByteArray=>b.data.toList)=cO 32 l.data.toList:=hdat.trans hk
 cases hx:Lib.splitB ⟨#[32]⟩ 0 (Lib.countB l ⟨#[32]⟩) l with
 |nil=>rw[hx] at hlen;simp at hlen
 |cons x ns=>
  rw[hx] at hd2 hlen
  simp only[j7] at hlen
  refine⟨x,ns,hd2,by omega,?_⟩
  refine(y7 l (x::ns) w hm (by omega) (by rw[j7];omega) hx).mono ?_
  rintro e w' ⟨rfl,rfl⟩
  refine⟨rfl,λj hj=> ?_,by simp,by go_grown⟩
  have:=ut w ((x::ns).map z6) 9 j (.string (x::ns)[j]) (by rw[List.getElem?_map,Q3 hj];rfl)
  cases j with
  |zero=>exact this
  |succ j=>simp[Addr.add]

theorem yJ {l:List UInt8}{x:ByteArray}{ns:List ByteArray}(h:((x::ns).map λb:ByteArray=>b.data.toList)=cO 32 l):gr l=match fM x.data.toList ns.length with
  |none=>nO
  |some k=>goI (prt k) (ns.map λb:ByteArray=>b.data.toList) ⟨k,0,0,0,0,0⟩:=by
 unfold gr goI
 rw[←h]
 simp only[z8,Z7]
 cases fM x.data.toList ns.length with
 |none=>rfl
 |some k=>rfl

theorem lQ (N:Nat)(l:ByteArray)(w:World)(hl:l.size≤4000)(hs:ShpAt N shps w)(ht:Tab w)(hm:Cap w)(hE:ErrS w):
  Calls pG 175 #[.map (sO N),.string l] w λe w'=>e=Rt (iy (gr l.data.toList))∧Below w.heap.size w w':=by
 have hb1:Below w.heap.size w (w.alloc (Cc #[.int .i64 0,.int .i64 0,.int .i64 0,.int .i64 0,.int .i64 0,.int .i64 0] 100)):=by go_grown
 obtain⟨x,ns,hdat,hnl,hsp⟩:=ui l (w.alloc (Cc #[.int .i64 0,.int .i64 0,.int .i64 0,.int .i64 0,.int .i64 0,.int .i64 0] 100)) (hm.below hb1) hl
 have hans:=yJ hdat
 generalize gr l.data.toList=ans at hans
 have Hans:=oJ hans
 clear hdat hl hans
 simp only[j1] at hsp
 go_enter Tryz.func175,Tryz.ntmps175
 go_wp2_with (go_at_call 211;fail)
 refine hsp.mono ?_
 rintro e w0 ⟨rfl,hcells,hz0,hb0⟩
 clear hsp
 have H0:Below w.heap.size w w0:=hb1.trans (hb0.mono (by simp))
 have R0:XAtO w0 w.heap.size fT:=by
  refine XAtO.call (w:=w.alloc (Cc #[.int .i64 0,.int .i64 0,.int .i64 0,.int .i64 0,.int .i64 0,.int .i64 0] 100)) ⟨⟨?_,?_,?_,?_,?_,?_⟩,λj=> ?_,?_⟩ (by simpa using hb0)<;>simp[go_sem,fT]
 have c0:=hcells 0 (by simp)
 have zr:w.heap.size < w0.heap.size:=by omega
 have hb2:Below w0.heap.size w0 (w0.alloc (Cc #[U (sO ⟨w.heap.size+1,0,nO⟩) (ns.length+1) (ns.length+1)] 31)):=by go_grown
 have hfi:=Er x N w0.heap.size (w.heap.size+1) (ns.length+1) (ns.length+1) (w0.alloc (Cc #[U (sO ⟨w.heap.size+1,0,nO⟩) (ns.length+1) (ns.length+1)] 31)) (by omega) ((hs.below H0 (lR _)).below hb2 (lR _)) (by omega) (by simp) (by simp;omega) (by simp[go_sem]) (by rw[hb2.cell (by simpa using hz0)];exact c0)
 rw[Nat.add_sub_cancel] at hfi
 go_wp2_with (go_at_call 213;fail)
 refine hfi.mono ?_
 rintro e w1 ⟨he,hw1⟩
 clear hfi
 have H1:Below w0.heap.size w0 w1:=hb2.trans (hw1.mono (by simp))
 have HW1:Below w.heap.size w w1:=H0.trans (H1.mono H0.size)
 have R1:XAtO w1 w.heap.size fT:=R0.call H1
 have av:w1.cell? ⟨w0.heap.size,0,nO⟩=sO (U (sO ⟨w.heap.size+1,0,nO⟩) (ns.length+1) (ns.length+1)):=by rw[hw1.cell (by simp)];simp[go_sem]
 have zv:w0.heap.size < w1.heap.size:=by have:=hw1.size;simp at this;omega
 have hcw:∀j,j < ns.length→∃y:ByteArray,(ns.map λb:ByteArray=>b.data.toList).drop j=y.data.toList::(ns.map λb:ByteArray=>b.data.toList).drop (j+1)∧w1.cell? ⟨w.heap.size+1,j+1,nO⟩=sO (.string y):=λj hj=>by
  refine⟨ns[j],?_,?_⟩
  ·rw[Q4 (by simpa using hj),List.getElem_map]
  ·rw[H1.cell hz0];exact hcells (j+1) (by simp;omega)
 clear hcells c0 hb2 hw1 R0 hb0
 have zw:w.heap.size+1 < w1.heap.size:=by omega
 generalize w0.heap.size=P at *
 generalize hk:fM x.data.toList ns.length=ko at *
 cases ko with
 |none=>
  obtain rfl:ans=none:=Hans.out
  clear Hans
  simp only[BG] at he
  subst he
  clear hcw av hk
  obtain⟨⟨r0,r1,r2,r3,r4,r5⟩,rf,rz⟩:=R1
  simp only[fT] at r0 r1 r2 r3 r4 r5
  go_wp2
  refine bodyPost_ret (v:=iy nO) (by simp[results,Tryz.results175,go_sem,iy,pD,fT,r0,r1,r2,r3,r4,r5]) rfl ⟨rfl,?_⟩
  exact((((((HW1.setCell (lR _) _).setCell (lR _) _).setCell (lR _) _).setCell (lR _) _).setCell (lR _) _).setCell (lR _) _)
 |some K=>
  obtain⟨⟨hK1,hK19⟩,-,hnp⟩:=AE hk
  simp only[BG] at he
  subst he
  clear hk
  have hS1:=hs.below HW1 (lR _)
  have hbx:Below w1.heap.size w1 (w1.alloc (Cc #[.int .i64 K,.int .i64 0,.int .i64 0,.int .i64 0,.int .i64 0,.int .i64 0] 100)):=by go_grown
  obtain⟨sa,hlk,hpart⟩:=rP (hS1.below hbx (lR _)) K hK1 hK19
  have hpart1:∀j,j < (prt K).length→∃q:Nat,(prt K).drop j=q::(prt K).drop (j+1)∧sa=sO ⟨N+K,0,nO⟩∧w1.cell? ⟨N+K,j,nO⟩=sO (.int .i64 q)∧N+K < w1.heap.size:=by
   intro j hj
   obtain⟨sa',hlk',hp'⟩:=rP hS1 K hK1 hK19
   obtain⟨h1,-,-⟩:=hpart j hj
   obtain⟨-,h2,h3⟩:=hp' j hj
   exact⟨(prt K)[j],Q4 hj,h1,h2,h3⟩
  have X1:XAtO (w1.alloc (Cc #[.int .i64 K,.int .i64 0,.int .i64 0,.int .i64 0,.int .i64 0,.int .i64 0] 100)) w1.heap.size ⟨K,0,0,0,0,0⟩:=by
   refine⟨⟨?_,?_,?_,?_,?_,?_⟩,λj=> ?_,?_⟩<;>simp[go_sem]
  generalize bi K=wk at *
  have Hgo:Hid (goI (prt K) (ns.map λb:ByteArray=>b.data.toList) ⟨K,0,0,0,0,0⟩=ans):=Hans.out.symm
  clear Hans hpart hS1 hs
  rw[hnp] at hlk hpart1
  have hfld:∀wx:World,(Instr.field 228 (Ag #[.string wk,U sa ns.length ns.length]) 1).run pG wx=.ok (U sa ns.length ns.length) wx:=λ_=>by kernel_rfl
  go_wp2
  go_loopw [32] (λi wr=>∃(j:Nat) (I:Ins),j≤ns.length∧i=.int .i64 j∧Hid (goI ((prt K).drop j) ((ns.map λb:ByteArray=>b.data.toList).drop j) I=ans)∧XAtO wr w1.heap.size I∧Below w1.heap.size w1 wr) (λi _=>ns.length - (intOf i).toNat)
  case atStart=>exact⟨0,_,j8 _,rfl,Hgo,X1,hbx⟩
  case round=>
   obtain⟨j,I,hj,rfl,HG,XR,hbr⟩:=hrel
   clear X1 hbx Hgo hlk hfld
   have HR:Below w.heap.size w wr:=HW1.trans (hbr.mono HW1.size)
   have RR:XAtO wr w.heap.size fT:=R1.call hbr
   clear R1
   by_cases hlt:j < ns.length
   ·have n0:(0:Int)≤(j:Int):=by omega
    have n1:(j:Int) < (ns.length:Int):=by omega
    have n2:(0:Int)≤(j:Int)+1:=by omega
    have n3:(j:Int)+1 < ((ns.length+1:Nat):Int):=by omega
    have n4:((j:Int)+1).toNat=j+1:=by omega
    obtain⟨q,hdq,rfl,hq,hqz⟩:=hpart1 j (by omega)
    obtain⟨y,hdy,hy⟩:=hcw j (by omega)
    have q0:wr.cell? ⟨N+K,j,nO⟩=sO (.int .i64 q):=by rw[hbr.cell hqz];exact hq
    have w0c:wr.cell? ⟨P,0,nO⟩=sO (U (sO ⟨w.heap.size+1,0,nO⟩) (ns.length+1) (ns.length+1)):=by rw[hbr.cell zv];exact av
    have w1c:wr.cell? ⟨w.heap.size+1,j+1,nO⟩=sO (.string y):=by rw[hbr.cell zw];exact hy
    have HG2:=HG.out
    rw[hdq,hdy,En] at HG2
    clear HG hq hcw hpart1 av hdq hdy hy
    go_wp2_with (go_at_call 212;fail)
    refine(ii y wr (ht.below HR) (hE.below HR)).mono ?_
    rintro e w5 ⟨v,rfl,hv,hb5⟩
    have XR5:=XR.call hb5
    have RR5:=RR.call hb5
    have B5:=hbr.trans (hb5.mono hbr.size)
    have HR5:=HR.trans (hb5.mono HR.size)
    clear q0 w0c w1c XR RR hb5 hbr HR
    cases hn:dm y.data.toList with
    |none=>
     rw[hn] at HG2
     simp only at HG2
     subst HG2
     clear hv hn XR5
     simp only[Z8]
     obtain⟨⟨r0,r1,r2,r3,r4,r5⟩,rf,rz⟩:=RR5
     simp only[fT] at r0 r1 r2 r3 r4 r5
     go_wp2
     refine bodyPost_ret (v:=iy nO) (by simp[results,Tryz.results175,go_sem,iy,pD,fT,r0,r1,r2,r3,r4,r5]) rfl ⟨rfl,?_⟩
     exact((((((HR5.setCell (lR _) _).setCell (lR _) _).setCell (lR _) _).setCell (lR _) _).setCell (lR _) _).setCell (lR _) _)
    |some n=>
     rw[hn] at HG2
     simp only at HG2
     obtain rfl:=hv n hn
     have HG3:=oJ HG2
     clear HG2 hn hv RR5 HR5
     simp only[Z8]
     obtain⟨z,hz⟩:=XR5.at (q:=q)
     have hfz:=XR5.2.1
     have hzz:=XR5.2.2
     have XP:=XR5.put (q:=q) v
     clear XR5
     go_wp2_with (go_at_call 185;fail)
     refine(FH _ q _).mono ?_
     rintro e w6 ⟨rfl,hw6⟩
     have hw7:=hw6.symm
     subst hw7
     clear hw6
     have B6:Below w1.heap.size w1 (j9 _ (⟨w1.heap.size,cG q,nO⟩:Addr) (.int .i64 v)):=B5.setCell (lR _) _
     generalize cG q=pp at *
     go_wp2
     go_roundw
     case rel=>exact⟨j+1,cV q v I,by omega,by go_num,HG3,XP,B6⟩
     case measure=>simp[intOf];omega
   ·have hj':j=ns.length:=by omega
    subst hj'
    have HG2:=HG.out
    rw[Z9 (by omega),Z9 (by simp),Gz] at HG2
    subst HG2
    clear HG hpart1 hcw av
    obtain⟨⟨r0,r1,r2,r3,r4,r5⟩,rf,rz⟩:=RR
    obtain⟨⟨x0,x1,x2,x3,x4,x5⟩,xf,xz⟩:=XR
    simp only[fT] at r0 r1 r2 r3 r4 r5
    go_wp2
    refine bodyPost_ret (v:=iy (sO I)) (by simp[results,Tryz.results175,go_sem,iy,pD,r0,r1,r2,r3,r4,r5]) rfl ⟨rfl,?_⟩
    exact((((((HR.setCell (lR _) _).setCell (lR _) _).setCell (lR _) _).setCell (lR _) _).setCell (lR _) _).setCell (lR _) _)
theorem yt {l:List UInt8}{x:ByteArray}{ns:List ByteArray}(h:((x::ns).map λb:ByteArray=>b.data.toList)=cO 32 l)(hn:ns.length≠3):fD l=none:=by
 unfold fD
 rw[←h]
 match ns,hn with
 |[],_=>rfl
 |[_],_=>rfl
 |[_,_],_=>rfl
 |[_,_,_],h=>exact absurd rfl h
 |_::_::_::_::_,_=>rfl
theorem yV {l:List UInt8}{x a b c:ByteArray}(h:(([x,a,b,c]).map λb:ByteArray=>b.data.toList)=cO 32 l):fD l=if x.data.toList=rO∧b.data.toList=oN then(match dm a.data.toList with
  |none=>nO
  |some v=>match dm c.data.toList with
   |none=>nO
   |some f=>sO (v,f)) else none:=by
 unfold fD
 rw[←h]
 rfl
theorem pP {a:ByteArray}{l:List UInt8}(h:a.data.toList=l):a=⟨l.toArray⟩:=by
 apply ByteArray.ext
 apply x8.1
 rw[h]

def ZAt (w:World)(b:Nat):Prop:=w.cell? ⟨b,0,nO⟩=sO (.int .i64 0)∧w.cell? ⟨b,1,nO⟩=sO (.int .i64 0)∧w.cell? ⟨b,2,nO⟩=sO (U nO 0 0)∧(∀j,w.frozen? ⟨b,j,nO⟩=false)∧b < w.heap.size
theorem ZAt.new (w:World):ZAt (w.alloc (Cc #[.int .i64 0,.int .i64 0,U nO 0 0] 24)) w.heap.size:=by
 refine⟨?_,?_,?_,λj=> ?_,?_⟩<;>simp[go_sem]
theorem ZAt.call {w w':World}{b:Nat}(h:ZAt w b)(hb:Below w.heap.size w w'):ZAt w' b:=by
 obtain⟨h0,h1,h2,h3,hz⟩:=h
 exact⟨by rw[hb.cell hz];exact h0,by rw[hb.cell hz];exact h1,by rw[hb.cell hz];exact h2,λj=>by rw[hb.frozen hz];exact h3 j,lL hz hb.size⟩

theorem mV {p:Prop}(h:p:=by
 go_wp2
 refine bodyPost_ret (v:=.tuple #[.agg #[.int .i64 0,.int .i64 0,.slice none 0 0],.bool false]) (by simp[results,Tryz.results174,go_sem,e0,e1,e2]) rfl ⟨0,0,rfl,λ_ _ h=>(by cases h),?_⟩
 exact((HB.setCell (Nat.le_refl _) _).setCell (Nat.le_refl _) _).setCell (Nat.le_refl _) _):p:=h
theorem mY (l:ByteArray)(w:World)(hl:l.size≤4000)(ht:Tab w)(hm:Cap w)(hE:ErrS w):
  Calls pG 174 #[.string l] w λe w'=>∃V F,e=Rt (Tu #[Ag #[.int .i64 V,.int .i64 F,U nO 0 0],Bb (fD l.data.toList).isSome])∧(∀V' F',fD l.data.toList=sO (V',F')→V=V'∧F=F')∧Below w.heap.size w w':=by
 have hb1:Below w.heap.size w (w.alloc (Cc #[.int .i64 0,.int .i64 0,U nO 0 0] 24)):=by go_grown
 have Z1:=ZAt.new w
 obtain⟨x,ns,hdat,hnl,hsp⟩:=ui l (w.alloc (Cc #[.int .i64 0,.int .i64 0,U nO 0 0] 24)) (hm.below hb1) hl
 simp only[j1] at hsp
 by_cases h3:ns.length=3
 ·match ns,h3 with
  |[a,b,c],_=>
   have hh:=yV hdat
   generalize fD l.data.toList=ho at hh ⊢
   have Hh:=oJ hh
   clear hh hdat hl hnl
   simp only[j7,Q5,q7,Nat.reduceAdd] at hsp
   go_enter Tryz.func174,Tryz.ntmps174
   go_wp2_with (go_at_call 211;fail)
   refine hsp.mono ?_
   rintro e w0 ⟨rfl,hcells,hz0,hb0⟩
   clear hsp
   have Z0:=Z1.call (by simpa using hb0)
   have HB:Below w.heap.size w w0:=hb1.trans (hb0.mono (by simp))
   have c0:w0.cell? ⟨w.heap.size+1,0,nO⟩=sO (.string x):=hcells 0 (by simp)
   have c1:w0.cell? ⟨w.heap.size+1,1,nO⟩=sO (.string a):=hcells 1 (by simp)
   have c2:w0.cell? ⟨w.heap.size+1,2,nO⟩=sO (.string b):=hcells 2 (by simp)
   have c3:w0.cell? ⟨w.heap.size+1,3,nO⟩=sO (.string c):=hcells 3 (by simp)
   clear hcells hb1 hb0 Z1
   by_cases hx:x.data.toList=rO
   ·by_cases hbf:b.data.toList=oN
    ·have ex:=pP hx
     have eb:=pP hbf
     simp only[rO] at ex
     simp only[oN] at eb
     rw[if_pos ⟨hx,hbf⟩] at Hh
     subst ex eb
     clear hx hbf
     go_wp2_with (go_at_call 212;fail)
     refine(ii a w0 (ht.below HB) (hE.below HB)).mono ?_
     rintro e w3 ⟨v,rfl,hv,hb3⟩
     have Z3:=Z0.call hb3
     have c4:w3.cell? ⟨w.heap.size+1,3,nO⟩=sO (.string c):=by rw[hb3.cell hz0];exact c3
     have HB3:Below w.heap.size w w3:=HB.trans (hb3.mono HB.size)
     clear Z0 c0 c1 c2 c3
     have hz3:w.heap.size+1 < w3.heap.size:=lL hz0 hb3.size
     clear hb3
     go_wp2_with (go_at_call 212;fail)
     refine(ii c w3 (ht.below HB3) (hE.below HB3)).mono ?_
     rintro e w4 ⟨f,rfl,hf,hb4⟩
     obtain⟨e0,e1,e2,ef,ez⟩:=Z3.call hb4
     have HB4:Below w.heap.size w w4:=HB3.trans (hb4.mono HB3.size)
     clear Z3 c4 hb4
     have hres:ho.isSome=((dm a.data.toList).isSome&&(dm c.data.toList).isSome)∧∀V' F',ho=sO (V',F')→v=V'∧f=F':=by
      rw[Hh.out]
      cases e1:dm a.data.toList with
      |none=>exact⟨rfl,λ_ _ h=>by cases h⟩
      |some v'=>
       cases e2:dm c.data.toList with
       |none=>exact⟨rfl,λ_ _ h=>by cases h⟩
       |some f'=>exact⟨rfl,λ_ _ h=>by cases h;exact⟨hv _ e1,hf _ e2⟩⟩
     have hr2:=oJ hres.2
     have hr1:=oJ hres.1
     clear hres hv hf Hh
     generalize (dm a.data.toList).isSome=q1 at *
     generalize (dm c.data.toList).isSome=q2 at *
     cases q1 with
     |true=>
      go_wp2
      refine bodyPost_ret (v:=Tu #[Ag #[.int .i64 v,.int .i64 f,U nO 0 0],Bb q2]) (by simp[results,Tryz.results174,go_sem,e0,e1,e2]) rfl ⟨v,f,by rw[hr1.out];simp,hr2.out,?_⟩
      exact((HB4.setCell (lR _) _).setCell (lR _) _).setCell (lR _) _
     |false=>
      go_wp2
      refine bodyPost_ret (v:=Tu #[Ag #[.int .i64 v,.int .i64 f,U nO 0 0],Bb false]) (by simp[results,Tryz.results174,go_sem,e0,e1,e2]) rfl ⟨v,f,by rw[hr1.out];simp,hr2.out,?_⟩
      exact((HB4.setCell (lR _) _).setCell (lR _) _).setCell (lR _) _
    ·obtain rfl:ho=none:=Hh.out.trans (if_neg (λh=>hbf h.2))
     have ex:=pP hx
     simp only[rO] at ex
     have hne:(b.toList==[102,105,101,108,100,115])=false:=by
      rw[beq_eq_false_iff_ne,ByteArray.toList_eq];exact hbf
     subst ex
     clear Hh hx hbf
     obtain⟨e0,e1,e2,ef,ez⟩:=Z0
     exact mV
   ·obtain rfl:ho=none:=Hh.out.trans (if_neg (λh=>hx h.1))
    have hne:(x.toList==[118,97,114,115])=false:=by
     rw[beq_eq_false_iff_ne,ByteArray.toList_eq];exact hx
    clear Hh hx
    obtain⟨e0,e1,e2,ef,ez⟩:=Z0
    exact mV
 ·have hh:=yt hdat h3
  rw[hh]
  have hn4:ns.length+1≠4:=by omega
  clear hdat hl hh h3
  generalize ns.length+1=n at *
  have hn5:((n:Int)!=4)=true:=by simp;omega
  go_enter Tryz.func174,Tryz.ntmps174
  go_wp2_with (go_at_call 211;fail)
  refine hsp.mono ?_
  rintro e w0 ⟨rfl,-,hz0,hb0⟩
  clear hsp
  obtain⟨e0,e1,e2,ef,ez⟩:=Z1.call (by simpa using hb0)
  have HB:Below w.heap.size w w0:=hb1.trans (hb0.mono (by simp))
  clear hb1 hb0 Z1
  exact mV

theorem Az (s a b:ByteArray)(en:Bool)(w:World)(hm:Cap w)(hs:s.size < 4294967281)(hc:Lib.cut s.data.toList [10]=(a.data.toList,b.data.toList,en)):
  Calls pG 173 #[.string s,.string ⟨#[10]⟩] w λe w'=>e=Rt (Tu #[.string a,.string b,Bb en])∧Below w.heap.size w w':=by
 obtain⟨m,hm⟩:=hm
 refine(Tryz.strings_Cut s ⟨#[10]⟩ m w hs hm).mono ?_
 rintro e w' ⟨rfl,n,rfl⟩
 have hc':Lib.cut s.data.toList (⟨#[10]⟩:ByteArray).data.toList=(a.data.toList,b.data.toList,en):=hc
 rw[hc']
 exact⟨rfl,below_drewN (bR _ _) n⟩

theorem tg {p:Prop}(h:p:=by
 go_wp2
 refine bodyPost_ret (v:=.tuple #[.agg #[.int .i64 V,.int .i64 F,.slice none 0 0],.int .i64 1]) (by simp[results,Tryz.results117,go_sem,r0,r1,r2,rz,Nat.ne_of_lt rz]) rfl ⟨V,F,_,rfl,⟨_,_,_,rfl⟩,?_⟩
 first|exact(((H2.setCell (Nat.le_refl _) _).setCell (Nat.le_refl _) _).setCell (Nat.le_refl _) _).alloc (by simp;omega) _|exact(((H2.alloc H2.size _).setCell (Nat.le_refl _) _).setCell (Nat.le_refl _) _).setCell (Nat.le_refl _) _):p:=h
theorem kX (s H T:ByteArray)(en:Bool)(w:World)(ht:Tab w)(hm:Cap w)(hE:ErrS w)(hs:s.size≤4000)(hH:H.size≤4000)(hcH:Lib.cut s.data.toList [10]=(H.data.toList,T.data.toList,en))(hbad:(en&&(fD H.data.toList).isSome)=false):
  Calls pG 117 #[.string s] w λe w'=>∃V F v,e=Rt (Tu #[Ag #[.int .i64 V,.int .i64 F,v],.int .i64 1])∧(∃a l c,v=U a l c)∧Below w.heap.size w w':=by
 have hb0:Below w.heap.size w (w.alloc (Cc #[.int .i64 0,.int .i64 0,U nO 0 0] 24)):=by go_grown
 have Z0:=ZAt.new w
 go_enter Tryz.func117,Tryz.ntmps117
 go_wp2_with (go_at_call 173;fail)
 refine(Az s H T en _ (hm.below hb0) (by omega) hcH).mono ?_
 rintro e w1 ⟨rfl,hb1⟩
 have H1:Below w.heap.size w w1:=hb0.trans (hb1.mono (by go_size))
 have Z1:=Z0.call hb1
 clear Z0 hb1 hcH
 go_wp2_with (go_at_call 174;fail)
 refine(mY H w1 hH (ht.below H1) (hm.below H1) (hE.below H1)).mono ?_
 rintro e w2 ⟨V,F,rfl,-,hb2⟩
 have H2:Below w.heap.size w w2:=H1.trans (hb2.mono H1.size)
 obtain⟨r0,r1,r2,rf,rz⟩:=Z1.call hb2
 clear Z1 hb2
 generalize (fD H.data.toList).isSome=q at *
 cases en with
 |false=>
  exact tg
 |true=>
  obtain rfl:q=false:=by simpa using hbad
  exact tg
theorem tf {p:Prop}(h:p:=by
 have n0:(k:Int)+2 < 5000:=by omega
 have hcut:=pO (T k) (L k) (T (k+1)) wr (hm.below HR) (by have:=hT k;omega) (hc k hlt)
 go_wp2_with (go_at_call 173;fail)
 refine hcut.mono ?_
 rintro e w4 ⟨rfl,hb4⟩
 have H4:Below w.heap.size w w4:=HR.trans (hb4.mono HR.size)
 have hs4:ShpAt (w2.heap.size+1) shps w4:=hsh.of_blocks (λj hj hj'=>by rw[hb4.block j (by omega)];exact hsame j hj' (by omega))
 go_wp2_with (go_at_call 175;fail)
 refine(hI k hlt _ w4 hs4 (ht.below H4) (hm.below H4) (hEr.below H4)).mono ?_
 rintro e w5 ⟨rfl,hb5⟩
 have B5:∀j,j < wr.heap.size→w5.heap[j]? =wr.heap[j]? :=λj hj=>by rw[hb5.block j (by have:=hb4.size;omega),hb4.block j hj]
 have S5:wr.heap.size≤w5.heap.size:=Nat.le_trans hb4.size hb5.size
 obtain⟨P0,P1,P2,Pf⟩:PrgAt w5 w2.heap.size V F (.slice sl k cap):=PrgAt.block ⟨p0,p1,p2,pf⟩ (B5 _ hBr)
 have hB5:w2.heap.size < w5.heap.size:=by omega
 have hown5:=aw hown (λj hj=>B5 j (aM hown hj).1)
 clear hcut hs4 hsh
 have hnews:∀j u,(fm (I k))[j]? =some u→((w5.alloc (.cells #[.int .i64 (I k).k,.int .i64 (I k).tgt,.int .i64 (I k).a,.int .i64 (I k).b,.int .i64 (I k).n,.int .i64 (I k).g] 100)).alloc (.cells #[.int .i64 (I k).k,.int .i64 (I k).tgt,.int .i64 (I k).a,.int .i64 (I k).b,.int .i64 (I k).n,.int .i64 (I k).g] 100)).cell? ((⟨w5.heap.size+1,0,none⟩:Addr).add j)=some u:=by
  have:=ut (w5.alloc (.cells #[.int .i64 (I k).k,.int .i64 (I k).tgt,.int .i64 (I k).a,.int .i64 (I k).b,.int .i64 (I k).n,.int .i64 (I k).g] 100)) (fm (I k)) 100
  intro j u hj
  have h:=this j u hj
  simp only[World.size_alloc] at h
  exact h
 have hG:∀w6,((w5.alloc (.cells #[.int .i64 (I k).k,.int .i64 (I k).tgt,.int .i64 (I k).a,.int .i64 (I k).b,.int .i64 (I k).n,.int .i64 (I k).g] 100)).alloc (.cells #[.int .i64 (I k).k,.int .i64 (I k).tgt,.int .i64 (I k).a,.int .i64 (I k).b,.int .i64 (I k).n,.int .i64 (I k).g] 100)).grownBy w6 (Value.slice sl k cap).ownBlock→w6.heap[w2.heap.size]? =w5.heap[w2.heap.size]? :=λw6 hgrow=>by
  rw[hgrow.block _ (by simp;omega) (λe=>by have:=lK hown5 e.symm;omega),Below.heap_alloc _ _ _ (by simp;omega),Below.heap_alloc _ _ _ (by omega)]
 have hH6:∀w6,((w5.alloc (.cells #[.int .i64 (I k).k,.int .i64 (I k).tgt,.int .i64 (I k).a,.int .i64 (I k).b,.int .i64 (I k).n,.int .i64 (I k).g] 100)).alloc (.cells #[.int .i64 (I k).k,.int .i64 (I k).tgt,.int .i64 (I k).a,.int .i64 (I k).b,.int .i64 (I k).n,.int .i64 (I k).g] 100)).grownBy w6 (Value.slice sl k cap).ownBlock→Below w2.heap.size w2 w6:=λw6 hgrow=>
  ((((hbr.trans (hb4.mono (by omega))).trans (hb5.mono (by have:=hb4.size;omega))).alloc (by omega) _).alloc (by simp;omega) _).grown hgrow (by simp;omega) (λj hj=>by have:=lK hown5 hj;omega)
 have hflat:gV ((List.range (k+1)).map I)=gV ((List.range k).map I)++fm (I k):=by
  rw[List.range_succ,List.map_append,gV,List.flatMap_append];simp[gV]
 have hone:∀u∈fm (I k),u.oneCell'=true:=by simp[fm,Value.oneCell']
 have hba:w3.heap.size≤((w5.alloc (.cells #[.int .i64 (I k).k,.int .i64 (I k).tgt,.int .i64 (I k).a,.int .i64 (I k).b,.int .i64 (I k).n,.int .i64 (I k).g] 100)).alloc (.cells #[.int .i64 (I k).k,.int .i64 (I k).tgt,.int .i64 (I k).a,.int .i64 (I k).b,.int .i64 (I k).n,.int .i64 (I k).g] 100)).heap.size:=by simp;omega
 go_wp2_with (at_builtin;refine wpList_append_own _ rfl _ _ 22 rfl w3.heap.size 100 ti (.agg #[.int .i64 0,.int .i64 0,.int .i64 0,.int .i64 0,.int .i64 0,.int .i64 0]) 6 48 Tryz.underlying22 hi hz0 hz1 hz2 rfl (by decide) _ _ _ rfl ((hown5.alloc _).alloc _) ⟨w5.heap.size+1,0,none⟩ 1 1 (fm (I k)) rfl rfl hnews hone (by unfold maxLen;omega) (by omega) hba ?_;intro v' w6 hown' hgrow hnil;obtain⟨g,cap',rfl,hg,hlt'⟩:=hown'.form (Nat.succ_pos _);obtain⟨Q0,Q1,Q2,Qf⟩:PrgAt w6 w2.heap.size V F (.slice sl k cap):=PrgAt.block ⟨P0,P1,P2,Pf⟩ (hG w6 hgrow))
 go_roundw
 case rel=>
  refine⟨k+1,_,hlt,rfl,by go_num,PrgAt.set ⟨Q0,Q1,Q2,Qf⟩ _,ownsRow_setCell_below ?_ s3 _,?_,?_,?_⟩
  ·rw[hflat];exact hown'
  ·exact(hH6 w6 hgrow).setCell (Nat.le_refl _) _
  ·have:=hgrow.size;simp at this ⊢;omega
  ·intro j hj hj'
   rw[Below.heap_setCell _ _ _ _ hj',hgrow.block j (by simp;omega) (λe=>by have:=lK hown5 e.symm;omega),Below.heap_alloc _ _ _ (by simp;omega),Below.heap_alloc _ _ _ (by omega),B5 j (by omega)]
   exact hsame j hj hj'
 case measure=>simp[intOf];omega):p:=h
theorem rY (n:Nat)(hn:n≤4001)(s H:ByteArray)(V F:Int)(T L:Nat→ByteArray)(I:Nat→Ins)(w:World)(ht:Tab w)(hm:Cap w)(hEr:ErrS w)(hs:s.size < 5000)(hT:∀k,(T k).size < 5000)
  (hcH:Lib.cut s.data.toList [10]=(H.data.toList,(T 0).data.toList,true))
  (hH:∀w,Tab w→Cap w→ErrS w→Calls pG 174 #[.string H] w λe w'=>e=Rt (Tu #[Ag #[.int .i64 V,.int .i64 F,U nO 0 0],Bb true])∧Below w.heap.size w w')
  (hc:∀k,k < n→Lib.cut (T k).data.toList [10]=((L k).data.toList,(T (k+1)).data.toList,true))(h0:∀k,k < n→(T k)≠⟨#[]⟩)(hE:T n=⟨#[]⟩)
  (hI:∀k,k < n→∀N w,ShpAt N shps w→Tab w→Cap w→ErrS w→Calls pG 175 #[.map (sO N),.string (L k)] w λe w'=>e=Rt (Tu #[Ag #[.int .i64 (I k).k,.int .i64 (I k).tgt,.int .i64 (I k).a,.int .i64 (I k).b,.int .i64 (I k).n,.int .i64 (I k).g],Bb true])∧Below w.heap.size w w'):
  Calls pG 117 #[.string s] w λe w'=>∃v,e=Rt (Tu #[Ag #[.int .i64 V,.int .i64 F,v],.int .i64 0])∧w'.ownsRow w.heap.size 100 6 v n (gV ((j4 n).map I))∧Below w.heap.size w w':=by
 obtain⟨ti,hi,hz0,hz1,hz2⟩:=info_parts wT
 have hb0:Below w.heap.size w (w.alloc (Cc #[.int .i64 0,.int .i64 0,U nO 0 0] 24)):=by go_grown
 go_enter Tryz.func117,Tryz.ntmps117
 go_wp2_with (go_at_call 173;fail)
 refine(pO s H (T 0) _ (hm.below hb0) (by omega) hcH).mono ?_
 rintro e w1 ⟨rfl,hb1⟩
 have H1:Below w.heap.size w w1:=hb0.trans (hb1.mono (by go_size))
 go_wp2_with (go_at_call 174;fail)
 refine(hH _ (ht.below H1) (hm.below H1) (hEr.below H1)).mono ?_
 rintro e w2 ⟨rfl,hb2⟩
 have H2:Below w.heap.size w w2:=H1.trans (hb2.mono H1.size)
 have r2:w2.heap[w.heap.size]? =sO (Cc #[.int .i64 0,.int .i64 0,U nO 0 0] 24 (0,0)):=by
  have s1:=hb1.size
  rw[hb2.block _ (by simp at s1;omega),hb1.block _ (by simp)]
  exact(MapKept.heap_alloc _ _).1
 have z2:w.heap.size < w2.heap.size:=(q8.1 r2).1
 go_wp2_with (go_at_call 127;fail)
 refine(ks _).mono ?_
 rintro e w3 ⟨rfl,hsh,hb3⟩
 have q3:PrgAt w3 w2.heap.size V F (U nO 0 0):=by
  have hb:=hb3.block w2.heap.size (by simp)
  refine PrgAt.block ⟨?_,?_,?_,λj=> ?_⟩ hb<;>simp[go_sem]
 have s3:w2.heap.size < w3.heap.size:=by have:=hb3.size;simp at this;omega
 have H3:Below w2.heap.size w2 w3:=(Below.alloc (bR _ w2) (lR _) _).trans (hb3.mono (by simp))
 simp at hsh
 clear hb1 hb2
 go_wp2
 go_loopw [0,9] (λt l wr=>∃k v,k≤n∧t=.string (T k)∧l=.int .i64 ((k:Int)+2)∧PrgAt wr w2.heap.size V F v∧wr.ownsRow w3.heap.size 100 6 v k (gV ((j4 k).map I))∧Below w2.heap.size w2 wr∧w3.heap.size≤wr.heap.size∧∀j,j < w3.heap.size→j≠w2.heap.size→wr.heap[j]? =w3.heap[j]?) (λ_ l _=>n+2 - (intOf l).toNat)
 case atStart=>exact⟨0,_,j8 _,rfl,rfl,q3,q6 _ _ _ _,H3,lR _,λ_ _ _=>rfl⟩
 case round=>
  obtain⟨k,v,hk,rfl,rfl,hp,hown,hbr,hsz,hsame⟩:=hrel
  obtain⟨sl,cap,rfl,hcode⟩:∃sl cap,v=U sl k cap∧CodeAt wr sl ((j4 k).map I):=by
   have:=iA (c:=(j4 k).map I) (by simpa using hown)
   simpa using this
  obtain⟨p0,p1,p2,pf⟩:=hp
  have hBr:w2.heap.size < wr.heap.size:=by omega
  have HR:Below w.heap.size w wr:=H2.trans (hbr.mono (by omega))
  by_cases hlt:k < n
  ·have hne:(T k).toList.isEmpty=false:=by
    rw[ByteArray.toList_eq,Q6]
    intro e
    exact h0 k hlt (ByteArray.ext (by simpa using e))
   exact tf
  ·have hk':k=n:=by omega
   subst hk'
   have rb:wr.heap[w.heap.size]? =sO (Cc #[.int .i64 0,.int .i64 0,U nO 0 0] 24 (0,0)):=by rw[hbr.block _ z2];exact r2
   have rc:∀j,wr.cell? ⟨w.heap.size,j,nO⟩=(#[.int .i64 0,.int .i64 0,U nO 0 0]:Array Value)[j]? :=λj=>by simp[q9,rb]
   have rf:∀j,wr.frozen? ⟨w.heap.size,j,nO⟩=false:=λj=>by simp[World.frozen?,rb]
   have r0:wr.cell? ⟨w.heap.size,0,nO⟩=sO (.int .i64 0):=rc 0
   have r1:wr.cell? ⟨w.heap.size,1,nO⟩=sO (.int .i64 0):=rc 1
   have r3:wr.cell? ⟨w.heap.size,2,nO⟩=sO (U nO 0 0):=rc 2
   have hne:(T k).toList.isEmpty=true:=by rw[hE,ByteArray.toList_eq];rfl
   have zr:w.heap.size < wr.heap.size:=by omega
   clear rb rc
   go_wp2
   refine bodyPost_ret (v:=Tu #[Ag #[.int .i64 V,.int .i64 F,U sl k cap],.int .i64 0]) (by simp[results,Tryz.results117,go_sem,r0,r1,r3]) rfl ⟨U sl k cap,rfl,?_,?_⟩
   ·have hz:w.heap.size < w3.heap.size:=by omega
    exact kf (ownsRow_setCell_below (a:=⟨w.heap.size,2,nO⟩) (ownsRow_setCell_below (a:=⟨w.heap.size,1,nO⟩) (ownsRow_setCell_below (a:=⟨w.heap.size,0,nO⟩) hown hz (.int .i64 V)) hz (.int .i64 F)) hz (U sl k cap)) (x9 hz)
   ·exact((HR.setCell (lR _) _).setCell (lR _) _).setCell (lR _) _

theorem ma {p:Prop}(h:p:=by
 go_wp2
 refine bodyPost_ret (v:=.tuple #[.agg #[.int .i64 V,.int .i64 F,.slice sl k cap],.int .i64 ((k:Int)+2)]) (by simp[results,Tryz.results117,go_sem,r0,r1,r3,rz,Nat.ne_of_lt rz]) rfl ⟨V,F,_,rfl,⟨_,_,_,rfl⟩,?_⟩
 first|exact(hfin _ H5).alloc (by simp;omega) _|exact hfin _ (H5.alloc H5.size _)):p:=h
theorem tw (n:Nat)(hn:n≤4001)(s H:ByteArray)(V F:Int)(T L:Nat→ByteArray)(I:Nat→Ins)(w:World)(ht:Tab w)(hm:Cap w)(hEr:ErrS w)(hs:s.size < 5000)(hT:∀k,(T k).size < 5000)
  (hcH:Lib.cut s.data.toList [10]=(H.data.toList,(T 0).data.toList,true))
  (hH:∀w,Tab w→Cap w→ErrS w→Calls pG 174 #[.string H] w λe w'=>e=Rt (Tu #[Ag #[.int .i64 V,.int .i64 F,U nO 0 0],Bb true])∧Below w.heap.size w w')
  (hc:∀k,k < n→Lib.cut (T k).data.toList [10]=((L k).data.toList,(T (k+1)).data.toList,true))(h0:∀k,k < n→(T k)≠⟨#[]⟩)(hne0:T n≠⟨#[]⟩)(X Y:ByteArray)(en:Bool)(hX:X.size≤4000)(hcX:Lib.cut (T n).data.toList [10]=(X.data.toList,Y.data.toList,en))(hbad:(en&&(gr X.data.toList).isSome)=false)
  (hI:∀k,k < n→∀N w,ShpAt N shps w→Tab w→Cap w→ErrS w→Calls pG 175 #[.map (sO N),.string (L k)] w λe w'=>e=Rt (Tu #[Ag #[.int .i64 (I k).k,.int .i64 (I k).tgt,.int .i64 (I k).a,.int .i64 (I k).b,.int .i64 (I k).n,.int .i64 (I k).g],Bb true])∧Below w.heap.size w w'):
  Calls pG 117 #[.string s] w λe w'=>∃V F v,e=Rt (Tu #[Ag #[.int .i64 V,.int .i64 F,v],.int .i64 ((n:Int)+2)])∧(∃a l c,v=U a l c)∧Below w.heap.size w w':=by
 obtain⟨ti,hi,hz0,hz1,hz2⟩:=info_parts wT
 have hb0:Below w.heap.size w (w.alloc (Cc #[.int .i64 0,.int .i64 0,U nO 0 0] 24)):=by go_grown
 go_enter Tryz.func117,Tryz.ntmps117
 go_wp2_with (go_at_call 173;fail)
 refine(pO s H (T 0) _ (hm.below hb0) (by omega) hcH).mono ?_
 rintro e w1 ⟨rfl,hb1⟩
 have H1:Below w.heap.size w w1:=hb0.trans (hb1.mono (by go_size))
 go_wp2_with (go_at_call 174;fail)
 refine(hH _ (ht.below H1) (hm.below H1) (hEr.below H1)).mono ?_
 rintro e w2 ⟨rfl,hb2⟩
 have H2:Below w.heap.size w w2:=H1.trans (hb2.mono H1.size)
 have r2:w2.heap[w.heap.size]? =sO (Cc #[.int .i64 0,.int .i64 0,U nO 0 0] 24 (0,0)):=by
  have s1:=hb1.size
  rw[hb2.block _ (by simp at s1;omega),hb1.block _ (by simp)]
  exact(MapKept.heap_alloc _ _).1
 have z2:w.heap.size < w2.heap.size:=(q8.1 r2).1
 go_wp2_with (go_at_call 127;fail)
 refine(ks _).mono ?_
 rintro e w3 ⟨rfl,hsh,hb3⟩
 have q3:PrgAt w3 w2.heap.size V F (U nO 0 0):=by
  have hb:=hb3.block w2.heap.size (by simp)
  refine PrgAt.block ⟨?_,?_,?_,λj=> ?_⟩ hb<;>simp[go_sem]
 have s3:w2.heap.size < w3.heap.size:=by have:=hb3.size;simp at this;omega
 have H3:Below w2.heap.size w2 w3:=(Below.alloc (bR _ w2) (lR _) _).trans (hb3.mono (by simp))
 simp at hsh
 clear hb1 hb2
 go_wp2
 go_loopw [0,9] (λt l wr=>∃k v,k≤n∧t=.string (T k)∧l=.int .i64 ((k:Int)+2)∧PrgAt wr w2.heap.size V F v∧wr.ownsRow w3.heap.size 100 6 v k (gV ((j4 k).map I))∧Below w2.heap.size w2 wr∧w3.heap.size≤wr.heap.size∧∀j,j < w3.heap.size→j≠w2.heap.size→wr.heap[j]? =w3.heap[j]?) (λ_ l _=>n+2 - (intOf l).toNat)
 case atStart=>exact⟨0,_,j8 _,rfl,rfl,q3,q6 _ _ _ _,H3,lR _,λ_ _ _=>rfl⟩
 case round=>
  obtain⟨k,v,hk,rfl,rfl,hp,hown,hbr,hsz,hsame⟩:=hrel
  obtain⟨sl,cap,rfl,hcode⟩:∃sl cap,v=U sl k cap∧CodeAt wr sl ((j4 k).map I):=by
   have:=iA (c:=(j4 k).map I) (by simpa using hown)
   simpa using this
  obtain⟨p0,p1,p2,pf⟩:=hp
  have hBr:w2.heap.size < wr.heap.size:=by omega
  have HR:Below w.heap.size w wr:=H2.trans (hbr.mono (by omega))
  by_cases hlt:k < n
  ·have hne:(T k).toList.isEmpty=false:=by
    rw[ByteArray.toList_eq,Q6]
    intro e
    exact h0 k hlt (ByteArray.ext (by simpa using e))
   exact tf
  ·have hk':k=n:=by omega
   subst hk'
   have rb:wr.heap[w.heap.size]? =sO (Cc #[.int .i64 0,.int .i64 0,U nO 0 0] 24 (0,0)):=by rw[hbr.block _ z2];exact r2
   have zr:w.heap.size < wr.heap.size:=by omega
   have Zr:ZAt wr w.heap.size:=⟨by simp[q9,rb],by simp[q9,rb],by simp[q9,rb],λj=>by simp[World.frozen?,rb],zr⟩
   have hne:(T k).toList.isEmpty=false:=by
    rw[ByteArray.toList_eq,Q6]
    intro e
    exact hne0 (ByteArray.ext (by simpa using e))
   clear rb
   go_wp2_with (go_at_call 173;fail)
   refine(Az (T k) X Y en wr (hm.below HR) (by have:=hT k;omega) hcX).mono ?_
   rintro e w4 ⟨rfl,hb4⟩
   have H4:Below w.heap.size w w4:=HR.trans (hb4.mono HR.size)
   have hs4:ShpAt (w2.heap.size+1) shps w4:=hsh.of_blocks (λj hj hj'=>by rw[hb4.block j (by omega)];exact hsame j hj' (by omega))
   go_wp2_with (go_at_call 175;fail)
   refine(lQ _ X w4 hX hs4 (ht.below H4) (hm.below H4) (hEr.below H4)).mono ?_
   rintro e w5 ⟨he5,hb5⟩
   have B5:∀j,j < wr.heap.size→w5.heap[j]? =wr.heap[j]? :=λj hj=>by rw[hb5.block j (by have:=hb4.size;omega),hb4.block j hj]
   obtain⟨P0,P1,P2,Pf⟩:PrgAt w5 w2.heap.size V F (U sl k cap):=PrgAt.block ⟨p0,p1,p2,pf⟩ (B5 _ hBr)
   have hB5:w2.heap.size < w5.heap.size:=by have:=hb4.size;have:=hb5.size;omega
   obtain⟨r0,r1,r3,rf,rz⟩:=(Zr.call hb4).call hb5
   have H5:Below w.heap.size w w5:=H4.trans (hb5.mono H4.size)
   clear Zr hs4 hsh p0 p1 p2 pf
   generalize gr X.data.toList=o at *
   have hfin:∀wx,Below w.heap.size w wx→Below w.heap.size w (((wx.setCell ⟨w.heap.size,0,nO⟩ (.int .i64 V)).setCell ⟨w.heap.size,1,nO⟩ (.int .i64 F)).setCell ⟨w.heap.size,2,nO⟩ (U sl k cap)):=λwx h=>((h.setCell (lR _) _).setCell (lR _) _).setCell (lR _) _
   cases o with
   |none=>
    simp only[iy,pD,fT] at he5
    subst he5
    cases en with
    |false=>
     exact ma
    |true=>
     exact ma
   |some i=>
    obtain rfl:en=false:=by simpa using hbad
    simp only[iy,pD] at he5
    subst he5
    exact ma
def aZ (s:ByteArray):(Int×Int×List Ins)×Int×Int:=
 if 4000 < s.size then((0,0,[]),0,2) else match kN s.data.toList with
  |.error k=>((0,0,[]),k,1)
  |.ok (V,F,c)=>if ai V F c=0 then((V,F,c),0,0) else((0,0,[]),0,ai V F c)

theorem kP (a:ByteArray)(l:List UInt8)(h:a.data.toList=l):a.size=l.length:=by rw[←h,fK]

theorem Gb {H:ByteArray}{V F:Int}(hl:H.size≤4000)(h:fD H.data.toList=sO (V,F)):∀w,Tab w→Cap w→ErrS w→Calls pG 174 #[.string H] w λe w'=>e=Rt (Tu #[Ag #[.int .i64 V,.int .i64 F,U nO 0 0],Bb true])∧Below w.heap.size w w':=by
 intro w ht hm hE
 refine(mY H w hl ht hm hE).mono ?_
 rintro e w' ⟨V',F',rfl,h2,hb⟩
 obtain⟨rfl,rfl⟩:=h2 _ _ h
 rw[h]
 exact⟨rfl,hb⟩
theorem F8 {L:ByteArray}{i:Ins}(hl:L.size≤4000)(h:gr L.data.toList=sO i):∀N w,ShpAt N shps w→Tab w→Cap w→ErrS w→Calls pG 175 #[.map (sO N),.string L] w λe w'=>e=Rt (Tu #[Ag #[.int .i64 i.k,.int .i64 i.tgt,.int .i64 i.a,.int .i64 i.b,.int .i64 i.n,.int .i64 i.g],Bb true])∧Below w.heap.size w w':=by
 intro N w hs ht hm hE
 refine(lQ N L w hl hs ht hm hE).mono ?_
 rintro e w' ⟨rfl,hb⟩
 rw[h]
 exact⟨rfl,hb⟩

theorem pk (s:ByteArray)(V F:Int)(c:List Ins)(w:World)(hs:s.size≤4000)(ht:Tab w)(hm:Cap w)(hE:ErrS w)(h:kN s.data.toList=.ok (V,F,c)):
  Calls pG 117 #[.string s] w λe w'=>∃v,e=Rt (Tu #[Ag #[.int .i64 V,.int .i64 F,v],.int .i64 0])∧w'.ownsRow w.heap.size 100 6 v c.length (gV c)∧Below w.heap.size w w':=by
 have hg:=pH 10 s.data.toList
 have hfree:=lM 10 s.data.toList
 have hcl:=mP 10 s.data.toList
 rw[fK] at hcl
 unfold kN at h
 split at h
 ·rename_i x y r hc
  rw[hc] at hg hfree hcl
  simp only[j7] at hcl
  have hall:(fR 10 (x::y::r)).length≤4000:=by rw[hg,fK];exact hs
  split at h
  ·cases h
  ·rename_i V' F' hh
   split at h
   ·cases h
   ·rename_i c' hcc
    cases h
    obtain⟨h1,h2,h3⟩:=AC hcc
    have hxl:(lnB (x::y::r) 0).size≤4000:=by
     rw[kP _ _ (dF _ _)]
     exact lT (la 10 _ _ (by simp)) hall
    have hll:∀k,(lnB (y::r) k).size≤4000:=by
     intro k
     rw[kP _ _ (dF _ _)]
     by_cases hk:k < (y::r).length
     ·rw[kV hk]
      exact lT (la 10 _ _ (J5 _ (gM hk))) hall
     ·rw[J6,X0 (by omega)];simp
    have htl:∀k,(txB (y::r) k).size≤4000:=by
     intro k
     rw[kP _ _ (fk _ _)]
     refine lT (nM 10 _ _) (lT ?_ hall)
     rw[gU];simp;omega
    have hfy:∀z∈y::r,(10:UInt8)∉z:=λz hz=>hfree z (J5 _ hz)
    have hmain:=rY c.length (by simp only[j7] at h1;omega) s (lnB (x::y::r) 0) V F (txB (y::r)) (lnB (y::r)) (λk=>c.getD k fT) w ht hm hE (by omega) (λk=>by have:=htl k;omega)
     (by
      have:=As 10 x (fR 10 (y::r)) (hfree x (by simp))
      rw[←gU,hg] at this
      rw[this,dF,fk]
      rfl)
     (Gb hxl (by rw[dF];exact hh))
     (λk hk=>sS (by omega) hfy)
     (λk hk=>Bd (by omega))
     (by
      apply ByteArray.ext
      apply x8.1
      rw[DT (by omega)]
      exact h2)
     (λk hk=>F8 (hll k) (by rw[dF,h3 k hk];simp[J6,Q3 hk]))
    have hmap:(j4 c.length).map (λk=>c.getD k fT)=c:=by
     apply List.ext_getElem
     ·simp
     ·intro k hk1 hk2
      simp[J6,Q3 hk2]
    rw[hmap] at hmain
    exact hmain
 ·cases h

theorem yR (s:ByteArray)(k:Nat)(w:World)(hs:s.size≤4000)(ht:Tab w)(hm:Cap w)(hE:ErrS w)(h:kN s.data.toList=.error k):
  Calls pG 117 #[.string s] w λe w'=>∃V F v,e=Rt (Tu #[Ag #[.int .i64 V,.int .i64 F,v],.int .i64 k])∧k≠0∧(∃a l c,v=U a l c)∧Below w.heap.size w w':=by
 have hg:=pH 10 s.data.toList
 have hfree:=lM 10 s.data.toList
 have hcl:=mP 10 s.data.toList
 rw[fK] at hcl
 obtain⟨x,r,hc⟩:=iL 10 s.data.toList
 rw[hc] at hg hfree hcl
 have hall:(fR 10 (x::r)).length≤4000:=by rw[hg,fK];exact hs
 have hxl:(lnB (x::r) 0).size≤4000:=by
  rw[kP _ _ (dF _ _)]
  exact lT (la 10 _ _ (by simp)) hall
 unfold kN at h
 rw[hc] at h
 cases r with
 |nil=>
  cases h
  have hcut:=Ay (ls:=[x]) (k:=0) rfl hfree
  rw[fk,Q7,hg] at hcut
  refine(kX s (lnB [x] 0) ⟨#[]⟩ false w ht hm hE hs hxl hcut rfl).mono ?_
  rintro e w' ⟨V,F,v,rfl,hv,hb⟩
  exact⟨V,F,v,rfl,by omega,hv,hb⟩
 |cons y r=>
  simp only[j7] at hcl
  have hcut:=sS (ls:=x::y::r) (k:=0) (by simp) hfree
  rw[fk,Q7,hg] at hcut
  simp only at h
  cases hh:fD x with
  |none=>
   rw[hh] at h
   cases h
   refine(kX s (lnB (x::y::r) 0) (txB (x::y::r) 1) true w ht hm hE hs hxl hcut (by rw[dF];show (true&&(fD x).isSome)=false;rw[hh];rfl)).mono ?_
   rintro e w' ⟨V,F,v,rfl,hv,hb⟩
   exact⟨V,F,v,rfl,by omega,hv,hb⟩
  |some vf=>
   obtain⟨V,F⟩:=vf
   rw[hh] at h
   simp only at h
   cases hcc:it 2 (y::r) with
   |ok c=>rw[hcc] at h;cases h
   |error e=>
    rw[hcc] at h
    cases h
    obtain⟨n,h1,h2,h3,h4⟩:=ww (by simp) hcc
    subst h1
    have hll:∀k,(lnB (y::r) k).size≤4000:=by
     intro k
     rw[kP _ _ (dF _ _)]
     by_cases hk:k < (y::r).length
     ·rw[kV hk]
      exact lT (la 10 _ _ (J5 _ (gM hk))) hall
     ·rw[J6,X0 (by omega)];simp
    have htl:∀k,(txB (y::r) k).size≤4000:=by
     intro k
     rw[kP _ _ (fk _ _)]
     refine lT (nM 10 _ _) (lT ?_ hall)
     rw[gU];simp;omega
    have hfy:∀z∈y::r,(10:UInt8)∉z:=λz hz=>hfree z (J5 _ hz)
    have hend:txB (y::r) n≠⟨#[]⟩∧∃(Y:ByteArray) (en:Bool),Lib.cut (txB (y::r) n).data.toList [10]=((lnB (y::r) n).data.toList,Y.data.toList,en)∧(en&&(gr (lnB (y::r) n).data.toList).isSome)=false:=by
     rcases h4 with⟨h5,h6⟩|⟨h5,h6⟩
     ·refine⟨λe=>h6 ?_,_,_,Ay h5 hfy,rfl⟩
      rw[←DT h5,e]
     ·refine⟨Bd h5,_,_,sS h5 hfy,?_⟩
      rw[dF,h6];rfl
    obtain⟨he1,Y,en,he2,he3⟩:=hend
    refine(tw n (by simp only[j7] at h2;omega) s (lnB (x::y::r) 0) V F (txB (y::r)) (lnB (y::r)) (λk=>(gr ((y::r).getD k [])).getD fT) w ht hm hE (by omega) (λk=>by have:=htl k;omega)
     (by rw[hcut];rfl)
     (Gb hxl (by rw[dF];exact hh))
     (λk hk=>sS (by omega) hfy)
     (λk hk=>Bd (by omega))
     he1 (lnB (y::r) n) Y en (hll n) he2 he3
     (λk hk=>F8 (hll k) (by obtain⟨i,hi⟩:=h3 k hk;rw[dF,hi];rfl))).mono ?_
    rintro e w' ⟨V',F',v,rfl,hv,hb⟩
    refine⟨V',F',v,?_,by omega,hv,hb⟩
    rw[show ((2+n:Nat):Int)=(n:Int)+2 by omega]

theorem CH (s:ByteArray)(w:World)(ht:Tab w)(hm:Cap w)(hE:ErrS w):
  Calls pG 60 #[.string s] w λe w'=>∃v,e=Rt (Tu #[Ag #[.int .i64 (aZ s).1.1,.int .i64 (aZ s).1.2.1,v],.int .i64 (aZ s).2.1,.int .i64 (aZ s).2.2])∧w'.ownsRow w.heap.size 100 6 v (aZ s).1.2.2.length (gV (aZ s).1.2.2)∧Below w.heap.size w w':=by
 have hb0:Below w.heap.size w (w.alloc (Cc #[.int .i64 0,.int .i64 0,U nO 0 0] 24)):=by go_grown
 have Z0:=ZAt.new w
 by_cases hs:4000 < s.size
 ·have hp:aZ s=((0,0,[]),0,2):=by unfold aZ;rw[if_pos hs]
  rw[hp]
  have n0:(4000:Int) < (s.size:Int):=by omega
  clear hp Z0 hb0
  go_enter Tryz.func60,Tryz.ntmps60
  go_wp2
  refine bodyPost_ret (v:=Tu #[Ag #[.int .i64 0,.int .i64 0,U nO 0 0],.int .i64 0,.int .i64 2]) (by simp[results,Tryz.results60,go_sem]) rfl ⟨_,rfl,q6 _ _ _ _,?_⟩
  go_grown
 ·have hs':s.size≤4000:=by omega
  have n0:¬(4000:Int) < (s.size:Int):=by omega
  cases hr:kN s.data.toList with
  |error k=>
   have hp:aZ s=((0,0,[]),(k:Int),1):=by unfold aZ;rw[if_neg hs,hr]
   rw[hp]
   have hL:=yR s k _ hs' (ht.below hb0) (hm.below hb0) (hE.below hb0) hr
   clear hp hr
   go_enter Tryz.func60,Tryz.ntmps60
   go_wp2_with (go_at_call 117;fail)
   refine hL.mono ?_
   rintro e w1 ⟨V,F,v,rfl,hk0,⟨a,l,c,rfl⟩,hb1⟩
   have HB1:Below w.heap.size w w1:=hb0.trans (hb1.mono (by simp))
   obtain⟨e0,e1,e2,ef,ez⟩:=Z0.call hb1
   have hk1:((k:Int)!=0)=true:=by simp;omega
   clear hL hk0 Z0 hb0 hb1
   go_wp2
   refine bodyPost_ret (v:=Tu #[Ag #[.int .i64 0,.int .i64 0,U nO 0 0],.int .i64 (k:Int),.int .i64 1]) (by simp[results,Tryz.results60,go_sem,e0,e1,e2,ez,J4 ez]) rfl ⟨_,rfl,q6 _ _ _ _,?_⟩
   first|exact(((HB1.setCell (lR _) _).setCell (lR _) _).setCell (lR _) _)|exact(((HB1.setCell (lR _) _).setCell (lR _) _).setCell (lR _) _).alloc (by simp;omega) _
  |ok p=>
   obtain⟨V,F,c⟩:=p
   by_cases h0:ai V F c=0
   ·have hp:aZ s=((V,F,c),0,0):=by unfold aZ;rw[if_neg hs,hr];simp only;rw[if_pos h0]
    rw[hp]
    exact EZ V F c s w hs' h0 (λw' hb=>pk s V F c w' hs' (ht.below hb) (hm.below hb) (hE.below hb) hr)
   ·have hp:aZ s=((0,0,[]),0,ai V F c):=by unfold aZ;rw[if_neg hs,hr];simp only;rw[if_neg h0]
    rw[hp]
    have hL:=pk s V F c _ hs' (ht.below hb0) (hm.below hb0) (hE.below hb0) hr
    clear hp hr
    go_enter Tryz.func60,Tryz.ntmps60
    go_wp2_with (go_at_call 117;fail)
    refine hL.mono ?_
    rintro e w1 ⟨v,rfl,hown,hb1⟩
    obtain⟨sl,cap,rfl,hc⟩:=iA hown
    have HB1:Below w.heap.size w w1:=hb0.trans (hb1.mono (by simp))
    have Z1:=Z0.call hb1
    have hb2:Below w1.heap.size w1 (w1.alloc (Cc #[.int .i64 V,.int .i64 F,U sl c.length cap] 24)):=by go_grown
    have hC2:=di V F sl cap c _ (hc.below hb2 (lR _))
    clear hL Z0 hb0 hb1 hown hc
    go_wp2_with (go_at_call 76;fail)
    refine hC2.mono ?_
    rintro e w2 ⟨rfl,hb3⟩
    have HB2:Below w.heap.size w w2:=(HB1.trans (hb2.mono HB1.size)).trans (hb3.mono (by simp;have:=HB1.size;omega))
    obtain⟨e0,e1,e2,ef,ez⟩:=(Z1.call hb2).call hb3
    have hk1:(ai V F c !=0)=true:=by simpa using h0
    clear hC2 Z1 hb2 hb3 HB1 h0
    go_wp2
    refine bodyPost_ret (v:=Tu #[Ag #[.int .i64 0,.int .i64 0,U nO 0 0],.int .i64 0,.int .i64 (ai V F c)]) (by simp[results,Tryz.results60,go_sem,e0,e1,e2,ez,J4 ez]) rfl ⟨_,rfl,q6 _ _ _ _,?_⟩
    first|exact(((HB2.setCell (lR _) _).setCell (lR _) _).setCell (lR _) _)|exact(((HB2.setCell (lR _) _).setCell (lR _) _).setCell (lR _) _).alloc (by simp;omega) _
theorem ri:(Tryz.prog.info? 82).map (λi=>(i.zero,i.size,i.bytes))=sO (sO (Ag #[.int .i64 0,.int .i64 0]),2,16):=by kernel_rfl
def ZRun (w:World)(b:Nat):Prop:=w.cell? ⟨b,0,nO⟩=sO (.int .i64 0)∧w.cell? ⟨b,1,nO⟩=sO (U nO 0 0)∧w.cell? ⟨b,2,nO⟩=sO (U nO 0 0)∧w.cell? ⟨b,3,nO⟩=sO (.int .i64 0)∧w.cell? ⟨b,4,nO⟩=sO (U nO 0 0)∧w.cell? ⟨b,5,nO⟩=sO (.int .i64 0)∧(∀j,w.frozen? ⟨b,j,nO⟩=false)∧b < w.heap.size
theorem ZRun.new (w:World):ZRun (w.alloc (Cc #[.int .i64 0,U nO 0 0,U nO 0 0,.int .i64 0,U nO 0 0,.int .i64 0] 33)) w.heap.size:=by
 refine⟨?_,?_,?_,?_,?_,?_,λj=> ?_,?_⟩<;>simp[go_sem]
theorem ZRun.block {w w':World}{b:Nat}(h:ZRun w b)(hb:w'.heap[b]? =w.heap[b]?):ZRun w' b:=by
 have hc:∀j,w'.cell? ⟨b,j,nO⟩=w.cell? ⟨b,j,nO⟩:=λj=>j3 (a:=⟨b,j,nO⟩) hb
 have hf:∀j,w'.frozen? ⟨b,j,nO⟩=w.frozen? ⟨b,j,nO⟩:=λj=>World.frozen?_of_block (a:=⟨b,j,nO⟩) hb
 obtain⟨h0,h1,h2,h3,h4,h5,h6,hz⟩:=h
 refine⟨(hc _).trans h0,(hc _).trans h1,(hc _).trans h2,(hc _).trans h3,(hc _).trans h4,(hc _).trans h5,λj=>(hf j).trans (h6 j),?_⟩
 rw[Array.getElem?_eq_getElem hz] at hb
 exact(q8.1 hb).1
theorem ZRun.call {w w':World}{b:Nat}(h:ZRun w b)(hb:Below w.heap.size w w'):ZRun w' b:=h.block (hb.block _ h.2.2.2.2.2.2.2)

theorem uv (V F:Int)(s:Option Addr)(c:List Ins)(cap:Nat)(w:World)(hc:CodeAt w s c)(h0:ai V F c≠0):
  Calls pG 40 #[Ag #[.int .i64 V,.int .i64 F,U s c.length cap]] w λe w'=>e=Rt (Tu #[Ag #[.int .i64 0,U nO 0 0,U nO 0 0,.int .i64 0,U nO 0 0,.int .i64 0],.int .i64 (ai V F c)])∧Below w.heap.size w w':=by
 have Z0:=ZRun.new (w.alloc (Cc #[.int .i64 V,.int .i64 F,U s c.length cap] 24))
 rw[j1] at Z0
 have hb0:Below w.heap.size w ((w.alloc (Cc #[.int .i64 V,.int .i64 F,U s c.length cap] 24)).alloc (Cc #[.int .i64 0,U nO 0 0,U nO 0 0,.int .i64 0,U nO 0 0,.int .i64 0] 33)):=by go_grown
 have hk:(ai V F c !=0)=true:=by simpa using h0
 go_enter Tryz.func40,Tryz.ntmps40
 go_wp2_with (go_at_call 76;fail)
 refine(di V F s cap c _ (hc.below hb0 (lR _))).mono ?_
 rintro e w1 ⟨rfl,hb1⟩
 have H1:=hb0.trans (hb1.mono hb0.size)
 obtain⟨r0,r1,r2,r3,r4,r5,rf,rz⟩:=Z0.call hb1
 go_wp2
 refine bodyPost_ret (v:=Tu #[Ag #[.int .i64 0,U nO 0 0,U nO 0 0,.int .i64 0,U nO 0 0,.int .i64 0],.int .i64 (ai V F c)]) (by simp[results,Tryz.results40,go_sem,r0,r1,r2,r3,r4,r5]) rfl ⟨rfl,?_⟩
 exact(((((H1.setCell (by simp) _).setCell (by simp) _).setCell (by simp) _).setCell (by simp) _).setCell (by simp) _).setCell (by simp) _
theorem pX (v:Nat)(F:Int)(s:Option Addr)(c:List Ins)(cap:Nat)(w:World)(hc:CodeAt w s c)(h0:ai (v:Int) F c=0):
  Calls pG 40 #[Ag #[.int .i64 v,.int .i64 F,U s c.length cap]] w λe w'=>∃g,e=Rt (Tu #[Ag #[.int .i64 0,U (sO ⟨g,0,nO⟩) v v,U nO 0 0,.int .i64 0,U nO 0 0,.int .i64 0],.int .i64 0])∧w'.ownsRow w.heap.size 82 2 (U (sO ⟨g,0,nO⟩) v v) v (madeCells (Value.agg #[.int .i64 0,.int .i64 0]).cells (v * 2)).toList∧Below w.heap.size w w':=by
 obtain⟨ti,hi,hz0,hz1,hz2⟩:=info_parts ri
 have h8:v≤8:=by have:=(yq h0).1;omega
 have Z0:=ZRun.new (w.alloc (Cc #[.int .i64 (v:Int),.int .i64 F,U s c.length cap] 24))
 rw[j1] at Z0
 have hb0:Below w.heap.size w ((w.alloc (Cc #[.int .i64 (v:Int),.int .i64 F,U s c.length cap] 24)).alloc (Cc #[.int .i64 0,U nO 0 0,U nO 0 0,.int .i64 0,U nO 0 0,.int .i64 0] 33)):=by go_grown
 have hC:=di (v:Int) F s cap c _ (hc.below hb0 (lR _))
 rw[h0] at hC
 have pv:∀wx,Below ((w.alloc (Cc #[.int .i64 (v:Int),.int .i64 F,U s c.length cap] 24)).alloc (Cc #[.int .i64 0,U nO 0 0,U nO 0 0,.int .i64 0,U nO 0 0,.int .i64 0] 33)).heap.size ((w.alloc (Cc #[.int .i64 (v:Int),.int .i64 F,U s c.length cap] 24)).alloc (Cc #[.int .i64 0,U nO 0 0,U nO 0 0,.int .i64 0,U nO 0 0,.int .i64 0] 33)) wx→wx.cell? ⟨w.heap.size,0,nO⟩=sO (.int .i64 (v:Int)):=λwx hx=>by rw[hx.cell (by simp;omega)];simp[go_sem]
 go_enter Tryz.func40,Tryz.ntmps40
 go_wp2_with (go_at_call 76;fail)
 refine hC.mono ?_
 rintro e w1 ⟨rfl,hb1⟩
 have H1:=hb0.trans (hb1.mono hb0.size)
 have p0:=pv w1 hb1
 have Z1:=Z0.call hb1
 have z1:w.heap.size+1+1≤w1.heap.size:=by have:=hb1.size;simpa using this
 clear hC pv Z0 hb1 hb0
 go_wp2_with (refine wpList_make_full _ rfl _ _ 29 rfl (w.heap.size+1+1) 82 ti (Ag #[.int .i64 0,.int .i64 0]) 2 Tryz.underlying29 hi hz0 hz1 .i64 .i64 (v:Int) (v:Int) v rfl rfl rfl rfl (by rw[hz2];omega) (by unfold maxLen;omega) z1 ?_;intro wm hown hgrow;obtain⟨r0,r1,r2,r3,r4,r5,rf,rz⟩:=ZRun.block Z1 (hgrow.block _ Z1.2.2.2.2.2.2.2 (λe=>by cases e)))
 have hbm:Below w.heap.size w wm:=H1.grown hgrow H1.size (λj hj=>by cases hj)
 refine bodyPost_ret (v:=Tu #[Ag #[.int .i64 0,U (sO ⟨w1.heap.size,0,nO⟩) v v,U nO 0 0,.int .i64 0,U nO 0 0,.int .i64 0],.int .i64 0]) (by simp[results,Tryz.results40,go_sem,r0,r1,r2,r3,r4,r5]) rfl ⟨_,rfl,?_,?_⟩
 ·have hz:w.heap.size+1 < w.heap.size+1+1:=by omega
  exact kf (ownsRow_setCell_below (a:=⟨w.heap.size+1,5,nO⟩) (ownsRow_setCell_below (a:=⟨w.heap.size+1,4,nO⟩) (ownsRow_setCell_below (a:=⟨w.heap.size+1,3,nO⟩) (ownsRow_setCell_below (a:=⟨w.heap.size+1,2,nO⟩) (ownsRow_setCell_below (a:=⟨w.heap.size+1,1,nO⟩) (ownsRow_setCell_below (a:=⟨w.heap.size+1,0,nO⟩) hown hz _) hz _) hz _) hz _) hz _) hz _) (show w.heap.size≤w.heap.size+1+1 by omega)
 ·exact(((((hbm.setCell (by simp) _).setCell (by simp) _).setCell (by simp) _).setCell (by simp) _).setCell (by simp) _).setCell (by simp) _
end
section
open Go.RowKit
attribute [local go_sem ↓] Go.wp_at_zero Go.wp_at_succ
theorem om:∀f:Nat,f≤8→(madeCells (Value.agg #[.int .i64 0,.int .i64 0]).cells (f * 2)).toList=bU (J7 f ⟨0,0⟩)
 |0,_=>by kernel_rfl
 |1,_=>by kernel_rfl
 |2,_=>by kernel_rfl
 |3,_=>by kernel_rfl
 |4,_=>by kernel_rfl
 |5,_=>by kernel_rfl
 |6,_=>by kernel_rfl
 |7,_=>by kernel_rfl
 |8,_=>by kernel_rfl
 |n+9,h=>absurd h (by omega)
theorem vR:(Tryz.prog.info? 84).map (λi=>(i.zero,i.size,i.bytes))=sO (sO (Ag #[.int .i64 0,U nO 0 0]),2,32):=by kernel_rfl
theorem OwnRun.tform {w:World}{B m:Nat}{s:St}{vv tv lv:Value}{fv:List Value}(h:OwnRun w B m s vv tv lv fv):∃ts tc,tv=U ts s.things.length tc:=by
 rcases h.things.2 with⟨hv,hn⟩|⟨g,cap,cur,hv,_⟩
 ·exact⟨nO,0,by rw[hv,hn]⟩
 ·exact⟨_,_,hv⟩
theorem Df (m B:Nat)(s:St)(vv tv lv:Value)(fv:List Value)(t a b n g:Int)(w:World)(h:OwnRun w B m s vv tv lv fv)(hB:B≤w.heap.size)(hT:s.things.length=100):
  Calls pG 149 #[Pp (sO ⟨m,0,nO⟩),Ag #[.int .i64 11,.int .i64 t,.int .i64 a,.int .i64 b,.int .i64 n,.int .i64 g]] w λe w'=>e=Rt (.int .i64 5)∧MStep w w' B m (ag m vv tv lv fv) s:=by
 have hm:m < w.heap.size:=h.lt (by simp[ag])
 obtain⟨ts,tc,rfl⟩:=h.tform
 have q2:=h.things_
 rw[hT] at q2
 have HW:Below w.heap.size w (w.alloc (Cc #[.int .i64 11,.int .i64 t,.int .i64 a,.int .i64 b,.int .i64 n,.int .i64 g] 100)):=by go_grown
 have hc:∀j,(w.alloc (Cc #[.int .i64 11,.int .i64 t,.int .i64 a,.int .i64 b,.int .i64 n,.int .i64 g] 100)).cell? ⟨m,j,nO⟩=w.cell? ⟨m,j,nO⟩:=λj=>HW.cell hm
 have HX:=aF (And.intro (h.below HW) (And.intro (HW.mono hB) (And.intro hc HW)))
 have q2':(w.alloc (Cc #[.int .i64 11,.int .i64 t,.int .i64 a,.int .i64 b,.int .i64 n,.int .i64 g] 100)).cell? ⟨m,2,nO⟩=sO (U ts ((100:Nat)) tc):=by rw[hc];exact q2
 clear h hc HW q2
 go_enter Tryz.func149,Tryz.ntmps149
 go_wp2
 go_ret
 exact⟨rfl,⟨_,_,_,_,HX.out.1⟩,HX.out.2.1,λj _=>HX.out.2.2.1 j,cJ HX.out.2.2.2⟩
theorem Ej (m B t f:Nat)(s:St)(vv tv lv:Value)(fv:List Value)(a b n g:Int)(w:World)(h:OwnRun w B m s vv tv lv fv)(hB:B≤w.heap.size)(ht:t < s.vars.length)(hT:s.things.length < 100)(hf:f≤3)(h7:w.cell? ⟨m,7,nO⟩=sO (.int .i64 f)):
  Calls pG 149 #[Pp (sO ⟨m,0,nO⟩),Ag #[.int .i64 11,.int .i64 t,.int .i64 a,.int .i64 b,.int .i64 n,.int .i64 g]] w λe w'=>e=Rt (.int .i64 0)∧MStep w w' B m (ag m vv tv lv fv) {s with vars:=s.vars.set t ⟨3,s.things.length⟩,things:=s.things++[⟨s.at_,J7 f ⟨0,0⟩⟩]}:=by
 have hm:m < w.heap.size:=h.lt (by simp[ag])
 have hBm:B≤m:=h.low
 have z1:m < w.heap.size+1:=by omega
 obtain⟨ti,hi,hz0,hz1,hz2⟩:=info_parts ri
 obtain⟨tj,hj,hy0,hy1,hy2⟩:=info_parts vR
 obtain⟨gb,cap,rfl,hg1,hg2,hcell,hfz⟩:=h.form (by omega)
 obtain⟨ts,tc,rfl⟩:=h.tform
 have am:m≠gb:=h.vars_apart rfl m (by simp)
 have q1:=h.vars_
 have q2:=h.things_
 have z2:gb < w.heap.size+1:=by omega
 obtain⟨kt0,kt1⟩:=hcell t ht
 have nt0:(0:Int)≤(t:Int):=by omega
 have nt1:(t:Int) < (s.vars.length:Int):=by omega
 have f0:=hfz (t * 2)
 have f1:=hfz (t * 2+1)
 have nT:((s.things.length:Int)==100)=false:=by simp;omega
 have K1:∀wx,Below (w.heap.size+1) (w.alloc (Cc #[.int .i64 11,.int .i64 t,.int .i64 a,.int .i64 b,.int .i64 n,.int .i64 g] 100)) wx→wx.cell? ⟨m,1,nO⟩=sO (U (sO ⟨gb,0,nO⟩) s.vars.length cap)∧wx.cell? ⟨w.heap.size,1,nO⟩=sO (.int .i64 t)∧wx.cell? ⟨m,2,nO⟩=sO (U ts s.things.length tc):=by
  intro wx hb
  rw[hb.cell (by simpa using z1),hb.cell (by simp),hb.cell (by simpa using z1)]
  simp[go_sem,hm,q1,q2]
 have q2':(w.alloc (Cc #[.int .i64 11,.int .i64 t,.int .i64 a,.int .i64 b,.int .i64 n,.int .i64 g] 100)).cell? ⟨m,2,nO⟩=sO (U ts s.things.length tc):=(K1 _ (bR _ _)).2.2
 have HW:Below w.heap.size w (w.alloc (Cc #[.int .i64 11,.int .i64 t,.int .i64 a,.int .i64 b,.int .i64 n,.int .i64 g] 100)).drew:=by go_grown
 have oL:=h.below HW
 have oP:=oL.put t ht ⟨3,s.things.length⟩
 have HP:Below B w (((w.alloc (Cc #[.int .i64 11,.int .i64 t,.int .i64 a,.int .i64 b,.int .i64 n,.int .i64 g] 100)).drew.setCell ⟨gb,t * 2,nO⟩ (.int .i64 3)).setCell ⟨gb,t * 2+1,nO⟩ (.int .i64 s.things.length)):=((HW.mono hB).setCell hg1 _).setCell hg1 _
 have hcm:∀j,(((w.alloc (Cc #[.int .i64 11,.int .i64 t,.int .i64 a,.int .i64 b,.int .i64 n,.int .i64 g] 100)).drew.setCell ⟨gb,t * 2,nO⟩ (.int .i64 3)).setCell ⟨gb,t * 2+1,nO⟩ (.int .i64 s.things.length)).cell? ⟨m,j,nO⟩=w.cell? ⟨m,j,nO⟩:=λj=>by rw[cY _ _ _ _ _ _ _ _ am];exact HW.cell hm
 have HX:=aF (And.intro oP (And.intro HP (And.intro hcm (cZ (bs:=ag m (U (sO ⟨gb,0,nO⟩) s.vars.length cap) (U ts s.things.length tc) lv fv) HW (g:=gb) (by simp only[ag,j5];right;left;rfl) (t * 2) (t * 2+1) (.int .i64 3) (.int .i64 s.things.length)))))
 clear hcell hfz q2 oP HP hcm oL
 go_enter Tryz.func149,Tryz.ntmps149
 go_wp2
 refine au (S:=(λwx=>wx.cell? ⟨m,1,nO⟩=sO (U (sO ⟨gb,0,nO⟩) s.vars.length cap)∧wx.cell? ⟨w.heap.size,1,nO⟩=sO (.int .i64 t)∧wx.cell? ⟨m,2,nO⟩=sO (U ts s.things.length tc))) [15] (by kernel_rfl) (K1 _ (bR _ _).drew) (λhHeld=> ?_)
 refine vZ 0 ?_ ?_
 refine vZ 1 ?_ ?_
 refine vZ 2 ?_ ?_
 refine vZ 3 ?_ ?_
 refine vZ 4 ?_ ?_
 refine vZ 5 ?_ ?_
 refine vZ 6 ?_ ?_
 refine vZ 7 ?_ ?_
 refine vZ 8 ?_ ?_
 refine vZ 9 ?_ ?_
 refine vZ 10 ?_ ?_
 refine vZ 11 ?_ ?_
 refine vZ 12 ?_ ?_
 refine vZ 13 ?_ ?_
 refine vZ 14 ?_ ?_
 refine aL (i:=15) rfl (by kernel_rfl) (by kernel_rfl) (λK hK=> ?_)
 have c0:(w.alloc (Cc #[.int .i64 11,.int .i64 t,.int .i64 a,.int .i64 b,.int .i64 n,.int .i64 g] 100)).drew.cell? ⟨gb,t * 2,nO⟩=sO (.int .i64 s.vars[t].k):=by rw[HW.cell (by simpa using hg2)];exact kt0
 have c1:(w.alloc (Cc #[.int .i64 11,.int .i64 t,.int .i64 a,.int .i64 b,.int .i64 n,.int .i64 g] 100)).drew.cell? ⟨gb,t * 2+1,nO⟩=sO (.int .i64 s.vars[t].n):=by rw[HW.cell (by simpa using hg2)];exact kt1
 have d0:(w.alloc (Cc #[.int .i64 11,.int .i64 t,.int .i64 a,.int .i64 b,.int .i64 n,.int .i64 g] 100)).drew.frozen? ⟨gb,t * 2,nO⟩=false:=by rw[HW.frozen (by simpa using hg2)];exact f0
 have d1:(w.alloc (Cc #[.int .i64 11,.int .i64 t,.int .i64 a,.int .i64 b,.int .i64 n,.int .i64 g] 100)).drew.frozen? ⟨gb,t * 2+1,nO⟩=false:=by rw[HW.frozen (by simpa using hg2)];exact f1
 generalize (w.alloc (Cc #[.int .i64 11,.int .i64 t,.int .i64 a,.int .i64 b,.int .i64 n,.int .i64 g] 100)).drew=wl at *
 go_simp
 refine hK.out _ _ ?_
 clear hK K
 refine sm ?_
 refine aq (by kernel_rfl) ?_ _
 obtain⟨oP,HP,hcm0,hfr0⟩:=HX.out
 have hcm:=aF hcm0
 have hfr:=aF hfr0
 clear hcm0 hfr0
 clear HX K1 q2' HW c0 c1 d0 d1 hHeld
 generalize (wl.setCell ⟨gb,t * 2,nO⟩ (.int .i64 3)).setCell ⟨gb,t * 2+1,nO⟩ (.int .i64 s.things.length)=w2 at *
 have p2:w2.cell? ⟨m,2,nO⟩=sO (U ts s.things.length tc):=oP.things_
 have p0:w2.cell? ⟨m,0,nO⟩=sO (.int .i64 s.at_):=oP.at_
 have p7:w2.cell? ⟨m,7,nO⟩=sO (.int .i64 f):=by rw[hcm.out 7];exact h7
 have hm2:m < w2.heap.size:=oP.lt (by simp[ag])
 have KZ:∀wx,Below w2.heap.size w2 wx→wx.cell? ⟨m,2,nO⟩=sO (U ts s.things.length tc)∧wx.cell? ⟨m,0,nO⟩=sO (.int .i64 s.at_)∧wx.cell? ⟨m,7,nO⟩=sO (.int .i64 f):=λwx hx=>⟨by rw[hx.cell (by simpa using hm2)];exact p2,by rw[hx.cell (by simpa using hm2)];exact p0,by rw[hx.cell (by simpa using hm2)];exact p7⟩
 go_wp2
 refine au (S:=(λwx=>wx.cell? ⟨m,2,nO⟩=sO (U ts s.things.length tc)∧wx.cell? ⟨m,0,nO⟩=sO (.int .i64 s.at_)∧wx.cell? ⟨m,7,nO⟩=sO (.int .i64 f))) [23] (by kernel_rfl) (KZ _ (bR _ _).drew) (λhHeld=> ?_)
 refine vZ 0 ?_ ?_
 refine vZ 1 ?_ ?_
 refine vZ 2 ?_ ?_
 refine vZ 3 ?_ ?_
 refine vZ 4 ?_ ?_
 refine vZ 5 ?_ ?_
 refine vZ 6 ?_ ?_
 refine vZ 7 ?_ ?_
 refine vZ 8 ?_ ?_
 refine vZ 9 ?_ ?_
 refine vZ 10 ?_ ?_
 refine vZ 11 ?_ ?_
 refine vZ 12 ?_ ?_
 refine vZ 13 ?_ ?_
 refine vZ 14 ?_ ?_
 refine vZ 15 ?_ ?_
 refine an (i:=16) rfl (by kernel_rfl) (λK hK=> ?_)
 refine tz rfl _ _ 29 rfl B 82 ti (Ag #[.int .i64 0,.int .i64 0]) 2 Tryz.underlying29 hi hz0 hz1 .i64 .i64 (f:Int) (f:Int) f rfl rfl rfl rfl (by rw[hz2];omega) (by unfold maxLen;omega) (by simp;omega) ?_
 intro wm hownF hgF
 have HB1:Below w2.heap.size w2 wm:=Below.grown (bR _ _).drew hgF (by simp) (λk hk=>by cases hk)
 rw[om f (by omega)] at hownF
 have zm:w2.heap.size < wm.heap.size:=by
  have:=aM hownF (k:=w2.heap.size) rfl
  exact this.1
 refine hK.out _ _ (KZ _ HB1) (λhHeld=> ?_)
 clear hK K
 refine sm ?_
 refine vZ 17 ?_ ?_
 refine an (i:=18) rfl (by kernel_rfl) (λK hK=> ?_)
 go_simp
 have HB2:Below w2.heap.size w2 (wm.alloc (Cc #[.int .i64 s.at_,U (sO ⟨w2.heap.size,0,nO⟩) f f] 84)):=HB1.alloc HB1.size _
 refine hK.out _ _ (KZ _ HB2) (λhHeld=> ?_)
 clear hK K
 refine sm ?_
 refine an (i:=19) rfl (by kernel_rfl) (λK hK=> ?_)
 have hba:Below wm.heap.size wm (wm.alloc (Cc #[.int .i64 s.at_,U (sO ⟨w2.heap.size,0,nO⟩) f f] 84)):=by go_grown
 have o2:=oP.below HB2
 have hF2:ValRow (wm.alloc (Cc #[.int .i64 s.at_,U (sO ⟨w2.heap.size,0,nO⟩) f f] 84)) B (U (sO ⟨w2.heap.size,0,nO⟩) f f) (J7 f ⟨0,0⟩):=by
  unfold ValRow
  rw[List.length_replicate]
  exact aw hownF (λk hk=>hba.block k (aM hownF hk).1)
 have hFa:∀k,(j2 (sO ⟨w2.heap.size,0,nO⟩) f f).ownBlock=sO k→sO k∉ag m (U (sO ⟨gb,0,nO⟩) s.vars.length cap) (U ts s.things.length tc) lv fv:=λk hk hmem=>by
  cases hk
  exact X2 _ (oP.lt hmem)
 obtain⟨p1,-,p3,-,-⟩:=o2.parted
 refine step_append_lies _ rfl _ _ 30 rfl B 84 tj (Ag #[.int .i64 0,U nO 0 0]) 2 32 Tryz.underlying30 hj hy0 hy1 hy2 rfl (by decide) _ _ _ rfl o2.things ⟨wm.heap.size,0,nO⟩ 1 1 [.int .i64 s.at_,U (sO ⟨w2.heap.size,0,nO⟩) f f] rfl rfl (λj u hj=>World.news_of_block (heap_alloc_new _ _) j u hj) (by simp[Value.oneCell']) (by omega) (by simp only;unfold maxLen;omega) (by simp only;omega) (by have:=HP.size;have:=HB2.size;omega) _ rfl ?_
 intro gl cl w3 hown hgrow hat hlt
 have nm:sO m≠(j2 ts s.things.length tc).ownBlock:=λe=>p1 m (by rw[e];simp) rfl
 have far:∀j,w3.cell? ⟨m,j,nO⟩=w2.cell? ⟨m,j,nO⟩:=λj=>by rw[hgrow.cell_far ⟨m,j,nO⟩ (by have:=HB2.size;simp at this ⊢;omega) nm,HB2.cell (by simpa using hm2)]
 have hS3:w3.cell? ⟨m,2,nO⟩=sO (U ts s.things.length tc)∧w3.cell? ⟨m,0,nO⟩=sO (.int .i64 s.at_)∧w3.cell? ⟨m,7,nO⟩=sO (.int .i64 f):=⟨by rw[far];exact p2,by rw[far];exact p0,by rw[far];exact p7⟩
 have hfar:=aF far
 clear far
 refine hK.out _ _ hS3 (λhHeld=> ?_)
 clear hK K
 refine sm ?_
 refine vZ 20 ?_ ?_
 refine vZ 21 ?_ ?_
 refine vZ 22 ?_ ?_
 refine aL (i:=23) rfl (by kernel_rfl) (by kernel_rfl) (λK hK=> ?_)
 have d4:w3.frozen? ⟨m,2,nO⟩=false:=by rw[hgrow.frozen_far ⟨m,2,nO⟩ (by have:=HB2.size;simp at this ⊢;omega) nm];exact o2.thaw 2
 have c4:w3.cell? ⟨m,2,nO⟩=sO (U ts s.things.length tc):=hS3.1
 go_simp
 refine hK.out _ _ ?_
 clear hK K
 refine sm ?_
 refine aq (by kernel_rfl) ?_ _
 go_wp2
 go_ret
 have HW:Below B w w3:=Below.grown (HP.trans (HB2.mono (by have:=HP.size;omega))) hgrow (by have:=HP.size;have:=HB2.size;omega) (λk hk=>(aM o2.things hk).2)
 refine⟨rfl,⟨_,_,_,_,o2.grow_things hF2 hFa hown hgrow (hat.imp id (λe=>by rw[e];exact lR _))⟩,HW.setCell hBm _,λj hj=> ?_,cE hfr.out HP.size (cE (cJ HB2) HB2.size (sG hgrow (λk hk=>by have e:(j2 ts s.things.length tc).ownBlock=sO k:=hk;unfold ag;rw[e];simp) (by simp[ag]) _ _))⟩
 rw[x6 _ _ _ _ (by intro e;cases e;omega),hfar.out,hcm.out]
theorem dL {p:Prop}(h:p:=by
 refine HC.out.mono ?_
 rintro e w1 ⟨rfl,h1,h2,h3,h4⟩
 clear HC
 go_wp2
 go_ret
 exact⟨rfl,h1,(HW.mono hB).trans h2,λj hj=>by rw[h3 j hj];exact HW.cell hm,cE (cJ HW) HW.size h4⟩):p:=h
theorem Kw (m B t x y:Nat)(s:St)(vv tv lv:Value)(fv:List Value)(n g:Int)(w:World)(h:OwnRun w B m s vv tv lv fv)(hB:B≤w.heap.size)(ht:t < s.vars.length)(hx:x < s.vars.length)(hy:y < s.vars.length):
  Calls pG 86 #[Pp (sO ⟨m,0,nO⟩),Ag #[.int .i64 5,.int .i64 t,.int .i64 x,.int .i64 y,.int .i64 n,.int .i64 g]] w λe w'=>e=Rt (.int .i64 (gq s.vars[x] s.vars[y]))∧MStep w w' B m (ag m vv tv lv fv) (fB s t 5 s.vars[x] s.vars[y]):=by
 have hm:m < w.heap.size:=h.lt (by simp[ag])
 have HW:Below w.heap.size w (w.alloc (Cc #[.int .i64 5,.int .i64 t,.int .i64 x,.int .i64 y,.int .i64 n,.int .i64 g] 100)):=by go_grown
 have HC:=aF (kn m B t x y s vv tv lv fv 5 n g (w.alloc (Cc #[.int .i64 5,.int .i64 t,.int .i64 x,.int .i64 y,.int .i64 n,.int .i64 g] 100)) (h.below HW) (lT hB HW.size) ht hx hy (by omega))
 clear h
 go_enter Tryz.func86,Tryz.ntmps86
 go_wp2_with (go_at_call 147;fail)
 exact dL

theorem I9 (m B t x y:Nat)(s:St)(vv tv lv:Value)(fv:List Value)(n g:Int)(w:World)(h:OwnRun w B m s vv tv lv fv)(hB:B≤w.heap.size)(ht:t < s.vars.length)(hx:x < s.vars.length)(hy:y < s.vars.length):
  Calls pG 86 #[Pp (sO ⟨m,0,nO⟩),Ag #[.int .i64 6,.int .i64 t,.int .i64 x,.int .i64 y,.int .i64 n,.int .i64 g]] w λe w'=>e=Rt (.int .i64 (gq s.vars[x] s.vars[y]))∧MStep w w' B m (ag m vv tv lv fv) (fB s t 6 s.vars[x] s.vars[y]):=by
 have hm:m < w.heap.size:=h.lt (by simp[ag])
 have HW:Below w.heap.size w (w.alloc (Cc #[.int .i64 6,.int .i64 t,.int .i64 x,.int .i64 y,.int .i64 n,.int .i64 g] 100)):=by go_grown
 have HC:=aF (kn m B t x y s vv tv lv fv 6 n g (w.alloc (Cc #[.int .i64 6,.int .i64 t,.int .i64 x,.int .i64 y,.int .i64 n,.int .i64 g] 100)) (h.below HW) (lT hB HW.size) ht hx hy (by omega))
 clear h
 go_enter Tryz.func86,Tryz.ntmps86
 go_wp2_with (go_at_call 147;fail)
 exact dL

theorem Ku (m B t x y:Nat)(s:St)(vv tv lv:Value)(fv:List Value)(n g:Int)(w:World)(h:OwnRun w B m s vv tv lv fv)(hB:B≤w.heap.size)(ht:t < s.vars.length)(hx:x < s.vars.length)(hy:y < s.vars.length):
  Calls pG 86 #[Pp (sO ⟨m,0,nO⟩),Ag #[.int .i64 7,.int .i64 t,.int .i64 x,.int .i64 y,.int .i64 n,.int .i64 g]] w λe w'=>e=Rt (.int .i64 (gq s.vars[x] s.vars[y]))∧MStep w w' B m (ag m vv tv lv fv) (fB s t 7 s.vars[x] s.vars[y]):=by
 have hm:m < w.heap.size:=h.lt (by simp[ag])
 have HW:Below w.heap.size w (w.alloc (Cc #[.int .i64 7,.int .i64 t,.int .i64 x,.int .i64 y,.int .i64 n,.int .i64 g] 100)):=by go_grown
 have HC:=aF (kn m B t x y s vv tv lv fv 7 n g (w.alloc (Cc #[.int .i64 7,.int .i64 t,.int .i64 x,.int .i64 y,.int .i64 n,.int .i64 g] 100)) (h.below HW) (lT hB HW.size) ht hx hy (by omega))
 clear h
 go_enter Tryz.func86,Tryz.ntmps86
 go_wp2_with (go_at_call 147;fail)
 exact dL

theorem KD (m B t x y:Nat)(s:St)(vv tv lv:Value)(fv:List Value)(n g:Int)(w:World)(h:OwnRun w B m s vv tv lv fv)(hB:B≤w.heap.size)(ht:t < s.vars.length)(hx:x < s.vars.length)(hy:y < s.vars.length):
  Calls pG 86 #[Pp (sO ⟨m,0,nO⟩),Ag #[.int .i64 8,.int .i64 t,.int .i64 x,.int .i64 y,.int .i64 n,.int .i64 g]] w λe w'=>e=Rt (.int .i64 (gq s.vars[x] s.vars[y]))∧MStep w w' B m (ag m vv tv lv fv) (fB s t 8 s.vars[x] s.vars[y]):=by
 have hm:m < w.heap.size:=h.lt (by simp[ag])
 have HW:Below w.heap.size w (w.alloc (Cc #[.int .i64 8,.int .i64 t,.int .i64 x,.int .i64 y,.int .i64 n,.int .i64 g] 100)):=by go_grown
 have HC:=aF (kn m B t x y s vv tv lv fv 8 n g (w.alloc (Cc #[.int .i64 8,.int .i64 t,.int .i64 x,.int .i64 y,.int .i64 n,.int .i64 g] 100)) (h.below HW) (lT hB HW.size) ht hx hy (by omega))
 clear h
 go_enter Tryz.func86,Tryz.ntmps86
 go_wp2_with (go_at_call 147;fail)
 exact dL

theorem Gp (m B:Nat)(s:St)(vv tv lv:Value)(fv:List Value)(t a b n g:Int)(w:World)(h:OwnRun w B m s vv tv lv fv)(hB:B≤w.heap.size)(hT:s.things.length=100):
  Calls pG 86 #[Pp (sO ⟨m,0,nO⟩),Ag #[.int .i64 11,.int .i64 t,.int .i64 a,.int .i64 b,.int .i64 n,.int .i64 g]] w λe w'=>e=Rt (.int .i64 5)∧MStep w w' B m (ag m vv tv lv fv) s:=by
 have hm:m < w.heap.size:=h.lt (by simp[ag])
 have HW:Below w.heap.size w (w.alloc (Cc #[.int .i64 11,.int .i64 t,.int .i64 a,.int .i64 b,.int .i64 n,.int .i64 g] 100)):=by go_grown
 have HC:=aF (Df m B s vv tv lv fv t a b n g (w.alloc (Cc #[.int .i64 11,.int .i64 t,.int .i64 a,.int .i64 b,.int .i64 n,.int .i64 g] 100)) (h.below HW) (lT hB HW.size) hT)
 clear h
 go_enter Tryz.func86,Tryz.ntmps86
 go_wp2_with (go_at_call 149;fail)
 exact dL

theorem Hs (m B t f:Nat)(s:St)(vv tv lv:Value)(fv:List Value)(a b n g:Int)(w:World)(h:OwnRun w B m s vv tv lv fv)(hB:B≤w.heap.size)(ht:t < s.vars.length)(hT:s.things.length < 100)(hf:f≤3)(h7:w.cell? ⟨m,7,nO⟩=sO (.int .i64 f)):
  Calls pG 86 #[Pp (sO ⟨m,0,nO⟩),Ag #[.int .i64 11,.int .i64 t,.int .i64 a,.int .i64 b,.int .i64 n,.int .i64 g]] w λe w'=>e=Rt (.int .i64 0)∧MStep w w' B m (ag m vv tv lv fv) {s with vars:=s.vars.set t ⟨3,s.things.length⟩,things:=s.things++[⟨s.at_,J7 f ⟨0,0⟩⟩]}:=by
 have hm:m < w.heap.size:=h.lt (by simp[ag])
 have HW:Below w.heap.size w (w.alloc (Cc #[.int .i64 11,.int .i64 t,.int .i64 a,.int .i64 b,.int .i64 n,.int .i64 g] 100)):=by go_grown
 have HC:=aF (Ej m B t f s vv tv lv fv a b n g (w.alloc (Cc #[.int .i64 11,.int .i64 t,.int .i64 a,.int .i64 b,.int .i64 n,.int .i64 g] 100)) (h.below HW) (lT hB HW.size) ht hT hf (by rw[HW.cell (by simpa using hm)];exact h7))
 clear h
 go_enter Tryz.func86,Tryz.ntmps86
 go_wp2_with (go_at_call 149;fail)
 exact dL

theorem Hk (m B x:Nat)(s:St)(vv tv lv:Value)(fv:List Value)(t b n g:Int)(w:World)(h:OwnRun w B m s vv tv lv fv)(hB:B≤w.heap.size)(hx:x < s.vars.length)(hv:s.vars[x].k≠3):
  Calls pG 86 #[Pp (sO ⟨m,0,nO⟩),Ag #[.int .i64 12,.int .i64 t,.int .i64 x,.int .i64 b,.int .i64 n,.int .i64 g]] w λe w'=>e=Rt (.int .i64 2)∧MStep w w' B m (ag m vv tv lv fv) s:=by
 have hm:m < w.heap.size:=h.lt (by simp[ag])
 have HW:Below w.heap.size w (w.alloc (Cc #[.int .i64 12,.int .i64 t,.int .i64 x,.int .i64 b,.int .i64 n,.int .i64 g] 100)):=by go_grown
 have HC:=aF (pB m B x s vv tv lv fv 12 t b n g (w.alloc (Cc #[.int .i64 12,.int .i64 t,.int .i64 x,.int .i64 b,.int .i64 n,.int .i64 g] 100)) (h.below HW) (lT hB HW.size) hx hv)
 clear h
 go_enter Tryz.func86,Tryz.ntmps86
 go_wp2_with (go_at_call 150;fail)
 exact dL

theorem H8 (m B x:Nat)(s:St)(vv tv lv:Value)(fv:List Value)(t b n g:Int)(w:World)(h:OwnRun w B m s vv tv lv fv)(hB:B≤w.heap.size)(hx:x < s.vars.length)(hv:s.vars[x].k≠3):
  Calls pG 86 #[Pp (sO ⟨m,0,nO⟩),Ag #[.int .i64 13,.int .i64 t,.int .i64 x,.int .i64 b,.int .i64 n,.int .i64 g]] w λe w'=>e=Rt (.int .i64 2)∧MStep w w' B m (ag m vv tv lv fv) s:=by
 have hm:m < w.heap.size:=h.lt (by simp[ag])
 have HW:Below w.heap.size w (w.alloc (Cc #[.int .i64 13,.int .i64 t,.int .i64 x,.int .i64 b,.int .i64 n,.int .i64 g] 100)):=by go_grown
 have HC:=aF (pB m B x s vv tv lv fv 13 t b n g (w.alloc (Cc #[.int .i64 13,.int .i64 t,.int .i64 x,.int .i64 b,.int .i64 n,.int .i64 g] 100)) (h.below HW) (lT hB HW.size) hx hv)
 clear h
 go_enter Tryz.func86,Tryz.ntmps86
 go_wp2_with (go_at_call 150;fail)
 exact dL

theorem Il (m B x q f t:Nat)(s:St)(vv tv lv:Value)(fv:List Value)(b g:Int)(w:World)(h:OwnRun w B m s vv tv lv fv)(hB:B≤w.heap.size)(hx:x < s.vars.length)(hv:s.vars[x]=⟨3,(q:Int)⟩)(hq:q < s.things.length)(hf:f < s.things[q].fs.length)(ht:t < s.vars.length):
  Calls pG 86 #[Pp (sO ⟨m,0,nO⟩),Ag #[.int .i64 12,.int .i64 t,.int .i64 x,.int .i64 b,.int .i64 f,.int .i64 g]] w λe w'=>e=Rt (.int .i64 0)∧MStep w w' B m (ag m vv tv lv fv) {s with vars:=s.vars.set t s.things[q].fs[f]}:=by
 have hm:m < w.heap.size:=h.lt (by simp[ag])
 have HW:Below w.heap.size w (w.alloc (Cc #[.int .i64 12,.int .i64 t,.int .i64 x,.int .i64 b,.int .i64 f,.int .i64 g] 100)):=by go_grown
 have HC:=aF (CG m B x q f t s vv tv lv fv b g (w.alloc (Cc #[.int .i64 12,.int .i64 t,.int .i64 x,.int .i64 b,.int .i64 f,.int .i64 g] 100)) (h.below HW) (lT hB HW.size) hx hv hq hf ht)
 clear h hv
 go_enter Tryz.func86,Tryz.ntmps86
 go_wp2_with (go_at_call 150;fail)
 exact dL

theorem IT (m B x q f y:Nat)(s:St)(vv tv lv:Value)(fv:List Value)(t g:Int)(w:World)(h:OwnRun w B m s vv tv lv fv)(hB:B≤w.heap.size)(hx:x < s.vars.length)(hv:s.vars[x]=⟨3,(q:Int)⟩)(hq:q < s.things.length)(hf:f < s.things[q].fs.length)(hy:y < s.vars.length):
  Calls pG 86 #[Pp (sO ⟨m,0,nO⟩),Ag #[.int .i64 13,.int .i64 t,.int .i64 x,.int .i64 y,.int .i64 f,.int .i64 g]] w λe w'=>e=Rt (.int .i64 0)∧MStep w w' B m (ag m vv tv lv fv) (bT s q f s.vars[y]):=by
 have hm:m < w.heap.size:=h.lt (by simp[ag])
 have HW:Below w.heap.size w (w.alloc (Cc #[.int .i64 13,.int .i64 t,.int .i64 x,.int .i64 y,.int .i64 f,.int .i64 g] 100)):=by go_grown
 have HC:=aF (Cz m B x q f y s vv tv lv fv t g (w.alloc (Cc #[.int .i64 13,.int .i64 t,.int .i64 x,.int .i64 y,.int .i64 f,.int .i64 g] 100)) (h.below HW) (lT hB HW.size) hx hv hq hf hy)
 clear h hv
 go_enter Tryz.func86,Tryz.ntmps86
 go_wp2_with (go_at_call 150;fail)
 exact dL
theorem MStep.of {w w':World}{B m:Nat}{bs:List (Option Nat)}{s s':St}(h:MStep w w' B m bs s)(e:s=s'):MStep w w' B m bs s':=e ▸ h
theorem lh {P:Program}{f:FuncId}{args:Array Value}{w:World}{x y:Int}{Q R:World→Prop}(h:Calls P f args w λe w'=>e=Rt (.int .i64 x)∧Q w')(e:x=y)(hQ:∀w',Q w'→R w'):Calls P f args w λe w'=>e=Rt (.int .i64 y)∧R w':=
 h.mono λe' w' ⟨h1,h2⟩=>⟨by rw[h1,e],hQ w' h2⟩
theorem Hp (V:Int)(f:Nat)(c:List Ins)(s:St)(hp:ProgOk V f c)(hr:RunOk V f c s)(i:Ins)(hi:bD V f c.length i=0)(ins:List Int)(m B:Nat)(vv tv lv:Value)(fv:List Value)(is:Option Addr)(ic:Nat)(w:World)
  (h:OwnRun w B m s vv tv lv fv)(hB:B≤w.heap.size)(h7:w.cell? ⟨m,7,nO⟩=sO (.int .i64 f))(h9:w.cell? ⟨m,9,nO⟩=sO (U is ins.length ic))(hI:IntsAt w is ins)(hT:Tab w)(hln:(s.lines.length+1) * 16≤140737488355328):
  Calls pG 86 #[Pp (sO ⟨m,0,nO⟩),Ag #[.int .i64 i.k,.int .i64 i.tgt,.int .i64 i.a,.int .i64 i.b,.int .i64 i.n,.int .i64 i.g]] w λe w'=>e=Rt (.int .i64 (ft s i))∧MStep w w' B m (ag m vv tv lv fv) (BL f ins s i):=by
 have hA:=sP hr hi
 have hC:=vK hr hi
 obtain⟨k,tt,a,b,n,g⟩:=i
 obtain⟨h1,h2,h3,h4,h5,h6,h7',h8,h9'⟩:=bn hi
 simp only at h1 h2 h3 h4 h5 h6 h7' h8 h9' ⊢
 have hv:=hr.vars
 have hV:=hp.v8
 have tN:nTo k=true→∃t:Nat,tt=t∧t < s.vars.length:=λhk=>by
  obtain⟨t,rfl⟩:=j6 (h2 hk).1
  exact⟨t,rfl,by have:=(h2 hk).2;omega⟩
 have aN:nA k=true→∃x:Nat,∃hx:x < s.vars.length,a=x∧aOf s ⟨k,tt,a,b,n,g⟩=s.vars[x]:=λhk=>by
  obtain⟨x,rfl⟩:=j6 (h3 hk).1
  have hx:x < s.vars.length:=by have:=(h3 hk).2;omega
  exact⟨x,hx,rfl,by unfold aOf;simp only[hk,if_true];exact gT hx⟩
 have bN:nB k=true→∃y:Nat,∃hy:y < s.vars.length,b=y∧bOf s ⟨k,tt,a,b,n,g⟩=s.vars[y]:=λhk=>by
  obtain⟨y,rfl⟩:=j6 (h4 hk).1
  have hy:y < s.vars.length:=by have:=(h4 hk).2;omega
  exact⟨y,hy,rfl,by unfold bOf;simp only[hk,if_true];exact gT hy⟩
 unfold ft BL ft
 generalize aOf s ⟨k,tt,a,b,n,g⟩=A at *
 generalize bOf s ⟨k,tt,a,b,n,g⟩=C at *
 rcases ur h1 with rfl|rfl|rfl|rfl|rfl|rfl|rfl|rfl|rfl|rfl|rfl|rfl|rfl|rfl|rfl|rfl|rfl|rfl|rfl
 ·obtain⟨t,rfl,ht⟩:=tN rfl
  rw[cq _ 1 (by omega),if_pos rfl,Kq,j0]
  exact IX m B t s vv tv lv fv a b n g w h hB ht (by have:=h7' rfl;unfold wr;omega)
 ·obtain⟨t,rfl,ht⟩:=tN rfl
  rw[cq _ 2 (by omega),if_pos rfl,KC,j0]
  have e:b8 (n==1)=⟨2,n⟩:=by rcases h8 rfl with rfl|rfl<;>rfl
  rw[←e]
  exact KA m B t s vv tv lv fv a b n g w h hB ht
 ·obtain⟨t,rfl,ht⟩:=tN rfl
  rw[cq _ 3 (by omega),if_pos rfl,Kx,j0]
  exact Ki m B t s vv tv lv fv a b n g w h hB ht
 ·obtain⟨t,rfl,ht⟩:=tN rfl
  obtain⟨x,hx,rfl,rfl⟩:=aN rfl
  rw[cq _ 4 (by omega),if_pos rfl,Kt,j0]
  exact KE m B t x s vv tv lv fv b n g w h hB ht hx
 ·obtain⟨t,rfl,ht⟩:=tN rfl
  obtain⟨x,hx,rfl,rfl⟩:=aN rfl
  obtain⟨y,hy,rfl,rfl⟩:=bN rfl
  rw[oU _ 5 (by omega),Ks,j0]
  refine lh (Kw m B t x y s vv tv lv fv n g w h hB ht hx hy) rfl (λw' hw=>hw.of ?_)
  unfold fB
  split
  ·rw[if_neg (by omega)]
  ·rw[if_pos rfl];rfl
 ·obtain⟨t,rfl,ht⟩:=tN rfl
  obtain⟨x,hx,rfl,rfl⟩:=aN rfl
  obtain⟨y,hy,rfl,rfl⟩:=bN rfl
  rw[oU _ 6 (by omega),IY,j0]
  refine lh (I9 m B t x y s vv tv lv fv n g w h hB ht hx hy) rfl (λw' hw=>hw.of ?_)
  unfold fB
  split
  ·rw[if_neg (by omega)]
  ·rw[if_pos rfl];rfl
 ·obtain⟨t,rfl,ht⟩:=tN rfl
  obtain⟨x,hx,rfl,rfl⟩:=aN rfl
  obtain⟨y,hy,rfl,rfl⟩:=bN rfl
  rw[oU _ 7 (by omega),Kr,j0]
  refine lh (Ku m B t x y s vv tv lv fv n g w h hB ht hx hy) rfl (λw' hw=>hw.of ?_)
  unfold fB
  split
  ·rw[if_neg (by omega)]
  ·rw[if_pos rfl];rfl
 ·obtain⟨t,rfl,ht⟩:=tN rfl
  obtain⟨x,hx,rfl,rfl⟩:=aN rfl
  obtain⟨y,hy,rfl,rfl⟩:=bN rfl
  rw[oU _ 8 (by omega),Ke,j0]
  refine lh (KD m B t x y s vv tv lv fv n g w h hB ht hx hy) rfl (λw' hw=>hw.of ?_)
  unfold fB
  split
  ·rw[if_neg (by omega)]
  ·rw[if_pos rfl];rfl
 ·obtain⟨t,rfl,ht⟩:=tN rfl
  obtain⟨x,hx,rfl,rfl⟩:=aN rfl
  obtain⟨y,hy,rfl,rfl⟩:=bN rfl
  rw[cq _ 9 (by omega),if_pos rfl,KG,j0]
  exact KF m B t x y s vv tv lv fv n g w h hB ht hx hy
 ·obtain⟨t,rfl,ht⟩:=tN rfl
  obtain⟨x,hx,rfl,rfl⟩:=aN rfl
  rw[cq _ 10 (by omega),if_pos rfl,Ia,j0]
  exact Iu m B t x s vv tv lv fv b n g w h hB ht hx _ hA
 ·obtain⟨t,rfl,ht⟩:=tN rfl
  rw[DU]
  by_cases h100:s.things.length=100
  ·rw[if_pos h100,if_neg (by omega)]
   exact Gp m B s vv tv lv fv t a b n g w h hB h100
  ·have:=hr.things
   have hf3:=hp.f3
   rw[if_neg h100,if_pos rfl,D7,j0,j0]
   exact Hs m B t f s vv tv lv fv a b n g w h hB ht (by omega) (by omega) h7
 ·obtain⟨t,rfl,ht⟩:=tN rfl
  obtain⟨x,hx,rfl,rfl⟩:=aN rfl
  rw[th _ 12 (by omega)]
  by_cases hk3:s.vars[x].k=3
  ·rw[if_pos hk3,if_pos rfl,IU,j0]
   rcases hA with hA|hA|hA|hA
   ·omega
   ·omega
   ·omega
   obtain⟨q,hq⟩:=j6 hA.2.1
   obtain⟨f',rfl⟩:=j6 (h5 (.inl rfl)).1
   have hql:q < s.things.length:=by omega
   have hfl:f' < s.things[q].fs.length:=by have:=hr.fields _ (gM hql);have:=(h5 (.inl rfl)).2;omega
   rw[hq,sF hql hfl]
   exact Il m B x q f' t s vv tv lv fv b g w h hB hx (by rw[←hk3,←hq]) hql hfl ht
  ·rw[if_neg hk3,if_neg (by omega)]
   exact Hk m B x s vv tv lv fv t b n g w h hB hx hk3
 ·obtain⟨x,hx,rfl,rfl⟩:=aN rfl
  obtain⟨y,hy,rfl,rfl⟩:=bN rfl
  rw[th _ 13 (by omega)]
  by_cases hk3:s.vars[x].k=3
  ·rw[if_pos hk3,if_pos rfl,vI]
   rcases hA with hA|hA|hA|hA
   ·omega
   ·omega
   ·omega
   obtain⟨q,hq⟩:=j6 hA.2.1
   obtain⟨f',rfl⟩:=j6 (h5 (.inr rfl)).1
   have hql:q < s.things.length:=by omega
   have hfl:f' < s.things[q].fs.length:=by have:=hr.fields _ (gM hql);have:=(h5 (.inr rfl)).2;omega
   rw[hq]
   exact IT m B x q f' y s vv tv lv fv tt g w h hB hx (by rw[←hk3,←hq]) hql hfl hy
  ·rw[if_neg hk3,if_neg (by omega)]
   exact H8 m B x s vv tv lv fv tt y n g w h hB hx hk3
 ·obtain⟨t,rfl,ht⟩:=tN rfl
  rw[cq _ 14 (by omega),if_pos rfl,Id,j0]
  exact Iq m B t s vv tv lv fv a b n g w h hB ht is ic ins (h9' rfl).1 (h9' rfl).2 h9 hI hr.tk
 ·rw[cq _ 15 (by omega),if_pos rfl,gX 15 (by omega)]
  exact IH m B s vv tv lv fv tt a b n g w h hB
 ·rw[cq _ 16 (by omega),if_pos rfl,gX 16 (by omega)]
  exact Ii m B s vv tv lv fv tt a b n g w h hB
 ·obtain⟨x,hx,rfl,rfl⟩:=aN rfl
  rw[DO,gX 17 (by omega),show (if (if cnt s.vars[x]=true then(0:Int) else 3)=0 then s else s)=s by split<;>rfl]
  exact Im m B x s vv tv lv fv tt b n g w h hB hx _ hA
 ·obtain⟨x,hx,rfl,rfl⟩:=aN rfl
  rw[cq _ 18 (by omega),if_pos rfl,Da]
  exact IE m B x s vv tv lv fv tt b n g w h hB hx _ hA hT hln
 ·rw[Dl,gX 19 (by omega),show (if (1:Int)=0 then s else s)=s by split<;>rfl]
  exact Iv m B s vv tv lv fv tt a b n g w h hB
theorem DI (V:Int)(f:Nat)(c:List Ins)(s:St)(hp:ProgOk V f c)(hr:RunOk V f c s)(i:Ins)(hi:bD V f c.length i=0)(s':St)(ha:s'.at_=s.at_)(hvs:i.k=15→s'.vars=s.vars)(m B:Nat)(vv tv lv:Value)(fv:List Value)(w:World)(h:OwnRun w B m s' vv tv lv fv):
  Calls pG 87 #[Pp (sO ⟨m,0,nO⟩),Ag #[.int .i64 i.k,.int .i64 i.tgt,.int .i64 i.a,.int .i64 i.b,.int .i64 i.n,.int .i64 i.g]] w λe w'=>e=Rt (.int .i64 (de s i (aOf s i)))∧Below w.heap.size w w':=by
 have hA:=sP hr hi
 have h0:=hr.at0
 have h1:=hr.at1
 have hl:=hp.len
 obtain⟨p1,p2,p3,p4,p5,p6,p7,p8,p9⟩:=bn hi
 by_cases k16:i.k=16
 ·have e:de s i (aOf s i)=i.g:=by unfold de;rw[if_pos (.inl k16)]
  rw[e,k16]
  exact CI m _ _ _ _ _ w
 by_cases k15:i.k=15
 ·have hn:nA i.k=true:=by rw[k15];rfl
  obtain⟨x,hx⟩:=j6 (p3 hn).1
  have hv:=hr.vars
  have hxl:x < s.vars.length:=by have:=(p3 hn).2;omega
  have hvx:=hvs k15
  have hxl':x < s'.vars.length:=by rw[hvx];exact hxl
  have ea:aOf s i=s.vars[x]:=by unfold aOf;rw[hn,if_pos rfl,hx];exact gT hxl
  have ev:s'.vars[x]=s.vars[x]:=by simp only[hvx]
  rw[ea] at hA ⊢
  have e:de s i s.vars[x]=bif cnt s.vars[x] then i.g else s.at_+1:=by
   unfold de
   cases hc:cnt s.vars[x]<;>simp[k15,k16,hc]
  rw[e,k15,hx]
  have:=Gi m B x s' vv tv lv fv i.tgt i.b i.n i.g w h hxl' _ (by rw[ev];exact hA) (by omega) (by omega)
  rw[ev,ha] at this
  exact this
 ·have e:de s i (aOf s i)=s.at_+1:=by unfold de;rw[if_neg (by omega)]
  rw[e,←ha]
  exact CT m B s' vv tv lv fv _ _ _ _ _ _ w h k15 k16 (by omega) (by omega)

theorem OwnRun.withAt {w:World}{B m:Nat}{s:St}{vv tv lv:Value}{fv:List Value}(h:OwnRun w B m s vv tv lv fv)(x:Int):OwnRun (w.setCell ⟨m,0,nO⟩ (.int .i64 x)) B m {s with at_:=x} vv tv lv fv:=by
 simpa using h.setM 0 x (by omega)
theorem OwnRun.withFin {w:World}{B m:Nat}{s:St}{vv tv lv:Value}{fv:List Value}(h:OwnRun w B m s vv tv lv fv)(x:Int):OwnRun (w.setCell ⟨m,5,nO⟩ (.int .i64 x)) B m {s with fin:=x} vv tv lv fv:=by
 simpa using h.setM 5 x (by omega)
theorem AG (F:Int)(ins:List Int)(s:St)(i:Ins)(A C:Val)(h:i.k=15):bV F ins s i A C=s:=by
 obtain⟨k,t,a,b,n,g⟩:=i
 simp only at h
 subst h
 rfl
theorem yp (m B:Nat)(s:St)(vv tv lv:Value)(fv:List Value)(w:World)(h:OwnRun w B m s vv tv lv fv)(hf:s.fin≠0):
  Calls pG 46 #[Pp (sO ⟨m,0,nO⟩)] w λe w'=>e=Rt (Tu #[])∧MStep w w' B m (ag m vv tv lv fv) s:=by
 have q5:=h.fin_
 have b5:(s.fin !=0)=true:=by simpa using hf
 have HX:=aF h
 clear h
 go_enter Tryz.func46,Tryz.ntmps46
 go_wp2
 first|go_ret|go_end0|refine bodyPost_ret (results_none rfl _ _ _) rfl ?_
 exact⟨rfl,⟨_,_,_,_,HX.out⟩,bR _ _,λj _=>rfl,λk _ _=>rfl⟩
theorem Ba (m B:Nat)(s:St)(vv tv lv:Value)(fv:List Value)(n cc:Nat)(cs:Option Addr)(w:World)(h:OwnRun w B m s vv tv lv fv)(hf:s.fin=0)(ha:s.at_=(n:Int))(h8:w.cell? ⟨m,8,nO⟩=sO (U cs n cc)):
  Calls pG 46 #[Pp (sO ⟨m,0,nO⟩)] w λe w'=>e=Rt (Tu #[])∧MStep w w' B m (ag m vv tv lv fv) {s with fin:=1}:=by
 have q5:=h.fin_
 rw[hf] at q5
 have q0:=h.at_
 rw[ha] at q0
 have d5:=h.thaw 5
 have HX:=aF h
 clear h
 go_enter Tryz.func46,Tryz.ntmps46
 go_wp2
 go_quiet (fail)
 go_wp2
 first|go_ret|go_end0|refine bodyPost_ret (results_none rfl _ _ _) rfl ?_
 have hb:=below_drewN (bR w.heap.size w) nq
 exact⟨rfl,⟨_,_,_,_,(HX.out.below hb).withFin 1⟩,(hb.mono (x9 (Nat.lt_of_le_of_lt HX.out.low (HX.out.lt (k:=m) (by simp[ag]))))).setCell HX.out.low _,λj hj=>by rw[x6 _ _ _ _ (by intro e;cases e;omega)];exact hb.cell (by simpa using HX.out.lt (k:=m) (by simp[ag])),cE (cJ hb) hb.size (iU (by simp[ag]) _ _)⟩
theorem Fo (V:Int)(f:Nat)(c:List Ins)(s:St)(hp:ProgOk V f c)(hr:RunOk V f c s)(ins:List Int)(m B:Nat)(vv tv lv:Value)(fv:List Value)(cs:Option Addr)(cc:Nat)(is:Option Addr)(ic:Nat)(w:World)
  (h:OwnRun w B m s vv tv lv fv)(hB:B≤w.heap.size)(h7:w.cell? ⟨m,7,nO⟩=sO (.int .i64 f))(h8:w.cell? ⟨m,8,nO⟩=sO (U cs c.length cc))(h9:w.cell? ⟨m,9,nO⟩=sO (U is ins.length ic))(hC:CodeAt w cs c)(hI:IntsAt w is ins)(hT:Tab w)(hln:(s.lines.length+1) * 16≤140737488355328)(hf:s.fin=0)(k:Nat)(ha:s.at_=(k:Int))(hk:k < c.length):
  Calls pG 46 #[Pp (sO ⟨m,0,nO⟩)] w λe w'=>e=Rt (Tu #[])∧MStep w w' B m (ag m vv tv lv fv) (bp f c ins s):=by
 have hm:m < w.heap.size:=h.lt (by simp[ag])
 have q5:=h.fin_
 rw[hf] at q5
 have q0:=h.at_
 rw[ha] at q0
 have HIA:aO c (k:Int)=c[k]:=pS hk
 have hi:bD V f c.length c[k]=0:=hp.each _ (gM hk)
 have HST:=aF (ie f c ins s)
 rw[ha,HIA,if_neg (by omega),if_neg (by omega)] at HST
 have HEA:=aF (pF f ins s c[k] (aOf s c[k]) (bOf s c[k]))
 have HEFF:=aF (ud f ins s c[k] (aOf s c[k]) (bOf s c[k]))
 have HV15:=aF (AG f ins s c[k] (aOf s c[k]) (bOf s c[k]))
 rcases hC with hC|⟨b,off,rfl,hb,hC⟩
 ·rw[hC] at hk;simp at hk
 obtain⟨i0,i1,i2,i3,i4,i5⟩:=hC k hk
 have n0:(0:Int)≤(k:Int):=by omega
 have n1:(k:Int) < (c.length:Int):=by omega
 have nk:((k:Int)==(c.length:Int))=false:=by simp;omega
 have K1:∀wx,Below w.heap.size w wx→wx.cell? ⟨m,8,nO⟩=sO (U (sO ⟨b,off,nO⟩) c.length cc)∧wx.cell? ⟨m,0,nO⟩=sO (.int .i64 k)∧wx.cell? ⟨b,off+k * 6,nO⟩=sO (.int .i64 c[k].k)∧wx.cell? ⟨b,off+k * 6+1,nO⟩=sO (.int .i64 c[k].tgt)∧wx.cell? ⟨b,off+k * 6+2,nO⟩=sO (.int .i64 c[k].a)∧wx.cell? ⟨b,off+k * 6+3,nO⟩=sO (.int .i64 c[k].b)∧wx.cell? ⟨b,off+k * 6+4,nO⟩=sO (.int .i64 c[k].n)∧wx.cell? ⟨b,off+k * 6+5,nO⟩=sO (.int .i64 c[k].g):=λwx hx=>⟨by rw[hx.cell (by simpa using hm)];exact h8,by rw[hx.cell (by simpa using hm)];exact q0,by rw[hx.cell (by simpa using hb)];exact i0,by rw[hx.cell (by simpa using hb)];exact i1,by rw[hx.cell (by simpa using hb)];exact i2,by rw[hx.cell (by simpa using hb)];exact i3,by rw[hx.cell (by simpa using hb)];exact i4,by rw[hx.cell (by simpa using hb)];exact i5⟩
 clear hC i0 i1 i2 i3 i4 i5 HIA
 go_enter Tryz.func46,Tryz.ntmps46
 go_wp2
 go_quiet (fail)
 go_wp2
 have HB0:Below w.heap.size w (w.drewN nq).drew:=(below_drewN (bR _ _) _).drew
 have hz0:(w.drewN nq).drew.heap.size=w.heap.size:=rfl
 refine au (S:=(λwx=>wx.cell? ⟨m,8,nO⟩=sO (U (sO ⟨b,off,nO⟩) c.length cc)∧wx.cell? ⟨m,0,nO⟩=sO (.int .i64 k)∧wx.cell? ⟨b,off+k * 6,nO⟩=sO (.int .i64 c[k].k)∧wx.cell? ⟨b,off+k * 6+1,nO⟩=sO (.int .i64 c[k].tgt)∧wx.cell? ⟨b,off+k * 6+2,nO⟩=sO (.int .i64 c[k].a)∧wx.cell? ⟨b,off+k * 6+3,nO⟩=sO (.int .i64 c[k].b)∧wx.cell? ⟨b,off+k * 6+4,nO⟩=sO (.int .i64 c[k].n)∧wx.cell? ⟨b,off+k * 6+5,nO⟩=sO (.int .i64 c[k].g))) [] (by kernel_rfl) (K1 _ HB0) (λhHeld=> ?_)
 refine vZ 0 ?_ ?_
 refine vZ 1 ?_ ?_
 refine vZ 2 ?_ ?_
 refine vZ 3 ?_ ?_
 refine vZ 4 ?_ ?_
 refine vZ 5 ?_ ?_
 refine vZ 6 ?_ ?_
 refine vZ 7 ?_ ?_
 refine vZ 8 ?_ ?_
 refine vZ 9 ?_ ?_
 refine vZ 10 ?_ ?_
 refine vZ 11 ?_ ?_
 generalize (w.drewN nq).drew=wq at *
 refine an (i:=12) rfl (by kernel_rfl) (λK hK=> ?_)
 go_simp
 have HB1:Below w.heap.size w (wq.alloc (Cc #[.int .i64 0,.int .i64 0,.int .i64 0,.int .i64 0,.int .i64 0,.int .i64 0] 100)):=HB0.alloc (by omega) _
 refine hK.out _ _ (K1 _ HB1) (λhHeld=> ?_)
 clear hK K
 refine sm ?_
 refine an (i:=13) rfl (by kernel_rfl) (λK hK=> ?_)
 go_simp
 have HB2:Below w.heap.size w (wq.alloc (Cc #[.int .i64 c[k].k,.int .i64 c[k].tgt,.int .i64 c[k].a,.int .i64 c[k].b,.int .i64 c[k].n,.int .i64 c[k].g] 100)):=HB0.alloc (by omega) _
 refine hK.out _ _ (K1 _ HB2) (λhHeld=> ?_)
 clear hK K
 refine sm ?_
 refine aq (by kernel_rfl) ?_ _
 (try rw[hz0])
 have c0:(wq.alloc (Cc #[.int .i64 c[k].k,.int .i64 c[k].tgt,.int .i64 c[k].a,.int .i64 c[k].b,.int .i64 c[k].n,.int .i64 c[k].g] 100)).cell? ⟨w.heap.size,0,nO⟩=sO (.int .i64 c[k].k):=by rw[←hz0];simp[go_sem]
 have c1:(wq.alloc (Cc #[.int .i64 c[k].k,.int .i64 c[k].tgt,.int .i64 c[k].a,.int .i64 c[k].b,.int .i64 c[k].n,.int .i64 c[k].g] 100)).cell? ⟨w.heap.size,1,nO⟩=sO (.int .i64 c[k].tgt):=by rw[←hz0];simp[go_sem]
 have c2:(wq.alloc (Cc #[.int .i64 c[k].k,.int .i64 c[k].tgt,.int .i64 c[k].a,.int .i64 c[k].b,.int .i64 c[k].n,.int .i64 c[k].g] 100)).cell? ⟨w.heap.size,2,nO⟩=sO (.int .i64 c[k].a):=by rw[←hz0];simp[go_sem]
 have c3:(wq.alloc (Cc #[.int .i64 c[k].k,.int .i64 c[k].tgt,.int .i64 c[k].a,.int .i64 c[k].b,.int .i64 c[k].n,.int .i64 c[k].g] 100)).cell? ⟨w.heap.size,3,nO⟩=sO (.int .i64 c[k].b):=by rw[←hz0];simp[go_sem]
 have c4:(wq.alloc (Cc #[.int .i64 c[k].k,.int .i64 c[k].tgt,.int .i64 c[k].a,.int .i64 c[k].b,.int .i64 c[k].n,.int .i64 c[k].g] 100)).cell? ⟨w.heap.size,4,nO⟩=sO (.int .i64 c[k].n):=by rw[←hz0];simp[go_sem]
 have c5:(wq.alloc (Cc #[.int .i64 c[k].k,.int .i64 c[k].tgt,.int .i64 c[k].a,.int .i64 c[k].b,.int .i64 c[k].n,.int .i64 c[k].g] 100)).cell? ⟨w.heap.size,5,nO⟩=sO (.int .i64 c[k].g):=by rw[←hz0];simp[go_sem]
 have hzd:w.heap.size < (wq.alloc (Cc #[.int .i64 c[k].k,.int .i64 c[k].tgt,.int .i64 c[k].a,.int .i64 c[k].b,.int .i64 c[k].n,.int .i64 c[k].g] 100)).heap.size:=by simp[hz0]
 clear hHeld K1 HB0 HB1
 generalize wq.alloc (Cc #[.int .i64 c[k].k,.int .i64 c[k].tgt,.int .i64 c[k].a,.int .i64 c[k].b,.int .i64 c[k].n,.int .i64 c[k].g] 100)=wd at *
 have oD:=h.below HB2
 have HD:=aF (Hp V f c s hp hr c[k] hi ins m B vv tv lv fv is ic wd oD (lT hB HB2.size) (by rw[HB2.cell (by simpa using hm)];exact h7) (by rw[HB2.cell (by simpa using hm)];exact h9) (hI.below HB2 (lR _)) (hT.below HB2) hln)
 have nbx:sO w.heap.size∉ag m vv tv lv fv:=λe=>X2 _ (h.lt e)
 unfold BL at HD
 generalize ft s c[k]=ee at *
 generalize hEF:bV f ins s c[k] (aOf s c[k]) (bOf s c[k])=ef at *
 clear hEF
 go_wp2_with (go_at_call 86;fail)
 refine HD.out.mono ?_
 rintro e w1 ⟨rfl,⟨vv1,tv1,lv1,fv1,o1⟩,M2,M3,M4⟩
 clear HD
 have bx:=M4 w.heap.size hzd nbx
 have x0:w1.cell? ⟨w.heap.size,0,nO⟩=sO (.int .i64 c[k].k):=by rw[j3 (a:=⟨w.heap.size,0,nO⟩) bx];exact c0
 have x1:w1.cell? ⟨w.heap.size,1,nO⟩=sO (.int .i64 c[k].tgt):=by rw[j3 (a:=⟨w.heap.size,1,nO⟩) bx];exact c1
 have x2:w1.cell? ⟨w.heap.size,2,nO⟩=sO (.int .i64 c[k].a):=by rw[j3 (a:=⟨w.heap.size,2,nO⟩) bx];exact c2
 have x3:w1.cell? ⟨w.heap.size,3,nO⟩=sO (.int .i64 c[k].b):=by rw[j3 (a:=⟨w.heap.size,3,nO⟩) bx];exact c3
 have x4:w1.cell? ⟨w.heap.size,4,nO⟩=sO (.int .i64 c[k].n):=by rw[j3 (a:=⟨w.heap.size,4,nO⟩) bx];exact c4
 have x5:w1.cell? ⟨w.heap.size,5,nO⟩=sO (.int .i64 c[k].g):=by rw[j3 (a:=⟨w.heap.size,5,nO⟩) bx];exact c5
 clear c0 c1 c2 c3 c4 c5 bx
 have r5:=o1.fin_
 have d5:=o1.thaw 5
 have hm1:m < w1.heap.size:=o1.lt (by simp[ag])
 have hne:m≠w.heap.size:=by omega
 have HM:Below B w w1:=(HB2.mono hB).trans M2
 have HF:Hid (∀k,k < w.heap.size→sO k∉ag m vv tv lv fv→w1.heap[k]? =w.heap[k]?):=cE (cJ HB2) HB2.size M4
 have HC6:Hid (∀j,6≤j→w1.cell? ⟨m,j,nO⟩=w.cell? ⟨m,j,nO⟩):=λj hj=>by rw[M3 j hj];exact HB2.cell hm
 have hBm:B≤m:=h.low
 clear M2 M3 M4 oD h
 by_cases he:ee=0
 ·subst he
  simp only[if_true] at o1 r5
  have oF:=o1.withFin 0
  have HN:=aF (λ(wx:World) (vv tv lv:Value) (fv:List Value) (hx:OwnRun wx B m {ef with fin:=0} vv tv lv fv)=>DI V f c s hp hr c[k] hi {ef with fin:=0} HEA.out (λh15=>by show ef.vars=s.vars;rw[HV15.out h15]) m B vv tv lv fv wx hx)
  have HQ:Hid (bp f c ins s={ef with at_:=de s c[k] (aOf s c[k])}):=by
   have:=HST.out
   rw[if_neg (by simp)] at this
   exact this
  clear HST HV15
  go_wp2_with (go_at_call 87;fail)
  refine(HN.out _ vv1 tv1 lv1 fv1 oF).mono ?_
  rintro e w2 ⟨rfl,hb2⟩
  have o2:=oF.below hb2
  have r0:=o2.at_
  have d0:=o2.thaw 0
  have hz2:(w1.setCell ⟨m,5,nO⟩ (.int .i64 0)).heap.size=w1.heap.size:=by simp[j9]
  clear HN
  go_wp2
  first|go_ret|go_end0|refine bodyPost_ret (results_none rfl _ _ _) rfl ?_
  rw[HQ.out]
  have oZ:=o2.withAt (de s c[k] (aOf s c[k]))
  have eZ:({({ef with fin:=0}:St) with at_:=de s c[k] (aOf s c[k])}:St)={ef with at_:=de s c[k] (aOf s c[k])}:=by
   have hff:ef.fin=0:=by rw[HEFF.out];exact hf
   cases ef
   simp only at hff
   subst hff
   rfl
  rw[eZ] at oZ
  refine⟨rfl,⟨_,_,_,_,oZ⟩,Below.setCell (Below.trans (HM.setCell hBm _) (hb2.mono (by rw[hz2];exact lT hBm (x9 hm1)))) hBm _,λj hj=> ?_,?_⟩
  ·rw[x6 _ _ _ _ (by intro e;cases e;omega),hb2.cell (by rw[hz2];exact hm1),x6 _ _ _ _ (by intro e;cases e;omega)]
   exact HC6.out j hj
  ·refine cE HF.out HM.size (cE (iU (by simp[ag]) _ _) (by rw[hz2];exact lR _) (cE (cJ hb2) hb2.size (iU (by simp[ag]) _ _)))
 ·simp only[he,if_false] at o1 r5
  have bee:(ee==0)=false:=by simpa using he
  have oF:=o1.withFin ee
  have HQ:Hid (bp f c ins s={s with fin:=ee}):=by
   have:=HST.out
   rw[if_pos he,←ha] at this
   exact this
  have HX:=aF oF
  clear HST HV15 oF o1
  go_wp2
  first|go_ret|go_end0|refine bodyPost_ret (results_none rfl _ _ _) rfl ?_
  rw[HQ.out]
  refine⟨rfl,⟨_,_,_,_,HX.out⟩,HM.setCell hBm _,λj hj=> ?_,cE HF.out HM.size (iU (by simp[ag]) _ _)⟩
  rw[x6 _ _ _ _ (by intro e;cases e;omega)]
  exact HC6.out j hj
theorem ux (V:Int)(f:Nat)(c:List Ins)(s:St)(hp:ProgOk V f c)(hr:RunOk V f c s)(ins:List Int)(m B:Nat)(vv tv lv:Value)(fv:List Value)(cs:Option Addr)(cc:Nat)(is:Option Addr)(ic:Nat)(w:World)
  (h:OwnRun w B m s vv tv lv fv)(hB:B≤w.heap.size)(h7:w.cell? ⟨m,7,nO⟩=sO (.int .i64 f))(h8:w.cell? ⟨m,8,nO⟩=sO (U cs c.length cc))(h9:w.cell? ⟨m,9,nO⟩=sO (U is ins.length ic))(hC:CodeAt w cs c)(hI:IntsAt w is ins)(hT:Tab w)(hln:(s.lines.length+1) * 16≤140737488355328):
  Calls pG 46 #[Pp (sO ⟨m,0,nO⟩)] w λe w'=>e=Rt (Tu #[])∧MStep w w' B m (ag m vv tv lv fv) (bp f c ins s):=by
 by_cases hf:s.fin=0
 ·by_cases ha:s.at_=c.length
  ·have e:bp f c ins s={s with fin:=1}:=by rw[ie,if_neg (by omega),if_pos ha]
   rw[e]
   exact Ba m B s vv tv lv fv c.length cc cs w h hf ha h8
  ·obtain⟨k,hk⟩:=j6 hr.at0
   have:=hr.at1
   exact Fo V f c s hp hr ins m B vv tv lv fv cs cc is ic w h hB h7 h8 h9 hC hI hT hln hf k hk (by omega)
 ·have e:bp f c ins s=s:=by rw[ie,if_pos hf]
  rw[e]
  exact yp m B s vv tv lv fv w h hf
theorem Fy (V F:Int)(s:Option Addr)(c:List Ins)(cap:Nat)(is:Option Addr)(ic:Nat)(ins:List Int)(fuel:Int)(w:World)(hc:CodeAt w s c)(h0:ai V F c≠0):
  Calls pG 19 #[Ag #[.int .i64 V,.int .i64 F,U s c.length cap],U is ins.length ic,.int .i64 fuel] w λe w'=>e=Rt (Tu #[Ag #[.int .i64 0,U nO 0 0,U nO 0 0,.int .i64 0,U nO 0 0,.int .i64 0],.int .i64 0,.int .i64 (ai V F c)])∧Below w.heap.size w w':=by
 have hb0:Below w.heap.size w ((w.alloc (Cc #[.int .i64 V,.int .i64 F,U s c.length cap] 24)).alloc (Cc #[.int .i64 0,U nO 0 0,U nO 0 0,.int .i64 0,U nO 0 0,.int .i64 0] 33)):=by go_grown
 have Z0:=R6.new (w.alloc (Cc #[.int .i64 V,.int .i64 F,U s c.length cap] 24)) 33 (.int .i64 0) (U nO 0 0) (U nO 0 0) (.int .i64 0) (U nO 0 0) (.int .i64 0)
 rw[j1] at Z0
 have HB:=aF (uv V F s c cap ((w.alloc (Cc #[.int .i64 V,.int .i64 F,U s c.length cap] 24)).alloc (Cc #[.int .i64 0,U nO 0 0,U nO 0 0,.int .i64 0,U nO 0 0,.int .i64 0] 33)) (hc.below hb0 (lR _)) h0)
 have hk:(ai V F c !=0)=true:=by simpa using h0
 go_enter Tryz.func19,Tryz.ntmps19
 go_wp2_with (go_at_call 40;fail)
 refine HB.out.mono ?_
 rintro e w1 ⟨rfl,hb1⟩
 clear HB
 have H1:=hb0.trans (hb1.mono hb0.size)
 have hz1:w.heap.size+1 < w1.heap.size:=by have:=hb1.size;simp at this;omega
 have Z1:=(Z0.call hb1).call (w':=w1.alloc (Cc #[.int .i64 0,U nO 0 0,U nO 0 0,.int .i64 0,U nO 0 0,.int .i64 0] 33)) (by go_grown)
 have H2:Below w.heap.size w (w1.alloc (Cc #[.int .i64 0,U nO 0 0,U nO 0 0,.int .i64 0,U nO 0 0,.int .i64 0] 33)):=H1.alloc H1.size _
 clear Z0 hb1
 go_upto_region 2 with fail
 generalize w1.alloc (Cc #[.int .i64 0,U nO 0 0,U nO 0 0,.int .i64 0,U nO 0 0,.int .i64 0] 33)=w2 at *
 obtain⟨⟨r0,r1,r2,r3,r4,r5⟩,rz,rf⟩:=id Z1
 have g0:=rf 0
 have g1:=rf 1
 have g2:=rf 2
 have g3:=rf 3
 have g4:=rf 4
 have g5:=rf 5
 go_wp2
 clear rf
 refine bodyPost_ret (v:=Tu #[Ag #[.int .i64 0,U nO 0 0,U nO 0 0,.int .i64 0,U nO 0 0,.int .i64 0],.int .i64 0,.int .i64 (ai V F c)]) (by simp[results,Tryz.results19,go_sem,r0,r1,r2,r3,r4,r5]) rfl ⟨rfl,?_⟩
 exact dU H2 (by omega) _ _ _ _ _ _

theorem AS (v f:Nat)(s:Option Addr)(c:List Ins)(cap:Nat)(is:Option Addr)(ic:Nat)(ins:List Int)(fuel:Int)(w:World)(hc:CodeAt w s c)(h0:ai v f c=0)(hf:fuel < 0∨5000 < fuel):
  Calls pG 19 #[Ag #[.int .i64 (v:Int),.int .i64 (f:Int),U s c.length cap],U is ins.length ic,.int .i64 fuel] w λe w'=>e=Rt (Tu #[Ag #[.int .i64 0,U nO 0 0,U nO 0 0,.int .i64 0,U nO 0 0,.int .i64 0],.int .i64 0,.int .i64 3])∧Below w.heap.size w w':=by
 have hb0:Below w.heap.size w ((w.alloc (Cc #[.int .i64 (v:Int),.int .i64 (f:Int),U s c.length cap] 24)).alloc (Cc #[.int .i64 0,U nO 0 0,U nO 0 0,.int .i64 0,U nO 0 0,.int .i64 0] 33)):=by go_grown
 have Z0:=R6.new (w.alloc (Cc #[.int .i64 (v:Int),.int .i64 (f:Int),U s c.length cap] 24)) 33 (.int .i64 0) (U nO 0 0) (U nO 0 0) (.int .i64 0) (U nO 0 0) (.int .i64 0)
 rw[j1] at Z0
 have HB:=aF (pX v f s c cap ((w.alloc (Cc #[.int .i64 (v:Int),.int .i64 (f:Int),U s c.length cap] 24)).alloc (Cc #[.int .i64 0,U nO 0 0,U nO 0 0,.int .i64 0,U nO 0 0,.int .i64 0] 33)) (hc.below hb0 (lR _)) h0)
 go_enter Tryz.func19,Tryz.ntmps19
 go_wp2_with (go_at_call 40;fail)
 refine HB.out.mono ?_
 rintro e w1 ⟨g,rfl,-,hb1⟩
 clear HB
 have H1:=hb0.trans (hb1.mono hb0.size)
 have hz1:w.heap.size+1 < w1.heap.size:=by have:=hb1.size;simp at this;omega
 have Z1:=(Z0.call hb1).call (w':=w1.alloc (Cc #[.int .i64 0,U (sO ⟨g,0,nO⟩) v v,U nO 0 0,.int .i64 0,U nO 0 0,.int .i64 0] 33)) (by go_grown)
 have H2:Below w.heap.size w (w1.alloc (Cc #[.int .i64 0,U (sO ⟨g,0,nO⟩) v v,U nO 0 0,.int .i64 0,U nO 0 0,.int .i64 0] 33)):=H1.alloc H1.size _
 clear Z0 hb1
 go_upto_region 2 with fail
 generalize w1.alloc (Cc #[.int .i64 0,U (sO ⟨g,0,nO⟩) v v,U nO 0 0,.int .i64 0,U nO 0 0,.int .i64 0] 33)=w2 at *
 obtain⟨⟨r0,r1,r2,r3,r4,r5⟩,rz,rf⟩:=id Z1
 have g0:=rf 0
 have g1:=rf 1
 have g2:=rf 2
 have g3:=rf 3
 have g4:=rf 4
 have g5:=rf 5
 clear rf
 rcases hf with hf|hf
 ·go_wp2
  refine bodyPost_ret (v:=Tu #[Ag #[.int .i64 0,U nO 0 0,U nO 0 0,.int .i64 0,U nO 0 0,.int .i64 0],.int .i64 0,.int .i64 3]) (by simp[results,Tryz.results19,go_sem,r0,r1,r2,r3,r4,r5]) rfl ⟨rfl,?_⟩
  exact dU H2 (by omega) _ _ _ _ _ _
 ·have hf0:¬(fuel < 0):=by omega
  go_wp2
  refine bodyPost_ret (v:=Tu #[Ag #[.int .i64 0,U nO 0 0,U nO 0 0,.int .i64 0,U nO 0 0,.int .i64 0],.int .i64 0,.int .i64 3]) (by simp[results,Tryz.results19,go_sem,r0,r1,r2,r3,r4,r5]) rfl ⟨rfl,?_⟩
  exact dU H2 (by omega) _ _ _ _ _ _
theorem rW (ss:Option Addr)(sc:Nat)(l:List Val)(w:World)(hs:ValsAt w ss l)(hbig:l.length * 16≤140737488355328):
  Calls pG 83 #[U ss l.length sc] w λe w'=>∃v',e=Rt v'∧w'.ownsRow w.heap.size 82 2 v' l.length (bU l)∧Below w.heap.size w w':=by
 obtain⟨ti,hi,hz0,hz1,hz2⟩:=info_parts ri
 have q:∀(w:World) (a:Option Addr) (n c n' c':Nat),(binOp .eql 29 (U a n c) (U nO n' c')).run pG w=.ok (Bb a.isNone) w:=λw a n c n' c'=>Lib.run_eql_slice_nil w _ _ a n c n' c' Tryz.underlying29
 have HN:=aF (hs.news)
 have h0:=hs.nil
 have hle:l.length≤maxLen:=by unfold maxLen;omega
 cases ss with
 |none=>
  have hz:l.length=0:=h0 rfl
  have HX:Hid ((bU l)=[]):=by
   show _=_
   apply Q8
   have:=(ip l)
   omega
  clear HN hle
  go_enter Tryz.func83,Tryz.ntmps83
  go_wp2
  go_ret
  refine⟨_,rfl,?_,bR _ _⟩
  rw[HX.out]
  (try rw[hz])
  exact q6 _ _ _ _
 |some ad=>
  have hbl:Below w.heap.size w (w.alloc (Cc #[] 82)):=by go_grown
  go_enter Tryz.func83,Tryz.ntmps83
  go_wp2_with (at_builtin;refine cj _ rfl _ _ 29 rfl w.heap.size 82 ti (Ag #[.int .i64 0,.int .i64 0]) 2 16 Tryz.underlying29 hi hz0 hz1 hz2 rfl (by decide) _ _ _ rfl (Q9 w #[] 0 (lR _) (j8 _) rfl) (sO ad) l.length sc (bU l) rfl ?qc1 (λh=>by cases h) ?qc2 ?qc3 ?qc4 ?qc5 ?qc6 ?_)
  case qc1=>exact(ip l)
  case qc2=>
   intro ad' e j u hj
   cases e
   have:=HN.out ad rfl j u hj
   exact Lib.cell?_alloc_some _ this
  case qc3=>exact(EE l)
  case qc4=>simpa using hle
  case qc5=>simpa using hbig
  case qc6=>simp
  intro v' w1 hown hgrow hat
  go_wp2
  go_ret
  refine⟨v',rfl,by simpa using hown,?_⟩
  exact((bR _ w).alloc (lR _) _).grown hgrow (by simp) (by intro k hk;simp[z7] at hk;omega)

theorem AI (ss:Option Addr)(sc:Nat)(l:List ByteArray)(w:World)(hs:StrsAt w ss l)(hbig:l.length * 16≤140737488355328):
  Calls pG 84 #[U ss l.length sc] w λe w'=>∃v',e=Rt v'∧w'.ownsRow w.heap.size 9 1 v' l.length (l.map z6)∧Below w.heap.size w w':=by
 obtain⟨ti,hi,hz0,hz1,hz2⟩:=info_parts wM
 have q:∀(w:World) (a:Option Addr) (n c n' c':Nat),(binOp .eql 31 (U a n c) (U nO n' c')).run pG w=.ok (Bb a.isNone) w:=λw a n c n' c'=>Lib.run_eql_slice_nil w _ _ a n c n' c' Tryz.underlying31
 have HN:=aF (hs.news)
 have h0:=hs.nil
 have hle:l.length≤maxLen:=by unfold maxLen;omega
 cases ss with
 |none=>
  have hz:l.length=0:=h0 rfl
  have HX:Hid ((l.map z6)=[]):=by
   show _=_
   apply Q8
   have:=(show (l.map z6).length=l.length * 1 by simp)
   omega
  clear HN hle
  go_enter Tryz.func84,Tryz.ntmps84
  go_wp2
  go_ret
  refine⟨_,rfl,?_,bR _ _⟩
  rw[HX.out]
  (try rw[hz])
  exact q6 _ _ _ _
 |some ad=>
  have hbl:Below w.heap.size w (w.alloc (Cc #[] 9)):=by go_grown
  go_enter Tryz.func84,Tryz.ntmps84
  go_wp2_with (at_builtin;refine cj _ rfl _ _ 31 rfl w.heap.size 9 ti (.string ⟨#[]⟩) 1 16 Tryz.underlying31 hi hz0 hz1 hz2 rfl (by decide) _ _ _ rfl (Q9 w #[] 0 (lR _) (j8 _) rfl) (sO ad) l.length sc (l.map z6) rfl ?qc1 (λh=>by cases h) ?qc2 ?qc3 ?qc4 ?qc5 ?qc6 ?_)
  case qc1=>exact(show (l.map z6).length=l.length * 1 by simp)
  case qc2=>
   intro ad' e j u hj
   cases e
   have:=HN.out ad rfl j u hj
   exact Lib.cell?_alloc_some _ this
  case qc3=>exact(Ff l)
  case qc4=>simpa using hle
  case qc5=>simpa using hbig
  case qc6=>simp
  intro v' w1 hown hgrow hat
  go_wp2
  go_ret
  refine⟨v',rfl,by simpa using hown,?_⟩
  exact((bR _ w).alloc (lR _) _).grown hgrow (by simp) (by intro k hk;simp[z7] at hk;omega)

theorem Bc (ss:Option Addr)(sc:Nat)(l:List Int)(fo:List Value)(w:World)(hlen:fo.length=l.length)(hnil:ss=none→l.length=0)(hnews:∀ad,ss=sO ad→∀j u,(bL l fo)[j]? =sO u→w.cell? (ad.add j)=sO u)(hone:∀v∈fo,v.oneCell'=true)(hbig:l.length * 32≤140737488355328):
  Calls pG 85 #[U ss l.length sc] w λe w'=>∃v',e=Rt v'∧w'.ownsRow w.heap.size 84 2 v' l.length (bL l fo)∧Below w.heap.size w w':=by
 obtain⟨ti,hi,hz0,hz1,hz2⟩:=info_parts vR
 have q:∀(w:World) (a:Option Addr) (n c n' c':Nat),(binOp .eql 30 (U a n c) (U nO n' c')).run pG w=.ok (Bb a.isNone) w:=λw a n c n' c'=>Lib.run_eql_slice_nil w _ _ a n c n' c' Tryz.underlying30
 have HN:=aF (hnews)
 have h0:=hnil
 have hle:l.length≤maxLen:=by unfold maxLen;omega
 cases ss with
 |none=>
  have hz:l.length=0:=h0 rfl
  have HX:Hid ((bL l fo)=[]):=by
   show _=_
   apply Q8
   have:=(fS l fo hlen)
   omega
  clear HN hle
  go_enter Tryz.func85,Tryz.ntmps85
  go_wp2
  go_ret
  refine⟨_,rfl,?_,bR _ _⟩
  rw[HX.out]
  (try rw[hz])
  exact q6 _ _ _ _
 |some ad=>
  have hbl:Below w.heap.size w (w.alloc (Cc #[] 84)):=by go_grown
  go_enter Tryz.func85,Tryz.ntmps85
  go_wp2_with (at_builtin;refine cj _ rfl _ _ 30 rfl w.heap.size 84 ti (Ag #[.int .i64 0,U nO 0 0]) 2 32 Tryz.underlying30 hi hz0 hz1 hz2 rfl (by decide) _ _ _ rfl (Q9 w #[] 0 (lR _) (j8 _) rfl) (sO ad) l.length sc (bL l fo) rfl ?qc1 (λh=>by cases h) ?qc2 ?qc3 ?qc4 ?qc5 ?qc6 ?_)
  case qc1=>exact(fS l fo hlen)
  case qc2=>
   intro ad' e j u hj
   cases e
   have:=HN.out ad rfl j u hj
   exact Lib.cell?_alloc_some _ this
  case qc3=>exact(vX l fo hone)
  case qc4=>simpa using hle
  case qc5=>simpa using hbig
  case qc6=>simp
  intro v' w1 hown hgrow hat
  go_wp2
  go_ret
  refine⟨v',rfl,by simpa using hown,?_⟩
  exact((bR _ w).alloc (lR _) _).grown hgrow (by simp) (by intro k hk;simp[z7] at hk;omega)
section
variable {w w':World} {b:Nat} {x0 x1 x2 x3 x4 x5:Value}
theorem R6.put1 (h:R6 w b x0 x1 x2 x3 x4 x5)(y:Value):R6 (w.setCell ⟨b,1,nO⟩ y) b x0 y x2 x3 x4 x5:=by
 obtain⟨⟨h0,h1,h2,h3,h4,h5⟩,h6,h7⟩:=h
 exact⟨⟨by rw[aS (by omega)];exact h0,fw h1 _,by rw[aS (by omega)];exact h2,by rw[aS (by omega)];exact h3,by rw[aS (by omega)];exact h4,by rw[aS (by omega)];exact h5⟩,by simpa[j9] using h6,λj=>by rw[Z2];exact h7 j⟩
theorem R6.put2 (h:R6 w b x0 x1 x2 x3 x4 x5)(y:Value):R6 (w.setCell ⟨b,2,nO⟩ y) b x0 x1 y x3 x4 x5:=by
 obtain⟨⟨h0,h1,h2,h3,h4,h5⟩,h6,h7⟩:=h
 exact⟨⟨by rw[aS (by omega)];exact h0,by rw[aS (by omega)];exact h1,fw h2 _,by rw[aS (by omega)];exact h3,by rw[aS (by omega)];exact h4,by rw[aS (by omega)];exact h5⟩,by simpa[j9] using h6,λj=>by rw[Z2];exact h7 j⟩
theorem R6.put4 (h:R6 w b x0 x1 x2 x3 x4 x5)(y:Value):R6 (w.setCell ⟨b,4,nO⟩ y) b x0 x1 x2 x3 y x5:=by
 obtain⟨⟨h0,h1,h2,h3,h4,h5⟩,h6,h7⟩:=h
 exact⟨⟨by rw[aS (by omega)];exact h0,by rw[aS (by omega)];exact h1,by rw[aS (by omega)];exact h2,by rw[aS (by omega)];exact h3,fw h4 _,by rw[aS (by omega)];exact h5⟩,by simpa[j9] using h6,λj=>by rw[Z2];exact h7 j⟩
theorem R6.far (h:R6 w b x0 x1 x2 x3 x4 x5){a:Addr}(ha:a.block≠b)(y:Value):R6 (w.setCell a y) b x0 x1 x2 x3 x4 x5:=h.same (hSe _ _ _ _ (Ne.symm ha)) (by simp[j9])
theorem dn {B:Nat}{e:TypeId}{z:Nat}{v:Value}{n:Nat}{xs:List Value}(h:w.ownsRow B e z v n xs){a:Addr}(ha:v.ownBlock≠sO a.block)(y:Value):(w.setCell a y).ownsRow B e z v n xs:=
 aw h (λk hk=>hSe _ _ _ _ (λe=>ha (by rw[hk,e])))
theorem eJ {B:Nat}{e:TypeId}{z:Nat}{v:Value}{n:Nat}{xs:List Value}(h:w.ownsRow B e z v n xs)(hb:Below w.heap.size w w'):w'.ownsRow B e z v n xs:=
 aw h (λk hk=>hb.block k (aM h hk).1)
theorem dJ {B:Nat}{e:TypeId}{z:Nat}{v:Value}{n:Nat}{xs:List Value}(h:w.ownsRow B e z v n xs){k:Nat}(hk:k < B):v.ownBlock≠sO k:=λe=>by have:=(aM h e).2;omega
end
structure CpInv (w wr:World) (r:St) (fo fn:List Value) (vv tv lv:Value):Prop where
 low:Below w.heap.size w wr
 run:R6 wr w.heap.size (.int .i64 r.at_) vv tv (.int .i64 r.taken) lv (.int .i64 r.fin)
 res:R6 wr (w.heap.size+1) (.int .i64 0) (U nO 0 0) (U nO 0 0) (.int .i64 0) (U nO 0 0) (.int .i64 0)
 vars:ValRow wr (w.heap.size+1+1) vv r.vars
 lines:wr.ownsRow (w.heap.size+1+1) 9 1 lv r.lines.length (r.lines.map .string)
 things:wr.ownsRow (w.heap.size+1+1) 84 2 tv r.things.length (bL (r.things.map (·.site)) (fn++fo.drop fn.length))
 le:fn.length≤r.things.length
 old:fo.length=r.things.length
 fields:∀j (h:j < fn.length),ValRow wr (w.heap.size+1+1) fn[j] (r.things[j]'(lL h le)).fs
 apart:(vv.ownBlock::tv.ownBlock::lv.ownBlock::fn.map z7).Pairwise λa b=>∀x,a=sO x→b≠sO x
theorem CpInv.rows {w wr:World}{r:St}{fo fn:List Value}{vv tv lv:Value}(h:CpInv w wr r fo fn vv tv lv)(hn:fn.length=r.things.length):OwnRows wr (w.heap.size+1+1) r vv tv lv fn:=by
 have ht:=h.things
 rw[hn,←h.old,List.drop_length,List.append_nil] at ht
 rw[h.old] at ht
 exact⟨h.vars,ht,hn,λi hi=>h.fields i (by omega),h.lines,h.apart⟩
theorem CpInv.step {w wr w1:World}{r:St}{fo fn:List Value}{vv lv v':Value}{gt tc:Nat}(h:CpInv w wr r fo fn vv (U (sO ⟨gt,0,nO⟩) r.things.length tc) lv)(hlt:fn.length < r.things.length)(hb:Below wr.heap.size wr w1)(hv:ValRow w1 wr.heap.size v' r.things[fn.length].fs):
  CpInv w (w1.setCell ⟨gt,fn.length * 2+1,nO⟩ v') r fo (fn++[v']) vv (U (sO ⟨gt,0,nO⟩) r.things.length tc) lv:=by
 have hap:=h.apart
 simp only[x7] at hap
 obtain⟨a1,a2,a3,a4⟩:=hap
 have gtl:=aM h.things (k:=gt) rfl
 have hz:=h.low.size
 have hrz:=h.run.2.1
 have hsz:=h.res.2.1
 have vlt:∀k,vv.ownBlock=sO k→k < wr.heap.size:=λk hk=>(aM h.vars hk).1
 have llt:∀k,lv.ownBlock=sO k→k < wr.heap.size:=λk hk=>(aM h.lines hk).1
 have flt:∀k,sO k∈fn.map z7→k < wr.heap.size:=λk hk=>by
  obtain⟨x,hx,hxk⟩:=X4.1 hk
  obtain⟨i,hi,rfl⟩:=X5 hx
  exact(aM (h.fields i hi) hxk).1
 have vge:∀k,k < wr.heap.size→v'.ownBlock≠sO k:=λk hk=>dJ hv hk
 have ngv:vv.ownBlock≠sO gt:=λe=>a1 (sO gt) (by simp[z7]) gt e rfl
 have ngl:lv.ownBlock≠sO gt:=λe=>a2 lv.ownBlock (by simp) gt rfl e
 have ngf:∀i (hi:i < fn.length),fn[i].ownBlock≠sO gt:=λi hi e=>a2 (sO gt) (by simp only[j5];right;exact X4.2 ⟨_,gM hi,e⟩) gt rfl rfl
 refine⟨(h.low.trans (hb.mono hz)).setCell (by simp only;omega) _,(h.run.call hb).far (by simp only;omega) _,(h.res.call hb).far (by simp only;omega) _,dn (eJ h.vars hb) ngv _,dn (eJ h.lines hb) ngl _,?_,by simp;omega,h.old,λj hj=> ?_,?_⟩
 ·have ht:=eJ h.things hb
  have hs:=(ht.stored (fn.length * 2+1) v').1
  have hfl:(fn++fo.drop fn.length).length=(r.things.map (·.site)).length:=by have:=h.old;have:=h.le;simp;omega
  rw[nY _ _ hfl fn.length (by rw[hfl];simpa using hlt)] at hs
  have e:(fn++fo.drop fn.length).set fn.length v'=(fn++[v'])++fo.drop (fn++[v']).length:=by
   have hd:fo.drop fn.length=fo[fn.length]'(by rw[h.old];exact hlt)::fo.drop (fn.length+1):=Q4 _
   rw[List.set_append_right _ _ (lR _),Nat.sub_self,hd]
   simp only[List.set_cons_zero,List.length_append,j7,Q5,List.append_assoc,List.cons_append,X6,q7]
  rw[e] at hs
  exact hs
 ·by_cases hj':j < fn.length
  ·have e:(fn++[v'])[j]=fn[j]:=List.getElem_append_left hj'
   rw[e]
   exact dn (eJ (h.fields j hj') hb) (ngf j hj') _
  ·have e:j=fn.length:=by simp at hj;omega
   subst e
   have e:(fn++[v'])[fn.length]=v':=by simp
   rw[e]
   exact dn (cC hv (by omega)) (vge gt gtl.1) _
 ·simp only[x7]
  refine⟨λb hb x hx e=> ?_,λb hb x hx e=> ?_,λb hb x hx e=> ?_,?_⟩
  ·simp only[z9,z8,J8,j5,Z4,Z5,or_false] at hb
   rcases hb with hb|hb|hb|hb
   ·exact a1 b (by simp[hb]) x hx e
   ·exact a1 b (by simp[hb]) x hx e
   ·exact a1 b (by simp only[j5];simp only[hb,or_true]) x hx e
   ·subst hb;exact vge x (vlt x hx) e
  ·simp only[z9,z8,J8,j5,Z4,Z5,or_false] at hb
   rcases hb with hb|hb|hb
   ·exact a2 b (by simp[hb]) x hx e
   ·exact a2 b (by simp only[j5];simp only[hb,or_true]) x hx e
   ·subst hb
    cases hx
    exact vge gt gtl.1 e
  ·simp only[z9,z8,J8,Z4,j5,Z5,or_false] at hb
   rcases hb with hb|hb
   ·exact a3 b hb x hx e
   ·subst hb;exact vge x (llt x hx) e
  ·rw[z9]
   refine List.pairwise_append.2 ⟨a4,by simp,λa ha b hb x hx e=> ?_⟩
   simp only[z8,J8,List.mem_singleton] at hb
   subst hb
   subst hx
   exact vge x (flt x ha) e
theorem yN (r:St)(vs:Option Addr)(vc:Nat)(ts:Option Addr)(tc:Nat)(ls:Option Addr)(lc:Nat)(w:World)(hr:RunAt w r vs ts ls)(hv8:r.vars.length≤100)(hf3:∀t∈r.things,t.fs.length≤100)(ht:r.things.length≤100)(hls:r.lines.length * 16≤140737488355328):
  Calls pG 45 #[mL r vs vc ts tc ls lc] w λe w'=>∃vv tv lv fv,e=Rt (Ag #[.int .i64 r.at_,vv,tv,.int .i64 r.taken,lv,.int .i64 r.fin])∧OwnRows w' w.heap.size r vv tv lv fv∧Below w.heap.size w w':=by
 unfold mL
 have hb0:Below w.heap.size w ((w.alloc (Cc #[.int .i64 r.at_,U vs r.vars.length vc,U ts r.things.length tc,.int .i64 r.taken,U ls r.lines.length lc,.int .i64 r.fin] 33)).alloc (Cc #[.int .i64 0,U nO 0 0,U nO 0 0,.int .i64 0,U nO 0 0,.int .i64 0] 33)):=by go_grown
 have Q0:=(R6.new w 33 (.int .i64 r.at_) (U vs r.vars.length vc) (U ts r.things.length tc) (.int .i64 r.taken) (U ls r.lines.length lc) (.int .i64 r.fin)).call (w':=((w.alloc (Cc #[.int .i64 r.at_,U vs r.vars.length vc,U ts r.things.length tc,.int .i64 r.taken,U ls r.lines.length lc,.int .i64 r.fin] 33)).alloc (Cc #[.int .i64 0,U nO 0 0,U nO 0 0,.int .i64 0,U nO 0 0,.int .i64 0] 33))) (by go_grown)
 have Z0:=R6.new (w.alloc (Cc #[.int .i64 r.at_,U vs r.vars.length vc,U ts r.things.length tc,.int .i64 r.taken,U ls r.lines.length lc,.int .i64 r.fin] 33)) 33 (.int .i64 0) (U nO 0 0) (U nO 0 0) (.int .i64 0) (U nO 0 0) (.int .i64 0)
 rw[j1] at Z0
 obtain⟨fo,hfo1,hfo2,hfo3⟩:=hr.2.1.list
 have hz2:((w.alloc (Cc #[.int .i64 r.at_,U vs r.vars.length vc,U ts r.things.length tc,.int .i64 r.taken,U ls r.lines.length lc,.int .i64 r.fin] 33)).alloc (Cc #[.int .i64 0,U nO 0 0,U nO 0 0,.int .i64 0,U nO 0 0,.int .i64 0] 33)).heap.size=w.heap.size+1+1:=by simp
 have H1:=aF (rW vs vc r.vars ((w.alloc (Cc #[.int .i64 r.at_,U vs r.vars.length vc,U ts r.things.length tc,.int .i64 r.taken,U ls r.lines.length lc,.int .i64 r.fin] 33)).alloc (Cc #[.int .i64 0,U nO 0 0,U nO 0 0,.int .i64 0,U nO 0 0,.int .i64 0] 33)) (hr.1.below hb0 (lR _)) (by omega))
 have H2:=aF (λ(wx:World) (hx:Below w.heap.size w wx)=>AI ls lc r.lines wx (hr.2.2.below hx (lR _)) hls)
 have H3:=aF (λ(wx:World) (hx:Below w.heap.size w wx)=>Bc ts tc (r.things.map (·.site)) fo wx (by simpa using hfo1) (λe=>by simpa using hr.2.1.nil e) (λad e j u hu=>by
  obtain⟨k,h1,h2,hk⟩:=wH _ _ (by simpa using hfo1) j u hu
  rcases hfo3 with hfo3|⟨b,off,es,hbz,hi⟩
  ·rw[hfo3] at h1;simp at h1
  ·rw[es] at e
   cases e
   have hkl:k < r.things.length:=by simpa using h1
   have q:=hi k hkl h2
   rcases hk with⟨rfl,rfl⟩|⟨rfl,rfl⟩
   ·have e:(⟨b,off,nO⟩:Addr).add (k * 2)=⟨b,off+k * 2,nO⟩:=by unfold Addr.add;split<;>simp_all
    rw[e,hx.cell (by simpa using hbz)]
    simpa using q.1
   ·have e:(⟨b,off,nO⟩:Addr).add (k * 2+1)=⟨b,off+k * 2+1,nO⟩:=by unfold Addr.add;split<;>simp_all[Nat.add_assoc]
    rw[e,hx.cell (by simpa using hbz)]
    exact q.2) (λv hv=>by
  obtain⟨i,hi,rfl⟩:=X5 hv
  obtain⟨f,fc,e,-⟩:=hfo2 i (by omega) hi
  rw[e]
  rfl) (by simp;omega))
 have H4:=aF (λ(wx:World) (hx:Below w.heap.size w wx) (k:Nat) (hk:k < r.things.length) (f:Option Addr) (fc:Nat) (hf:ValsAt w f r.things[k].fs)=>rW f fc r.things[k].fs wx (hf.below hx (lR _)) (by have:=hf3 _ (gM hk);omega))
 have HF:=aF hfo2
 clear hr hfo2 hfo3 hf3
 obtain⟨⟨r0,r1,r2,r3,r4,r5⟩,rz,rf⟩:=id Q0
 have g1:=rf 1
 clear rf
 go_enter Tryz.func45,Tryz.ntmps45
 go_wp2_with (go_at_call 83;fail)
 generalize ((w.alloc (Cc #[.int .i64 r.at_,U vs r.vars.length vc,U ts r.things.length tc,.int .i64 r.taken,U ls r.lines.length lc,.int .i64 r.fin] 33)).alloc (Cc #[.int .i64 0,U nO 0 0,U nO 0 0,.int .i64 0,U nO 0 0,.int .i64 0] 33))=w2 at *
 refine H1.out.mono ?_
 rintro e w3 ⟨vv,rfl,ov,hb3⟩
 clear H1 r0 r1 r2 r3 r4 r5 rz g1
 obtain⟨vs1,vc1,rfl,-⟩:=ValRow.at ov
 rw[hz2] at ov
 have QA:=(Q0.call hb3).put1 (U vs1 r.vars.length vc1)
 have ZA:=(Z0.call hb3).far (a:=⟨w.heap.size,1,nO⟩) (by simp) (U vs1 r.vars.length vc1)
 have BA:Below w.heap.size w (w3.setCell ⟨w.heap.size,1,nO⟩ (U vs1 r.vars.length vc1)):=(hb0.trans (hb3.mono hb0.size)).setCell (by simp) _
 have OA:ValRow (w3.setCell ⟨w.heap.size,1,nO⟩ (U vs1 r.vars.length vc1)) (w.heap.size+1+1) (U vs1 r.vars.length vc1) r.vars:=dn ov (dJ ov (by simp only;omega)) _
 have q1:=(Q0.call hb3).1.2.1
 have g1:=(Q0.call hb3).2.2 1
 have q4:=(Q0.call hb3).1.2.2.2.2.1
 have zA:w.heap.size+1+1≤(w3.setCell ⟨w.heap.size,1,nO⟩ (U vs1 r.vars.length vc1)).heap.size:=by have:=hb3.size;simp[j9];omega
 clear Q0 Z0 ov hb3
 go_wp2_with (go_at_call 84;fail)
 generalize w3.setCell ⟨w.heap.size,1,nO⟩ (U vs1 r.vars.length vc1)=w4 at *
 refine(H2.out w4 BA).mono ?_
 rintro e w5 ⟨lv,rfl,ol,hb5⟩
 clear H2 q1 g1 q4
 obtain⟨ls1,lc1,rfl,-⟩:=StrRow.at ol
 have q4:=(QA.call hb5).1.2.2.2.2.1
 have g4:=(QA.call hb5).2.2 4
 have q2:=(QA.call hb5).1.2.2.1
 have QB:=(QA.call hb5).put4 (U ls1 r.lines.length lc1)
 have ZB:=(ZA.call hb5).far (a:=⟨w.heap.size,4,nO⟩) (by simp) (U ls1 r.lines.length lc1)
 have BB:Below w.heap.size w (w5.setCell ⟨w.heap.size,4,nO⟩ (U ls1 r.lines.length lc1)):=(BA.trans (hb5.mono BA.size)).setCell (by simp) _
 have OB:=dn (a:=⟨w.heap.size,4,nO⟩) (eJ OA hb5) (dJ OA (by simp only;omega)) (U ls1 r.lines.length lc1)
 have LB:=dn (a:=⟨w.heap.size,4,nO⟩) ol (dJ ol (by simp only;omega)) (U ls1 r.lines.length lc1)
 have apB:∀x,(j2 vs1 r.vars.length vc1).ownBlock=sO x→(j2 ls1 r.lines.length lc1).ownBlock≠sO x:=λx hx=>dJ ol (aM OA hx).1
 have zB:w.heap.size+1+1≤(w5.setCell ⟨w.heap.size,4,nO⟩ (U ls1 r.lines.length lc1)).heap.size:=by have:=hb5.size;simp[j9];omega
 have LB':=cC LB zA
 clear QA ZA BA OA ol hb5 LB
 go_wp2_with (go_at_call 85;fail)
 generalize w5.setCell ⟨w.heap.size,4,nO⟩ (U ls1 r.lines.length lc1)=w6 at *
 have H3':=H3.out w6 BB
 simp only[Z7] at H3'
 refine H3'.mono ?_
 rintro e w7 ⟨tv,rfl,ot,hb7⟩
 clear H3 H3' q4 g4 q2
 have etv:∃ts1 tc1,tv=U ts1 r.things.length tc1:=by
  rcases ot.2 with⟨hv,hn⟩|⟨g,cap,cur,hv,_⟩
  ·exact⟨nO,0,by rw[hv,hn]⟩
  ·exact⟨_,_,hv⟩
 obtain⟨ts1,tc1,rfl⟩:=etv
 have q2:=(QB.call hb7).1.2.2.1
 have g2:=(QB.call hb7).2.2 2
 have IV:CpInv w (w7.setCell ⟨w.heap.size,2,nO⟩ (U ts1 r.things.length tc1)) r fo [] (U vs1 r.vars.length vc1) (U ts1 r.things.length tc1) (U ls1 r.lines.length lc1):=by
  refine⟨(BB.trans (hb7.mono BB.size)).setCell (by simp) _,(QB.call hb7).put2 _,(ZB.call hb7).far (by simp) _,dn (eJ OB hb7) (dJ OB (by simp only;omega)) _,dn (eJ LB' hb7) (dJ LB' (by simp only;omega)) _,?_,j8 _,hfo1,λj hj=>by simp at hj,?_⟩
  ·simp only[X6,Q5,Q7]
   exact dn (cC ot zB) (dJ ot (by simp only;omega)) _
  ·have n1:∀x,(j2 vs1 r.vars.length vc1).ownBlock=sO x→(j2 ts1 r.things.length tc1).ownBlock≠sO x:=λx hx=>dJ ot (aM OB hx).1
   have n2:∀x,(j2 ls1 r.lines.length lc1).ownBlock=sO x→(j2 ts1 r.things.length tc1).ownBlock≠sO x:=λx hx=>dJ ot (aM LB' hx).1
   refine x7.2 ⟨λb hb x hx e=> ?_,x7.2 ⟨λb hb x hx e=> ?_,x7.2 ⟨λb hb=>(by cases hb),List.Pairwise.nil⟩⟩⟩
   ·rcases j5.1 hb with rfl|hb
    ·exact n1 x hx e
    ·rcases j5.1 hb with rfl|hb
     ·exact apB x hx e
     ·cases hb
   ·rcases j5.1 hb with rfl|hb
    ·exact n2 x e hx
    ·cases hb
 have HIV:=aF IV
 clear QB ZB BB OB LB' apB ot hb7 IV zA zB
 go_upto_region 4 with fail
 generalize w7.setCell ⟨w.heap.size,2,nO⟩ (U ts1 r.things.length tc1)=w8 at *
 obtain⟨⟨-,-,p2,-,-,-⟩,-,-⟩:=HIV.out.run
 clear q2 g2
 have hlen:(r.things.length:Int)≤9223372036854775807:=by omega
 go_wp2
 go_loopw [19] (λi wr=>∃fn:List Value,fn.length≤r.things.length∧i=.int .i64 fn.length∧CpInv w wr r fo fn (U vs1 r.vars.length vc1) (U ts1 r.things.length tc1) (U ls1 r.lines.length lc1)) (λi _=>r.things.length - (intOf i).toNat)
 case atStart=>exact⟨[],j8 _,rfl,HIV.out⟩
 case round=>
  obtain⟨fn,hle,rfl,hI⟩:=hrel
  by_cases hlt:fn.length < r.things.length
  ·obtain⟨gt,cg,egt,hgB,hgz⟩:=hI.things.form (by omega)
   cases egt
   have n0:(0:Int)≤(fn.length:Int):=by omega
   have n1:(fn.length:Int) < (r.things.length:Int):=by omega
   obtain⟨f,fc,efo,hff⟩:=HF.out fn.length hlt (by omega)
   have ct:wr.cell? ⟨gt,fn.length * 2+1,nO⟩=sO (U f r.things[fn.length].fs.length fc):=by
    rw[hI.things.cellAt (fn.length * 2+1) (by omega)]
    have hfl:(fn++fo.drop fn.length).length=(r.things.map (·.site)).length:=by have:=hI.old;simp;omega
    rw[fu _ _ hfl fn.length (by rw[hfl];simpa using hlt),←efo]
    congr 1
    rw[List.getElem_append_right (lR _)]
    simp
   have fz:=hI.things.frozenAt (fn.length * 2+1)
   have cr:=hI.run.1.2.2.1
   have hrz:=hI.run.2.1
   have hne:w.heap.size≠gt:=by omega
   have KZ:∀wx,Below wr.heap.size wr wx→wx.cell? ⟨w.heap.size,2,nO⟩=sO (U (sO ⟨gt,0,nO⟩) r.things.length tc1)∧wx.cell? ⟨gt,fn.length * 2+1,nO⟩=sO (U f r.things[fn.length].fs.length fc):=λwx hx=>⟨by rw[hx.cell (by simpa using hrz)];exact cr,by rw[hx.cell (by simpa using hgz)];exact ct⟩
   have HC:=aF (H4.out wr.drew hI.low.drew fn.length hlt f fc hff)
   have HN:=aF (λ(w1:World) (v':Value) (hb:Below wr.heap.size wr w1) (hv:ValRow w1 wr.heap.size v' r.things[fn.length].fs)=>hI.step hlt hb hv)
   clear hI hff efo
   generalize hkk:fn.length=k at *
   go_wp2
   refine au (S:=(λwx=>wx.cell? ⟨w.heap.size,2,nO⟩=sO (U (sO ⟨gt,0,nO⟩) r.things.length tc1)∧wx.cell? ⟨gt,k * 2+1,nO⟩=sO (U f r.things[k].fs.length fc))) [12] (by kernel_rfl) (KZ _ (bR _ _).drew) (λhHeld=> ?_)
   refine vZ 0 ?_ ?_
   refine vZ 1 ?_ ?_
   refine vZ 2 ?_ ?_
   refine vZ 3 ?_ ?_
   refine vZ 4 ?_ ?_
   refine vZ 5 ?_ ?_
   refine vZ 6 ?_ ?_
   refine vZ 7 ?_ ?_
   refine vZ 8 ?_ ?_
   refine an (i:=9) rfl (by kernel_rfl) (λK hK=> ?_)
   go_simp
   go_at_call 83
   refine HC.out.mono ?_
   rintro e w9 ⟨v',rfl,ov,hb9⟩
   have HB9:Below wr.heap.size wr w9:=Below.trans (bR _ _).drew hb9
   have evv:∃a b,v'=U a r.things[k].fs.length b:=by
    obtain⟨a,b,e,-⟩:=ValRow.at (w:=w9) (B:=wr.heap.size) ov
    exact⟨a,b,e⟩
   obtain⟨va,vb,rfl⟩:=evv
   go_wp2_with fail
   refine hK.out _ _ (KZ _ HB9) (λhHeld=> ?_)
   clear hK K HC
   refine sm ?_
   refine vZ 10 ?_ ?_
   refine vZ 11 ?_ ?_
   refine aL (i:=12) rfl (by kernel_rfl) (by kernel_rfl) (λK hK=> ?_)
   have c9:w9.cell? ⟨gt,k * 2+1,nO⟩=sO (U f r.things[k].fs.length fc):=(KZ _ HB9).2
   have d9:w9.frozen? ⟨gt,k * 2+1,nO⟩=false:=by rw[HB9.frozen (by simpa using hgz)];exact fz
   go_simp
   refine hK.out _ _ ?_
   clear hK K
   refine sm ?_
   refine aq (by kernel_rfl) ?_ _
   have HI9:=aF (HN.out w9 _ HB9 ov)
   clear HN
   go_wp2
   go_roundw
   case rel=>exact⟨fn++[U va r.things[k].fs.length vb],by simp;omega,by simp[hkk],HI9.out⟩
   case measure=>simp[intOf];omega
  ·have hn:fn.length=r.things.length:=by omega
   have OR:=hI.rows hn
   have HL:=hI.low
   obtain⟨⟨r0,r1,r2,r3,r4,r5⟩,rz,rf⟩:=id hI.run
   obtain⟨⟨z0,z1,z2,z3,z4,z5⟩,zz,zf⟩:=id hI.res
   have g0:=zf 0
   have g1:=zf 1
   have g2:=zf 2
   have g3:=zf 3
   have g4:=zf 4
   have g5:=zf 5
   have HY:=aF (And.intro ((OR.set6 (b:=w.heap.size+1) (by omega) (.int .i64 r.at_) (U vs1 r.vars.length vc1) (U ts1 r.things.length tc1) (.int .i64 r.taken) (U ls1 r.lines.length lc1) (.int .i64 r.fin)).down (show w.heap.size≤w.heap.size+1+1 by omega)) (dU HL (show w.heap.size≤w.heap.size+1 by omega) (.int .i64 r.at_) (U vs1 r.vars.length vc1) (U ts1 r.things.length tc1) (.int .i64 r.taken) (U ls1 r.lines.length lc1) (.int .i64 r.fin)))
   clear hI OR HL rf zf HF H4 HIV
   go_wp2
   refine bodyPost_ret (v:=Ag #[.int .i64 r.at_,U vs1 r.vars.length vc1,U ts1 r.things.length tc1,.int .i64 r.taken,U ls1 r.lines.length lc1,.int .i64 r.fin]) (by simp[results,Tryz.results45,go_sem,z0,z1,z2,z3,z4,z5]) rfl ?_
   exact⟨_,_,_,fn,rfl,HY.out.1,HY.out.2⟩
end
end Go.Proofs.YtmapdpcfanecdabGreatDoor
