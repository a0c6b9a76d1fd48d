/- For every program, list of inputs and fuel that the law AlarmSound is handed, it returns true and leaves them as they were: where a run is wrong, or fails, there is that alarm; no run comes where it is idle; of what is sure no run is ever wrong, or fails. No condition but the row's own: the listed package-level variables hold what the program's text lays. -/
import Derived.Test.YtmapdpcfanecdabGreatDoorM53
import Derived.ChangeMaps5
open Go.Ending renaming returned→Rt
open Go.IntKind renaming i64→Y
open Go.Obj renaming cells→Cc
open Go.Proofs.Tryz renaming prog→pG
open Go.RowKit.Below renaming refl→bR
open Go.Value renaming agg→Ag,bool→Bb,int→I,pointer→Pp,slice→U,tuple→Tu
open Go.World renaming size_alloc→zA
open List renaming any_eq_true→j0,getElem_mem→gM
open Nat renaming le_refl→lR
open Option renaming none→nO,some→j1,some→sO
set_option linter.unusedSimpArgs false
set_option linter.unusedVariables false
set_option maxHeartbeats 80000000
set_option maxRecDepth 100000
namespace Go.Proofs.YtmapdpcfanecdabGreatDoor
section
open Go.RowKit
attribute [local go_sem ↓] Go.wp_at_zero Go.wp_at_succ
def lZ (s:ByteArray)(e:Ending):Prop:=(4000 < s.size∧e=Rt (Tu #[.string ⟨#[]⟩,I Y 2]))∨(s.size≤4000∧(aZ s).2.2≠0∧e=Rt (Tu #[.string (BU (aZ s).2.1),I Y 0]))∨(s.size≤4000∧(aZ s).2.2=0∧ai (aZ s).1.1 (aZ s).1.2.1 (aZ s).1.2.2=0∧∃m,SolvedAt (aZ s).1.1 (aZ s).1.2.1 (aZ s).1.2.2 m∧e=Rt (Tu #[.string (dx (aG (aZ s).1.2.2 (aD (aZ s).1.1 (aZ s).1.2.1 (aZ s).1.2.2 m) (aZ s).1.2.2.length)),I Y 0]))
theorem tW {s:ByteArray}(hs:s.size≤4000)(h:(aZ s).2.2=0):ai (aZ s).1.1 (aZ s).1.2.1 (aZ s).1.2.2=0:=by
 unfold aZ at h ⊢
 rw[if_neg (by omega)] at h ⊢
 split at h
 ·cases h
 ·rename_i V F c _
  by_cases hk:ai V F c=0
  ·simp only[hk,if_true]
  ·simp only[hk,if_false] at h
theorem Ct (s:ByteArray)(w:World)(hl:kZ (aZ s).2.1)(ht:Tab w)(hm:Cap w)(hE:ErrS w):
  Calls pG 25 #[.string s] w λe w'=>lZ s e∧Below w.heap.size w w':=by
 by_cases hs:4000 < s.size
 ·have HR:Hid (lZ s (Rt (Tu #[.string ⟨#[]⟩,I Y 2]))):=.inl ⟨hs,rfl⟩
  have n1:(4000:Int) < (s.size:Int):=by omega
  clear hs
  go_enter Tryz.func25,Tryz.ntmps25
  go_wp2
  refine bodyPost_ret (v:=Tu #[.string ⟨#[]⟩,I Y 2]) (by simp[results,Tryz.results25,go_sem]) rfl ?_
  exact⟨HR.out,bR _ _⟩
 have n1:¬(4000:Int) < (s.size:Int):=by omega
 have HP:=aa (CH s w ht hm hE)
 have HRE:Hid ((aZ s).2.2≠0→lZ s (Rt (Tu #[.string (BU (aZ s).2.1),I Y 0]))):=λh=>.inr (.inl ⟨by omega,h,rfl⟩)
 have HCK:Hid ((aZ s).2.2=0→ai (aZ s).1.1 (aZ s).1.2.1 (aZ s).1.2.2=0):=tW (by omega)
 have HRO:Hid ((aZ s).2.2=0→∀m,SolvedAt (aZ s).1.1 (aZ s).1.2.1 (aZ s).1.2.2 m→lZ s (Rt (Tu #[.string (dx (aG (aZ s).1.2.2 (aD (aZ s).1.1 (aZ s).1.2.1 (aZ s).1.2.2 m) (aZ s).1.2.2.length)),I Y 0]))):=λh m hm=>.inr (.inr ⟨by omega,h,tW (by omega) h,m,hm,rfl⟩)
 clear hs
 generalize lZ s=RA at *
 generalize (aZ s).1.1=V at *
 generalize (aZ s).1.2.1=F at *
 generalize (aZ s).1.2.2=c at *
 generalize (aZ s).2.1=ln at *
 generalize (aZ s).2.2=er at *
 go_enter Tryz.func25,Tryz.ntmps25
 go_wp2_with (go_at_call 60;fail)
 refine HP.out.mono ?_
 rintro e w1 ⟨v,rfl,hown,hb1⟩
 obtain⟨sa,sc,rfl,hc1⟩:=iA hown
 clear HP hown
 have hba:Below w1.heap.size w1 (w1.alloc (Cc #[I Y V,I Y F,U sa c.length sc] 24)):=by go_grown
 have X2:Cells (w1.alloc (Cc #[I Y V,I Y F,U sa c.length sc] 24)) w1.heap.size [I Y V,I Y F,U sa c.length sc]:=Cells.new w1 _ [_,_,_]
 have B2:=hb1.trans (hba.mono hb1.size)
 have C2:=hc1.call hba
 clear hc1 hba
 go_upto_region 4 with fail
 generalize w1.alloc (Cc #[I Y V,I Y F,U sa c.length sc] 24)=w2 at *
 by_cases he:er=0
 rotate_left
 ·have f1:(er !=0)=true:=by simpa using he
  have HR:=aa (HRE.out he)
  clear he HRE HRO HCK
  go_wp2_with (go_at_call 61;fail)
  refine(tG ln w2 hl (ht.below B2)).mono ?_
  rintro e w3 ⟨rfl,hb3⟩
  have B3:=B2.trans (hb3.mono B2.size)
  go_wp2
  refine bodyPost_ret (v:=Tu #[.string (BU ln),I Y 0]) (by simp[results,Tryz.results25,go_sem]) rfl ?_
  exact⟨HR.out,B3⟩
 have h0:=HCK.out he
 have HR:=aa (HRO.out he)
 subst he
 clear HRE HRO HCK
 have x0:=X2.1 0 _ rfl
 have x1:=X2.1 1 _ rfl
 have x2:=X2.1 2 _ rfl
 have HAL:=aa (iJ V F sa c sc w2 C2)
 have h60:=(bM h0).2.2
 go_wp2_with (go_at_call 20;fail)
 refine HAL.out.mono ?_
 rintro e w3 ⟨hans,hb3⟩
 clear HAL x0 x1 x2 X2 C2
 have B3:=B2.trans (hb3.mono B2.size)
 clear B2 hb3
 rcases hans with⟨hx,-⟩|⟨-,m,a,ac,hsv,rfl,hO⟩
 ·exact absurd h0 hx
 have HRR:=aa (HR.out m hsv)
 have HFI:Hid (∀q∈aG c (aD V F c m) c.length,kZ q.1):=λq hq=>by have:=ox hq;exact⟨by omega,by omega⟩
 have HAS:=aa (lu hO)
 have hll:(aG c (aD V F c m) c.length).length≤180:=by have:=fV (c:=c) (L:=aD V F c m) (k:=c.length);omega
 clear hsv hO HR h0
 generalize aG c (aD V F c m) c.length=A at *
 have HLE:Hid (∀k,k≤A.length→(dx (A.take k)).size≤40 * k):=λk hk=>nz HFI.out hk
 have HTB:=aa (ht.below B3)
 clear ht hm hE
 have hb4:Below w3.heap.size w3 (w3.alloc (Cc #[Pp nO,U nO 0 0] 122)):=by go_grown
 have F4:Lib.IsBuilder 122 5 w3.heap.size w3.heap.size (Lib.strCells (dx (A.take 0))) (w3.alloc (Cc #[Pp nO,U nO 0 0] 122)):=.inl ⟨lR _,_,(MapKept.heap_alloc w3 _).1,⟨rfl,.inl ⟨rfl,rfl⟩⟩,(by intro h;cases h)⟩
 go_upto_region 8 with fail
 generalize w3.alloc (Cc #[Pp nO,U nO 0 0] 122)=w4 at *
 go_wp2
 go_loopw [32] (λi wr=>∃k:Nat,k≤A.length∧i=I Y k∧Hid (Lib.IsBuilder 122 5 w3.heap.size w3.heap.size (Lib.strCells (dx (A.take k))) wr)∧Below w3.heap.size w3 wr) (λi _=>A.length - (intOf i).toNat)
 case atStart=>exact⟨0,Nat.zero_le _,rfl,F4,hb4⟩
 case round=>
  clear F4 hb4
  obtain⟨k,hk,rfl,HB,BR⟩:=hrel
  have s1:=BR.size
  by_cases hlt:k < A.length
  rotate_left
  ·have n2:¬(k:Int) < (A.length:Int):=by omega
   have ek:A.take k=A:=List.take_of_length_le (by omega)
   have hS:Calls pG 64 #[Pp (sO ⟨w3.heap.size,0,nO⟩)] wr λe w'=>e=Rt (.string (dx A))∧Below w3.heap.size wr w':=by
    have h:=HB.out
    rw[ek] at h
    exact Tryz.Builder_String_any w3.heap.size w3.heap.size _ wr h s1
   have HS:=aa hS
   clear hS ek HB
   go_wp2_with (go_at_call 64;fail)
   refine HS.out.mono ?_
   rintro e w7 ⟨rfl,hb7⟩
   go_wp2
   refine bodyPost_ret (v:=Tu #[.string (dx A),I Y 0]) (by simp[results,Tryz.results25,go_sem]) rfl ?_
   exact⟨HRR.out,B3.trans ((BR.trans hb7).mono B3.size)⟩
  have n0:(0:Int)≤(k:Int):=by omega
  have n2:(k:Int) < (A.length:Int):=by omega
  obtain⟨b,rfl,hz,c0,c1⟩:=HAS.out.below BR k hlt
  have hfa:=HFI.out _ (gM hlt)
  have HNX:=aa (ow hlt)
  have hsz:(Lib.strCells (dx (A.take k))).length+(iZ A[k]).size≤140737488355328:=by
   have h1:=HLE.out k hk
   have h2:=pg hfa
   rw[Lib.strCells_length]
   omega
  obtain⟨⟨a1,d1⟩,ea⟩:∃q,q=A[k]:=⟨_,rfl⟩
  rw[←ea] at c0 c1 hfa HNX hsz
  clear ea HAS
  have hba:Below wr.heap.size wr (wr.alloc (Cc #[I Y a1,I Y d1] 62)):=by go_grown
  have X5:Cells (wr.alloc (Cc #[I Y a1,I Y d1] 62)) wr.heap.size [I Y a1,I Y d1]:=Cells.new wr _ [_,_]
  have B5:=BR.trans (hba.mono BR.size)
  have HB5:Hid (Lib.IsBuilder 122 5 w3.heap.size w3.heap.size (Lib.strCells (dx (A.take k))) (wr.alloc (Cc #[I Y a1,I Y d1] 62))):=HB.out.imp (λh=>gJ h hba) (λh=>gJ h hba)
  clear HB hba BR
  go_upto_region 11 with fail
  generalize wr.alloc (Cc #[I Y a1,I Y d1] 62)=w5 at *
  clear c0 c1
  have x0:=X5.1 0 _ rfl
  have x1:=X5.1 1 _ rfl
  go_wp2_with (go_at_call 63;fail)
  refine(tM a1 d1 w5 hfa (HTB.out.below B5)).mono ?_
  rintro e w6 ⟨rfl,hb6⟩
  have HB6:Hid (Lib.IsBuilder 122 5 w3.heap.size w3.heap.size (Lib.strCells (dx (A.take k))) w6):=HB5.out.imp (λh=>gJ h hb6) (λh=>gJ h hb6)
  have B6:=B5.trans (hb6.mono B5.size)
  clear HB5 hb6 X5 x0 x1 B5
  have HWS:=aa (sE w3.heap.size w3.heap.size _ (iZ (a1,d1)) w6 HB6.out hsz B6.size)
  clear HB6 hsz
  generalize iZ (a1,d1)=ab at *
  go_wp2_with (go_at_call 62;fail)
  refine HWS.out.mono ?_
  rintro e w7 ⟨rfl,ha7,hb7⟩
  have HB7:Hid (Lib.IsBuilder 122 5 w3.heap.size w3.heap.size (Lib.strCells (dx (A.take (k+1)))) w7):=by
   show Lib.IsBuilder _ _ _ _ _ _
   rw[HNX.out,rS]
   exact .inr ha7
  clear ha7 HWS
  go_wp2
  go_roundw
  case rel=>exact⟨k+1,by omega,by go_num,HB7.out,B6.trans hb7⟩
  case measure=>simp[intOf];omega
theorem oy {A:List (Int×Int)}{k kind:Int}{b:Bool}{a:Int×Int}:a∈dP A k kind b↔a∈A∨(b=true∧a=(k,kind)):=by
 unfold dP
 cases b<;>simp
theorem alarmsTo_in {c:List Ins}{L:List Pic}{k d:Int}:∀{n:Nat},(k,d)∈aG c L n↔(0≤k∧k < n)∧((d=1∧(aA (aO c k) k (aU L k)).2.1=true)∨(d=2∧(aA (aO c k) k (aU L k)).2.2=true)∨(d=3∧(aU L k).none=true))
 |0=>by simp[aG];omega
 |n+1=>by
  rw[gL]
  unfold kO
  rw[oy,oy,oy,alarmsTo_in (n:=n)]
  simp only[Prod.mk.injEq]
  constructor
  ·rintro (((⟨⟨h1,h2⟩,h3⟩|⟨hb,rfl,rfl⟩)|⟨hb,rfl,rfl⟩)|⟨hb,rfl,rfl⟩)
   ·exact⟨⟨h1,by omega⟩,h3⟩
   ·exact⟨⟨by omega,by omega⟩,.inl ⟨rfl,hb⟩⟩
   ·exact⟨⟨by omega,by omega⟩,.inr (.inl ⟨rfl,hb⟩)⟩
   ·exact⟨⟨by omega,by omega⟩,.inr (.inr ⟨rfl,hb⟩)⟩
  ·rintro ⟨⟨h1,h2⟩,h3⟩
   by_cases e:k=n
   ·subst e
    rcases h3 with⟨rfl,h⟩|⟨rfl,h⟩|⟨rfl,h⟩
    ·exact .inl (.inl (.inr ⟨h,rfl,rfl⟩))
    ·exact .inl (.inr ⟨h,rfl,rfl⟩)
    ·exact .inr ⟨h,rfl,rfl⟩
   ·exact .inl (.inl (.inl ⟨⟨h1,by omega⟩,h3⟩))
def addC:List Ins:=[⟨5,0,0,0,0,0⟩,⟨18,0,0,0,0,0⟩]
def expC:List Ins:=[⟨17,0,0,0,0,0⟩]
theorem Cf:SolvedAt 1 0 addC 0:=⟨λk hk=>absurd hk (by omega),by decide+kernel⟩
theorem Bo:SolvedAt 1 0 expC 0:=⟨λk hk=>absurd hk (by omega),by decide+kernel⟩
theorem Bm:aG addC (aD 1 0 addC 0) addC.length=[(0,1),(1,3)]:=by decide+kernel
theorem AO:aG expC (aD 1 0 expC 0) expC.length=[(0,2)]:=by decide+kernel
theorem DY:aG smallC (aD 1 0 smallC 1) smallC.length=[]:=by decide+kernel
theorem add_ck:ai 1 0 addC=0∧ai 1 0 expC=0:=by decide+kernel
theorem FC (kind at_:Int)(lb rb:Nat)(a:Option Addr)(ac:Nat)(A:List (Int×Int))(rv:List Value)(w:World)(hl:A.length≤1000)(hL:Cells w lb [U a A.length ac])(hR:Cells w rb (I Y at_::rv))(hs:AlsAt w a A):
  Calls pG 28 #[I Y kind,Pp (sO ⟨lb,0,nO⟩),Pp (sO ⟨rb,0,nO⟩)] w λe w'=>e=Rt (Bb (A.any λx=>x.1==at_&&x.2==kind))∧Below w.heap.size w w':=by
 have HS:=aa hs
 clear hs
 go_enter Tryz.func28,Tryz.ntmps28
 go_wp2
 go_loopw [5] (λi wr=>∃k:Nat,k≤A.length∧i=I Y k∧Below w.heap.size w wr∧Hid ((A.any λx=>x.1==at_&&x.2==kind)=((A.drop k).any λx=>x.1==at_&&x.2==kind))) (λi _=>A.length - (intOf i).toNat)
 case atStart=>exact⟨0,Nat.zero_le _,rfl,bR _ _,by show _=_;rw[List.drop_zero]⟩
 case round=>
  obtain⟨k,hk,rfl,BR,HA⟩:=hrel
  have LR:=hL.call BR
  have RR:=hR.call BR
  have l0:=LR.1 0 _ rfl
  by_cases hlt:k < A.length
  rotate_left
  ·have n1:¬(k:Int) < (A.length:Int):=by omega
   have HF:Hid ((A.any λx=>x.1==at_&&x.2==kind)=false):=by show _=_;rw[HA.out,List.drop_eq_nil_of_le (by omega)];rfl
   clear HA
   go_wp2
   go_ret
   exact⟨by rw[HF.out];rfl,BR⟩
  have n0:(0:Int)≤(k:Int):=by omega
  have n1:(k:Int) < (A.length:Int):=by omega
  obtain⟨b,rfl,hz,c0,c1⟩:=HS.out.below BR k hlt
  have HN:=aa (tX A (λx=>x.1==at_&&x.2==kind) k hlt)
  clear HS
  obtain⟨⟨a1,d1⟩,ea⟩:∃q,q=A[k]:=⟨_,rfl⟩
  rw[←ea] at c0 c1 HN
  clear ea
  have BD:Below wr.heap.size wr wr.drew:=(bR _ _).drew
  have HKZ:Hid (wr.drew.cell? ⟨lb,0,nO⟩=sO (U (sO ⟨b,0,nO⟩) A.length ac)∧wr.drew.cell? ⟨rb,0,nO⟩=sO (I Y at_)∧(wr.drew.cell? ⟨b,k * 2,nO⟩=sO (I Y a1)∧wr.drew.cell? ⟨b,k * 2+1,nO⟩=sO (I Y d1))):=⟨(LR.call BD).1 0 _ rfl,(RR.call BD).1 0 _ rfl,by rw[BD.cell (by simp only;exact hz)];exact c0,by rw[BD.cell (by simp only;exact hz)];exact c1⟩
  clear c0 c1
  go_upto_region 4 with fail
  refine au (S:=(λwx=>wx.cell? ⟨lb,0,nO⟩=sO (U (sO ⟨b,0,nO⟩) A.length ac)∧wx.cell? ⟨rb,0,nO⟩=sO (I Y at_)∧(wx.cell? ⟨b,k * 2,nO⟩=sO (I Y a1)∧wx.cell? ⟨b,k * 2+1,nO⟩=sO (I Y d1)))) [] (by kernel_rfl) HKZ.out (λhHeld=> ?_)
  refine vZ 0 ?_ ?_
  refine vZ 1 ?_ ?_
  refine vZ 2 ?_ ?_
  refine vZ 3 ?_ ?_
  refine vZ 4 ?_ ?_
  refine vZ 5 ?_ ?_
  refine vZ 6 ?_ ?_
  refine vZ 7 ?_ ?_
  refine tZ 8 (Bb (a1==at_&&d1==kind)) ?_ (hy:=by(intro w hSw;(try dsimp only at hSw);go_simp;by_cases e1:a1=at_<;>by_cases e2:d1=kind<;>simp[e1,e2]))
  refine sm ?_
  refine aq (by kernel_rfl) ?_ _
  have B4:=BR.trans (BD.mono BR.size)
  clear BR LR RR l0 hHeld HKZ BD
  generalize wr.drew=wd at *
  cases hp:(a1==at_&&d1==kind) with
  |true=>
   have HT:Hid ((A.any λx=>x.1==at_&&x.2==kind)=true):=by show _=_;rw[HA.out,HN.out];simp only[hp,Bool.true_or]
   clear HN HA
   go_wp2
   go_ret
   exact⟨by rw[HT.out];rfl,B4⟩
  |false=>
   have HT:Hid ((A.any λx=>x.1==at_&&x.2==kind)=((A.drop (k+1)).any λx=>x.1==at_&&x.2==kind)):=by show _=_;rw[HA.out,HN.out];simp only[hp,Bool.false_or]
   clear HN HA
   go_wp2
   go_roundw
   case rel=>exact⟨k+1,by omega,by go_num,B4,HT⟩
   case measure=>simp[intOf];omega
def AY:ByteArray:=⟨#[118,97,114,115,32,49,32,102,105,101,108,100,115,32,48,10,101,120,112,101,99,116,32,48,10]⟩
theorem nU:aZ AY=((1,0,expC),0,0):=by kernel_rfl
theorem EC:dx [(0,2)]=⟨#[48,32,102,97,105,108,101,100,10]⟩:=by decide+kernel
theorem Ei (b:Nat)(w:World)(hc:CodeAt w (sO ⟨b,0,nO⟩) addC):Calls pG 20 #[pv 1 0 (sO ⟨b,0,nO⟩) addC 2] w λe w'=>(∃q ac,e=Rt (Tu #[U (sO ⟨q,0,nO⟩) 2 ac,I Y 0])∧q < w'.heap.size∧w'.cell? ⟨q,0,nO⟩=sO (I Y 0)∧w'.cell? ⟨q,1,nO⟩=sO (I Y 1)∧w'.cell? ⟨q,2,nO⟩=sO (I Y 1)∧w'.cell? ⟨q,3,nO⟩=sO (I Y 3))∧Below w.heap.size w w':=by
 refine(iJ 1 0 (sO ⟨b,0,nO⟩) addC 2 w hc).mono ?_
 rintro e w' ⟨h,hb⟩
 refine⟨?_,hb⟩
 rcases h with⟨h,_⟩|⟨_,m,a,ac,hs,rfl,hO⟩
 ·exact absurd add_ck.1 h
 ·obtain rfl:=hs.one Cf
  rw[Bm] at hO ⊢
  have h:=lu (A:=[(0,1),(1,3)]) hO
  obtain⟨q,rfl,hz,c0,c1⟩:=h 0 (by simp)
  obtain⟨q2,e2,_,c2,c3⟩:=h 1 (by simp)
  cases e2
  exact⟨q,ac,rfl,hz,c0,c1,c2,c3⟩
theorem Ea (b:Nat)(w:World)(hc:CodeAt w (sO ⟨b,0,nO⟩) smallC):Calls pG 21 #[pv 1 0 (sO ⟨b,0,nO⟩) smallC 2] w λe w'=>e=Rt (Tu #[Bb true,I Y 0])∧Below w.heap.size w w':=by
 refine(vM 1 0 (sO ⟨b,0,nO⟩) smallC 2 w hc).mono ?_
 rintro e w' ⟨h,hb⟩
 refine⟨?_,hb⟩
 rcases h with⟨h,_⟩|⟨_,m,hs,rfl⟩
 ·exact absurd Bp h
 ·obtain rfl:=hs.one vO
  rw[DY]
  rfl
theorem Eg (w:World)(ht:Tab w)(hm:Cap w)(hE:ErrS w):Calls pG 25 #[.string AY] w λe w'=>e=Rt (Tu #[.string ⟨#[48,32,102,97,105,108,101,100,10]⟩,I Y 0])∧Below w.heap.size w w':=by
 refine(Ct AY w (by rw[nU];exact⟨by decide,by decide⟩) ht hm hE).mono ?_
 rintro e w' ⟨h,hb⟩
 refine⟨?_,hb⟩
 unfold lZ at h
 rw[nU] at h
 rcases h with⟨h,_⟩|⟨_,h,_⟩|⟨_,_,_,m,hs,rfl⟩
 ·exact absurd h (by decide+kernel)
 ·exact absurd rfl h
 ·obtain rfl:=hs.one Bo
  simp only
  rw[AO,EC]
theorem tx (w:World)(ht:Tab w)(hm:Cap w)(hE:ErrS w):Calls pG 24 #[] w λe w'=>e=Rt (Bb true)∧Below w.heap.size w w':=by
 have B2:Below w.heap.size w ((w.alloc (Cc #[I Y 5,I Y 0,I Y 0,I Y 0,I Y 0,I Y 0,I Y 18,I Y 0,I Y 0,I Y 0,I Y 0,I Y 0] 100)).alloc (Cc #[I Y 1,I Y 0,U (sO ⟨w.heap.size,0,nO⟩) 2 2] 24)):=by go_grown
 have P2:Cells ((w.alloc (Cc #[I Y 5,I Y 0,I Y 0,I Y 0,I Y 0,I Y 0,I Y 18,I Y 0,I Y 0,I Y 0,I Y 0,I Y 0] 100)).alloc (Cc #[I Y 1,I Y 0,U (sO ⟨w.heap.size,0,nO⟩) 2 2] 24)) (w.heap.size+1) [I Y 1,I Y 0,U (sO ⟨w.heap.size,0,nO⟩) 2 2]:=by
  have h:=Cells.new (w.alloc (Cc #[I Y 5,I Y 0,I Y 0,I Y 0,I Y 0,I Y 0,I Y 18,I Y 0,I Y 0,I Y 0,I Y 0,I Y 0] 100)) 24 [I Y 1,I Y 0,U (sO ⟨w.heap.size,0,nO⟩) 2 2]
  rw[zA] at h
  exact h
 have C2:CodeAt ((w.alloc (Cc #[I Y 5,I Y 0,I Y 0,I Y 0,I Y 0,I Y 0,I Y 18,I Y 0,I Y 0,I Y 0,I Y 0,I Y 0] 100)).alloc (Cc #[I Y 1,I Y 0,U (sO ⟨w.heap.size,0,nO⟩) 2 2] 24)) (sO ⟨w.heap.size,0,nO⟩) addC:=by
  have h:Cells ((w.alloc (Cc #[I Y 5,I Y 0,I Y 0,I Y 0,I Y 0,I Y 0,I Y 18,I Y 0,I Y 0,I Y 0,I Y 0,I Y 0] 100)).alloc (Cc #[I Y 1,I Y 0,U (sO ⟨w.heap.size,0,nO⟩) 2 2] 24)) w.heap.size [I Y 5,I Y 0,I Y 0,I Y 0,I Y 0,I Y 0,I Y 18,I Y 0,I Y 0,I Y 0,I Y 0,I Y 0]:=(Cells.new w 100 [I Y 5,I Y 0,I Y 0,I Y 0,I Y 0,I Y 0,I Y 18,I Y 0,I Y 0,I Y 0,I Y 0,I Y 0]).call (by go_grown)
  refine .inr ⟨_,_,rfl,h.2.1,λk hk=> ?_⟩
  match k,hk with
  |0,_=>exact⟨h.1 0 _ rfl,h.1 1 _ rfl,h.1 2 _ rfl,h.1 3 _ rfl,h.1 4 _ rfl,h.1 5 _ rfl⟩
  |1,_=>exact⟨h.1 6 _ rfl,h.1 7 _ rfl,h.1 8 _ rfl,h.1 9 _ rfl,h.1 10 _ rfl,h.1 11 _ rfl⟩
  |k+2,h=>exact absurd h (by simp[addC])
 have HRP:Hid (∀wx,Below w.heap.size w wx→Calls pG 25 #[.string ⟨#[118,97,114,115,32,49,32,102,105,101,108,100,115,32,48,10,101,120,112,101,99,116,32,48,10]⟩] wx λe w'=>e=Rt (Tu #[.string ⟨#[48,32,102,97,105,108,101,100,10]⟩,I Y 0])∧Below wx.heap.size wx w'):=λwx hb=>Eg wx (ht.below hb) (hm.below hb) (hE.below hb)
 clear ht hm hE
 go_enter Tryz.func24,Tryz.ntmps24
 go_upto_region 2 with fail
 generalize ((w.alloc (Cc #[I Y 5,I Y 0,I Y 0,I Y 0,I Y 0,I Y 0,I Y 18,I Y 0,I Y 0,I Y 0,I Y 0,I Y 0] 100)).alloc (Cc #[I Y 1,I Y 0,U (sO ⟨w.heap.size,0,nO⟩) 2 2] 24))=w2 at *
 have p0:=P2.1 0 _ rfl
 have p1:=P2.1 1 _ rfl
 have p2:=P2.1 2 _ rfl
 go_wp2_with (go_at_call 20;fail)
 refine(Ei _ _ C2).mono ?_
 rintro e w3 ⟨⟨q,ac,rfl,hz,c0,c1,c2,c3⟩,hb3⟩
 have B3:=B2.trans (hb3.mono B2.size)
 clear p0 p1 p2 P2 C2 B2 hb3
 go_wp2_with (go_at_call 39;fail)
 refine(g8 _).mono ?_
 rintro e w4 ⟨b4,rfl,C4,hb4⟩
 go_wp2_with (go_at_call 21;fail)
 refine(Ea _ _ C4).mono ?_
 rintro e w5 ⟨rfl,hb5⟩
 have b35:=hb4.trans (hb5.mono hb4.size)
 have B5:=B3.trans (b35.mono B3.size)
 go_wp2_with (go_at_call 25;fail)
 refine(HRP.out w5 B5).mono ?_
 rintro e w6 ⟨rfl,hb6⟩
 have b36:=b35.trans (hb6.mono b35.size)
 have B6:=B3.trans (b36.mono B3.size)
 have d0:w6.cell? ⟨q,0,nO⟩=sO (I Y 0):=by rw[b36.cell (by simp only;exact hz)];exact c0
 have d1:w6.cell? ⟨q,1,nO⟩=sO (I Y 1):=by rw[b36.cell (by simp only;exact hz)];exact c1
 have d2:w6.cell? ⟨q,2,nO⟩=sO (I Y 1):=by rw[b36.cell (by simp only;exact hz)];exact c2
 have d3:w6.cell? ⟨q,3,nO⟩=sO (I Y 3):=by rw[b36.cell (by simp only;exact hz)];exact c3
 clear c0 c1 c2 c3 HRP C4 hb4 hb5 hb6 b35 b36 B5 B3
 go_wp2
 refine bodyPost_ret (v:=Bb true) (by kernel_rfl) rfl ⟨rfl,B6⟩
theorem any_has {A:List (Int×Int)}{at_ kind:Int}:(A.any λx=>x.1==at_&&x.2==kind)=true↔(at_,kind)∈A:=by
 rw[j0]
 constructor
 ·rintro ⟨⟨a,d⟩,hx,h⟩
  simp only[Bool.and_eq_true,beq_iff_eq] at h
  obtain⟨rfl,rfl⟩:=h
  exact hx
 ·intro h
  exact⟨_,h,by simp⟩
theorem yX {V F:Int}{c:List Ins}{ins:List Int}{m k:Nat}{r:St}(h0:ai V F c=0)(hs:SolvedAt V F c m)(hk:k≤5000)(er:r=(bE V F c ins k).1):
  ((aG c (aD V F c m) c.length).any λx=>x.1==r.at_&&x.2==3)=false∧(r.fin=2→((aG c (aD V F c m) c.length).any λx=>x.1==r.at_&&x.2==1)=true∧((aG c (aD V F c m) c.length).any λx=>x.2 !=3)=true)∧(r.fin=3→((aG c (aD V F c m) c.length).any λx=>x.1==r.at_&&x.2==2)=true∧((aG c (aD V F c m) c.length).any λx=>x.2 !=3)=true):=by
 obtain⟨hr,hsh,h2,h3⟩:=CC (ins:=ins) h0 (dV h0 m) (o9 h0 hs).2 (fuel:=k) (by omega)
 rw[←er] at hr hsh h2 h3
 have hn:=rD hsh
 refine⟨?_,λhf=> ?_,λhf=> ?_⟩
 ·rw[Bool.eq_false_iff]
  intro h
  have:=(alarmsTo_in.1 (any_has.1 h)).2
  rcases this with⟨h,_⟩|⟨h,_⟩|⟨_,h⟩
  ·cases h
  ·cases h
  ·rw[hn] at h;cases h
 ·obtain⟨a,b⟩:=h2 hf
  have hin:=alarmsTo_in.2 ⟨⟨hr.at0,a⟩,.inl ⟨rfl,b⟩⟩
  exact⟨any_has.2 hin,j0.2 ⟨_,hin,by rfl⟩⟩
 ·obtain⟨a,b⟩:=h3 hf
  have hin:=alarmsTo_in.2 ⟨⟨hr.at0,a⟩,.inr (.inl ⟨rfl,b⟩)⟩
  exact⟨any_has.2 hin,j0.2 ⟨_,hin,by rfl⟩⟩
theorem tQ (V F:Int)(s:Option Addr)(c:List Ins)(cap:Nat)(is:Option Addr)(ic:Nat)(ins:List Int)(fuel:Int)(w:World)(hc:CodeAt w s c)(hI:IntsAt w is ins)(hT:Tab w)(hM:Cap w)(hE:ErrS w):
  Calls pG 8 #[pv V F s c cap,U is ins.length ic,I Y fuel] w λe w'=>e=Rt (Bb true)∧Below w.heap.size w w':=by
 have B0:Below w.heap.size w (w.alloc (Cc #[I Y V,I Y F,U s c.length cap] 24)):=by go_grown
 have P0:Cells (w.alloc (Cc #[I Y V,I Y F,U s c.length cap] 24)) w.heap.size [I Y V,I Y F,U s c.length cap]:=Cells.new w _ [_,_,_]
 go_enter Tryz.func8,Tryz.ntmps8
 go_upto_region 1 with fail
 generalize w.alloc (Cc #[I Y V,I Y F,U s c.length cap] 24)=w0 at *
 go_wp2_with (go_at_call 24;fail)
 refine(tx _ (hT.below B0) (hM.below B0) (hE.below B0)).mono ?_
 rintro e w1 ⟨rfl,hb1⟩
 have B1:=B0.trans (hb1.mono B0.size)
 have P1:=P0.call hb1
 clear B0 P0 hb1 hM hE
 go_wp2_with (go_at_call 12;fail)
 refine(yh _ (hT.below B1)).mono ?_
 rintro e w2 ⟨rfl,hb2⟩
 have B2:=B1.trans (hb2.mono B1.size)
 have P2:=P1.call hb2
 clear B1 P1 hb2
 have p0:=P2.1 0 _ rfl
 have p1:=P2.1 1 _ rfl
 have p2:=P2.1 2 _ rfl
 have HAL:=aa (iJ V F s c cap w2 (hc.below B2 (lR _)))
 go_wp2_with (go_at_call 20;fail)
 refine HAL.out.mono ?_
 rintro e w3 ⟨hans,hb3⟩
 clear HAL p0 p1 p2
 have B3:=B2.trans (hb3.mono B2.size)
 have P3:=P2.call hb3
 clear B2 P2 hb3
 have hform:∃(a:Option Addr) (ln ac:Nat) (er:Int),e=Rt (Tu #[U a ln ac,I Y er])∧((er≠0∧ai V F c≠0∧er=ai V F c)∨(er=0∧ai V F c=0∧∃m,SolvedAt V F c m∧ln=(aG c (aD V F c m) c.length).length∧AlsAt w3 a (aG c (aD V F c m) c.length))):=by
  rcases hans with⟨h0,rfl⟩|⟨h0,m,a,ac,hsv,rfl,hO⟩
  ·exact⟨nO,0,0,_,rfl,.inl ⟨h0,h0,rfl⟩⟩
  ·exact⟨a,_,ac,0,rfl,.inr ⟨rfl,h0,m,hsv,rfl,lu hO⟩⟩
 clear hans
 obtain⟨a,ln,ac,er,rfl,hcase⟩:=hform
 have HCS:=aa hcase
 clear hcase
 have hba:Below w3.heap.size w3 (w3.alloc (Cc #[U a ln ac] 55)):=by go_grown
 have L4:Cells (w3.alloc (Cc #[U a ln ac] 55)) w3.heap.size [U a ln ac]:=Cells.new w3 _ [_]
 have B4:=B3.trans (hba.mono B3.size)
 have P4:=P3.call hba
 have z3:=B3.size
 clear P3 B3
 go_upto_region 4 with fail
 generalize w3.alloc (Cc #[U a ln ac] 55)=w4 at *
 have p0:=P4.1 0 _ rfl
 have p1:=P4.1 1 _ rfl
 have p2:=P4.1 2 _ rfl
 have HSU:=aa (vM V F s c cap w4 (hc.below B4 (lR _)))
 go_wp2_with (go_at_call 21;fail)
 refine HSU.out.mono ?_
 rintro e w5 ⟨hsu,hb5⟩
 clear HSU p0 p1 p2
 have hform:∃(b:Bool) (er2:Int),e=Rt (Tu #[Bb b,I Y er2])∧((ai V F c≠0∧er2≠0)∨(er2=0∧∃m,SolvedAt V F c m∧b= !(aG c (aD V F c m) c.length).any (λx=>x.2 !=3))):=by
  rcases hsu with⟨h0,rfl⟩|⟨h0,m,hsv,rfl⟩
  ·exact⟨_,_,rfl,.inl ⟨h0,h0⟩⟩
  ·exact⟨_,_,rfl,.inr ⟨rfl,m,hsv,rfl⟩⟩
 clear hsu
 obtain⟨sb,er2,rfl,hc2⟩:=hform
 have HC2:=aa hc2
 clear hc2
 have b35:=hba.trans (hb5.mono hba.size)
 have B5:=B4.trans (hb5.mono B4.size)
 have P5:=P4.call hb5
 have L5:=L4.call hb5
 clear P4 L4 B4 hb5 hba
 have p0:=P5.1 0 _ rfl
 have p1:=P5.1 1 _ rfl
 have p2:=P5.1 2 _ rfl
 by_cases h0:ai V F c=0
 rotate_left
 ·have f1:(er !=0)=true:=by
   rcases HCS.out with⟨h,-⟩|⟨-,h,-⟩
   ·simpa using h
   ·exact absurd h h0
  have HRE:=aa (Fy V F s c cap is ic ins fuel w5 (hc.below B5 (lR _)) h0)
  clear h0 HCS HC2
  go_wp2_with (go_at_call 19;fail)
  refine HRE.out.mono ?_
  rintro e w6 ⟨rfl,hb6⟩
  have B6:=B5.trans (hb6.mono B5.size)
  have hbb:Below w6.heap.size w6 (w6.alloc (Cc #[I Y 0,U nO 0 0,U nO 0 0,I Y 0,U nO 0 0,I Y 0] 33)):=by go_grown
  have B7:=B6.trans (hbb.mono B6.size)
  clear HRE hb6 hbb B5 B6
  go_wp2
  go_ret
  exact⟨rfl,B7⟩
 obtain⟨rfl,m,hsv,hln,hAS⟩:er=0∧∃m,SolvedAt V F c m∧ln=(aG c (aD V F c m) c.length).length∧AlsAt w3 a (aG c (aD V F c m) c.length):=by
  rcases HCS.out with⟨-,h,-⟩|⟨h,-,m,h1,h2,h3⟩
  ·exact absurd h0 h
  ·exact⟨h,m,h1,h2,h3⟩
 obtain⟨rfl,hsb⟩:er2=0∧sb= !(aG c (aD V F c m) c.length).any (λx=>x.2 !=3):=by
  rcases HC2.out with⟨h,-⟩|⟨h,m2,h1,h2⟩
  ·exact absurd h0 h
  ·obtain rfl:=h1.one hsv
   exact⟨h,h2⟩
 have hll:(aG c (aD V F c m) c.length).length≤1000:=by have:=fV (c:=c) (L:=aD V F c m) (k:=c.length);have:=(bM h0).2.2;omega
 have HMI:Hid (∀(k:Nat) (r:St),k≤5000→r=(bE V F c ins k).1→((aG c (aD V F c m) c.length).any λx=>x.1==r.at_&&x.2==3)=false∧(r.fin=2→((aG c (aD V F c m) c.length).any λx=>x.1==r.at_&&x.2==1)=true∧((aG c (aD V F c m) c.length).any λx=>x.2 !=3)=true)∧(r.fin=3→((aG c (aD V F c m) c.length).any λx=>x.1==r.at_&&x.2==2)=true∧((aG c (aD V F c m) c.length).any λx=>x.2 !=3)=true)):=λk r hk er=>yX h0 hsv hk er
 subst hln
 have HSB:=aa hsb
 have HRU:=aa (KQ V F s c cap is ic ins fuel w5 (hc.below B5 (lR _)) (hI.below B5 (lR _)) (hT.below B5) h0)
 clear HCS HC2 hsb hsv h0
 generalize aG c (aD V F c m) c.length=A at *
 have HAS5:=aa (hAS.below b35)
 clear hAS b35 hc hI hT
 go_wp2_with (go_at_call 19;fail)
 refine HRU.out.mono ?_
 rintro e w6 ⟨hans,hb6⟩
 clear HRU p0 p1 p2 P5
 have B6:=B5.trans (hb6.mono B5.size)
 have L6:=L5.call hb6
 have HAS6:=aa (HAS5.out.below hb6)
 clear B5 L5 HAS5 hb6
 rcases hans with⟨er3,hne,rfl⟩|⟨k,vs,vc,ts,tc,lns,lnc,hk,rfl,-,-,-⟩
 ·have f1:(er3 !=0)=true:=by simpa using hne
  clear hne
  have hbb:Below w6.heap.size w6 (w6.alloc (Cc #[I Y 0,U nO 0 0,U nO 0 0,I Y 0,U nO 0 0,I Y 0] 33)):=by go_grown
  have B7:=B6.trans (hbb.mono B6.size)
  clear hbb HMI HAS6 L6 B6
  go_wp2
  go_ret
  exact⟨rfl,B7⟩
 obtain⟨r,err⟩:∃r,r=(bE V F c ins k).1:=⟨_,rfl⟩
 have HMK:=aa (HMI.out k r hk err)
 rw[←err]
 clear HMI err
 generalize (bE V F c ins k).2=steps at *
 have hbb:Below w6.heap.size w6 (w6.alloc (Cc #[I Y r.at_,U vs r.vars.length vc,U ts r.things.length tc,I Y r.taken,U lns r.lines.length lnc,I Y r.fin] 33)):=by go_grown
 have R7:Cells (w6.alloc (Cc #[I Y r.at_,U vs r.vars.length vc,U ts r.things.length tc,I Y r.taken,U lns r.lines.length lnc,I Y r.fin] 33)) w6.heap.size [I Y r.at_,U vs r.vars.length vc,U ts r.things.length tc,I Y r.taken,U lns r.lines.length lnc,I Y r.fin]:=Cells.new w6 _ [_,_,_,_,_,_]
 have B7:=B6.trans (hbb.mono B6.size)
 have L7:=L6.call hbb
 have HAS7:=aa (HAS6.out.below hbb)
 have zr:w6.heap.size < (w6.alloc (Cc #[I Y r.at_,U vs r.vars.length vc,U ts r.things.length tc,I Y r.taken,U lns r.lines.length lnc,I Y r.fin] 33)).heap.size:=by simp
 clear B6 L6 HAS6 hbb
 go_upto_region 8 with fail
 generalize w6.alloc (Cc #[I Y r.at_,U vs r.vars.length vc,U ts r.things.length tc,I Y r.taken,U lns r.lines.length lnc,I Y r.fin] 33)=w7 at *
 have HHAS:Hid (∀(kind:Int) (wx:World),Below w7.heap.size w7 wx→Calls pG 28 #[I Y kind,Pp (sO ⟨w3.heap.size,0,nO⟩),Pp (sO ⟨w6.heap.size,0,nO⟩)] wx λe w'=>e=Rt (Bb (A.any λx=>x.1==r.at_&&x.2==kind))∧Below wx.heap.size wx w'):=λkind wx hb=>FC kind r.at_ w3.heap.size w6.heap.size a ac A _ wx hll (L7.call hb) (R7.call hb) (HAS7.out.below hb)
 have BH7:Below w7.heap.size w7 w7:=bR _ _
 have HR7:=aa R7
 clear R7 L7 HAS7
 obtain⟨K3,K1,K2⟩:=HMK.out
 have HK1:=aa K1
 have HK2:=aa K2
 clear K1 K2 HMK
 go_wp2_with (go_at_call 28;fail)
 refine(HHAS.out 3 w7 BH7).mono ?_
 rintro e w8 ⟨rfl,hb8⟩
 have BH8:=BH7.trans (hb8.mono BH7.size)
 rw[K3]
 have r5:=(HR7.out.call BH8).1 5 _ rfl
 by_cases h2:r.fin=2
 ·obtain⟨k1,k2⟩:=HK1.out h2
  have e5:sb=false:=by rw[HSB.out,k2];rfl
  have g2:(r.fin==2)=true:=by simpa using h2
  subst e5
  rw[h2] at r5
  clear HK1 HK2 h2 g2 k2 HSB
  go_wp2_with (go_at_call 28;fail)
  refine(HHAS.out 1 w8 BH8).mono ?_
  rintro e w9 ⟨rfl,hb9⟩
  have BH9:=BH8.trans (hb9.mono BH8.size)
  rw[k1]
  have B9:=B7.trans (BH9.mono B7.size)
  go_wp2
  go_ret
  exact⟨rfl,B9⟩
 by_cases h3:r.fin=3
 ·obtain⟨k1,k2⟩:=HK2.out h3
  have e5:sb=false:=by rw[HSB.out,k2];rfl
  subst e5
  rw[h3] at r5
  clear HK1 HK2 h2 h3 k2 HSB
  go_wp2_with (go_at_call 28;fail)
  refine(HHAS.out 2 w8 BH8).mono ?_
  rintro e w9 ⟨rfl,hb9⟩
  have BH9:=BH8.trans (hb9.mono BH8.size)
  rw[k1]
  have B9:=B7.trans (BH9.mono B7.size)
  go_wp2
  go_ret
  exact⟨rfl,B9⟩
 have g2:(r.fin==2)=false:=by simpa using h2
 have g3:(r.fin==3)=false:=by simpa using h3
 have B8:=B7.trans (BH8.mono B7.size)
 go_wp2
 go_ret
 exact⟨rfl,B8⟩
end
section
open Go.ChangeShapes Go.WideShapes Go.ChangeAt Go.RowKit
namespace alarmSound

theorem contract (H:Type)(enc:TypeId×Value→H)(W:World)(base:Nat)(args:Array Value)(ds gs:List (DataW H))(before:List MemPlace)
  (hval:∀(j:Nat) t v,Tryz.f8.params[j]? =sO t→args[j]? =sO v→Value.okWide pG W .any base t v)
  (hW:DataW.Whole enc pG Tryz.f8.params.toList Rows.alarmSoundSpec.vars false W args.toList ds gs before)(hL:laidMetH pG Rows.alarmSoundRow.laid W)(hS:W.ShapedOpen pG):
  Calls pG 8 args W λe W'=>∃v,e=Rt v∧Rows.alarmSoundSpec.post enc pG Tryz.f8 false true false false W args v W':=by
 have hlt:=hW.lt
 have hW':=hW
 obtain⟨p,q,hA0,hV,rfl,hfz,hnd⟩:=hW
 have hA:DataW.TrodAll enc pG W 0 (λ_=>true) true Tryz.f8.params.toList args.toList ds p:=hA0
 rw[Tryz.params8] at hA hval
 obtain⟨v0,vs0,d0,ds0,p0,q0,e0,rfl,rfl,h0,hr0⟩:=trodAll_cons hA
 obtain⟨v1,vs1,d1,ds1,p1,q1,e1,rfl,rfl,h1,hr1⟩:=trodAll_cons hr0
 obtain⟨v2,vs2,d2,ds2,p2,q2,e2,rfl,rfl,h2,hr2⟩:=trodAll_cons hr1
 obtain⟨rfl,rfl,rfl⟩:=trodAll_nil hr2
 subst e1
 subst e2
 have ea:args=#[v0,v1,v2]:=by cases args;simp_all
 subst ea
 obtain⟨rfl,rfl⟩:=trodVars_none hV
 obtain⟨V,F,s,cap,c,rfl,hcap,hmax,hcode,-⟩:=yd (hval 0 24 v0 rfl rfl) h0
 obtain⟨is,ic,ins,rfl,hic,him,hI⟩:=Dh (hval 1 34 v1 rfl rfl) h1
 obtain⟨fuel,rfl,-⟩:=open_int Tryz.underlying3 (hval 2 3 v2 rfl rfl) h2
 have hL':laidMet pG (("math/bits.deBruijn32tab",Rows.laid_math_bits_deBruijn32tab)::("math/bits.deBruijn64tab",Rows.laid_math_bits_deBruijn64tab)::("internal/strconv.uint64pow10",Rows.laid_internal_strconv_uint64pow10)::("unicode/utf8.acceptRanges",Rows.laid_unicode_utf8_acceptRanges)::("strconv.ErrRange",Rows.laid_strconv_ErrRange)::("strconv.ErrSyntax",Rows.laid_strconv_ErrSyntax)::[("unicode/utf8.first",Rows.laid_unicode_utf8_first)]) W:=hL
 have hT:=IK hL'.tail.tail
 have hE:=Gu hL'.tail.tail.tail.tail.tail
 have hM:Cap W:=II hS
 refine(tQ V F s c cap is ic ins fuel W hcode hI hT hM hE).mono λe W' ⟨he,hb⟩=> ?_
 subst he
 refine⟨_,rfl,_,_,_,[],p0++(p1++(p2++[])),[],hW',?_,?_,?_,hb.frame _,λh=>by cases h⟩
 ·exact trodAll_mk1 (shut_bool Tryz.underlying4 _)
 ·rw[Tryz.params8]
  exact trodAll_cons_mk (Below.trod (by kernel_rfl) (by kernel_rfl) (of_decide_eq_true (by kernel_rfl)) h0 hb (λx hx=>hlt x (by simp[hx]))) (trodAll_cons_mk (Below.trod (by kernel_rfl) (by kernel_rfl) (of_decide_eq_true (by kernel_rfl)) h1 hb (λx hx=>hlt x (by simp[hx]))) (trodAll_cons_mk (Below.trod (by kernel_rfl) (by kernel_rfl) (of_decide_eq_true (by kernel_rfl)) h2 hb (λx hx=>hlt x (by simp[hx]))) (rfl)))
 ·rfl

theorem witness_row (os:Os){H:Type}(enc:TypeId×Value→H):
  (OpenSpec.ofChange Rows.alarmSoundSpec).preRow enc pG Tryz.f8 Rows.alarmSoundRow.domain false Rows.alarmSoundRow.laid ((iY pG os).forCall (λ_ _=>0) ⟨#[],#[Ag #[I Y 0,I Y 0,U nO 0 0],U nO 0 0,I Y 0],[]⟩).memory #[Ag #[I Y 0,I Y 0,U nO 0 0],U nO 0 0,I Y 0]:=by
 have hw:(DataW.whole enc pG ((iY pG os).forCall (λ_ _=>0) ⟨#[],#[Ag #[I Y 0,I Y 0,U nO 0 0],U nO 0 0,I Y 0],[]⟩).memory Tryz.f8.params.toList Rows.alarmSoundSpec.vars false #[Value.agg #[I Y 0,I Y 0,U nO 0 0],U nO 0 0,I Y 0].toList 8).isSome=true:=by kernel_rfl
 obtain⟨x,hx⟩:=Option.isSome_iff_exists.1 hw
 exact OpenSpec.preRow_of_cond 8 hx rfl (λk hk=>by cases hk) (by kernel_rfl) (DJ os _)

theorem lifted (os:Os)(started:os.Started)(H:Type)(enc:TypeId×Value→H)(F:Stop.Interp):
  ReturnsInHanded {} Tryz.checked os 8 .any ((OpenSpec.ofChange Rows.alarmSoundSpec).preRow enc pG Tryz.f8 Rows.alarmSoundRow.domain false Rows.alarmSoundRow.laid) (((OpenSpec.ofChange Rows.alarmSoundSpec).at F).post enc pG Tryz.f8 false true false false):=by
 refine returnsInHanded_of_row (C:=Tryz.checked) (s:=OpenSpec.ofChange Rows.alarmSoundSpec) own started (by kernel_rfl) Tryz.func8
  (witness_row_atRef (enc:=enc) (C:=Tryz.checked) false (iY pG os) #[Ag #[I Y 0,I Y 0,U nO 0 0],U nO 0 0,I Y 0] rfl (by kernel_rfl) (by kernel_rfl) (by kernel_rfl) (witness_row os enc)) ?_
 intro W base args ds gs before hval hW _ _ _ hL hS _
 exact contract H enc W base args ds gs before hval hW hL hS

theorem and_t {a b:Bool}(h:a=true)(k:b=true):(a&&b)=true:=by rw[h,k];rfl
theorem closed:joinedFacts pG 8 Tryz.f8 (OpenSpec.ofChange Rows.alarmSoundSpec).bare Rows.alarmSoundRow=true:=by
 unfold joinedFacts
 repeat' (with_reducible refine and_t ?_ ?_)
 all_goals (as_aux_lemma=>kernel_rfl)

theorem said:Rows.AlarmSoundSaid:=
 OpenClaim.holds_of_cond 8 Tryz.f8 rfl rfl rfl rfl rfl rfl rfl ⟨rfl,rfl,rfl,rfl,rfl⟩ rfl rfl rfl rfl rfl (by kernel_rfl) Tryz.func8 closed
  (of_decide_eq_true (by kernel_rfl)) (by unfold Func.isWrapper;first|(rw[if_pos (by decide+kernel)];kernel_rfl)|(rw[if_neg (by decide+kernel)];exact⟨rfl,rfl⟩))
  (λos started H enc _ F=>by rw[OpenClaim.pre_eq_preRow];exact lifted os started H enc F)

theorem plain (f:FuncId)(fn:Func)(hf:Tryz.pinned.checked.prog.funcNamed "soundings/soundingslaw.AlarmSound" =sO f)(hfn:Tryz.pinned.checked.prog.funcs[f]? =sO fn):
  true=Tryz.pinned.checked.prog.looks []∧∀(j:Nat) t,fn.params[j]? =sO t→Tryz.pinned.checked.prog.wantsStandIn t=false:=by
 obtain rfl:f=8:=j1.inj ((show Tryz.prog.funcNamed "soundings/soundingslaw.AlarmSound" =sO 8 by kernel_rfl).symm.trans hf) |>.symm
 obtain rfl:fn=Tryz.f8:=(j1.inj (Tryz.func8.symm.trans hfn)).symm
 refine⟨by kernel_rfl,λj t ht=> ?_⟩
 rw[Tryz.params8] at ht
 have hm:t=24∨t=34∨t=3:=by simpa using Array.mem_of_getElem? ht
 rcases hm with rfl|rfl|rfl
 ·exact(show Tryz.prog.wantsStandIn 24=false by kernel_rfl)
 ·exact(show Tryz.prog.wantsStandIn 34=false by kernel_rfl)
 ·exact(show Tryz.prog.wantsStandIn 3=false by kernel_rfl)
end alarmSound

theorem alarmSound_holds:Rows.AlarmSoundCardSaid:=
 Claim7.holds_tied_plain_at .later [] _ _ _ _ alarmSound.said (λ_ h=>by cases h) (by kernel_rfl) (λ_ h=>by cases h) alarmSound_row_tie rfl ⟨rfl,rfl⟩ (by kernel_rfl) rfl alarmSound.plain (by kernel_rfl)
end
end Go.Proofs.YtmapdpcfanecdabGreatDoor
