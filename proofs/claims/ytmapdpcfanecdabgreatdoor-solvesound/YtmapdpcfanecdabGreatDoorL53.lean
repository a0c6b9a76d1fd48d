/- For every program, list of inputs and fuel that the law SolveSound is handed, it returns true and leaves them as they were: what Solve answers fits, and each run is shown by the picture where it stands. No condition but the row's own: the listed package-level variables hold what the program's text lays. -/
import Derived.Test.YtmapdpcfanecdabGreatDoorL51
import Derived.RangeFuncBound
import Derived.RangeFuncCalls
import Derived.OwnWalkIn
import Derived.TacticsInMore
import Derived.LoopNIn
import Derived.LoopIn
import Derived.Test.YtmapdpcfanecdabGreatDoorL52
import Derived.ChangeMaps5
open Array renaming getElem?_eq_some_iff→j4,replicate_succ→q9,replicate_zero→z0
open Bool renaming eq_false_or_eq_true→j6,not_eq_false→x4
open Go.Ending renaming returned→Rt
open Go.IntKind renaming i64→Y
open Go.Obj renaming cells→Cc
open Go.Proofs.Tryz renaming prog→pG
open Go.RowKit.Below renaming refl→bR
open Go.Value renaming agg→Ag,bool→Bb,int→I,pointer→Pp,slice→U,tuple→Tu
open Go.World renaming cell?_of_block→x8,putObj→j3,putObj_heap_other→j2,putObj_heap_same→x6,size_alloc→zA
open Int renaming eq_ofNat_of_zero_le→j5
open List renaming all_eq_false→x7,all_eq_true→x5,append_toArray→z7,cons_append→z9,foldl_append→j9,getElem_mem→gM,length_cons→q5,length_nil→q6,nil_append→z8,push_toArray→z1,range→j7,range_succ→j8,size_toArray→q4
open Nat renaming le_refl→lR,le_trans→lT,lt_of_lt_of_le→lL,reduceAdd→q7,reduceSub→q8
open Option renaming none→nO,some→sO,some→x9
set_option linter.unusedSimpArgs false
set_option linter.unusedVariables false
set_option maxHeartbeats 80000000
set_option maxRecDepth 100000
namespace Go.Proofs.YtmapdpcfanecdabGreatDoor
section
open Go.RowKit
attribute [local go_sem ↓] Go.wp_at_zero Go.wp_at_succ
def KeptC (Ch:Nat→Prop)(W W':World):Prop:=W.heap.size≤W'.heap.size∧∀b,¬Ch b→b < W.heap.size→W'.heap[b]? =W.heap[b]?
theorem KeptC.refl (Ch:Nat→Prop)(W:World):KeptC Ch W W:=⟨lR _,λ_ _ _=>rfl⟩
theorem KeptC.trans {Ch:Nat→Prop}{A B C:World}(h:KeptC Ch A B)(k:KeptC Ch B C):KeptC Ch A C:=⟨lT h.1 k.1,λb hb hlt=>(k.2 b hb (lL hlt h.1)).trans (h.2 b hb hlt)⟩
theorem KeptC.of {Ch:Nat→Prop}{A B:World}(h:Below A.heap.size A B):KeptC Ch A B:=⟨h.size,λb _ hlt=>h.block b hlt⟩
theorem KeptC.cells {Ch:Nat→Prop}{A B:World}(h:KeptC Ch A B){b:Nat}{cs:List Value}(hc:Cells A b cs)(hb:¬Ch b):Cells B b cs:=hc.same (h.2 b hb hc.2.1) h.1
def kJ {σ:Type}(c:List Ins)(pics:σ→List Pic)(due:σ→Nat→Bool)(next:Nat→Edg→σ→σ)(t:σ)(k:Nat):σ:=if due t k then(cE c k (aM (pics t) k)).foldl (λt e=>next k e t) t else t
def fF {σ:Type}(c:List Ins)(pics:σ→List Pic)(due:σ→Nat→Bool)(next:Nat→Edg→σ→σ)(t:σ)(k:Nat):σ:=(j7 k).foldl (kJ c pics due next) t
theorem kP {σ:Type}{c:List Ins}{pics:σ→List Pic}{due:σ→Nat→Bool}{next:Nat→Edg→σ→σ}{t:σ}{k:Nat}:fF c pics due next t (k+1)=kJ c pics due next (fF c pics due next t k) k:=by unfold fF;rw[j8,j9];rfl
theorem rL {σ:Type}{V F:Int}{s:Option Addr}{c:List Ins}{cap pb ib lb l n fd lc:Nat}{ls:Option Addr}{cs:Array Value}{ar:Value→Array Value}(har:∀p,#[p]++cs=ar p)(hf:∀args wx,Sem.run pG (callFunc fd args) wx=.ok (.enter fd args) wx){pics:σ→List Pic}{due:σ→Nat→Bool}{next:Nat→Edg→σ→σ}{St:σ→World→Prop}{Stop:World→Prop}{Ch:Nat→Prop}
  (h0:ag V F c=0)(t0:σ)(W:World)
  (hSt:∀t W W',St t W→Below W.heap.size W W'→St t W')
  (hRow:∀t W,St t W→XsAt W ls (pics t)∧XsOk V F c (pics t))
  (hDue:∀t W (k:Nat),St t W→k < c.length→Calls pG fd (ar (I Y (k:Int))) W λe W'=>e=Rt (Bb (due t k))∧Below W.heap.size W W')
  (hY:∀t W (k:Nat) (e:Edg) vs vc fs fc,St t W→k < c.length→(∃t1,e∈cE c k (aM (pics t1) k))→gV V F c e→PicOn (λb=>¬Ch b) W e.pic vs fs→(e.pic.vars.length≤vc∧vc≤maxLen)→(e.pic.flds.length≤fc∧fc≤maxLen)→YieldAt Fence.wide (n - 1) pG l #[I Y (k:Int),Ag #[I Y e.tgt,Bb e.pic.none,U vs e.pic.vars.length vc,U fs e.pic.flds.length fc]] W λr W'=>(r=Rt (Bb true)∧St (next k e t) W'∧KeptC Ch W W')∨(r=Rt (Bb false)∧Stop W'))
  (hcode:∀W W',KeptC Ch W W'→CodeAt W s c→CodeAt W' s c)(hCh:∀b,Ch b→b < W.heap.size)(hpb:¬Ch pb)(hib:¬Ch ib)(hlb:¬Ch lb)
  (hW:St t0 W)(hP:Cells W pb [I Y V,I Y F,U s c.length cap])(hI:Cells W ib [.func (.func fd) #[] cs])(hL:Cells W lb [U ls (c.length+1) lc])(hC:CodeAt W s c):
  CallsIn Fence.wide n pG 103 #[.func (.yield l) #[] #[],Pp (sO ⟨pb,0,nO⟩),Pp (sO ⟨ib,0,nO⟩),Pp (sO ⟨lb,0,nO⟩)] W λe W'=>(∃v,e=Rt v)∧((St (fF c pics due next t0 c.length) W'∧KeptC Ch W W')∨Stop W'):=by
 have h60:=(bQ h0).2.2
 have HSt:=aa hSt
 have HRow:=aa hRow
 have HDue:=aa hDue
 have HY:=aa hY
 have HCO:=aa hcode
 have HW:=aa hW
 have HCK:=aa h0
 clear hSt hRow hDue hY hcode hW h0
 refine callsIn_of_wp Tryz.func103 rfl trivial (wpIn_wide.2 ?_)
 simp only[Tryz.ntmps103,q4,q5,q6,q7,q8,q9,z0,z1,z7,z8,z9]
 have p2:=hP.1 2 _ rfl
 go_wp2
 clear p2
 go_loopw [15] (λi wr=>∃k:Nat,k≤c.length∧i=I Y k∧Hid (St (fF c pics due next t0 k) wr)∧KeptC Ch W wr) (λi _=>c.length - (intOf i).toNat)
 case atStart=>exact⟨0,Nat.zero_le _,rfl,HW.out,KeptC.refl _ _⟩
 case round=>
  obtain⟨k,hk,rfl,HS,hkr⟩:=hrel
  have P1:=hkr.cells hP hpb
  have I1:=hkr.cells hI hib
  have L1:=hkr.cells hL hlb
  by_cases hlt:k < c.length
  rotate_left
  ·have n1:¬(k:Int) < (c.length:Int):=by omega
   have ek:k=c.length:=by omega
   have HF:Hid (St (fF c pics due next t0 c.length) wr):=by show St _ _;rw[←ek];exact HS.out
   clear ek HS
   go_wp2
   go_end0
   exact⟨⟨_,rfl⟩,.inl ⟨HF.out,hkr⟩⟩
  have n0:(0:Int)≤(k:Int):=by omega
  have n1:(k:Int) < (c.length:Int):=by omega
  have i0:=I1.1 0 _ rfl
  go_wp2_with fail
  refine(HDue.out _ wr k HS.out hlt).mono ?_
  rintro e w1 ⟨rfl,hb1⟩
  have k1:KeptC Ch W w1:=hkr.trans (KeptC.of hb1)
  have HS1:=aa (HSt.out _ _ _ HS.out hb1)
  have P2:=P1.call hb1
  have L2:=L1.call hb1
  clear HS hb1 i0 P1 I1 L1
  obtain⟨t,et⟩:∃t,t=fF c pics due next t0 k:=⟨_,rfl⟩
  have HT:=aa (kP (c:=c) (pics:=pics) (due:=due) (next:=next) (t:=t0) (k:=k))
  rw[←et] at HS1 HT ⊢
  clear et
  rcases j6 (due t k) with hd|hd
  rotate_left
  ·have HD:=aa hd
   rw[hd]
   clear hd
   go_wp2
   go_roundw
   case rel=>exact⟨k+1,by omega,by go_num,by show St _ _;rw[HT.out];unfold kJ;rw[HD.out];exact HS1.out,k1⟩
   case measure=>simp[intOf];omega
  ·have HD:=aa hd
   rw[hd]
   clear hd
   obtain⟨hX,hXO⟩:=HRow.out _ _ HS1.out
   have hxl:k < (pics t).length:=by rw[hXO.len];omega
   obtain⟨rb,ro,els,zrb,vx,vxc,fx,fxc,⟨q0,q1,q2⟩,hPx,hvx,hfx⟩:=hX k hxl
   obtain⟨x,ex⟩:∃x,x=(pics t)[k]:=⟨_,rfl⟩
   have hckx:aE V F c x=0:=by rw[ex];exact hXO.ck _ (gM hxl)
   have HEX:Hid (aM (pics t) (k:Int)=x):=by show _=_;rw[gP hxl,ex]
   rw[←ex] at q0 q1 q2 hPx hvx hfx
   clear ex
   have C1:=HCO.out _ _ k1 hC
   have HSF:Hid (∀wx,Below w1.heap.size w1 wx→Calls pG 15 #[pv V F s c cap,I Y (k:Int),xv x vx vxc fx fxc] wx λe w'=>(∃es ec,e=Rt (Tu #[U es (cE c k x).length ec,Bb (aA (aZ c k) k x).2.1,Bb (aA (aZ c k) k x).2.2,I Y 0])∧EdsOn (λb=>w1.heap.size≤b) w' es (cE c k x))∧Below wx.heap.size wx w'):=λwx hb=>by
    have hu:aq V F c [x]=0:=by unfold aq;rw[if_pos HCK.out];unfold bW;rw[if_pos hckx];rfl
    have e0:iw V F c (k:Int) x=0:=by unfold iw;rw[if_pos hu,if_neg (by omega)]
    have e1:i6 V F c (k:Int) x=aA (aZ c k) k x:=by unfold i6;rw[if_pos e0]
    have h:=Br V F s c cap (k:Int) x vx vxc fx fxc wx (C1.below hb (lR _)) (hPx.below hb (lR _)) hvx hfx
    rw[e0,e1] at h
    refine h.mono ?_
    rintro e w' ⟨⟨es,ec,rfl,hE⟩,hb'⟩
    exact⟨⟨es,ec,rfl,hE.mono λb h _=>lT hb.size h⟩,hb'⟩
   have HEO:=aa (gR HCK.out hckx hlt)
   subst els
   have HKZ:Hid (∀wx,Below w1.heap.size w1 wx→(wx.cell? ⟨pb,0,nO⟩=sO (I Y V)∧wx.cell? ⟨pb,1,nO⟩=sO (I Y F)∧wx.cell? ⟨pb,2,nO⟩=sO (U s c.length cap))∧wx.cell? ⟨lb,0,nO⟩=sO (U (sO ⟨rb,ro,nO⟩) (c.length+1) lc)∧(wx.cell? ⟨rb,ro+k * 3,nO⟩=sO (Bb x.none)∧wx.cell? ⟨rb,ro+k * 3+1,nO⟩=sO (U vx x.vars.length vxc)∧wx.cell? ⟨rb,ro+k * 3+2,nO⟩=sO (U fx x.flds.length fxc))):=λwx hb=>by
    have p:=P2.call hb
    have q:=L2.call hb
    refine⟨⟨p.1 0 _ rfl,p.1 1 _ rfl,p.1 2 _ rfl⟩,q.1 0 _ rfl,?_,?_,?_⟩
    ·rw[hb.cell (by simp only;exact zrb)];exact q0
    ·rw[hb.cell (by simp only;exact zrb)];exact q1
    ·rw[hb.cell (by simp only;exact zrb)];exact q2
   have B12:Below w1.heap.size w1 w1.drew:=(bR _ _).drew
   have m1:(k:Int) < (c.length:Int)+1:=by omega
   generalize (aA (aZ c k) k x).2.1=sw at *
   generalize (aA (aZ c k) k x).2.2=sf at *
   have HST:Hid (kJ c pics due next t k=(cE c k x).foldl (λt e=>next k e t) t):=by show _=_;unfold kJ;rw[HD.out,if_pos rfl,HEX.out]
   have HELE:Hid ((cE c k x).length≤10):=lT (wE _ _ _) (by decide)
   have HM:Hid (∀e∈cE c k x,∃t1,e∈cE c k (aM (pics t1) k)):=λe he=>⟨t,by rw[HEX.out];exact he⟩
   generalize cE c k x=E at *
   go_upto_region 4 with fail
   refine an (S:=(λwx=>(wx.cell? ⟨pb,0,nO⟩=sO (I Y V)∧wx.cell? ⟨pb,1,nO⟩=sO (I Y F)∧wx.cell? ⟨pb,2,nO⟩=sO (U s c.length cap))∧wx.cell? ⟨lb,0,nO⟩=sO (U (sO ⟨rb,ro,nO⟩) (c.length+1) lc)∧(wx.cell? ⟨rb,ro+k * 3,nO⟩=sO (Bb x.none)∧wx.cell? ⟨rb,ro+k * 3+1,nO⟩=sO (U vx x.vars.length vxc)∧wx.cell? ⟨rb,ro+k * 3+2,nO⟩=sO (U fx x.flds.length fxc)))) [] (by kernel_rfl) (HKZ.out _ B12) (λhHeld=> ?_)
   generalize w1.drew=w2 at *
   refine vZ 0 ?_ ?_
   refine vZ 1 ?_ ?_
   refine vZ 2 ?_ ?_
   refine vZ 3 ?_ ?_
   refine vZ 4 ?_ ?_
   refine vZ 5 ?_ ?_
   refine ai (i:=6) rfl (by kernel_rfl) (λK hK=> ?_)
   go_simp
   go_at_call 15
   refine(HSF.out w2 B12).mono ?_
   rintro e w3 ⟨⟨es,ec,rfl,E3⟩,hb3⟩
   go_wp2_with fail
   refine hK.out _ _ (HKZ.out _ (B12.trans (hb3.mono B12.size))) (λhHeld=> ?_)
   clear hK K
   refine sm ?_
   refine vZ 7 ?_ ?_
   refine vZ 8 ?_ ?_
   refine vZ 9 ?_ ?_
   refine vZ 10 ?_ ?_
   refine vZ 11 ?_ ?_
   refine vZ 12 ?_ ?_
   refine vZ 13 ?_ ?_
   refine vZ 14 ?_ ?_
   refine vZ 15 ?_ ?_
   refine aj (by kernel_rfl) ?_ _
   have HS3:=aa (HSt.out _ _ _ HS1.out (B12.trans (hb3.mono B12.size)))
   have k3:KeptC Ch W w3:=k1.trans (KeptC.of (B12.trans (hb3.mono B12.size)))
   have HN:Hid (∀b,w1.heap.size≤b→¬Ch b):=λb hb hc=>by have:=hCh b hc;have:=k1.1;omega
   have HEL:Hid (E.length≤10):=HELE.out
   clear B12 hb3 HS1 P2 L2 hX hXO C1 HSF HKZ q0 q1 q2 hPx hvx hfx hckx
   go_wp2
   go_loopw [36] (λi wr=>∃j:Nat,j≤E.length∧i=I Y j∧Hid (St ((E.take j).foldl (λt e=>next k e t) t) wr)∧KeptC Ch w3 wr) (λi _=>E.length - (intOf i).toNat)
   case atStart=>exact⟨0,Nat.zero_le _,rfl,HS3.out,KeptC.refl _ _⟩
   case round=>
    obtain⟨j,hj,rfl,HSj,hkj⟩:=hrel
    have hl10:=HEL.out
    by_cases hltj:j < E.length
    rotate_left
    ·have n2:¬(j:Int) < (E.length:Int):=by omega
     have HF:Hid (St (fF c pics due next t0 (k+1)) wr):=by
      show St _ _
      have h:=HSj.out
      rw[List.take_of_length_le (by omega)] at h
      rw[HT.out,HST.out]
      exact h
     have k4:=k3.trans hkj
     clear HSj HS3
     go_wp2
     go_roundw
     case rel=>exact⟨k+1,by omega,by go_num,HF.out,k4⟩
     case measure=>simp[intOf];omega
    have j0:(0:Int)≤(j:Int):=by omega
    have j1:(j:Int) < (E.length:Int):=by omega
    have EJ:=E3.same (w':=wr) (λb hb hlt=>hkj.2 b (HN.out b hb) hlt) hkj.1
    obtain⟨eb,eo,ees,hSb,zeb,vs,vc,fs,fc,⟨c0,c1,c2,c3⟩,hPe,hve,hfe⟩:=EJ j hltj
    have hba:Below wr.heap.size wr (wr.alloc (Cc #[I Y E[j].tgt,Bb E[j].pic.none,U vs E[j].pic.vars.length vc,U fs E[j].pic.flds.length fc] 45)):=by go_grown
    obtain⟨fn,tmps,assign,body,hy,hR⟩:=HY.out _ _ k E[j] vs vc fs fc (HSt.out _ _ _ HSj.out hba) hlt (HM.out _ (gM hltj)) (HEO.out _ (gM hltj)) ((hPe.mono λb hb _=>HN.out b hb).call hba) hve hfe
    have HTK:Hid ((E.take (j+1)).foldl (λt e=>next k e t) t=next k E[j] ((E.take j).foldl (λt e=>next k e t) t)):=by show _=_;rw[List.take_succ_eq_append_getElem hltj,j9];rfl
    have kba:KeptC Ch w3 (wr.alloc (Cc #[I Y E[j].tgt,Bb E[j].pic.none,U vs E[j].pic.vars.length vc,U fs E[j].pic.flds.length fc] 45)):=hkj.trans (KeptC.of hba)
    subst ees
    have NX:Cells (wr.alloc (Cc #[I Y E[j].tgt,Bb E[j].pic.none,U vs E[j].pic.vars.length vc,U fs E[j].pic.flds.length fc] 45)) wr.heap.size [I Y E[j].tgt,Bb E[j].pic.none,U vs E[j].pic.vars.length vc,U fs E[j].pic.flds.length fc]:=Cells.new wr _ [I Y E[j].tgt,Bb E[j].pic.none,U vs E[j].pic.vars.length vc,U fs E[j].pic.flds.length fc]
    clear EJ hPe HSj HS3
    go_upto_region 8 with fail
    clear c0 c1 c2 c3
    generalize wr.alloc (Cc #[I Y E[j].tgt,Bb E[j].pic.none,U vs E[j].pic.vars.length vc,U fs E[j].pic.flds.length fc] 45)=wy at *
    have c0:=NX.1 0 _ rfl
    have c1:=NX.1 1 _ rfl
    have c2:=NX.1 2 _ rfl
    have c3:=NX.1 3 _ rfl
    refine(wpIn_wide (n:=n)).1 ?_
    gi_wp2
    refine⟨λh=>(by cases h),hR.mono ?_⟩
    rintro e W3 (⟨rfl,hS4,hk4⟩|⟨rfl,hstop⟩)
    ·have HS4:=aa hS4
     clear hS4 hR hy c0 c1 c2 c3 NX
     have k5:=kba.trans hk4
     gi_wp2
     go_wp2
     go_roundw
     case rel=>exact⟨j+1,by omega,by go_num,by show St _ _;rw[HTK.out];exact HS4.out,k5⟩
     case measure=>simp[intOf];omega
    ·clear hR hy c0 c1 c2 c3 NX
     have HSP:=aa hstop
     clear hstop
     gi_wp2
     go_wp2
     refine bodyPost_ret (results_none rfl _ _ _) rfl ?_
     exact⟨⟨_,rfl⟩,.inr HSP.out⟩
theorem rr (V F:Int)(s:Option Addr)(c:List Ins)(cap:Nat)(ls:Option Addr)(len lc fd:Nat)(cs:Array Value)(w:World):
  Calls pG 53 #[pv V F s c cap,U ls len lc,.func (.func fd) #[] cs] w λe w'=>e=Rt (.func (.func 103) #[] #[Pp (sO ⟨w.heap.size,0,nO⟩),Pp (sO ⟨w.heap.size+1+1,0,nO⟩),Pp (sO ⟨w.heap.size+1,0,nO⟩)])∧(Cells w' w.heap.size [I Y V,I Y F,U s c.length cap]∧Cells w' (w.heap.size+1) [U ls len lc]∧Cells w' (w.heap.size+1+1) [.func (.func fd) #[] cs])∧Below w.heap.size w w':=by
 go_enter Tryz.func53,Tryz.ntmps53
 go_wp2
 go_ret
 refine⟨rfl,⟨(Cells.new w _ [_,_,_]).call (by go_grown),?_,?_⟩,by go_grown⟩
 ·have h:=Cells.new (w.alloc (Cc #[I Y V,I Y F,U s c.length cap] 24)) 47 [U ls len lc]
  rw[zA] at h
  exact h.call (by go_grown)
 ·have h:=Cells.new ((w.alloc (Cc #[I Y V,I Y F,U s c.length cap] 24)).alloc (Cc #[U ls len lc] 47)) 70 [.func (.func fd) #[] cs]
  rw[zA,zA] at h
  exact h
theorem yj {P:Program}{d:Code}{K:Act→World→Prop}{Q:Exit→Act→World→Prop}{a:Act}{w:World}(h:d.wp P (Exit.then K (λ_ _ _=>False)) a w):d.wp P (Exit.then K Q) a w:=wp_mono h λe a w q=>by
 cases e<;>first|exact q|exact q.elim
theorem sy {V F:Int}{c:List Ins}(h0:ag V F c=0):∀{L:List Pic},eR V F c L=0→∀x∈L,aE V F c x=0
 |[],_,x,hx=>by simp at hx
 |y::r,h,x,hx=>by
  unfold eR at h
  by_cases e:aq V F c [y]=0
  ·rw[if_pos e] at h
   rcases List.mem_cons.1 hx with rfl|hx
   ·exact(pN e).2
   ·exact sy h0 h x hx
  ·rw[if_neg e] at h
   exact absurd h e
theorem yi {V F:Int}{c:List Ins}{L:List Pic}(h0:ag V F c=0)(h:(if L.length=c.length+1 then eR V F c L else 1)=0):XsOk V F c L:=by
 by_cases e:L.length=c.length+1
 ·rw[if_pos e] at h
  exact⟨e,sy h0 h⟩
 ·rw[if_neg e] at h
  cases h
theorem yG (k:Int)(w:World):Calls pG 52 #[I Y k] w λe w'=>e=Rt (Bb true)∧Below w.heap.size w w':=by
 go_enter Tryz.func52,Tryz.ntmps52
 go_wp2
 go_ret
 exact⟨rfl,bR _ _⟩
def FitsAt (w:World)(V F:Int)(s:Option Addr)(c:List Ins)(cap:Nat)(ls:Option Addr)(len lc:Nat)(W:World):Prop:=Below w.heap.size w W∧Cells W w.heap.size [I Y V,I Y F,U s c.length cap]∧Cells W (w.heap.size+1) [U ls len lc]∧Cells W (w.heap.size+1+1) [Bb false]∧Cells W (w.heap.size+1+1+1) [I Y 0]
section
variable {w W W':World} {V F:Int} {s:Option Addr} {c:List Ins} {cap:Nat} {ls:Option Addr} {len lc:Nat}
theorem FitsAt.below (h:FitsAt w V F s c cap ls len lc W)(hb:Below W.heap.size W W'):FitsAt w V F s c cap ls len lc W':=⟨h.1.trans (hb.mono h.1.size),h.2.1.call hb,h.2.2.1.call hb,h.2.2.2.1.call hb,h.2.2.2.2.call hb⟩
theorem FitsAt.put {l:Nat}{o:Obj}(o':Obj)(h:FitsAt w V F s c cap ls len lc W)(ho:W.heap[l]? =sO o)(hc:o.isCells=false)(hw:o.isWalk=false)(hl:w.heap.size+1+1+1 < l):FitsAt w V F s c cap ls len lc (W.putObj l o'):=by
 have hz:W.heap.size≤(W.putObj l o').heap.size:=by simp[j3]
 exact⟨h.1.trans (belowK_b (w:=w) (lR _) W l o o' (by omega) ho hc hw),h.2.1.same (j2 (by omega)) hz,h.2.2.1.same (j2 (by omega)) hz,h.2.2.2.1.same (j2 (by omega)) hz,h.2.2.2.2.same (j2 (by omega)) hz⟩
end
theorem rh {w X:World}{D a a2:Nat}{b:Bool}{e:Int}{tmps:Array Value}(hD:X.heap[D]? =sO (.deferred (sO [])))(hR:Cells X a [Bb b])(hE:Cells X a2 [I Y e])(hB:Below w.heap.size w X)(hz:w.heap.size≤D)(h4:tmps[4]?.getD undef=Pp (sO ⟨a,0,nO⟩))(h5:tmps[5]?.getD undef=Pp (sO ⟨a2,0,nO⟩))(ha:a≠D)(ha2:a2≠D):
  bodyPostM Fence.wide 5 pG Tryz.f18 (λq w'=>q=Rt (Tu #[Bb b,I Y e])∧Below w.heap.size w w') .ret ⟨tmps,[{target:=.collected D,args:=#[]}]⟩ X:=by
 have hs:X.heap.size≤(X.putObj D (.deferred nO)).heap.size:=by simp[j3]
 have q0:=(hR.same (w':=X.putObj D (.deferred nO)) (j2 ha) hs).1 0 _ rfl
 have q1:=(hE.same (w':=X.putObj D (.deferred nO)) (j2 ha2) hs).1 0 _ rfl
 exact⟨by simp,.inl ⟨D,_,rfl,run_takeDeferred hD,Tu #[Bb b,I Y e],by simp[results,Tryz.results18,go_sem,h4,h5,q0,q1],rfl,hB.trans (belowK_b (w:=w) (lR _) X D _ _ hz hD rfl rfl)⟩⟩
theorem rB {c:List Ins}{L:List Pic}:∀{k:Nat},fF c (λ_:Bool=>L) (λ_ _=>true) (λ_ e t=>t&&aT e.pic (aM L e.tgt)) true k=(j7 k).all λi=>(cE c i (aM L i)).all λe=>aT e.pic (aM L e.tgt)
 |0=>rfl
 |k+1=>by
  have hf:∀(E:List Edg) (t:Bool),E.foldl (λt e=>t&&aT e.pic (aM L e.tgt)) t=(t&&E.all λe=>aT e.pic (aM L e.tgt)):=by
   intro E
   induction E with
   |nil=>intro t;simp
   |cons e r ih=>intro t;rw[List.foldl_cons,ih,List.all_cons,Bool.and_assoc]
  rw[kP,rB,j8,List.all_append]
  unfold kJ
  rw[if_pos rfl,hf]
  simp
def fJ (V F:Int)(c:List Ins)(L:List Pic):Int:=if ag V F c=0 then(if L.length=c.length+1 then eR V F c L else 1) else ag V F c
def dL (V F:Int)(c:List Ins)(L:List Pic):Bool:=decide (fJ V F c L=0)&&kF V F c L
theorem Dp {V F:Int}{s:Option Addr}{c:List Ins}{cap:Nat}{ls:Option Addr}{L:List Pic}{lc:Nat}{w w5 w6 W1:World}{fn:FuncId}{tmps:Array Value}{ps:Array Tmp}{assign body:Code}
  (hc:CodeAt w s c)(hL:XsAt w ls L)(hXO:XsOk V F c L)(h0:ag V F c=0)(hb:Below w6.heap.size w6 W1)(hl:LoopAt W1 (w6.heap.size+1) w6.heap.size (cL fn tmps ps assign body w6.heap.size .ready nO))(hF:FitsAt w V F s c cap ls L.length lc W1)
  (EP:Cells w6 w5.heap.size [I Y V,I Y F,U s c.length cap])(EL:Cells w6 (w5.heap.size+1) [U ls L.length lc])(EF:Cells w6 (w5.heap.size+1+1) [.func (.func 52) #[] #[]])
  (HALL:(fF c (λ_:Bool=>L) (λ_ _=>true) (λ_ e t=>t&&aT e.pic (aM L e.tgt)) true c.length=true→dL V F c L=true)∧∀k e,k < c.length→e∈cE c k (aM L k)→aT e.pic (aM L e.tgt)=false→dL V F c L=false)
  (hY:∀W (k:Nat) (e:Edg) vs vc fs fc,LoopAt W (w6.heap.size+1) w6.heap.size (cL fn tmps ps assign body w6.heap.size .ready nO)→FitsAt w V F s c cap ls L.length lc W→gV V F c e→PicAt W e.pic vs fs→(e.pic.vars.length≤vc∧vc≤maxLen)→(e.pic.flds.length≤fc∧fc≤maxLen)→YieldAt Fence.wide (5 - 1 - 1) pG (w6.heap.size+1) #[I Y (k:Int),Ag #[I Y e.tgt,Bb e.pic.none,U vs e.pic.vars.length vc,U fs e.pic.flds.length fc]] W λr W'=>(r=Rt (Bb true)∧aT e.pic (aM L e.tgt)=true∧LoopAt W' (w6.heap.size+1) w6.heap.size (cL fn tmps ps assign body w6.heap.size .ready nO)∧FitsAt w V F s c cap ls L.length lc W'∧KeptC (λ_=>False) W W')∨(r=Rt (Bb false)∧aT e.pic (aM L e.tgt)=false∧LoopAt W' (w6.heap.size+1) w6.heap.size (cL fn tmps ps assign body w6.heap.size .done (sO .ret))∧FitsAt w V F s c cap ls L.length lc W')):
  CallsIn Fence.wide (5 - 1) pG 103 (#[.func (.yield (w6.heap.size+1)) #[] #[]]++#[Pp (sO ⟨w5.heap.size,0,nO⟩),Pp (sO ⟨w5.heap.size+1+1,0,nO⟩),Pp (sO ⟨w5.heap.size+1,0,nO⟩)]) W1 λe W'=>(∃v,e=Rt v)∧((LoopAt W' (w6.heap.size+1) w6.heap.size (cL fn tmps ps assign body w6.heap.size .ready nO)∧FitsAt w V F s c cap ls L.length lc W'∧dL V F c L=true)∨∃c',LoopAt W' (w6.heap.size+1) w6.heap.size (cL fn tmps ps assign body w6.heap.size .done (sO c'))∧c'=.ret∧FitsAt w V F s c cap ls L.length lc W'∧dL V F c L=false):=by
 refine(rL (σ:=Bool) (V:=V) (F:=F) (s:=s) (c:=c) (cap:=cap) (pb:=w5.heap.size) (ib:=w5.heap.size+1+1) (lb:=w5.heap.size+1) (l:=w6.heap.size+1) (n:=5 - 1) (fd:=52) (lc:=lc) (ls:=ls) (cs:=#[]) (ar:=λp=>#[p]) (λ_=>by simp) (enters_of Tryz.func52 (by kernel_rfl) rfl) (pics:=λ_=>L) (due:=λ_ _=>true) (next:=λ_ e t=>t&&aT e.pic (aM L e.tgt))
  (St:=λb W=>b=true∧LoopAt W (w6.heap.size+1) w6.heap.size (cL fn tmps ps assign body w6.heap.size .ready nO)∧FitsAt w V F s c cap ls L.length lc W)
  (Stop:=λW=>LoopAt W (w6.heap.size+1) w6.heap.size (cL fn tmps ps assign body w6.heap.size .done (sO .ret))∧FitsAt w V F s c cap ls L.length lc W∧dL V F c L=false)
  (Ch:=λ_=>False) h0 true W1 ?_ ?_ ?_ ?_ ?_ (λ_ h=>h.elim) id id id ⟨rfl,hl,hF⟩ (EP.call hb) (EF.call hb) (by rw[←hXO.len];exact EL.call hb) (hc.below hF.1 (lR _))).mono ?_
 ·exact λt W W' h hb=>⟨h.1,h.2.1.below hb,h.2.2.below hb⟩
 ·exact λt W h=>⟨hL.below h.2.2.1 (lR _),hXO⟩
 ·exact λt W k h hk=>yG _ _
 ·rintro t W k e vs vc fs fc ⟨rfl,hl1,hF1⟩ hk ⟨t1,he⟩ hok hp hv hf
  refine(hY W k e vs vc fs fc hl1 hF1 hok hp.at hv hf).mono ?_
  rintro r W' (⟨e1,e2,e3,e4,e5⟩|⟨e1,e2,e3,e4⟩)
  ·exact .inl ⟨e1,⟨by rw[e2];rfl,e3,e4⟩,e5⟩
  ·exact .inr ⟨e1,e3,e4,HALL.2 k e hk he e2⟩
 ·exact λW W' h hc=>(CellsKept.blocks h.1 λb hb=>h.2 b id hb).code hc
 ·rintro e W' ⟨hv,⟨⟨h1,h2,h3⟩,h4⟩|⟨h1,h2,h3⟩⟩
  ·exact⟨hv,.inl ⟨h2,h3,HALL.1 h1⟩⟩
  ·exact⟨hv,.inr ⟨_,h1,rfl,h2,h3⟩⟩
attribute [local go_sem] Oper.semAt_some
theorem sM (V F:Int)(s:Option Addr)(c:List Ins)(cap:Nat)(ls:Option Addr)(L:List Pic)(lc:Nat)(w:World)(hc:CodeAt w s c)(hL:XsAt w ls L)(hl:L.length≤maxLen):
  Calls pG 18 #[pv V F s c cap,U ls L.length lc] w λe w'=>e=Rt (Tu #[Bb (dL V F c L),I Y (fJ V F c L)])∧Below w.heap.size w w':=by
 refine callsIn_wide.1 (callsIn_of_wp_marks (n:=5) Tryz.func18 rfl trivial (wpIn_wide.2 ?_) rfl)
 simp only[Tryz.ntmps18,q4,q5,q6,q7,q8,q9,z0,z1,z7,z8,z9]
 go_upto_region 1 with fail
 have B0:Below w.heap.size w ((((w.alloc (Cc #[I Y V,I Y F,U s c.length cap] 24)).alloc (Cc #[U ls L.length lc] 47)).alloc (Cc #[Bb false] 4)).alloc (Cc #[I Y 0] 36)):=by go_grown
 have P0:Cells ((((w.alloc (Cc #[I Y V,I Y F,U s c.length cap] 24)).alloc (Cc #[U ls L.length lc] 47)).alloc (Cc #[Bb false] 4)).alloc (Cc #[I Y 0] 36)) w.heap.size [I Y V,I Y F,U s c.length cap]:=(Cells.new w _ [_,_,_]).call (by go_grown)
 have L0:Cells ((((w.alloc (Cc #[I Y V,I Y F,U s c.length cap] 24)).alloc (Cc #[U ls L.length lc] 47)).alloc (Cc #[Bb false] 4)).alloc (Cc #[I Y 0] 36)) (w.heap.size+1) [U ls L.length lc]:=by
  have h:=Cells.new (w.alloc (Cc #[I Y V,I Y F,U s c.length cap] 24)) 47 [U ls L.length lc]
  rw[zA] at h
  exact h.call (by go_grown)
 have R0:Cells ((((w.alloc (Cc #[I Y V,I Y F,U s c.length cap] 24)).alloc (Cc #[U ls L.length lc] 47)).alloc (Cc #[Bb false] 4)).alloc (Cc #[I Y 0] 36)) (w.heap.size+1+1) [Bb false]:=by
  have h:=Cells.new ((w.alloc (Cc #[I Y V,I Y F,U s c.length cap] 24)).alloc (Cc #[U ls L.length lc] 47)) 4 [Bb false]
  rw[zA,zA] at h
  exact h.call (by go_grown)
 have E0:Cells ((((w.alloc (Cc #[I Y V,I Y F,U s c.length cap] 24)).alloc (Cc #[U ls L.length lc] 47)).alloc (Cc #[Bb false] 4)).alloc (Cc #[I Y 0] 36)) (w.heap.size+1+1+1) [I Y 0]:=by
  have h:=Cells.new (((w.alloc (Cc #[I Y V,I Y F,U s c.length cap] 24)).alloc (Cc #[U ls L.length lc] 47)).alloc (Cc #[Bb false] 4)) 36 [I Y 0]
  rw[zA,zA,zA] at h
  exact h
 have C0:=hc.below B0 (lR _)
 have X0:=hL.below B0 (lR _)
 have HC0:=aa hc
 have HX0:=aa hL
 clear hc hL
 generalize ((((w.alloc (Cc #[I Y V,I Y F,U s c.length cap] 24)).alloc (Cc #[U ls L.length lc] 47)).alloc (Cc #[Bb false] 4)).alloc (Cc #[I Y 0] 36))=w0 at *
 have p0:=P0.1 0 _ rfl
 have p1:=P0.1 1 _ rfl
 have p2:=P0.1 2 _ rfl
 have HBG:=aa (rT V F s c cap w0 C0)
 go_wp2_with (go_at_call 38;fail)
 refine HBG.out.mono ?_
 rintro e w1 ⟨⟨bs,bc,bf,be,rfl,PB,hbv,hbf⟩,hb1⟩
 clear HBG p0 p1 p2
 have B1:=B0.trans (hb1.mono B0.size)
 have P1:=P0.call hb1
 have L1:=L0.call hb1
 have R1:=R0.call hb1
 have E1:=E0.call hb1
 have C1:=C0.call hb1
 have X1:=X0.below hb1 (lR _)
 clear P0 L0 R0 E0 C0 X0 B0 hb1
 by_cases h0:ag V F c=0
 rotate_left
 ·have HE:Hid (fJ V F c L=ag V F c∧dL V F c L=false):=by
   have h:fJ V F c L=ag V F c:=by unfold fJ;rw[if_neg h0]
   exact⟨h,by unfold dL;rw[h];simp[h0]⟩
  generalize (if ag V F c=0 then bY V F c else du)=bg at *
  generalize ag V F c=r at *
  have f1:(r !=0)=true:=by simpa using h0
  clear h0
  go_upto_region 3 with fail
  have hba:Below w1.heap.size w1 (w1.alloc (Cc #[Bb bg.none,U bs bg.vars.length bc,U bf bg.flds.length be] 28)):=by go_grown
  have R2:=R1.call hba
  have E2:=E1.call hba
  have B2:=B1.trans (hba.mono B1.size)
  clear R1 E1 P1 L1 C1 X1 B1 PB hba
  generalize w1.alloc (Cc #[Bb bg.none,U bs bg.vars.length bc,U bf bg.flds.length be] 28)=w2 at *
  have r0:=R2.1 0 _ rfl
  have r1:=R2.2.2 0
  have s0:=E2.1 0 _ rfl
  have s1:=E2.2.2 0
  go_wp2
  obtain⟨wq,ewq⟩:∃q,q=bI w2 (w.heap.size+1+1) 0 [Bb false]:=⟨_,rfl⟩
  have PQ:=cX R2 0 _ ewq
  simp only[bI] at ewq
  rw[←ewq]
  obtain⟨wz,ewz⟩:∃q,q=bI wq (w.heap.size+1+1+1) 0 [I Y r]:=⟨_,rfl⟩
  have PZ:=cX (PQ.keep E2) 0 _ ewz
  simp only[bI] at ewz
  rw[←ewz]
  have q0:=(PZ.keep PQ.cells).1 0 _ rfl
  have q1:=PZ.cells.1 0 _ rfl
  exact⟨Tu #[Bb false,I Y r],by simp[results,Tryz.results18,go_sem,q0,q1],by rw[HE.out.1,HE.out.2],PZ.low (by omega) (PQ.low (by omega) B2)⟩
 obtain⟨⟨hV1,hV8⟩,⟨hF0,hF3⟩,h60⟩:=bQ h0
 rw[if_pos h0] at PB hbv hbf
 have HZ:Hid (ag V F c=0):=h0
 have HBE:Hid (∀q:Int,fJ V F c L=(if L.length=c.length+1 then eR V F c L else 1)):=λ_=>by unfold fJ;rw[if_pos h0]
 rw[h0,if_pos rfl]
 have hckb:aE V F c (bY V F c)=0:=(it h0).ck
 obtain⟨bg,ebg⟩:∃b,b=bY V F c:=⟨_,rfl⟩
 have HBG:=aa ebg
 rw[←ebg] at PB hbv hbf hckb ⊢
 clear ebg h0
 have hba:Below w1.heap.size w1 (w1.alloc (Cc #[Bb bg.none,U bs bg.vars.length bc,U bf bg.flds.length be] 28)):=by go_grown
 have G2:Cells (w1.alloc (Cc #[Bb bg.none,U bs bg.vars.length bc,U bf bg.flds.length be] 28)) w1.heap.size [Bb bg.none,U bs bg.vars.length bc,U bf bg.flds.length be]:=Cells.new w1 _ [_,_,_]
 have PB2:=PB.at.call hba
 have P2:=P1.call hba
 have L2:=L1.call hba
 have R2:=R1.call hba
 have E2:=E1.call hba
 have C2:=C1.call hba
 have X2:=X1.below hba (lR _)
 have B2:=B1.trans (hba.mono B1.size)
 have zn:=P1.2.1
 have zl:=L1.2.1
 have zr:=R1.2.1
 have ze:=E1.2.1
 clear P1 L1 R1 E1 C1 X1 B1 PB
 go_upto_region 4 with fail
 generalize w1.alloc (Cc #[Bb bg.none,U bs bg.vars.length bc,U bf bg.flds.length be] 28)=w2 at *
 have HCA:=aa (ud V F s c cap ls L lc w2 C2 X2 hl h60)
 have p0:=P2.1 0 _ rfl
 have p1:=P2.1 1 _ rfl
 have p2:=P2.1 2 _ rfl
 have l0:=L2.1 0 _ rfl
 go_wp2_with (go_at_call 50;fail)
 refine HCA.out.mono ?_
 rintro e w3 ⟨rfl,hb3⟩
 clear HCA p0 p1 p2 l0
 obtain⟨r,er⟩:∃r,r=(if L.length=c.length+1 then eR V F c L else 1):=⟨_,rfl⟩
 have HR:Hid (fJ V F c L=r):=by show _=_;rw[HBE.out 0,er]
 have HXO:Hid (r=0→XsOk V F c L):=λh=>yi HZ.out (by rw[←er];exact h)
 rw[←er]
 clear er HBE
 have P3:=P2.call hb3
 have L3:=L2.call hb3
 have R3:=R2.call hb3
 have E3:=E2.call hb3
 have G3:=G2.call hb3
 have PB3:=PB2.call hb3
 have C3:=C2.call hb3
 have X3:=X2.below hb3 (lR _)
 have B3:=B2.trans (hb3.mono B2.size)
 clear P2 L2 R2 E2 G2 PB2 C2 X2 B2 hb3
 by_cases hr:r=0
 rotate_left
 ·have f1:(r !=0)=true:=by simpa using hr
  have HB:Hid (dL V F c L=false):=by show _=_;unfold dL;rw[HR.out];simp[hr]
  clear hr
  have r0:=R3.1 0 _ rfl
  have r1:=R3.2.2 0
  have s0:=E3.1 0 _ rfl
  have s1:=E3.2.2 0
  go_wp2
  obtain⟨wq,ewq⟩:∃q,q=bI w3 (w.heap.size+1+1) 0 [Bb false]:=⟨_,rfl⟩
  have PQ:=cX R3 0 _ ewq
  simp only[bI] at ewq
  rw[←ewq]
  obtain⟨wz,ewz⟩:∃q,q=bI wq (w.heap.size+1+1+1) 0 [I Y r]:=⟨_,rfl⟩
  have PZ:=cX (PQ.keep E3) 0 _ ewz
  simp only[bI] at ewz
  rw[←ewz]
  have q0:=(PZ.keep PQ.cells).1 0 _ rfl
  have q1:=PZ.cells.1 0 _ rfl
  exact⟨Tu #[Bb false,I Y r],by simp[results,Tryz.results18,go_sem,q0,q1],by rw[HR.out,HB.out],PZ.low (by omega) (PQ.low (by omega) B3)⟩
 have hXO:=HXO.out hr
 have HR0:Hid (fJ V F c L=0):=by show _=_;rw[HR.out,hr]
 subst hr
 have h0l:0 < L.length:=by rw[hXO.len];omega
 obtain⟨rb,ro,els,zrb,vx,vxc,fx,fxc,⟨q0,q1,q2⟩,hPx,hvx,hfx⟩:=X3 0 h0l
 simp only[Nat.zero_mul,Nat.add_zero] at q0 q1 q2
 obtain⟨x,ex⟩:∃x,x=L[0]:=⟨_,rfl⟩
 have HEX:Hid (aM L 0=x):=by show _=_;rw[ex];exact gP h0l
 have hckx:aE V F c x=0:=by rw[ex];exact hXO.ck _ (gM h0l)
 rw[←ex] at q0 q1 q2 hPx hvx hfx
 clear ex
 subst els
 have hck2:aq V F c [bg,x]=0:=by unfold aq;rw[if_pos HZ.out];unfold bW;rw[if_pos hckb];unfold bW;rw[if_pos hckx];rfl
 have HWI:Hid (∀wx,Below w3.heap.size w3 wx→Calls pG 51 #[pv V F s c cap,xv bg bs bc bf be,xv x vx vxc fx fxc] wx λe w'=>e=Rt (Bb (aT bg x))∧Below wx.heap.size wx w'):=λwx hb=>by
  have h:=iF V F s c cap bg bs bc bf be x vx vxc fx fxc wx (C3.below hb (lR _)) (PB3.below hb (lR _)) hbv hbf (hPx.below hb (lR _)) hvx hfx
  rw[if_pos hck2] at h
  exact h
 have HKZ:Hid (∀wx,Below w3.heap.size w3 wx→(wx.cell? ⟨w.heap.size,0,nO⟩=sO (I Y V)∧wx.cell? ⟨w.heap.size,1,nO⟩=sO (I Y F)∧wx.cell? ⟨w.heap.size,2,nO⟩=sO (U s c.length cap))∧(wx.cell? ⟨w1.heap.size,0,nO⟩=sO (Bb bg.none)∧wx.cell? ⟨w1.heap.size,1,nO⟩=sO (U bs bg.vars.length bc)∧wx.cell? ⟨w1.heap.size,2,nO⟩=sO (U bf bg.flds.length be))∧wx.cell? ⟨w.heap.size+1,0,nO⟩=sO (U (sO ⟨rb,ro,nO⟩) L.length lc)∧(wx.cell? ⟨rb,ro,nO⟩=sO (Bb x.none)∧wx.cell? ⟨rb,ro+1,nO⟩=sO (U vx x.vars.length vxc)∧wx.cell? ⟨rb,ro+2,nO⟩=sO (U fx x.flds.length fxc))):=λwx hb=>by
  have p:=P3.call hb
  have q:=L3.call hb
  have g:=G3.call hb
  exact⟨⟨p.1 0 _ rfl,p.1 1 _ rfl,p.1 2 _ rfl⟩,⟨g.1 0 _ rfl,g.1 1 _ rfl,g.1 2 _ rfl⟩,q.1 0 _ rfl,by rw[hb.cell (by simp only;exact zrb)];exact q0,by rw[hb.cell (by simp only;exact zrb)];exact q1,by rw[hb.cell (by simp only;exact zrb)];exact q2⟩
 have B34:Below w3.heap.size w3 w3.drew:=(bR _ _).drew
 have m0:(0:Int) < (L.length:Int):=by omega
 have HIB:Hid (aT (bY V F c) (aM L 0)=aT bg x):=by show _=_;rw[←HBG.out,HEX.out]
 generalize aT bg x=ib at *
 go_upto_region 7 with fail
 refine yj ?_
 refine an (S:=(λwx=>(wx.cell? ⟨w.heap.size,0,nO⟩=sO (I Y V)∧wx.cell? ⟨w.heap.size,1,nO⟩=sO (I Y F)∧wx.cell? ⟨w.heap.size,2,nO⟩=sO (U s c.length cap))∧(wx.cell? ⟨w1.heap.size,0,nO⟩=sO (Bb bg.none)∧wx.cell? ⟨w1.heap.size,1,nO⟩=sO (U bs bg.vars.length bc)∧wx.cell? ⟨w1.heap.size,2,nO⟩=sO (U bf bg.flds.length be))∧wx.cell? ⟨w.heap.size+1,0,nO⟩=sO (U (sO ⟨rb,ro,nO⟩) L.length lc)∧(wx.cell? ⟨rb,ro,nO⟩=sO (Bb x.none)∧wx.cell? ⟨rb,ro+1,nO⟩=sO (U vx x.vars.length vxc)∧wx.cell? ⟨rb,ro+2,nO⟩=sO (U fx x.flds.length fxc)))) [] (by kernel_rfl) (HKZ.out _ B34) (λhHeld=> ?_)
 generalize w3.drew=w4 at *
 refine vZ 0 ?_ ?_
 refine vZ 1 ?_ ?_
 refine vZ 2 ?_ ?_
 refine vZ 3 ?_ ?_
 refine vZ 4 ?_ ?_
 refine ai (i:=5) rfl (by kernel_rfl) (λK hK=> ?_)
 go_simp
 go_at_call 51
 refine(HWI.out w4 B34).mono ?_
 rintro e w5 ⟨rfl,hb5⟩
 go_wp2_with fail
 refine hK.out _ _ (HKZ.out _ (B34.trans (hb5.mono B34.size))) (λhHeld=> ?_)
 clear hK K
 refine sm ?_
 refine vZ 6 ?_ ?_
 refine aj (by kernel_rfl) ?_ _
 have hb35:=B34.trans (hb5.mono B34.size)
 have P5:=P3.call hb35
 have L5:=L3.call hb35
 have R5:=R3.call hb35
 have E5:=E3.call hb35
 have B5:=B3.trans (hb35.mono B3.size)
 have C5:=C3.call hb35
 have X5:=X3.below hb35 (lR _)
 clear P3 L3 R3 E3 G3 PB3 C3 X3 B3 hb35 B34 hb5 HKZ HWI hPx hvx hfx hckx hckb hck2 q0 q1 q2 hHeld
 rcases j6 ib with hib|hib
 rotate_left
 ·have HB:Hid (dL V F c L=false):=by show _=_;unfold dL kF;rw[HIB.out,hib];simp
  rw[hib]
  clear hib
  have r0:=R5.1 0 _ rfl
  have r1:=R5.2.2 0
  have s0:=E5.1 0 _ rfl
  have s1:=E5.2.2 0
  go_wp2
  obtain⟨wq,ewq⟩:∃q,q=bI w5 (w.heap.size+1+1) 0 [Bb false]:=⟨_,rfl⟩
  have PQ:=cX R5 0 _ ewq
  simp only[bI] at ewq
  rw[←ewq]
  obtain⟨wz,ewz⟩:∃q,q=bI wq (w.heap.size+1+1+1) 0 [I Y 0]:=⟨_,rfl⟩
  have PZ:=cX (PQ.keep E5) 0 _ ewz
  simp only[bI] at ewz
  rw[←ewz]
  have q0:=(PZ.keep PQ.cells).1 0 _ rfl
  have q1:=PZ.cells.1 0 _ rfl
  exact⟨Tu #[Bb false,I Y 0],by simp[results,Tryz.results18,go_sem,q0,q1],by rw[HR0.out,HB.out],PZ.low (by omega) (PQ.low (by omega) B5)⟩
 have HI:=aa hib
 rw[hib]
 clear hib
 have p0:=P5.1 0 _ rfl
 have p1:=P5.1 1 _ rfl
 have p2:=P5.1 2 _ rfl
 have l0:=L5.1 0 _ rfl
 go_wp2_with (go_at_call 53;fail)
 refine(rr V F s c cap _ L.length lc 52 #[] w5).mono ?_
 rintro e w6 ⟨rfl,⟨EP,EL,EF⟩,hb6⟩
 clear p0 p1 p2 l0
 have HFA:Hid (FitsAt w V F s c cap (sO ⟨rb,ro,nO⟩) L.length lc w6):=⟨B5.trans (hb6.mono B5.size),P5.call hb6,L5.call hb6,R5.call hb6,E5.call hb6⟩
 have z5:=E5.2.1
 have z6:=EF.2.1
 have HALL:Hid ((fF c (λ_:Bool=>L) (λ_ _=>true) (λ_ e t=>t&&aT e.pic (aM L e.tgt)) true c.length=true→dL V F c L=true)∧∀k e,k < c.length→e∈cE c k (aM L k)→aT e.pic (aM L e.tgt)=false→dL V F c L=false):=by
  have e:dL V F c L=(j7 c.length).all λi=>(cE c i (aM L i)).all λe=>aT e.pic (aM L e.tgt):=by unfold dL kF;rw[HR0.out,HIB.out,HI.out];simp
  rw[rB,e]
  refine⟨id,λk q hk hq hf=> ?_⟩
  rw[x7]
  exact⟨k,List.mem_range.2 hk,by rw[Bool.not_eq_true,x7];exact⟨q,hq,by rw[hf];decide⟩⟩
 have HLN:=aa hXO
 clear P5 L5 R5 E5 B5 C5 X5 hb6 HXO hXO
 go_wp2
 refine wpIn_wide.1 (re (n:=5) (gf:=103) (lb:=#[Pp (sO ⟨w5.heap.size,0,nO⟩),Pp (sO ⟨w5.heap.size+1+1,0,nO⟩),Pp (sO ⟨w5.heap.size+1,0,nO⟩)]) rfl (enters_of Tryz.func103 (by kernel_rfl) rfl) (λ_ _ _ W=>FitsAt w V F s c cap (sO ⟨rb,ro,nO⟩) L.length lc W∧dL V F c L=true) (λ_ _ _ c' W=>c'=.ret∧FitsAt w V F s c cap (sO ⟨rb,ro,nO⟩) L.length lc W∧dL V F c L=false) ?hit ?hdone ?hstop)
 case hdone=>
  rintro r W hl ⟨hF,hfin⟩ r'
  have hF2:=hF.put r' hl.lp rfl rfl (by omega)
  have hD:(W.putObj (w6.heap.size+1) r').heap[w6.heap.size]? =sO (.deferred (sO [])):=(j2 (by omega)).trans hl.dfr
  have HFIN:=aa hfin
  clear hfin hF hl HALL HFA EP EL EF
  generalize W.putObj (w6.heap.size+1) r'=X at *
  obtain⟨hB,-,-,hR,hE⟩:=hF2
  have r0:=hR.1 0 _ rfl
  have r1:=hR.2.2 0
  have s0:=hE.1 0 _ rfl
  have s1:=hE.2.2 0
  go_simp
  go_wp2
  obtain⟨wq,ewq⟩:∃q,q=bI X (w.heap.size+1+1) 0 [Bb true]:=⟨_,rfl⟩
  have PQ:=cX hR 0 _ ewq
  simp only[bI] at ewq
  rw[←ewq]
  obtain⟨wz,ewz⟩:∃q,q=bI wq (w.heap.size+1+1+1) 0 [I Y 0]:=⟨_,rfl⟩
  have PZ:=cX (PQ.keep hE) 0 _ ewz
  simp only[bI] at ewz
  rw[←ewz]
  have hR':Cells wz (w.heap.size+1+1) [Bb (dL V F c L)]:=by rw[HFIN.out];exact PZ.keep PQ.cells
  have hE':Cells wz (w.heap.size+1+1+1) [I Y (fJ V F c L)]:=by rw[HR0.out];exact PZ.cells
  exact rh (((PZ.far _ (by omega)).trans (PQ.far _ (by omega))).trans hD) hR' hE' (PZ.low (by omega) (PQ.low (by omega) hB)) (by omega) rfl rfl (by omega) (by omega)
 case hstop=>
  rintro r c' W hl ⟨rfl,hF,hfin⟩ r'
  have hF2:=hF.put r' hl.lp rfl rfl (by omega)
  have hD:(W.putObj (w6.heap.size+1) r').heap[w6.heap.size]? =sO (.deferred (sO [])):=(j2 (by omega)).trans hl.dfr
  have HFIN:=aa hfin
  clear hfin hF hl HALL HFA EP EL EF
  generalize W.putObj (w6.heap.size+1) r'=X at *
  obtain⟨hB,-,-,hR,hE⟩:=hF2
  have hR':Cells X (w.heap.size+1+1) [Bb (dL V F c L)]:=by rw[HFIN.out];exact hR
  have hE':Cells X (w.heap.size+1+1+1) [I Y (fJ V F c L)]:=by rw[HR0.out];exact hE
  exact wpIn_ret (rh hD hR' hE' hB (by omega) rfl rfl (by omega) (by omega))
 case hit=>
  intro fn W1 hl hbW
  refine Dp HC0.out HX0.out HLN.out HZ.out hbW hl (HFA.out.below hbW) EP EL EF HALL.out ?_
  clear hl hbW HALL HFA EP EL EF W1
  intro W k e vs vc fs fc hl hF hok hp hv hf
  refine uH hl rfl ?_
  gi_wp2
  have hba:Below W.heap.size W (W.alloc (Cc #[I Y e.tgt,Bb e.pic.none,U vs e.pic.vars.length vc,U fs e.pic.flds.length fc] 45)):=by go_grown
  have hbox:Cells (W.alloc (Cc #[I Y e.tgt,Bb e.pic.none,U vs e.pic.vars.length vc,U fs e.pic.flds.length fc] 45)) W.heap.size [I Y e.tgt,Bb e.pic.none,U vs e.pic.vars.length vc,U fs e.pic.flds.length fc]:=Cells.new W _ [_,_,_,_]
  have hlz:=(j4.1 hl.lp).1
  have Hl:=aa hl
  refine nX hl (by omega) hba ?_
  clear hl
  intro W2 hl2 hO
  have Fa:=hF.below hba
  have zO:=hO.size
  have za:=hba.size
  have FB2:=hO.low (by omega) Fa.1
  have FP2:=Fa.2.1.same (hO.far _ (by omega)) (by omega)
  have FL2:=Fa.2.2.1.same (hO.far _ (by omega)) (by omega)
  have FR2:=Fa.2.2.2.1.same (hO.far _ (by omega)) (by omega)
  have FE2:=Fa.2.2.2.2.same (hO.far _ (by omega)) (by omega)
  have BX2:=hbox.same (hO.far _ (by omega)) (by omega)
  have hp2:=hO.kept.pic (hp.call hba)
  have X2:=HX0.out.below FB2 (lR _)
  have C2:=HC0.out.below FB2 (lR _)
  obtain⟨q,hq⟩:=j5 hok.2.1
  have hqL:q < L.length:=by have:=HLN.out.len;have:=hok.2.2;omega
  obtain⟨rb',ro',els,zrb,vy,vyc,fy,fyc,⟨q0,q1,q2⟩,hPy,hvy,hfy⟩:=X2 q hqL
  cases els
  obtain⟨y,ey⟩:∃y,y=L[q]:=⟨_,rfl⟩
  have HEY:Hid (aM L e.tgt=y):=by show _=_;rw[hq,ey];exact gP hqL
  have hcky:aE V F c y=0:=by rw[ey];exact HLN.out.ck _ (gM hqL)
  rw[←ey] at q0 q1 q2 hPy hvy hfy
  clear ey
  have hck2:aq V F c [e.pic,y]=0:=by unfold aq;rw[if_pos HZ.out];unfold bW;rw[if_pos hok.1];unfold bW;rw[if_pos hcky];rfl
  have HWI:Hid (∀wx,Below W2.heap.size W2 wx→Calls pG 51 #[pv V F s c cap,xv e.pic vs vc fs fc,xv y vy vyc fy fyc] wx λe' w'=>e'=Rt (Bb (aT e.pic y))∧Below wx.heap.size wx w'):=λwx hb=>by
   have h:=iF V F s c cap e.pic vs vc fs fc y vy vyc fy fyc wx (C2.below hb (lR _)) (hp2.below hb (lR _)) hv hf (hPy.below hb (lR _)) hvy hfy
   rw[if_pos hck2] at h
   exact h
  rw[hq] at BX2
  have HKZ:Hid (∀wx,Below W2.heap.size W2 wx→(wx.cell? ⟨w.heap.size,0,nO⟩=sO (I Y V)∧wx.cell? ⟨w.heap.size,1,nO⟩=sO (I Y F)∧wx.cell? ⟨w.heap.size,2,nO⟩=sO (U s c.length cap))∧(wx.cell? ⟨W.heap.size,0,nO⟩=sO (I Y (q:Int))∧wx.cell? ⟨W.heap.size,1,nO⟩=sO (Bb e.pic.none)∧wx.cell? ⟨W.heap.size,2,nO⟩=sO (U vs e.pic.vars.length vc)∧wx.cell? ⟨W.heap.size,3,nO⟩=sO (U fs e.pic.flds.length fc))∧wx.cell? ⟨w.heap.size+1,0,nO⟩=sO (U (sO ⟨rb,ro,nO⟩) L.length lc)∧(wx.cell? ⟨rb,ro+q * 3,nO⟩=sO (Bb y.none)∧wx.cell? ⟨rb,ro+q * 3+1,nO⟩=sO (U vy y.vars.length vyc)∧wx.cell? ⟨rb,ro+q * 3+2,nO⟩=sO (U fy y.flds.length fyc))):=λwx hb=>by
   have p:=FP2.call hb
   have l:=FL2.call hb
   have g:=BX2.call hb
   exact⟨⟨p.1 0 _ rfl,p.1 1 _ rfl,p.1 2 _ rfl⟩,⟨g.1 0 _ rfl,g.1 1 _ rfl,g.1 2 _ rfl,g.1 3 _ rfl⟩,l.1 0 _ rfl,by rw[hb.cell (by simp only;exact zrb)];exact q0,by rw[hb.cell (by simp only;exact zrb)];exact q1,by rw[hb.cell (by simp only;exact zrb)];exact q2⟩
  have B34:Below W2.heap.size W2 W2.drew:=(bR _ _).drew
  have m0:(0:Int)≤(q:Int):=by omega
  have m1:(q:Int) < (L.length:Int):=by omega
  have HIB:Hid (aT e.pic (aM L e.tgt)=aT e.pic y):=by show _=_;rw[HEY.out]
  generalize aT e.pic y=ib at *
  refine wpIn_block (wpIn_seq (nf ?_))
  refine yl (S:=(λwx=>(wx.cell? ⟨w.heap.size,0,nO⟩=sO (I Y V)∧wx.cell? ⟨w.heap.size,1,nO⟩=sO (I Y F)∧wx.cell? ⟨w.heap.size,2,nO⟩=sO (U s c.length cap))∧(wx.cell? ⟨W.heap.size,0,nO⟩=sO (I Y (q:Int))∧wx.cell? ⟨W.heap.size,1,nO⟩=sO (Bb e.pic.none)∧wx.cell? ⟨W.heap.size,2,nO⟩=sO (U vs e.pic.vars.length vc)∧wx.cell? ⟨W.heap.size,3,nO⟩=sO (U fs e.pic.flds.length fc))∧wx.cell? ⟨w.heap.size+1,0,nO⟩=sO (U (sO ⟨rb,ro,nO⟩) L.length lc)∧(wx.cell? ⟨rb,ro+q * 3,nO⟩=sO (Bb y.none)∧wx.cell? ⟨rb,ro+q * 3+1,nO⟩=sO (U vy y.vars.length vyc)∧wx.cell? ⟨rb,ro+q * 3+2,nO⟩=sO (U fy y.flds.length fyc)))) [] (by kernel_rfl) (by simp[nw]) BW (HKZ.out _ B34) (λhHeld=> ?_)
  generalize W2.drew=w4 at *
  refine vZ 0 ?_ ?_
  refine vZ 1 ?_ ?_
  refine vZ 2 ?_ ?_
  refine vZ 3 ?_ ?_
  refine vZ 4 ?_ ?_
  refine vZ 5 ?_ ?_
  refine vZ 6 ?_ ?_
  refine vZ 7 ?_ ?_
  refine ai (i:=8) rfl (by kernel_rfl) (λK hK=> ?_)
  go_simp
  go_at_call 51
  refine(HWI.out w4 B34).mono ?_
  rintro e5 w5' ⟨rfl,hb5⟩
  go_wp2_with fail
  refine hK.out _ _ (HKZ.out _ (B34.trans (hb5.mono B34.size))) (λhHeld=> ?_)
  clear hK K
  refine sm ?_
  refine vZ 9 ?_ ?_
  refine aj (by kernel_rfl) ?_ _
  have hb25:=B34.trans (hb5.mono B34.size)
  have F5:FitsAt w V F s c cap (sO ⟨rb,ro,nO⟩) L.length lc w5':=FitsAt.below ⟨FB2,FP2,FL2,FR2,FE2⟩ hb25
  have hl5:=hl2.below hb25
  have HKE:=aa (Bf Hl.out hba hO hb25)
  clear Hl hba hO hb25 B34 hb5 hHeld HKZ HWI hcky hck2 hPy hvy hfy q0 q1 q2 zrb FB2 FP2 FL2 FR2 FE2 BX2 hp2 X2 C2 hbox Fa hl2 HEY hp hv hf hok
  rcases j6 ib with hib|hib
  ·subst hib
   refine wpIn_cond_false rfl (wpIn_skip ?_)
   exact⟨hl5,HIB.out,hl5.put (by omega) _,F5.put _ hl5.lp rfl rfl (by omega),HKE.out.1,λb _ hb=>HKE.out.2 b hb⟩
  ·subst hib
   refine wpIn_cond_true rfl ?_
   have Hl5:=aa hl5
   clear hl5
   obtain⟨B5,P5,L5,R5,E5⟩:=F5
   have r0:=R5.1 0 _ rfl
   have r1:=R5.2.2 0
   have s0:=E5.1 0 _ rfl
   have s1:=E5.2.2 0
   gi_wp2
   obtain⟨wq,ewq⟩:∃q,q=bI w5' (w.heap.size+1+1) 0 [Bb false]:=⟨_,rfl⟩
   have PQ:=cX R5 0 _ ewq
   simp only[bI] at ewq
   rw[←ewq]
   obtain⟨wz,ewz⟩:∃q,q=bI wq (w.heap.size+1+1+1) 0 [I Y 0]:=⟨_,rfl⟩
   have PZ:=cX (PQ.keep E5) 0 _ ewz
   simp only[bI] at ewz
   rw[←ewz]
   have hl6:=Hl5.out.far ((PZ.far _ (by omega)).trans (PQ.far _ (by omega))) ((PZ.far _ (by omega)).trans (PQ.far _ (by omega)))
   have F6:FitsAt w V F s c cap (sO ⟨rb,ro,nO⟩) L.length lc wz:=⟨PZ.low (by omega) (PQ.low (by omega) B5),PZ.keep (PQ.keep P5),PZ.keep (PQ.keep L5),PZ.keep PQ.cells,PZ.cells⟩
   exact⟨hl6,HIB.out,hl6.put (by omega) _,F6.put _ hl6.lp rfl rfl (by omega)⟩
end
section
open Go.RowKit
attribute [local go_sem ↓] Go.wp_at_zero Go.wp_at_succ
theorem CY {V F:Int}{c:List Ins}{r:St}(h:RunOk V F c r):fL V F c r=0:=by
 obtain⟨a0,a1,tk,f0,f5,vr,th,si,fi,va,fv⟩:=h
 unfold fL
 rw[if_neg (by simp only[btw,Bool.or_eq_true,Bool.not_eq_true',decide_eq_false_iff_not,decide_eq_true_eq,not_or,Decidable.not_not];omega),if_neg (by simpa using vr),if_neg (by omega),if_neg,if_neg,if_neg]
 ·simp only[x4,x5,Bool.and_eq_true]
  exact⟨λv hv=>okValB_iff.2 (va v hv),λt ht v hv=>okValB_iff.2 (fv t ht v hv)⟩
 ·simp only[x4,x5,decide_eq_true_eq]
  exact fi
 ·simp only[x4,x5]
  exact si
def FY (V F:Int)(c:List Ins)(ins:List Int)(e:Ending)(w':World):Prop:=(∃er:Int,er≠0∧e=Rt (Tu #[Ag #[I Y 0,U nO 0 0,U nO 0 0,I Y 0,U nO 0 0,I Y 0],I Y 0,I Y er]))∨∃(k:Nat) (vs:Option Addr) (vc:Nat) (ts:Option Addr) (tc:Nat) (ls:Option Addr) (lc:Nat),k≤5000∧e=Rt (Tu #[Ag #[I Y (bG V F c ins k).1.at_,U vs (bG V F c ins k).1.vars.length vc,U ts (bG V F c ins k).1.things.length tc,I Y (bG V F c ins k).1.taken,U ls (bG V F c ins k).1.lines.length lc,I Y (bG V F c ins k).1.fin],I Y (bG V F c ins k).2,I Y 0])∧RunAt w' (bG V F c ins k).1 vs ts ls∧RunOk V F c (bG V F c ins k).1∧fA (bG V F c ins k).1
theorem Ig (V F:Int)(s:Option Addr)(c:List Ins)(cap:Nat)(is:Option Addr)(ic:Nat)(ins:List Int)(fuel:Int)(w:World)(hc:CodeAt w s c)(hI:IntsAt w is ins)(hT:Tab w)(h0:ag V F c=0):
  Calls pG 19 #[pv V F s c cap,U is ins.length ic,I Y fuel] w λe w'=>FY V F c ins e w'∧Below w.heap.size w w':=by
 have hp:=bM h0
 have h8:=hp.v8
 have h1:=hp.v1
 have h2:=hp.f0
 have h3:=(bQ h0).2.1.2
 obtain⟨v,rfl⟩:=j5 (show 0≤V by omega)
 obtain⟨f,rfl⟩:=j5 h2
 by_cases hf:fuel < 0∨5000 < fuel
 ·refine(AN v f s c cap is ic ins fuel w hc h0 hf).mono ?_
  rintro e w' ⟨rfl,hb⟩
  exact⟨.inl ⟨3,by decide,rfl⟩,hb⟩
 ·obtain⟨k,rfl⟩:=j5 (show 0≤fuel by omega)
  refine(yd v f s c cap is ic ins k w hc hI hT h0 (by omega)).mono ?_
  rintro e w' ⟨vv,tv,lv,fv,rfl,ho,hr,hl,hb⟩
  obtain⟨vs,vc,ts,tc,ls,lc,rfl,rfl,rfl,hat⟩:=ho.at
  refine⟨.inr ⟨k,vs,vc,ts,tc,ls,lc,by omega,rfl,hat,hr,?_,?_,?_,λt ht=> ?_⟩,hb⟩
  ·have:=hr.vars;unfold maxLen;omega
  ·have:=hr.things;unfold maxLen;omega
  ·unfold maxLen;omega
  ·have:=hr.fields t ht;unfold maxLen;omega
theorem kn:SolvedAt 1 0 aH 1:=by
 refine⟨λk hk=> ?_,by decide+kernel⟩
 have:k=0:=by omega
 subst this
 decide+kernel
theorem lH:ag 1 0 aH=0:=by decide+kernel
theorem sN {V F:Int}{c:List Ins}(h0:ag V F c=0):∀{L:List Pic},(∀x∈L,aE V F c x=0)→eR V F c L=0
 |[],_=>rfl
 |y::r,h=>by
  have e:aq V F c [y]=0:=by unfold aq;rw[if_pos h0];unfold bW;rw[if_pos (h y (by simp))];rfl
  unfold eR
  rw[if_pos e]
  exact sN h0 λx hx=>h x (by simp[hx])
theorem vu {V F:Int}{c:List Ins}{m:Nat}(h0:ag V F c=0)(h:SolvedAt V F c m):fJ V F c (bp V F c m)=0∧dL V F c (bp V F c m)=true:=by
 have hx:=dQ h0 m
 have e:fJ V F c (bp V F c m)=0:=by unfold fJ;rw[if_pos h0,if_pos hx.len];exact sN h0 hx.ck
 refine⟨e,?_⟩
 unfold dL
 rw[e,(nL h0 h).2]
 rfl
theorem Gf {V F:Int}{c:List Ins}{L:List Pic}(he:fJ V F c L=0)(hb:dL V F c L=true):ag V F c=0∧XsOk V F c L∧kF V F c L=true:=by
 have h0:ag V F c=0:=by
  unfold fJ at he
  split at he
  ·assumption
  ·exact he
 have hx:XsOk V F c L:=by unfold fJ at he;rw[if_pos h0] at he;exact yi h0 he
 unfold dL at hb
 rw[he] at hb
 exact⟨h0,hx,by simpa using hb⟩
theorem BY (V F:Int)(s:Option Addr)(c:List Ins)(cap:Nat)(ls:Option Addr)(pl pc dc sb db vb nb k:Nat)(n:Int)(D:List Int)(w:World)(hV:Cells w vb [Pp (sO ⟨sb,0,nO⟩)])(hN:Cells w nb [I Y n])(hst:Cells w sb [I Y V,I Y F,U s c.length cap,U ls pl pc,U (sO ⟨db,0,nO⟩) D.length dc])(hD:DRow w db D)(hk:k < D.length)(hm:D.length≤maxLen):
  Calls pG 99 #[I Y (k:Int),Pp (sO ⟨vb,0,nO⟩),Pp (sO ⟨nb,0,nO⟩)] w λe w'=>e=Rt (Bb (D[k]==n))∧Below w.heap.size w w':=by
 have HS:Hid (w.drew.cell? ⟨vb,0,nO⟩=sO (Pp (sO ⟨sb,0,nO⟩))∧w.drew.cell? ⟨nb,0,nO⟩=sO (I Y n)∧w.drew.cell? ⟨sb,4,nO⟩=sO (U (sO ⟨db,0,nO⟩) D.length dc)∧w.drew.cell? ⟨db,k,nO⟩=sO (I Y D[k])):=by
  have b:Below w.heap.size w w.drew:=(bR _ _).drew
  exact⟨(hV.call b).1 0 _ rfl,(hN.call b).1 0 _ rfl,(hst.call b).1 4 _ rfl,(hD.call b).get hk⟩
 have B34:Below w.heap.size w w.drew:=(bR _ _).drew
 generalize D[k]=d at *
 have m0:(0:Int)≤(k:Int):=by omega
 have m1:(k:Int) < (D.length:Int):=by omega
 go_enter Tryz.func99,Tryz.ntmps99
 go_upto_region 1 with fail
 refine an (S:=(λwx=>wx.cell? ⟨vb,0,nO⟩=sO (Pp (sO ⟨sb,0,nO⟩))∧wx.cell? ⟨nb,0,nO⟩=sO (I Y n)∧wx.cell? ⟨sb,4,nO⟩=sO (U (sO ⟨db,0,nO⟩) D.length dc)∧wx.cell? ⟨db,k,nO⟩=sO (I Y d))) [] (by kernel_rfl) HS.out (λhHeld=> ?_)
 refine vZ 0 ?_ ?_
 refine vZ 1 ?_ ?_
 refine vZ 2 ?_ ?_
 refine vZ 3 ?_ ?_
 refine vZ 4 ?_ ?_
 refine vZ 5 ?_ ?_
 refine vZ 6 ?_ ?_
 refine vZ 7 ?_ ?_
 refine vZ 8 ?_ ?_
 refine vZ 9 ?_ ?_
 refine aj (by kernel_rfl) ?_ _
 go_wp2
 go_ret
 exact⟨rfl,B34⟩
theorem Fc {c:List Ins}{n:Int}{t:List Pic×List Int×Bool}{k:Nat}:kJ c (λt:List Pic×List Int×Bool=>t.1) (λt k=>t.2.1.getD k 0==n) (λk e t=>cC n k t e) t k=fY c n t k:=by
 unfold kJ fY
 by_cases h:t.2.1.getD k 0=n
 ·rw[if_pos h,if_pos (by simpa using h)]
 ·rw[if_neg h,if_neg (by simpa using h)]
theorem uJ {c:List Ins}{n:Int}{t:List Pic×List Int×Bool}:∀{k:Nat},fF c (λt:List Pic×List Int×Bool=>t.1) (λt k=>t.2.1.getD k 0==n) (λk e t=>cC n k t e) t k=(j7 k).foldl (fY c n) t
 |0=>rfl
 |k+1=>by rw[kP,uJ,Fc,j8,j9];rfl
theorem Eb {V F:Int}{c:List Ins}(h0:ag V F c=0){n i:Int}{t:List Pic×List Int×Bool}{e:Edg}(h:XsOk V F c t.1)(hd:t.2.1.length=c.length+1)(he:gV V F c e):XsOk V F c (cC n i t e).1∧(cC n i t e).2.1.length=c.length+1:=by
 obtain⟨b1,-⟩:=l8 (n:=n) (i:=i) (s:=(t.1,t.2.2)) h0 h he
 have e1:(cJ n i (t.1,t.2.2) e).1=(cC n i t e).1:=by rw[←lX]
 rw[e1] at b1
 refine⟨b1,?_⟩
 unfold cC
 split
 ·exact hd
 ·simpa using hd
theorem KeptC.code {Ch:Nat→Prop}{W W':World}{s:Option Addr}{c:List Ins}(h:KeptC Ch W W')(hs:∀a,s=sO a→¬Ch a.block)(hc:CodeAt W s c):CodeAt W' s c:=by
 rcases hc with hi|⟨b,off,e,hb,hc⟩
 ·exact .inl hi
 ·refine .inr ⟨b,off,e,lL hb h.1,λk hk=> ?_⟩
  obtain⟨h0,h1,h2,h3,h4,h5⟩:=hc k hk
  have hB:=h.2 b (hs _ e) hb
  refine⟨?_,?_,?_,?_,?_,?_⟩<;>rw[x8 hB]<;>assumption
theorem KeptC.mono {Ch Ch':Nat→Prop}{W W':World}(h:KeptC Ch W W')(hs:∀b,Ch b→Ch' b):KeptC Ch' W W':=⟨h.1,λb hb hlt=>h.2 b (λhc=>hb (hs b hc)) hlt⟩
theorem Be {w:World}{s:Option Addr}{c:List Ins}{pb db cb:Nat}(hC:CodeAt w s c)(hsC:c≠[]→∀a,s=sO a→a.block≠pb∧a.block≠db)(hcb:w.heap.size≤cb):∀W W',KeptC (λb=>b=pb∨b=db∨b=cb) W W'→CodeAt W s c→CodeAt W' s c:=by
 by_cases hcn:c=[]
 ·exact λ_ _ _ _=>.inl hcn
 ·rcases hC with h|⟨b,off,e,hb,-⟩
  ·exact absurd h hcn
  intro W W' hk h
  refine hk.code (λa ha=> ?_) h
  have h1:=hsC hcn a ha
  have h2:a.block=b:=by rw[e] at ha;cases ha;rfl
  rintro (h|h|h)
  ·exact h1.1 h
  ·exact h1.2 h
  ·omega
theorem PicOn.drop {S:Nat→Prop}{W:World}{x:Pic}{vs fs:Option Addr}{l:Nat}{r:Loop}(h:PicOn S W x vs fs)(hl:W.heap[l]? =sO (.loop r)):PicOn (λb=>S b∧b≠l) W x vs fs:=λw2 h2 hz=>by
 have hlz:=(j4.1 hl).1
 have h3:PicAt (w2.putObj l (.loop r)) x vs fs:=h _ (λb hb hlt=>by
  by_cases e:b=l
  ·subst e;rw[x6 (by omega),hl]
  ·rw[j2 e];exact h2 b ⟨hb,e⟩ hlt) (by simpa[j3] using hz)
 refine CellsKept.pic (W:=w2.putObj l (.loop r)) ⟨by simp[j3],λb k v hv=> ?_⟩ h3
 by_cases e:b=l
 ·subst e
  exfalso
  have e2:(w2.putObj b (.loop r)).heap[b]? =sO (.loop r):=x6 (by omega)
  simp only[World.cell?,e2] at hv
  cases hv
 ·rw[x8 (a:=⟨b,k,nO⟩) (j2 e)] at hv
  exact hv
theorem DL {F:Fence}{m:Nat}{P:Program}{c d:Code}{Q:Exit→Act→World→Prop}{a:Act}{w:World}(h:∀K:Act→World→Prop,Hid (∀a w,d.wpIn F m P Q a w→K a w)→c.wpIn F m P (Exit.then K (λ_ _ _=>False)) a w):(c.seq d).wpIn F m P Q a w:=wpIn_seq (nf (h _ λ_ _ h=>h))
theorem uy {V F:Int}{s:Option Addr}{c:List Ins}{cap:Nat}{x y:Pic}{vs1:Option Addr}{vc1:Nat}{fs1:Option Addr}{fc1:Nat}{vs2:Option Addr}{vc2:Nat}{fs2:Option Addr}{fc2:Nat}{w:World}(h0:ag V F c=0)(hx0:aE V F c x=0)(hy0:aE V F c y=0)(hcd:CodeAt w s c)(hx:PicAt w x vs1 fs1)(h1:x.vars.length≤vc1∧vc1≤maxLen)(h2:x.flds.length≤fc1∧fc1≤maxLen)(hy:PicAt w y vs2 fs2)(h3:y.vars.length≤vc2∧vc2≤maxLen)(h4:y.flds.length≤fc2∧fc2≤maxLen):Calls pG 32 #[pv V F s c cap,xv x vs1 vc1 fs1 fc1,xv y vs2 vc2 fs2 fc2] w λe w'=>iH w.heap.size w' e (aL (ac false) x y) 0∧Below w.heap.size w w':=by
 have hk:aq V F c [x,y]=0:=by unfold aq;rw[if_pos h0];unfold bW;rw[if_pos hx0];unfold bW;rw[if_pos hy0];rfl
 have h:=Bi V F s c cap x vs1 vc1 fs1 fc1 y vs2 vc2 fs2 fc2 w hcd hx h1 h2 hy h3 h4
 rw[if_pos hk,hk,(nE h0 hx0 hy0).1] at h
 exact h
theorem De {V F:Int}{s:Option Addr}{c:List Ins}{cap:Nat}{x y:Pic}{vs1:Option Addr}{vc1:Nat}{fs1:Option Addr}{fc1:Nat}{vs2:Option Addr}{vc2:Nat}{fs2:Option Addr}{fc2:Nat}{w:World}(h0:ag V F c=0)(hx0:aE V F c x=0)(hy0:aE V F c y=0)(hcd:CodeAt w s c)(hx:PicAt w x vs1 fs1)(h1:x.vars.length≤vc1∧vc1≤maxLen)(h2:x.flds.length≤fc1∧fc1≤maxLen)(hy:PicAt w y vs2 fs2)(h3:y.vars.length≤vc2∧vc2≤maxLen)(h4:y.flds.length≤fc2∧fc2≤maxLen):Calls pG 33 #[pv V F s c cap,xv x vs1 vc1 fs1 fc1,xv y vs2 vc2 fs2 fc2] w λe w'=>iH w.heap.size w' e (aL (ac true) x y) 0∧Below w.heap.size w w':=by
 have hk:aq V F c [x,y]=0:=by unfold aq;rw[if_pos h0];unfold bW;rw[if_pos hx0];unfold bW;rw[if_pos hy0];rfl
 have h:=FI V F s c cap x vs1 vc1 fs1 fc1 y vs2 vc2 fs2 fc2 w hcd hx h1 h2 hy h3 h4
 rw[if_pos hk,hk,(nE h0 hx0 hy0).2] at h
 exact h
theorem PRow.mono {S S':Nat→Prop}{W:World}{pb:Nat}{L:List Pic}(h:PRow S W pb L)(hs:∀b,S b→b < W.heap.size→S' b):PRow S' W pb L:=by
 obtain⟨cs,hc,hl,h⟩:=h
 refine⟨cs,hc,hl,λi hi=> ?_⟩
 obtain⟨vs,vc,fs,fc,h0,hp,hq⟩:=h i hi
 exact⟨vs,vc,fs,fc,h0,hp.mono hs,hq⟩
structure RndAt (S:Nat→Prop) (w:World) (V F:Int) (s:Option Addr) (c:List Ins) (cap sb pb pc db dc:Nat) (n:Int) (t:List Pic×List Int×Bool) (W:World):Prop where
 vs:Cells W w.heap.size [Pp (sO ⟨sb,0,nO⟩)]
 vn:Cells W (w.heap.size+1) [I Y n]
 vc:Cells W (w.heap.size+1+1) [Bb t.2.2]
 st:Cells W sb [I Y V,I Y F,U s c.length cap,U (sO ⟨pb,0,nO⟩) t.1.length pc,U (sO ⟨db,0,nO⟩) t.2.1.length dc]
 pr:PRow S W pb t.1
 dr:DRow W db t.2.1
 xs:XsOk V F c t.1
 ln:t.2.1.length=c.length+1
 kp:KeptC (λb=>b=pb∨b=db) w W
 lo:∀{B:Nat} {a:World},B≤pb→B≤db→B≤w.heap.size→Below B a w→Below B a W
section
variable {S:Nat→Prop} {w W W':World} {V F:Int} {s:Option Addr} {c:List Ins} {cap sb pb pc db dc:Nat} {n:Int} {t:List Pic×List Int×Bool}
theorem RndAt.below (h:RndAt S w V F s c cap sb pb pc db dc n t W)(hb:Below W.heap.size W W'):RndAt S w V F s c cap sb pb pc db dc n t W':=⟨h.vs.call hb,h.vn.call hb,h.vc.call hb,h.st.call hb,h.pr.call hb,h.dr.call hb,h.xs,h.ln,h.kp.trans (KeptC.of hb),λh1 h2 h3 h4=>(h.lo h1 h2 h3 h4).trans (hb.mono (lT h3 h.kp.1))⟩
theorem RndAt.mono {S':Nat→Prop}(h:RndAt S w V F s c cap sb pb pc db dc n t W)(hs:∀b,S b→b < W.heap.size→S' b):RndAt S' w V F s c cap sb pb pc db dc n t W:=⟨h.vs,h.vn,h.vc,h.st,h.pr.mono hs,h.dr,h.xs,h.ln,h.kp,h.lo⟩
theorem RndAt.round {l:Nat}(h:RndAt S w V F s c cap sb pb pc db dc n t W)(hO:RoundAt l W W')(hl:w.heap.size+1+1 < l)(hsb:sb≠l)(hpb:pb≠l)(hdb:db≠l)(hS:∀b,S b→b≠l):RndAt S w V F s c cap sb pb pc db dc n t W':=
 have hz:W.heap.size≤W'.heap.size:=by rw[hO.size];exact lR _
 ⟨h.vs.same (hO.far _ (by omega)) hz,h.vn.same (hO.far _ (by omega)) hz,h.vc.same (hO.far _ (by omega)) hz,h.st.same (hO.far _ hsb) hz,h.pr.far (hO.far _ hpb) (λb hb _=>hO.far b (hS b hb)) hz,h.dr.far (hO.far _ hdb) hz,h.xs,h.ln,⟨lT h.kp.1 hz,λb hb hlt=>(hO.far b (by omega)).trans (h.kp.2 b hb hlt)⟩,λh1 h2 h3 h4=>hO.low (by omega) (h.lo h1 h2 h3 h4)⟩
theorem DM {W5 wq W6:World}{L:List Pic}{D:List Int}(h:RndAt S w V F s c cap sb pb pc db dc n t W5)(e:Hid (wq=bI W5 (w.heap.size+1+1) 0 [Bb true]))(hs:fT S wq W6 pb db L D)(hn:pb < w.heap.size∧db < w.heap.size∧sb≠pb∧sb≠db∧sb < w.heap.size)(hl:L.length=t.1.length∧D.length=t.2.1.length)(hx:XsOk V F c L∧D.length=c.length+1)(hS:∀b,S b→b≠w.heap.size+1+1):
  RndAt S w V F s c cap sb pb pc db dc n (L,D,true) W6∧KeptC (λb=>b=pb∨b=db∨b=w.heap.size+1+1) W5 W6∧∀b,b≠pb→b≠db→b≠w.heap.size+1+1→b < W5.heap.size→W6.heap[b]? =W5.heap[b]? :=by
 have PQ:=cX h.vc 0 _ e.out
 obtain⟨s1,s2,s3,s4,s5⟩:=hs
 obtain⟨a1,a2,a3,a4,a5⟩:=hn
 have F:∀b,b≠pb→b≠db→b≠w.heap.size+1+1→b < W5.heap.size→W6.heap[b]? =W5.heap[b]? :=λb h1 h2 h3 h4=>(s3 b h1 h2 (lL h4 PQ.size)).trans (PQ.far b h3)
 have Z:W5.heap.size≤W6.heap.size:=lT PQ.size s4
 refine⟨⟨h.vs.same (F _ (by omega) (by omega) (by omega) h.vs.2.1) Z,h.vn.same (F _ (by omega) (by omega) (by omega) h.vn.2.1) Z,PQ.cells.same (s3 _ (by omega) (by omega) PQ.cells.2.1) s4,?_,s1,s2,hx.1,hx.2,⟨lT h.kp.1 Z,λb hb hlt=> ?_⟩,λh1 h2 h3 h4=>s5 h1 h2 (lT h3 (lT h.kp.1 PQ.size)) (PQ.low (by omega) (h.lo h1 h2 h3 h4))⟩,⟨Z,λb hb hlt=> ?_⟩,F⟩
 ·have q:=h.st.same (F sb a3 a4 (by omega) h.st.2.1) Z
  rw[←hl.1,←hl.2] at q
  exact q
 ·have hb':¬(b=pb∨b=db):=hb
  have:=h.kp.1
  rw[F b (by omega) (by omega) (by omega) (by omega)]
  exact h.kp.2 b hb hlt
 ·have hb':¬(b=pb∨b=db∨b=w.heap.size+1+1):=hb
  exact F b (by omega) (by omega) (by omega) hlt
theorem pq {Ch:Nat→Prop}{Wa W2 W3:World}{l D:Nat}{r:Loop}(hl:LoopAt W l D r)(hb:Below W.heap.size W Wa)(hO:RoundAt l Wa W2)(h3:KeptC Ch W2 W3):KeptC Ch W (W3.putObj l (.loop r)):=by
 have z:W.heap.size≤W3.heap.size:=lT hb.size (by rw[←hO.size];exact h3.1)
 have hlz:=(j4.1 hl.lp).1
 refine⟨by simpa[j3] using z,λb hc hlt=> ?_⟩
 by_cases e:b=l
 ·subst e
  rw[x6 (by omega),hl.lp]
 ·rw[j2 e,h3.2 b hc (by rw[hO.size];have:=hb.size;omega),hO.far b e,hb.block b hlt]
end
theorem Cz {S:Nat→Prop}{V F:Int}{s:Option Addr}{c:List Ins}{cap sb pb pc db dc:Nat}{n:Int}{L:List Pic}{D:List Int}{w w5 w6 W1:World}{fn:FuncId}{tmps:Array Value}{ps:Array Tmp}{assign body:Code}
  (h0:ag V F c=0)(hC:CodeAt w s c)(hCK:∀W W',KeptC (λb=>b=pb∨b=db∨b=w.heap.size+1+1) W W'→CodeAt W s c→CodeAt W' s c)(hz:w.heap.size+1+1 < w5.heap.size)(hpb:pb < w.heap.size)(hdb:db < w.heap.size)(hb:Below w6.heap.size w6 W1)(hl:LoopAt W1 (w6.heap.size+1) w6.heap.size (cL fn tmps ps assign body w6.heap.size .ready nO))(hR:RndAt S w V F s c cap sb pb pc db dc n (L,D,false) W1)
  (EP:Cells w6 w5.heap.size [I Y V,I Y F,U s c.length cap])(EL:Cells w6 (w5.heap.size+1) [U (sO ⟨pb,0,nO⟩) L.length pc])(EF:Cells w6 (w5.heap.size+1+1) [.func (.func 99) #[] #[Pp (sO ⟨w.heap.size,0,nO⟩),Pp (sO ⟨w.heap.size+1,0,nO⟩)]])
  (hY:∀(t:List Pic×List Int×Bool) W (k:Nat) (e:Edg) vs vc fs fc,RndAt S w V F s c cap sb pb pc db dc n t W→LoopAt W (w6.heap.size+1) w6.heap.size (cL fn tmps ps assign body w6.heap.size .ready nO)→gV V F c e→PicOn (λb=>¬(b=pb∨b=db∨b=w.heap.size+1+1)) W e.pic vs fs→(e.pic.vars.length≤vc∧vc≤maxLen)→(e.pic.flds.length≤fc∧fc≤maxLen)→YieldAt Fence.wide (5 - 1 - 1) pG (w6.heap.size+1) #[I Y (k:Int),Ag #[I Y e.tgt,Bb e.pic.none,U vs e.pic.vars.length vc,U fs e.pic.flds.length fc]] W λr W'=>r=Rt (Bb true)∧LoopAt W' (w6.heap.size+1) w6.heap.size (cL fn tmps ps assign body w6.heap.size .ready nO)∧RndAt S w V F s c cap sb pb pc db dc n (cC n k t e) W'∧KeptC (λb=>b=pb∨b=db∨b=w.heap.size+1+1) W W'):
  CallsIn Fence.wide (5 - 1) pG 103 (#[.func (.yield (w6.heap.size+1)) #[] #[]]++#[Pp (sO ⟨w5.heap.size,0,nO⟩),Pp (sO ⟨w5.heap.size+1+1,0,nO⟩),Pp (sO ⟨w5.heap.size+1,0,nO⟩)]) W1 λe W'=>(∃v,e=Rt v)∧((LoopAt W' (w6.heap.size+1) w6.heap.size (cL fn tmps ps assign body w6.heap.size .ready nO)∧RndAt S w V F s c cap sb pb pc db dc n (eU c n (L,D)) W')∨∃c',LoopAt W' (w6.heap.size+1) w6.heap.size (cL fn tmps ps assign body w6.heap.size .done (sO c'))∧False):=by
 have hz6:=EF.2.1
 have hzb:=hb.size
 refine(rL (σ:=List Pic×List Int×Bool) (V:=V) (F:=F) (s:=s) (c:=c) (cap:=cap) (pb:=w5.heap.size) (ib:=w5.heap.size+1+1) (lb:=w5.heap.size+1) (l:=w6.heap.size+1) (n:=5 - 1) (fd:=99) (lc:=pc) (ls:=sO ⟨pb,0,nO⟩) (cs:=#[Pp (sO ⟨w.heap.size,0,nO⟩),Pp (sO ⟨w.heap.size+1,0,nO⟩)]) (ar:=λp=>#[p,Pp (sO ⟨w.heap.size,0,nO⟩),Pp (sO ⟨w.heap.size+1,0,nO⟩)]) (λ_=>by simp) (enters_of Tryz.func99 (by kernel_rfl) rfl) (pics:=λt=>t.1) (due:=λt k=>t.2.1.getD k 0==n) (next:=λk e t=>cC n k t e)
  (St:=λt W=>RndAt S w V F s c cap sb pb pc db dc n t W∧LoopAt W (w6.heap.size+1) w6.heap.size (cL fn tmps ps assign body w6.heap.size .ready nO))
  (Stop:=λ_=>False)
  (Ch:=λb=>b=pb∨b=db∨b=w.heap.size+1+1) h0 (L,D,false) W1 ?_ ?_ ?_ ?_ hCK (λb h=>by omega) (by omega) (by omega) (by omega) ⟨hR,hl⟩ (EP.call hb) (EF.call hb) (by rw[←hR.xs.len];exact EL.call hb) (hCK _ _ (hR.kp.mono λb h=>h.imp id Or.inl) hC)).mono ?_
 ·exact λt W W' h hb=>⟨h.1.below hb,h.2.below hb⟩
 ·exact λt W h=>⟨h.1.pr.xs,h.1.xs⟩
 ·intro t W k h hk
  have hk':k < t.2.1.length:=by rw[h.1.ln];omega
  have h60:=(bQ h0).2.2
  have q:=BY V F s c cap _ _ pc dc sb db _ _ k n t.2.1 W h.1.vs h.1.vn h.1.st h.1.dr hk' (by rw[h.1.ln];unfold maxLen;omega)
  have e:t.2.1.getD k 0=t.2.1[k]:=by simp[List.getD,hk']
  rw[e]
  exact q
 ·rintro t W k e vs vc fs fc ⟨hR1,hl1⟩ hk - hok hp hv hf
  refine(hY t W k e vs vc fs fc hR1 hl1 hok hp hv hf).mono ?_
  rintro r W' ⟨e1,e2,e3,e4⟩
  exact .inl ⟨e1,⟨e3,e2⟩,e4⟩
 ·rintro e W' ⟨hv,⟨⟨h1,h2⟩,h4⟩|h⟩
  ·rw[uJ] at h1
   exact⟨hv,.inl ⟨h2,h1⟩⟩
  ·exact h.elim
theorem wR {X:World}{D0:Nat}{b:Bool}{tmps:Array Value}{R:Ending→World→Prop}(hD:X.heap[D0]? =sO (.deferred (sO [])))(h4:tmps[4]?.getD undef=Bb b)(hR:R (Rt (Bb b)) (X.putObj D0 (.deferred nO))):
  bodyPostM Fence.wide 5 pG Tryz.f49 R .ret ⟨tmps,[{target:=.collected D0,args:=#[]}]⟩ X:=
 ⟨by simp,.inl ⟨D0,_,rfl,run_takeDeferred hD,Bb b,by simp[results,Tryz.results49,go_sem,h4],hR⟩⟩
attribute [local go_sem] Oper.semAt_some
theorem lY {p:Prop}(h:p:=by
 gi_wp2_with fail
 refine⟨trivial,(CallsIn.inRound _ (callsIn_wide.2 HCL.out)).mono ?_⟩
 rintro e6 W6 ⟨⟨ve,rfl⟩,SS⟩
 obtain⟨N1,N2,N3⟩:=DM R5 ewq0 SS ⟨hpb,hdb,hsp.1,hsp.2,hsb⟩ ⟨by simp,by simp⟩ (by have:=Eb (n:=n) (i:=k) h0 R5.xs R5.ln hok;rw[HED.out] at this;exact this) (λb hb=>(hS b hb).2.2.1)
 have hl6:=hl5.far (N3 _ (by omega) (by omega) (by omega) hlz5) (N3 _ (by omega) (by omega) (by omega) hDz5)
 clear HCL SS
 gi_wp2
 exact⟨hl6,hl6.put (by omega) _,by rw[HED.out];exact N1.round (hl6.round _) (by omega) (by omega) (by omega) (by omega) (λb hb=>(hS b hb).2.2.2),pq Hl.out HBA.out HO.out ((KeptC.of HB25.out).trans N2)⟩):p:=h
theorem yK {S0:Nat→Prop}(V F:Int)(s:Option Addr)(c:List Ins)(cap sb pb pc db dc:Nat)(n:Int)(L:List Pic)(D:List Int)(w:World)(h0:ag V F c=0)(hst:Cells w sb [I Y V,I Y F,U s c.length cap,U (sO ⟨pb,0,nO⟩) L.length pc,U (sO ⟨db,0,nO⟩) D.length dc])(hP:PRow S0 w pb L)(hDr:DRow w db D)(hC:CodeAt w s c)(hpd:pb≠db)(hsp:sb≠pb∧sb≠db)(hS0:∀b,S0 b→b≠pb∧b≠db)(hS2:∀b,w.heap.size≤b→S0 b)(hsC:c≠[]→∀a,s=sO a→a.block≠pb∧a.block≠db)(hX:XsOk V F c L)(hDl:D.length=c.length+1)(hnw:IntKind.i64.wrap (n+1)=n+1):
  Calls pG 49 #[Pp (sO ⟨sb,0,nO⟩),I Y n] w λe w'=>e=Rt (Bb (eU c n (L,D)).2.2)∧fT S0 w w' pb db (eU c n (L,D)).1 (eU c n (L,D)).2.1:=by
 have hpb:pb < w.heap.size:=hP.choose_spec.1.2.1
 have hdb:db < w.heap.size:=hDr.choose_spec.1.2.1
 have hsb:sb < w.heap.size:=hst.2.1
 have hCK:=Be hC hsC (cb:=w.heap.size+1+1) (by omega)
 have h60:=(bQ h0).2.2
 have hmx:61≤maxLen:=by decide
 have R3:RndAt (λb=>S0 b∧b < w.heap.size) w V F s c cap sb pb pc db dc n (L,D,false) (((w.alloc (Cc #[Pp (sO ⟨sb,0,nO⟩)] 103)).alloc (Cc #[I Y n] 3)).alloc (Cc #[Bb false] 4)):=by
  have B:Below w.heap.size w (((w.alloc (Cc #[Pp (sO ⟨sb,0,nO⟩)] 103)).alloc (Cc #[I Y n] 3)).alloc (Cc #[Bb false] 4)):=by go_grown
  refine⟨(Cells.new w _ [_]).call (by go_grown),?_,?_,hst.call B,(hP.mono λb h1 h2=>⟨h1,h2⟩).call B,hDr.call B,hX,hDl,KeptC.of B,λh1 h2 h3 h4=>h4.trans (B.mono h3)⟩
  ·have h:=Cells.new (w.alloc (Cc #[Pp (sO ⟨sb,0,nO⟩)] 103)) 3 [I Y n]
   rw[zA] at h
   exact h.call (by go_grown)
  ·have h:=Cells.new ((w.alloc (Cc #[Pp (sO ⟨sb,0,nO⟩)] 103)).alloc (Cc #[I Y n] 3)) 4 [Bb false]
   rw[zA,zA] at h
   exact h
 obtain⟨t1,et1⟩:∃t,t=eU c n (L,D):=⟨_,rfl⟩
 have HT1:=aa et1
 rw[←et1]
 clear et1
 refine callsIn_wide.1 (callsIn_of_wp_marks (n:=5) Tryz.func49 rfl trivial (wpIn_wide.2 ?_) rfl)
 simp only[Tryz.ntmps49,q4,q5,q6,q7,q8,q9,z0,z1,z7,z8,z9]
 go_upto_region 3 with fail
 generalize (((w.alloc (Cc #[Pp (sO ⟨sb,0,nO⟩)] 103)).alloc (Cc #[I Y n] 3)).alloc (Cc #[Bb false] 4))=w3 at *
 have HKZ:Hid (∀wx,Below w3.heap.size w3 wx→wx.cell? ⟨w.heap.size,0,nO⟩=sO (Pp (sO ⟨sb,0,nO⟩))∧(wx.cell? ⟨sb,0,nO⟩=sO (I Y V)∧wx.cell? ⟨sb,1,nO⟩=sO (I Y F)∧wx.cell? ⟨sb,2,nO⟩=sO (U s c.length cap)∧wx.cell? ⟨sb,3,nO⟩=sO (U (sO ⟨pb,0,nO⟩) L.length pc))):=λwx hb=>by
  have v:=R3.vs.call hb
  have p:=R3.st.call hb
  exact⟨v.1 0 _ rfl,p.1 0 _ rfl,p.1 1 _ rfl,p.1 2 _ rfl,p.1 3 _ rfl⟩
 have B34:Below w3.heap.size w3 w3.drew:=(bR _ _).drew
 have HR3:=aa R3
 have z3:=R3.vc.2.1
 clear R3
 refine yj ?_
 refine an (S:=(λwx=>wx.cell? ⟨w.heap.size,0,nO⟩=sO (Pp (sO ⟨sb,0,nO⟩))∧(wx.cell? ⟨sb,0,nO⟩=sO (I Y V)∧wx.cell? ⟨sb,1,nO⟩=sO (I Y F)∧wx.cell? ⟨sb,2,nO⟩=sO (U s c.length cap)∧wx.cell? ⟨sb,3,nO⟩=sO (U (sO ⟨pb,0,nO⟩) L.length pc)))) [] (by kernel_rfl) (HKZ.out _ B34) (λhHeld=> ?_)
 generalize w3.drew=w4 at *
 refine vZ 0 ?_ ?_
 refine vZ 1 ?_ ?_
 refine vZ 2 ?_ ?_
 refine vZ 3 ?_ ?_
 refine vZ 4 ?_ ?_
 refine vZ 5 ?_ ?_
 refine vZ 6 ?_ ?_
 refine vZ 7 ?_ ?_
 refine vZ 8 ?_ ?_
 refine ai (i:=9) rfl (by kernel_rfl) (λK hK=> ?_)
 go_simp
 go_at_call 53
 refine(rr V F s c cap _ L.length pc 99 #[Pp (sO ⟨w.heap.size,0,nO⟩),Pp (sO ⟨w.heap.size+1,0,nO⟩)] w4).mono ?_
 rintro e w6 ⟨rfl,⟨EP,EL,EF⟩,hb6⟩
 go_wp2_with fail
 refine hK.out _ _ (HKZ.out _ (B34.trans (hb6.mono B34.size))) (λhHeld=> ?_)
 clear hK K
 refine sm ?_
 refine aj (by kernel_rfl) ?_ _
 have hb36:=B34.trans (hb6.mono B34.size)
 have z4:=B34.size
 have z6:=EF.2.1
 have HR6:=aa (HR3.out.below hb36)
 have HOLD:=aa hst
 clear HR3 HKZ hHeld hb36 hb6 hst hP hDr
 go_wp2
 refine wpIn_wide.1 (re (n:=5) (gf:=103) (lb:=#[Pp (sO ⟨w4.heap.size,0,nO⟩),Pp (sO ⟨w4.heap.size+1+1,0,nO⟩),Pp (sO ⟨w4.heap.size+1,0,nO⟩)]) rfl (enters_of Tryz.func103 (by kernel_rfl) rfl) (λ_ _ _ W=>RndAt (λb=>S0 b∧b≠w.heap.size+1+1∧b≠w6.heap.size+1∧b≠w6.heap.size) w V F s c cap sb pb pc db dc n t1 W) (λ_ _ _ _ _=>False) ?hit ?hdone ?hstop)
 case hstop=>
  intro r c' W hl hf
  exact hf.elim
 case hdone=>
  rintro r W hl hR r'
  have hl2:=hl.round r'
  have hR2:=hR.round hl2 (by omega) (by omega) (by omega) (by omega) (λb hb=>hb.2.2.1)
  have hD:(W.putObj (w6.heap.size+1) r').heap[w6.heap.size]? =sO (.deferred (sO [])):=(j2 (by omega)).trans hl.dfr
  clear hR hl hl2 EP EL EF HR6 HOLD
  generalize W.putObj (w6.heap.size+1) r'=X at *
  have r0:=hR2.vc.1 0 _ rfl
  go_simp
  go_wp2
  refine wR hD rfl ?_
  have hs:X.heap.size≤(X.putObj w6.heap.size (.deferred nO)).heap.size:=by simp[j3]
  have far:∀b,b≠w6.heap.size→(X.putObj w6.heap.size (.deferred nO)).heap[b]? =X.heap[b]? :=λb hb=>j2 hb
  refine⟨rfl,?_,hR2.dr.far (far db (by omega)) hs,λb h1 h2 hlt=>(far b (by omega)).trans (hR2.kp.2 b (by omega) hlt),lT hR2.kp.1 hs,λ{B} {a} h1 h2 h3 h4=>(hR2.lo h1 h2 h3 h4).trans (belowK_b (n₀:=B) (w:=w) h3 X w6.heap.size _ _ (by omega) hD rfl rfl)⟩
  exact(hR2.pr.far (far pb (by omega)) (λb hb _=>far b hb.2.2.2) hs).mono λb hb _=>hb.1
 case hit=>
  intro fn W1 hl hbW
  rw[HT1.out]
  refine Cz (S:=λb=>S0 b∧b≠w.heap.size+1+1∧b≠w6.heap.size+1∧b≠w6.heap.size) h0 hC hCK (by omega) hpb hdb hbW hl ((HR6.out.mono λb hb _=>⟨hb.1,by omega,by omega,by omega⟩).below hbW) EP EL EF ?_
  clear hl hbW HR6 EP EL EF W1 HOLD
  obtain⟨S,hSe⟩:∃S:Nat→Prop,S=λb=>S0 b∧b≠w.heap.size+1+1∧b≠w6.heap.size+1∧b≠w6.heap.size:=⟨_,rfl⟩
  have hS2:∀b,w6.heap.size+1 < b→S b:=λb hb=>by rw[hSe];exact⟨hS2 b (by omega),by omega,by omega,by omega⟩
  have hS:∀b,S b→b≠pb∧b≠db∧b≠w.heap.size+1+1∧b≠w6.heap.size+1:=λb hb=>by rw[hSe] at hb;exact⟨(hS0 b hb.1).1,(hS0 b hb.1).2,hb.2.1,hb.2.2.1⟩
  rw[←hSe]
  clear hSe
  have hpb:pb < w.heap.size:=hpb
  intro t W k e vs vc fs fc hR hl hok hp hv hf
  refine uH hl rfl ?_
  gi_wp2
  have hba:Below W.heap.size W (W.alloc (Cc #[I Y e.tgt,Bb e.pic.none,U vs e.pic.vars.length vc,U fs e.pic.flds.length fc] 45)):=by go_grown
  have hbox:Cells (W.alloc (Cc #[I Y e.tgt,Bb e.pic.none,U vs e.pic.vars.length vc,U fs e.pic.flds.length fc] 45)) W.heap.size [I Y e.tgt,Bb e.pic.none,U vs e.pic.vars.length vc,U fs e.pic.flds.length fc]:=Cells.new W _ [_,_,_,_]
  have hlz:=(j4.1 hl.lp).1
  have Hl:=aa hl
  refine nX hl (by omega) hba ?_
  clear hl
  intro W2 hl2 hO
  have zO:=hO.size
  have za:=hba.size
  have zc:=hR.vc.2.1
  have R2:=(hR.below hba).round hO (by omega) (by omega) (by omega) (by omega) (λb hb=>(hS b hb).2.2.2)
  have BX2:=hbox.same (hO.far _ (by omega)) (by omega)
  have hp2:=(((hp.drop Hl.out.lp).call hba).same (λb hb _=>hO.far b hb.2) (by omega)).mono λb hb _=>hb.1
  have C2:=hCK _ _ (R2.kp.mono λb hb=>hb.imp id Or.inl) hC
  obtain⟨q,hq⟩:=j5 hok.2.1
  have hqL:q < t.1.length:=by have:=R2.xs.len;have:=hok.2.2;omega
  obtain⟨vy,vyc,fy,fyc,⟨q0,q1,q2⟩,hPy,hvy,hfy,hpz,-⟩:=R2.pr.cell hqL
  obtain⟨y,ey⟩:∃y,y=t.1[q]:=⟨_,rfl⟩
  have HEY:Hid (aM t.1 e.tgt=y):=by show _=_;rw[hq,ey];exact gP hqL
  have hcky:aE V F c y=0:=by rw[ey];exact R2.xs.ck _ (gM hqL)
  rw[←ey] at q0 q1 q2 hPy hvy hfy
  have HY0:=aa ey
  clear ey
  have hck2:aq V F c [e.pic,y]=0:=by unfold aq;rw[if_pos h0];unfold bW;rw[if_pos hok.1];unfold bW;rw[if_pos hcky];rfl
  have HWI:Hid (∀wx,Below W2.heap.size W2 wx→Calls pG 51 #[pv V F s c cap,xv e.pic vs vc fs fc,xv y vy vyc fy fyc] wx λe' w'=>e'=Rt (Bb (aT e.pic y))∧Below wx.heap.size wx w'):=λwx hb=>by
   have h:=iF V F s c cap e.pic vs vc fs fc y vy vyc fy fyc wx (C2.below hb (lR _)) (hp2.at.below hb (lR _)) hv hf (hPy.at.below hb (lR _)) hvy hfy
   rw[if_pos hck2] at h
   exact h
  rw[hq] at BX2
  have HKZ:Hid (∀wx,Below W2.heap.size W2 wx→wx.cell? ⟨w.heap.size,0,nO⟩=sO (Pp (sO ⟨sb,0,nO⟩))∧(wx.cell? ⟨sb,0,nO⟩=sO (I Y V)∧wx.cell? ⟨sb,1,nO⟩=sO (I Y F)∧wx.cell? ⟨sb,2,nO⟩=sO (U s c.length cap)∧wx.cell? ⟨sb,3,nO⟩=sO (U (sO ⟨pb,0,nO⟩) t.1.length pc))∧(wx.cell? ⟨W.heap.size,0,nO⟩=sO (I Y (q:Int))∧wx.cell? ⟨W.heap.size,1,nO⟩=sO (Bb e.pic.none)∧wx.cell? ⟨W.heap.size,2,nO⟩=sO (U vs e.pic.vars.length vc)∧wx.cell? ⟨W.heap.size,3,nO⟩=sO (U fs e.pic.flds.length fc))∧(wx.cell? ⟨pb,q * 3,nO⟩=sO (Bb y.none)∧wx.cell? ⟨pb,q * 3+1,nO⟩=sO (U vy y.vars.length vyc)∧wx.cell? ⟨pb,q * 3+2,nO⟩=sO (U fy y.flds.length fyc))):=λwx hb=>by
   have v:=R2.vs.call hb
   have p:=R2.st.call hb
   have g:=BX2.call hb
   exact⟨v.1 0 _ rfl,⟨p.1 0 _ rfl,p.1 1 _ rfl,p.1 2 _ rfl,p.1 3 _ rfl⟩,⟨g.1 0 _ rfl,g.1 1 _ rfl,g.1 2 _ rfl,g.1 3 _ rfl⟩,by rw[hb.cell hpz];exact q0,by rw[hb.cell hpz];exact q1,by rw[hb.cell hpz];exact q2⟩
  have B34:Below W2.heap.size W2 W2.drew:=(bR _ _).drew
  have m0:(0:Int)≤(q:Int):=by omega
  have m1:(q:Int) < (t.1.length:Int):=by omega
  have HIB:Hid (aT e.pic (aM t.1 e.tgt)=aT e.pic y):=by show _=_;rw[HEY.out]
  generalize aT e.pic y=ib at *
  refine wpIn_block (wpIn_seq (wpIn_seq (nf ?_)))
  refine yl (S:=(λwx=>wx.cell? ⟨w.heap.size,0,nO⟩=sO (Pp (sO ⟨sb,0,nO⟩))∧(wx.cell? ⟨sb,0,nO⟩=sO (I Y V)∧wx.cell? ⟨sb,1,nO⟩=sO (I Y F)∧wx.cell? ⟨sb,2,nO⟩=sO (U s c.length cap)∧wx.cell? ⟨sb,3,nO⟩=sO (U (sO ⟨pb,0,nO⟩) t.1.length pc))∧(wx.cell? ⟨W.heap.size,0,nO⟩=sO (I Y (q:Int))∧wx.cell? ⟨W.heap.size,1,nO⟩=sO (Bb e.pic.none)∧wx.cell? ⟨W.heap.size,2,nO⟩=sO (U vs e.pic.vars.length vc)∧wx.cell? ⟨W.heap.size,3,nO⟩=sO (U fs e.pic.flds.length fc))∧(wx.cell? ⟨pb,q * 3,nO⟩=sO (Bb y.none)∧wx.cell? ⟨pb,q * 3+1,nO⟩=sO (U vy y.vars.length vyc)∧wx.cell? ⟨pb,q * 3+2,nO⟩=sO (U fy y.flds.length fyc)))) [] (by kernel_rfl) (by simp[nw]) BW (HKZ.out _ B34) (λhHeld=> ?_)
  generalize W2.drew=w4 at *
  refine vZ 0 ?_ ?_
  refine vZ 1 ?_ ?_
  refine vZ 2 ?_ ?_
  refine vZ 3 ?_ ?_
  refine vZ 4 ?_ ?_
  refine vZ 5 ?_ ?_
  refine vZ 6 ?_ ?_
  refine vZ 7 ?_ ?_
  refine vZ 8 ?_ ?_
  refine vZ 9 ?_ ?_
  refine vZ 10 ?_ ?_
  refine vZ 11 ?_ ?_
  refine vZ 12 ?_ ?_
  refine vZ 13 ?_ ?_
  refine ai (i:=14) rfl (by kernel_rfl) (λK hK=> ?_)
  go_simp
  go_at_call 51
  refine(HWI.out w4 B34).mono ?_
  rintro e5 w5' ⟨rfl,hb5⟩
  go_wp2_with fail
  refine hK.out _ _ (HKZ.out _ (B34.trans (hb5.mono B34.size))) (λhHeld=> ?_)
  clear hK K
  refine sm ?_
  refine aj (by kernel_rfl) ?_ _
  have hb25:=B34.trans (hb5.mono B34.size)
  have R5:=R2.below hb25
  have hl5:=hl2.below hb25
  have BX5:=BX2.call hb25
  have hp5:=hp2.call hb25
  have C5:=C2.call hb25
  have hKE:=pq (Ch:=λb=>b=pb∨b=db∨b=w.heap.size+1+1) Hl.out hba hO (KeptC.of hb25)
  have HO:=aa hO
  have HBA:=aa hba
  have HB25:=aa hb25
  clear hO hba hb25 B34 hb5 hHeld HKZ HWI hPy hvy hfy q0 q1 q2 R2 BX2 hp2 C2 hbox hl2 hp hR
  rcases j6 ib with hib|hib
  ·subst hib
   have HE:Hid (cC n k t e=t):=by show _=_;unfold cC;rw[if_pos HIB.out]
   refine wpIn_cond_true rfl (wpIn_exit ?_)
   show _∧_
   refine⟨hl5,?_⟩
   exact⟨hl5.put (by omega) _,by rw[HE.out];exact R5.round (hl5.round _) (by omega) (by omega) (by omega) (by omega) (λb hb=>(hS b hb).2.2.2),hKE⟩
  ·subst hib
   refine wpIn_cond_false rfl (wpIn_skip ?_)
   refine DL (λK hK=> ?_)
   have r0:=R5.vc.1 0 _ rfl
   have r1:=R5.vc.2.2 0
   gi_wp2
   refine hK.out _ _ ?_
   clear hK K r0 r1
   have hpz5:=R5.vc.2.1
   obtain⟨wq,ewq⟩:∃q',q'=bI w5' (w.heap.size+1+1) 0 [Bb true]:=⟨_,rfl⟩
   have ewq0:=aa ewq
   have PQ:=cX R5.vc 0 _ ewq
   simp only[bI] at ewq
   rw[←ewq]
   clear ewq
   have STq:=PQ.keep R5.st (by omega)
   have PRq:=R5.pr.far (PQ.far pb (by omega)) (λb hb _=>PQ.far b (hS b hb).2.2.1) PQ.size
   have DRq:=R5.dr.far (PQ.far db (by omega)) PQ.size
   have Bq:KeptC (λb=>b=w.heap.size+1+1) w5' wq:=⟨PQ.size,λb hb _=>PQ.far b hb⟩
   have Cq:CodeAt wq s c:=hCK _ _ (Bq.mono λb hb=>.inr (.inr hb)) C5
   have VSq:=PQ.keep R5.vs (by omega)
   have VNq:=PQ.keep R5.vn (by omega)
   have BXq:=PQ.keep BX5 (by omega)
   have hpq:PicAt wq e.pic vs fs:=(hp5.same (λb hb _=>PQ.far b λe=>hb.1 (.inr (.inr e))) PQ.size).at
   have hlz5:=(j4.1 hl5.lp).1
   have hDz5:=(j4.1 hl5.dfr).1
   have zq:=PQ.size
   have z5:=HB25.out.size
   have v0:=VSq.1 0 _ rfl
   have v1:=VNq.1 0 _ rfl
   have x0:=BXq.1 0 _ rfl
   have x1:=BXq.1 1 _ rfl
   have x2:=BXq.1 2 _ rfl
   have x3:=BXq.1 3 _ rfl
   by_cases hkq:(k:Int) < (q:Int)
   ·have HED:Hid (cC n k t e=(t.1.set q (aL (ac false) y e.pic),t.2.1.set q (n),true)):=by
     show _=_
     unfold cC gZ
     rw[HIB.out,if_neg (by decide),HEY.out,hq]
     rw[if_pos (by omega),show decide ((q:Int)≤(k:Int))=false by simpa using hkq,Bool.and_false];rfl
    have HCL:=aa (Dk (S:=S) V F s c cap sb pb pc db dc q n t.1 t.2.1 e.pic vs vc fs fc (aL (ac false) y e.pic) wq STq PRq DRq hpd hsp.1 (λb hb=>⟨(hS b hb).1,(hS b hb).2.1⟩) (λb hb=>hS2 b (by omega)) hqL (by have:=R5.ln;have:=R5.xs.len;omega) (by have:=R5.ln;omega) (λwx vx vxc fx fxc hb k1 k2 k3=>by
     have hx:=HY0.out
     rw[←hx] at k1 k2 k3 ⊢
     exact uy h0 hcky hok.1 (Cq.below hb (lR _)) k1 k2 k3 (hpq.below hb (lR _)) hv hf))
    have g1:(k:Int) < (q:Int):=by omega
    exact lY
   ·by_cases hn4:n < 4
    ·have HED:Hid (cC n k t e=(t.1.set q (aL (ac false) y e.pic),t.2.1.set q (n+1),true)):=by
      show _=_
      unfold cC gZ
      rw[HIB.out,if_neg (by decide),HEY.out,hq]
      rw[if_neg (by omega),show decide ((4:Int)≤n)=false by simpa using hn4,Bool.false_and];rfl
     have HCL:=aa (wM (S:=S) V F s c cap sb pb pc db dc q n t.1 t.2.1 e.pic vs vc fs fc (aL (ac false) y e.pic) wq STq PRq DRq hpd hsp.1 (λb hb=>⟨(hS b hb).1,(hS b hb).2.1⟩) (λb hb=>hS2 b (by omega)) hqL (by have:=R5.ln;have:=R5.xs.len;omega) (by have:=R5.ln;omega) hn4 hnw (λwx vx vxc fx fxc hb k1 k2 k3=>by
      have hx:=HY0.out
      rw[←hx] at k1 k2 k3 ⊢
      exact uy h0 hcky hok.1 (Cq.below hb (lR _)) k1 k2 k3 (hpq.below hb (lR _)) hv hf))
     have g1:¬(k:Int) < (q:Int):=by omega
     exact lY
    ·have HED:Hid (cC n k t e=(t.1.set q (aL (ac true) y e.pic),t.2.1.set q (n+1),true)):=by
      show _=_
      unfold cC gZ
      rw[HIB.out,if_neg (by decide),HEY.out,hq]
      rw[if_neg (by omega),show decide ((4:Int)≤n)=true by simp;omega,show decide ((q:Int)≤(k:Int))=true by simp;omega,Bool.true_and];rfl
     have HCL:=aa (vW (S:=S) V F s c cap sb pb pc db dc q n t.1 t.2.1 e.pic vs vc fs fc (aL (ac true) y e.pic) wq STq PRq DRq hpd hsp.1 (λb hb=>⟨(hS b hb).1,(hS b hb).2.1⟩) (λb hb=>hS2 b (by omega)) hqL (by have:=R5.ln;have:=R5.xs.len;omega) (by have:=R5.ln;omega) hn4 hnw (λwx vx vxc fx fxc hb k1 k2 k3=>by
      have hx:=HY0.out
      rw[←hx] at k1 k2 k3 ⊢
      exact De h0 hcky hok.1 (Cq.below hb (lR _)) k1 k2 k3 (hpq.below hb (lR _)) hv hf))
     have g1:¬(k:Int) < (q:Int):=by omega
     exact lY
end
section
open Go.RowKit
attribute [local go_sem ↓] Go.wp_at_zero Go.wp_at_succ
def CF (V F:Int)(c:List Ins)(e:Ending)(w':World):Prop:=(ag V F c≠0∧e=Rt (Tu #[U nO 0 0,I Y 0,I Y (ag V F c)]))∨(ag V F c=0∧∃(m pb pc:Nat),SolvedAt V F c m∧m≤200000000000000∧e=Rt (Tu #[U (sO ⟨pb,0,nO⟩) (c.length+1) pc,I Y ((m+1:Nat):Int),I Y 0])∧XsAt w' (sO ⟨pb,0,nO⟩) (bp V F c m))
structure SolAt (w:World) (V F:Int) (s:Option Addr) (c:List Ins) (cap sb pb pc db dc m:Nat) (W:World):Prop where
 st:Cells W sb [I Y V,I Y F,U s c.length cap,U (sO ⟨pb,0,nO⟩) (c.length+1) pc,U (sO ⟨db,0,nO⟩) (c.length+1) dc]
 pr:PRow (λb=>b≠pb∧b≠db) W pb (bp V F c m)
 dr:∃D,DRow W db D∧Due V F c ((m+1:Nat):Int) 0 (bp V F c m) D
 all:∀k,k < m→(dO c ((k+1:Nat):Int) (bp V F c k)).2=true
 lo:Below w.heap.size w W
theorem SolAt.next {w W W':World}{V F:Int}{s:Option Addr}{c:List Ins}{cap sb pb pc db dc m:Nat}{D:List Int}(h0:ag V F c=0)(h:SolAt w V F s c cap sb pb pc db dc m W)(hD:Due V F c ((m+1:Nat):Int) 0 (bp V F c m) D)(hs:fT (λb=>b≠pb∧b≠db) W W' pb db (eU c ((m+1:Nat):Int) (bp V F c m,D)).1 (eU c ((m+1:Nat):Int) (bp V F c m,D)).2.1)(hsp:sb≠pb∧sb≠db)(hn:w.heap.size≤pb∧w.heap.size≤db):
  Cells W' sb [I Y V,I Y F,U s c.length cap,U (sO ⟨pb,0,nO⟩) (c.length+1) pc,U (sO ⟨db,0,nO⟩) (c.length+1) dc]∧Below w.heap.size w W'∧PRow (λb=>b≠pb∧b≠db) W' pb (bp V F c (m+1))∧((dO c ((m+1:Nat):Int) (bp V F c m)).2=true→SolAt w V F s c cap sb pb pc db dc (m+1) W'):=by
 obtain⟨s1,s2,s3,s4,s5⟩:=hs
 obtain⟨d1,d2,d3⟩:=nM h0 hD
 rw[d2] at s1
 have c1:=h.st.same (s3 sb hsp.1 hsp.2 h.st.2.1) s4
 have l1:=s5 hn.1 hn.2 h.lo.size h.lo
 refine⟨c1,l1,s1,λht=>⟨c1,s1,⟨_,s2,?_⟩,λk hk=> ?_,l1⟩⟩
 ·rw[d2] at d1
  exact d1
 ·by_cases e:k=m
  ·rw[e];exact ht
  ·exact h.all k (by omega)
theorem rm (V F:Int)(s:Option Addr)(c:List Ins)(cap:Nat)(w:World)(hc:CodeAt w s c):
  Calls pG 17 #[pv V F s c cap] w λe w'=>CF V F c e w'∧Below w.heap.size w w':=by
 have B0:Below w.heap.size w (w.alloc (Cc #[I Y V,I Y F,U s c.length cap] 24)):=by go_grown
 have P0:Cells (w.alloc (Cc #[I Y V,I Y F,U s c.length cap] 24)) w.heap.size [I Y V,I Y F,U s c.length cap]:=Cells.new w _ [_,_,_]
 have C0:=hc.call B0
 have HC:=aa hc
 clear hc
 go_enter Tryz.func17,Tryz.ntmps17
 go_upto_region 1 with fail
 generalize w.alloc (Cc #[I Y V,I Y F,U s c.length cap] 24)=w0 at *
 have p0:=P0.1 0 _ rfl
 have p1:=P0.1 1 _ rfl
 have p2:=P0.1 2 _ rfl
 have HBG:=aa (rT V F s c cap w0 C0)
 go_wp2_with (go_at_call 38;fail)
 refine HBG.out.mono ?_
 rintro e w1 ⟨⟨bs,bc,bf,be,rfl,PB,hbv,hbf⟩,hb1⟩
 clear HBG p0 p1 p2
 have B1:=B0.trans (hb1.mono B0.size)
 have P1:=P0.call hb1
 have C1:=C0.call hb1
 clear P0 C0 B0 hb1
 by_cases h0:ag V F c=0
 rotate_left
 ·have HE:Hid (∀w',CF V F c (Rt (Tu #[U nO 0 0,I Y 0,I Y (ag V F c)])) w'):=λw'=>.inl ⟨h0,rfl⟩
  generalize (if ag V F c=0 then bY V F c else du)=bg at *
  generalize ag V F c=r at *
  have f1:(r !=0)=true:=by simpa using h0
  clear h0
  go_upto_region 3 with fail
  have hba:Below w1.heap.size w1 (w1.alloc (Cc #[Bb bg.none,U bs bg.vars.length bc,U bf bg.flds.length be] 28)):=by go_grown
  have B2:=B1.trans (hba.mono B1.size)
  clear P1 C1 B1 PB hba
  generalize w1.alloc (Cc #[Bb bg.none,U bs bg.vars.length bc,U bf bg.flds.length be] 28)=w2 at *
  go_wp2
  refine bodyPost_ret (v:=Tu #[U nO 0 0,I Y 0,I Y r]) (by simp[results,Tryz.results17,go_sem]) rfl ?_
  exact⟨HE.out _,B2⟩
 obtain⟨⟨hV1,hV8⟩,⟨hF0,hF3⟩,h60⟩:=bQ h0
 rw[if_pos h0] at PB hbv hbf
 have HZ:Hid (ag V F c=0):=h0
 rw[h0,if_pos rfl]
 obtain⟨bg,ebg⟩:∃b,b=bY V F c:=⟨_,rfl⟩
 have HBG:=aa ebg
 rw[←ebg] at PB hbv hbf ⊢
 clear ebg h0
 have hba:Below w1.heap.size w1 (w1.alloc (Cc #[Bb bg.none,U bs bg.vars.length bc,U bf bg.flds.length be] 28)):=by go_grown
 have G2:Cells (w1.alloc (Cc #[Bb bg.none,U bs bg.vars.length bc,U bf bg.flds.length be] 28)) w1.heap.size [Bb bg.none,U bs bg.vars.length bc,U bf bg.flds.length be]:=Cells.new w1 _ [_,_,_]
 have PB2:=PB.at.call hba
 have P2:=P1.call hba
 have C2:=C1.call hba
 have B2:=B1.trans (hba.mono B1.size)
 clear P1 C1 B1 PB hba
 go_upto_region 4 with fail
 generalize w1.alloc (Cc #[Bb bg.none,U bs bg.vars.length bc,U bf bg.flds.length be] 28)=w2 at *
 have p0:=P2.1 0 _ rfl
 have p1:=P2.1 1 _ rfl
 have p2:=P2.1 2 _ rfl
 have g0:=G2.1 0 _ rfl
 have g1:=G2.1 1 _ rfl
 have g2:=G2.1 2 _ rfl
 have HNS:=aa (DB V F s c cap bg bs bc bf be w2 PB2 hbv hbf h60)
 go_wp2_with (go_at_call 48;fail)
 refine HNS.out.mono ?_
 rintro e w3 ⟨pb,pc,db,dc,rfl,ST3,PR3,DR3,hpn,hne,hb3⟩
 clear HNS p0 p1 p2 g0 g1 g2
 have z2:=B2.size
 have B3:=B2.trans (hb3.mono B2.size)
 obtain⟨sb,esb⟩:∃sb,sb=w2.heap.size+1+1+1+1:=⟨_,rfl⟩
 rw[←esb] at ST3 hne ⊢
 have hsb:w.heap.size≤sb:=by omega
 clear esb
 have HN:Hid (w.heap.size≤pb∧w.heap.size≤db):=⟨by omega,by omega⟩
 have HNE:Hid (pb≠db∧sb≠pb∧sb≠db):=⟨hne.1,Ne.symm hne.2.1,Ne.symm hne.2.2⟩
 have HSC:Hid (c≠[]→∀a,s=sO a→a.block≠pb∧a.block≠db):=λhcn a ha=>by
  rcases HC.out with h|⟨b,off,e,hb,-⟩
  ·exact absurd h hcn
  ·rw[e] at ha;cases ha
   have:=HN.out
   exact⟨by simp only;omega,by simp only;omega⟩
 have S3:SolAt w V F s c cap sb pb pc db dc 0 w3:=by
  refine⟨ST3,?_,⟨_,DR3,?_⟩,λk hk=>absurd hk (by omega),B3⟩
  ·have e:bp V F c 0=bg::List.replicate c.length nonePic:=by rw[HBG.out];rfl
   rw[e]
   exact PR3.mono λb hb _=>⟨by have:=hpn.1;omega,by have:=hpn.2;omega⟩
  ·exact Ae HZ.out
 clear ST3 PR3 DR3 hb3 B3 G2 PB2 P2 C2 B2 hbv hbf HBG hpn hne
 go_wp2
 obtain⟨M,hM⟩:∃M:Nat,M=200000000000003:=⟨_,rfl⟩
 have HM:=aa hM
 clear hM
 have HMB:Hid (∀m:Nat,m≤200000000000000→m+2 < M):=λm h=>by rw[HM.out];exact Nat.lt_of_le_of_lt (Nat.add_le_add_right h 2) (by decide)
 clear HM
 go_loopw [8] (λi wr=>∃m:Nat,i=I Y ((m+1:Nat):Int)∧Hid (SolAt w V F s c cap sb pb pc db dc m wr)) (λi _=>M - (intOf i).toNat)
 case atStart=>exact⟨0,rfl,S3⟩
 case round=>
  clear S3
  obtain⟨m,rfl,HS⟩:=hrel
  obtain⟨D,hDR,hDue⟩:=HS.out.dr
  have hfew:=rj HZ.out HS.out.all
  have hnw:IntKind.i64.wrap (((m+1:Nat):Int)+1)=((m+1:Nat):Int)+1:=by rw[IntKind.wrap_i64];omega
  have hxs:=dQ HZ.out m
  have HRD:Hid (Calls pG 49 #[Pp (sO ⟨sb,0,nO⟩),I Y ((m+1:Nat):Int)] wr λe w'=>e=Rt (Bb (eU c ((m+1:Nat):Int) (bp V F c m,D)).2.2)∧fT (λb=>b≠pb∧b≠db) wr w' pb db (eU c ((m+1:Nat):Int) (bp V F c m,D)).1 (eU c ((m+1:Nat):Int) (bp V F c m,D)).2.1):=by
   have hC:CodeAt wr s c:=HC.out.below HS.out.lo (lR _)
   have hpz:pb < wr.heap.size:=HS.out.pr.choose_spec.1.2.1
   have hdz:db < wr.heap.size:=hDR.choose_spec.1.2.1
   have hst:Cells wr sb [I Y V,I Y F,U s c.length cap,U (sO ⟨pb,0,nO⟩) (bp V F c m).length pc,U (sO ⟨db,0,nO⟩) D.length dc]:=by rw[hxs.len,hDue.len];exact HS.out.st
   exact yK V F s c cap sb pb pc db dc ((m+1:Nat):Int) (bp V F c m) D wr HZ.out hst HS.out.pr hDR hC HNE.out.1 HNE.out.2 (λb hb=>hb) (λb hb=>⟨by omega,by omega⟩) HSC.out hxs hDue.len hnw
  have HDD:=aa (nM HZ.out hDue)
  have HMM:Hid (m≤200000000000000):=by show _≤_;omega
  have HMX:=aa (HMB.out m HMM.out)
  have hmb:(m:Int)≤200000000000000:=by have:=HMM.out;omega
  go_wp2_with (go_at_call 49;fail)
  refine HRD.out.mono ?_
  rintro e w5 ⟨rfl,SS⟩
  obtain⟨N1,N2,N3,N4⟩:=HS.out.next HZ.out hDue SS HNE.out.2 HN.out
  rw[HDD.out.2.2]
  clear HRD SS hDue hDR hfew hxs
  rcases j6 (dO c ((m+1:Nat):Int) (bp V F c m)).2 with ht|ht
  ·have HNX:=aa (N4 ht)
   rw[ht]
   clear ht N1 N2 N3 N4
   go_wp2
   go_roundw
   case rel=>exact⟨m+1,by go_num,HNX.out⟩
   case measure=>have:=HMX.out;simp[intOf];omega
  ·have HSV:Hid (SolvedAt V F c m):=⟨HS.out.all,ht⟩
   rw[ht]
   clear ht N4
   have q3:=N1.1 3 _ rfl
   have HPR:Hid (XsAt w5 (sO ⟨pb,0,nO⟩) (bp V F c m)):=by
    show XsAt _ _ _
    rw[←(nL HZ.out HSV.out).1]
    exact N3.xs
   clear N3 N1 HS
   go_wp2
   refine bodyPost_ret (v:=Tu #[U (sO ⟨pb,0,nO⟩) (c.length+1) pc,I Y ((m+1:Nat):Int),I Y 0]) (by simp[results,Tryz.results17,go_sem]) rfl ?_
   exact⟨.inr ⟨HZ.out,m,pb,pc,HSV.out,HMM.out,rfl,HPR.out⟩,N2⟩
theorem Ao (b:Nat)(w:World)(hc:CodeAt w (sO ⟨b,0,nO⟩) aH):Calls pG 17 #[pv 1 0 (sO ⟨b,0,nO⟩) aH 2] w λe w'=>(∃pb pc:Nat,e=Rt (Tu #[U (sO ⟨pb,0,nO⟩) 3 pc,I Y 2,I Y 0])∧Hid (XsAt w' (sO ⟨pb,0,nO⟩) (bp 1 0 aH 1))∧w'.cell? ⟨pb,6,nO⟩=sO (Bb false))∧Below w.heap.size w w':=by
 refine(rm 1 0 (sO ⟨b,0,nO⟩) aH 2 w hc).mono ?_
 rintro e w' ⟨h,hb⟩
 refine⟨?_,hb⟩
 rcases h with⟨h,_⟩|⟨_,m,pb,pc,hs,_,rfl,hx⟩
 ·exact absurd lH h
 ·obtain rfl:=hs.one kn
  refine⟨pb,pc,rfl,hx,?_⟩
  obtain⟨b2,o2,e2,_,vs,vc,fs,fc,⟨c0,_⟩,_⟩:=hx 2 (by decide+kernel)
  cases e2
  have e3:((bp 1 0 aH 1)[2]'(by decide+kernel)).none=false:=by decide+kernel
  rw[e3] at c0
  simpa using c0
theorem Bv (b pb pc:Nat)(w:World)(hc:CodeAt w (sO ⟨b,0,nO⟩) aH)(hx:XsAt w (sO ⟨pb,0,nO⟩) (bp 1 0 aH 1)):Calls pG 18 #[pv 1 0 (sO ⟨b,0,nO⟩) aH 2,U (sO ⟨pb,0,nO⟩) 3 pc] w λe w'=>e=Rt (Tu #[Bb true,I Y 0])∧Below w.heap.size w w':=by
 have h:=sM 1 0 (sO ⟨b,0,nO⟩) aH 2 (sO ⟨pb,0,nO⟩) (bp 1 0 aH 1) pc w hc hx (by decide+kernel)
 rw[(vu lH kn).1,(vu lH kn).2,show (bp 1 0 aH 1).length=3 by decide+kernel] at h
 exact h
theorem rV (w:World):Calls pG 16 #[] w λe w'=>e=Rt (Bb true)∧Below w.heap.size w w':=by
 go_enter Tryz.func16,Tryz.ntmps16
 go_wp2_with (go_at_call 39;fail)
 refine(dj _).mono ?_
 rintro e w1 ⟨b1,rfl,C1,hb1⟩
 go_wp2_with (go_at_call 17;fail)
 refine(Ao _ _ C1).mono ?_
 rintro e w2 ⟨⟨pb,pc,rfl,X2,k2⟩,hb2⟩
 have B2:=hb1.trans (hb2.mono hb1.size)
 have zp:pb < w2.heap.size:=World.block_lt_of_cell? w2 _ k2
 clear C1 hb1 hb2
 go_wp2_with (go_at_call 39;fail)
 refine(dj _).mono ?_
 rintro e w3 ⟨b3,rfl,C3,hb3⟩
 have X3:=aa (X2.out.below hb3 (lR _))
 have k3:w3.cell? ⟨pb,6,nO⟩=sO (Bb false):=by rw[hb3.cell (by simp only;exact zp)];exact k2
 have B3:=B2.trans (hb3.mono B2.size)
 have zq:=hb3.size
 clear X2 k2 B2 hb3
 go_wp2_with (go_at_call 18;fail)
 refine(Bv _ _ _ _ C3 X3.out).mono ?_
 rintro e w4 ⟨rfl,hb4⟩
 have k4:w4.cell? ⟨pb,6,nO⟩=sO (Bb false):=by rw[hb4.cell (by simp only;omega)];exact k3
 have B4:=B3.trans (hb4.mono B3.size)
 clear X3 C3 k3 B3 hb4
 go_wp2
 refine bodyPost_ret (v:=Bb true) (by kernel_rfl) rfl ⟨rfl,B4⟩
def Gu (V F:Int)(c:List Ins)(e:Ending)(w':World):Prop:=(ag V F c≠0∧e=Rt (Tu #[U nO 0 0,I Y 0,I Y (ag V F c)]))∨∃(L:List Pic) (pb pc:Nat) (k:Int),(fJ V F c L=0∧dL V F c L=true∧L.length≤61)∧e=Rt (Tu #[U (sO ⟨pb,0,nO⟩) L.length pc,I Y k,I Y 0])∧XsAt w' (sO ⟨pb,0,nO⟩) L
theorem Gp (V F:Int)(s:Option Addr)(c:List Ins)(cap:Nat)(w:World)(hc:CodeAt w s c):
  Calls pG 17 #[pv V F s c cap] w λe w'=>Gu V F c e w'∧Below w.heap.size w w':=by
 refine(rm V F s c cap w hc).mono ?_
 rintro e w' ⟨h|⟨h0,m,pb,pc,hs,_,rfl,hx⟩,hb⟩
 ·exact⟨.inl h,hb⟩
 ·have hl:=(dQ h0 m).len
  have h60:=(bQ h0).2.2
  have hf:=vu h0 hs
  exact⟨.inr ⟨bp V F c m,pb,pc,_,⟨hf.1,hf.2,by omega⟩,by rw[hl],hx⟩,hb⟩
theorem sq (V F:Int)(s:Option Addr)(c:List Ins)(cap:Nat)(is:Option Addr)(ic:Nat)(ins:List Int)(fuel:Int)(w:World)(hc:CodeAt w s c)(hI:IntsAt w is ins)(hT:Tab w):
  Calls pG 4 #[pv V F s c cap,U is ins.length ic,I Y fuel] w λe w'=>e=Rt (Bb true)∧Below w.heap.size w w':=by
 have B0:Below w.heap.size w (w.alloc (Cc #[I Y V,I Y F,U s c.length cap] 24)):=by go_grown
 have P0:Cells (w.alloc (Cc #[I Y V,I Y F,U s c.length cap] 24)) w.heap.size [I Y V,I Y F,U s c.length cap]:=Cells.new w _ [_,_,_]
 go_enter Tryz.func4,Tryz.ntmps4
 go_upto_region 1 with fail
 generalize w.alloc (Cc #[I Y V,I Y F,U s c.length cap] 24)=w0 at *
 go_wp2_with (go_at_call 16;fail)
 refine(rV _).mono ?_
 rintro e w1 ⟨rfl,hb1⟩
 have B1:=B0.trans (hb1.mono B0.size)
 have P1:=P0.call hb1
 clear B0 P0 hb1
 go_wp2_with (go_at_call 11;fail)
 refine(oO _).mono ?_
 rintro e w2 ⟨rfl,hb2⟩
 have B2:=B1.trans (hb2.mono B1.size)
 have P2:=P1.call hb2
 clear B1 P1 hb2
 go_wp2_with (go_at_call 12;fail)
 refine(uO _ (hT.below B2)).mono ?_
 rintro e w3 ⟨rfl,hb3⟩
 have B3:=B2.trans (hb3.mono B2.size)
 have P3:=P2.call hb3
 clear B2 P2 hb3
 have p0:=P3.1 0 _ rfl
 have p1:=P3.1 1 _ rfl
 have p2:=P3.1 2 _ rfl
 have HSO:=aa (Gp V F s c cap w3 (hc.below B3 (lR _)))
 go_wp2_with (go_at_call 17;fail)
 refine HSO.out.mono ?_
 rintro e w4 ⟨hans,hb4⟩
 clear HSO p0 p1 p2
 have B4:=B3.trans (hb4.mono B3.size)
 have P4:=P3.call hb4
 clear P3 B3 hb4
 rcases hans with⟨h0,rfl⟩|⟨L,pb,pc,kk,hfit,rfl,hX⟩
 ·generalize ag V F c=r at *
  have f1:(r !=0)=true:=by simpa using h0
  clear h0
  go_wp2
  go_ret
  exact⟨rfl,B4⟩
 have HFT:=aa (Gf hfit.1 hfit.2.1)
 have HLL:=aa hfit.2.2
 have HF2:=aa (And.intro hfit.1 hfit.2.1)
 have HX4:=aa hX
 clear hX hfit
 have p0:=P4.1 0 _ rfl
 have p1:=P4.1 1 _ rfl
 have p2:=P4.1 2 _ rfl
 have HFI:Hid (Calls pG 18 #[pv V F s c cap,U (sO ⟨pb,0,nO⟩) L.length pc] w4 λe w'=>e=Rt (Tu #[Bb true,I Y 0])∧Below w4.heap.size w4 w'):=by
  have h:=sM V F s c cap (sO ⟨pb,0,nO⟩) L pc w4 (hc.below B4 (lR _)) HX4.out (by have:=HLL.out;unfold maxLen;omega)
  rw[HF2.out.1,HF2.out.2] at h
  exact h
 go_wp2_with (go_at_call 18;fail)
 refine HFI.out.mono ?_
 rintro e w5 ⟨rfl,hb5⟩
 clear HFI p0 p1 p2
 have B5:=B4.trans (hb5.mono B4.size)
 have P5:=P4.call hb5
 have HX5:=aa (HX4.out.below hb5 (lR _))
 clear P4 B4 hb5 HX4
 have p0:=P5.1 0 _ rfl
 have p1:=P5.1 1 _ rfl
 have p2:=P5.1 2 _ rfl
 have HRU:=aa (Ig V F s c cap is ic ins fuel w5 (hc.below B5 (lR _)) (hI.below B5 (lR _)) (hT.below B5) HFT.out.1)
 go_wp2_with (go_at_call 19;fail)
 refine HRU.out.mono ?_
 rintro e w6 ⟨hans,hb6⟩
 clear HRU p0 p1 p2
 have B6:=B5.trans (hb6.mono B5.size)
 have P6:=P5.call hb6
 have X6:=HX5.out.below hb6 (lR _)
 clear P5 hb6 HX5
 rcases hans with⟨er,hne,rfl⟩|⟨k,vs,vc,ts,tc,lns,lnc,hk,rfl,RA,RO,RL⟩
 ·have f1:(er !=0)=true:=by simpa using hne
  clear hne
  have hba:Below w6.heap.size w6 (w6.alloc (Cc #[I Y 0,U nO 0 0,U nO 0 0,I Y 0,U nO 0 0,I Y 0] 33)):=by go_grown
  have B7:=B6.trans (hba.mono B6.size)
  clear hba
  go_wp2
  go_ret
  exact⟨rfl,B7⟩
 have HSH:=aa (CC (ins:=ins) HFT.out.1 HFT.out.2.1 HFT.out.2.2 (fuel:=k) (by omega))
 obtain⟨r,er⟩:∃r,r=(bG V F c ins k).1:=⟨_,rfl⟩
 rw[←er] at RA RO RL HSH ⊢
 generalize (bG V F c ins k).2=steps at *
 clear er
 obtain⟨q,hq⟩:=j5 RO.at0
 have hqL:q < L.length:=by have:=HFT.out.2.1.len;have:=RO.at1;omega
 obtain⟨lb,lo,els,zlb,yv,yvc,yf,yfc,⟨q0,q1,q2⟩,hPy,hvy,hfy⟩:=X6 q hqL
 obtain⟨y,ey⟩:∃y,y=L[q]:=⟨_,rfl⟩
 have hcky:aE V F c y=0:=by rw[ey];exact HFT.out.2.1.ck _ (gM hqL)
 have HSY:Hid (bD y r=true):=by
  have h:=HSH.out.2.1
  unfold gh at h
  rw[hq,gP hqL,←ey] at h
  exact h
 rw[←ey] at q0 q1 q2 hPy hvy hfy
 clear ey HSH
 cases els
 simp only[Nat.zero_add] at q0 q1 q2
 have hck:lg V F c y r=0:=by
  have hu:aq V F c [y]=0:=by unfold aq;rw[if_pos HFT.out.1];unfold bW;rw[if_pos hcky];rfl
  unfold lg
  rw[if_pos hu]
  exact CY RO
 have hba:Below w6.heap.size w6 (w6.alloc (Cc #[I Y (q:Int),U vs r.vars.length vc,U ts r.things.length tc,I Y r.taken,U lns r.lines.length lnc,I Y r.fin] 33)):=by go_grown
 have R7:Cells (w6.alloc (Cc #[I Y (q:Int),U vs r.vars.length vc,U ts r.things.length tc,I Y r.taken,U lns r.lines.length lnc,I Y r.fin] 33)) w6.heap.size [I Y (q:Int),U vs r.vars.length vc,U ts r.things.length tc,I Y r.taken,U lns r.lines.length lnc,I Y r.fin]:=Cells.new w6 _ [_,_,_,_,_,_]
 have B7:=B6.trans (hba.mono B6.size)
 have P7:=P6.call hba
 have HHO:Hid (∀wx,Below (w6.alloc (Cc #[I Y (q:Int),U vs r.vars.length vc,U ts r.things.length tc,I Y r.taken,U lns r.lines.length lnc,I Y r.fin] 33)).heap.size (w6.alloc (Cc #[I Y (q:Int),U vs r.vars.length vc,U ts r.things.length tc,I Y r.taken,U lns r.lines.length lnc,I Y r.fin] 33)) wx→Calls pG 13 #[pv V F s c cap,xv y yv yvc yf yfc,eY r vs vc ts tc lns lnc] wx λe w'=>e=Rt (Tu #[Bb true,I Y 0])∧Below wx.heap.size wx w'):=λwx hb=>by
  have b:=hba.trans (hb.mono hba.size)
  have h:=yp V F s c cap y yv yvc yf yfc r vs vc ts tc lns lnc wx (hc.below (B6.trans (b.mono B6.size)) (lR _)) (hPy.below b (lR _)) hvy hfy RL (RA.call b)
  rw[hck,if_pos rfl,HSY.out] at h
  exact h
 have HKZ:Hid (∀wx,Below (w6.alloc (Cc #[I Y (q:Int),U vs r.vars.length vc,U ts r.things.length tc,I Y r.taken,U lns r.lines.length lnc,I Y r.fin] 33)).heap.size (w6.alloc (Cc #[I Y (q:Int),U vs r.vars.length vc,U ts r.things.length tc,I Y r.taken,U lns r.lines.length lnc,I Y r.fin] 33)) wx→(wx.cell? ⟨w.heap.size,0,nO⟩=sO (I Y V)∧wx.cell? ⟨w.heap.size,1,nO⟩=sO (I Y F)∧wx.cell? ⟨w.heap.size,2,nO⟩=sO (U s c.length cap))∧(wx.cell? ⟨w6.heap.size,0,nO⟩=sO (I Y (q:Int))∧wx.cell? ⟨w6.heap.size,1,nO⟩=sO (U vs r.vars.length vc)∧wx.cell? ⟨w6.heap.size,2,nO⟩=sO (U ts r.things.length tc)∧wx.cell? ⟨w6.heap.size,3,nO⟩=sO (I Y r.taken)∧wx.cell? ⟨w6.heap.size,4,nO⟩=sO (U lns r.lines.length lnc)∧wx.cell? ⟨w6.heap.size,5,nO⟩=sO (I Y r.fin))∧(wx.cell? ⟨pb,q * 3,nO⟩=sO (Bb y.none)∧wx.cell? ⟨pb,q * 3+1,nO⟩=sO (U yv y.vars.length yvc)∧wx.cell? ⟨pb,q * 3+2,nO⟩=sO (U yf y.flds.length yfc))):=λwx hb=>by
  have b:=hba.trans (hb.mono hba.size)
  have p:=P7.call hb
  have g:=R7.call hb
  have g0:=g.1 0 _ rfl
  exact⟨⟨p.1 0 _ rfl,p.1 1 _ rfl,p.1 2 _ rfl⟩,⟨g0,g.1 1 _ rfl,g.1 2 _ rfl,g.1 3 _ rfl,g.1 4 _ rfl,g.1 5 _ rfl⟩,by rw[b.cell (by simp only;exact zlb)];exact q0,by rw[b.cell (by simp only;exact zlb)];exact q1,by rw[b.cell (by simp only;exact zlb)];exact q2⟩
 have m0:(0:Int)≤(q:Int):=by omega
 have m1:(q:Int) < (L.length:Int):=by omega
 have HHO2:Hid (∀wx,Below (w6.alloc (Cc #[I Y (q:Int),U vs r.vars.length vc,U ts r.things.length tc,I Y r.taken,U lns r.lines.length lnc,I Y r.fin] 33)).heap.size (w6.alloc (Cc #[I Y (q:Int),U vs r.vars.length vc,U ts r.things.length tc,I Y r.taken,U lns r.lines.length lnc,I Y r.fin] 33)) wx→Calls pG 13 #[pv V F s c cap,xv y yv yvc yf yfc,Ag #[I Y (q:Int),U vs r.vars.length vc,U ts r.things.length tc,I Y r.taken,U lns r.lines.length lnc,I Y r.fin]] wx λe w'=>e=Rt (Tu #[Bb true,I Y 0])∧Below wx.heap.size wx w'):=λwx hb=>by
  have h:=HHO.out wx hb
  unfold eY at h
  rw[hq] at h
  exact h
 clear P6 B6 X6 q0 q1 q2 hPy hvy hfy RA RO RL hck hcky HHO
 go_upto_region 12 with fail
 generalize w6.alloc (Cc #[I Y (q:Int),U vs r.vars.length vc,U ts r.things.length tc,I Y r.taken,U lns r.lines.length lnc,I Y r.fin] 33)=w7 at *
 generalize w6.heap.size=rbk at *
 have B34:Below w7.heap.size w7 w7.drew:=(bR _ _).drew
 refine an (S:=(λwx=>(wx.cell? ⟨w.heap.size,0,nO⟩=sO (I Y V)∧wx.cell? ⟨w.heap.size,1,nO⟩=sO (I Y F)∧wx.cell? ⟨w.heap.size,2,nO⟩=sO (U s c.length cap))∧(wx.cell? ⟨rbk,0,nO⟩=sO (I Y (q:Int))∧wx.cell? ⟨rbk,1,nO⟩=sO (U vs r.vars.length vc)∧wx.cell? ⟨rbk,2,nO⟩=sO (U ts r.things.length tc)∧wx.cell? ⟨rbk,3,nO⟩=sO (I Y r.taken)∧wx.cell? ⟨rbk,4,nO⟩=sO (U lns r.lines.length lnc)∧wx.cell? ⟨rbk,5,nO⟩=sO (I Y r.fin))∧(wx.cell? ⟨pb,q * 3,nO⟩=sO (Bb y.none)∧wx.cell? ⟨pb,q * 3+1,nO⟩=sO (U yv y.vars.length yvc)∧wx.cell? ⟨pb,q * 3+2,nO⟩=sO (U yf y.flds.length yfc)))) [] (by kernel_rfl) (HKZ.out _ B34) (λhHeld=> ?_)
 generalize w7.drew=w4 at *
 refine vZ 0 ?_ ?_
 refine vZ 1 ?_ ?_
 refine vZ 2 ?_ ?_
 refine vZ 3 ?_ ?_
 refine vZ 4 ?_ ?_
 refine vZ 5 ?_ ?_
 refine vZ 6 ?_ ?_
 refine ai (i:=7) rfl (by kernel_rfl) (λK hK=> ?_)
 go_simp
 go_at_call 13
 refine(HHO2.out w4 B34).mono ?_
 rintro e w8 ⟨rfl,hb8⟩
 go_wp2_with fail
 refine hK.out _ _ (HKZ.out _ (B34.trans (hb8.mono B34.size))) (λhHeld=> ?_)
 clear hK K
 refine sm ?_
 refine vZ 8 ?_ ?_
 refine vZ 9 ?_ ?_
 refine vZ 10 ?_ ?_
 refine vZ 11 ?_ ?_
 refine vZ 12 ?_ ?_
 refine aj (by kernel_rfl) ?_ _
 have B8:=B7.trans ((B34.trans (hb8.mono B34.size)).mono B7.size)
 go_wp2
 go_ret
 exact⟨rfl,B8⟩
end
section
open Go.ChangeShapes Go.WideShapes Go.ChangeAt Go.RowKit
namespace solveSound

theorem contract (H:Type)(enc:TypeId×Value→H)(W:World)(base:Nat)(args:Array Value)(ds gs:List (DataW H))(before:List MemPlace)
  (hval:∀(j:Nat) t v,Tryz.f4.params[j]? =sO t→args[j]? =sO v→Value.okWide pG W .any base t v)
  (hW:DataW.Whole enc pG Tryz.f4.params.toList Rows.solveSoundSpec.vars false W args.toList ds gs before)(hL:laidMetH pG Rows.solveSoundRow.laid W)(hS:W.ShapedOpen pG)(hz:(DataW.weightsEach pG (Tryz.f4.params.toList++(OpenSpec.ofChange Rows.solveSoundSpec).bare.plain.varTypes pG) (ds++gs)).all (· ≤reachBytes)=true):
  Calls pG 4 args W λe W'=>∃v,e=Rt v∧Rows.solveSoundSpec.post enc pG Tryz.f4 false true false false W args v W':=by
 have hlt:=hW.lt
 have hW':=hW
 obtain⟨p,q,hA0,hV,rfl,hfz,hnd⟩:=hW
 have hA:DataW.TrodAll enc pG W 0 (λ_=>true) true Tryz.f4.params.toList args.toList ds p:=hA0
 rw[Tryz.params4] at hA hval
 obtain⟨v0,vs0,d0,ds0,p0,q0,e0,rfl,rfl,h0,hr0⟩:=trodAll_cons hA
 obtain⟨v1,vs1,d1,ds1,p1,q1,e1,rfl,rfl,h1,hr1⟩:=trodAll_cons hr0
 obtain⟨v2,vs2,d2,ds2,p2,q2,e2,rfl,rfl,h2,hr2⟩:=trodAll_cons hr1
 obtain⟨rfl,rfl,rfl⟩:=trodAll_nil hr2
 subst e1
 subst e2
 have ea:args=#[v0,v1,v2]:=by cases args;simp_all
 subst ea
 obtain⟨rfl,rfl⟩:=trodVars_none hV
 obtain⟨V,F,s,cap,c,rfl,hcap,hmax,hcode,-⟩:=vg (hval 0 24 v0 rfl rfl) h0
 obtain⟨is,ic,ins,rfl,hic,him,hI⟩:=Bz (hval 1 34 v1 rfl rfl) h1
 obtain⟨fuel,rfl,-⟩:=open_int Tryz.underlying3 (hval 2 3 v2 rfl rfl) h2
 have hL':laidMet pG (("math/bits.deBruijn32tab",Rows.laid_math_bits_deBruijn32tab)::("math/bits.deBruijn64tab",Rows.laid_math_bits_deBruijn64tab)::("internal/strconv.uint64pow10",Rows.laid_internal_strconv_uint64pow10)::[]) W:=hL
 have hT:=FF hL'.tail.tail
 refine(sq V F s c cap is ic ins fuel W hcode hI hT).mono λe W' ⟨he,hb⟩=> ?_
 subst he
 refine⟨_,rfl,_,_,_,[],p0++(p1++(p2++[])),[],hW',?_,?_,?_,hb.frame _,λh=>by cases h⟩
 ·exact trodAll_mk1 (shut_bool Tryz.underlying4 _)
 ·rw[Tryz.params4]
  exact trodAll_cons_mk (Below.trod (by kernel_rfl) (by kernel_rfl) (of_decide_eq_true (by kernel_rfl)) h0 hb (λx hx=>hlt x (by simp[hx]))) (trodAll_cons_mk (Below.trod (by kernel_rfl) (by kernel_rfl) (of_decide_eq_true (by kernel_rfl)) h1 hb (λx hx=>hlt x (by simp[hx]))) (trodAll_cons_mk (Below.trod (by kernel_rfl) (by kernel_rfl) (of_decide_eq_true (by kernel_rfl)) h2 hb (λx hx=>hlt x (by simp[hx]))) (rfl)))
 ·rfl

theorem witness_row (os:Os){H:Type}(enc:TypeId×Value→H):
  (OpenSpec.ofChange Rows.solveSoundSpec).preRow enc pG Tryz.f4 Rows.solveSoundRow.domain false Rows.solveSoundRow.laid ((iD pG os).forCall (λ_ _=>0) ⟨#[],#[Ag #[I Y 0,I Y 0,U nO 0 0],U nO 0 0,I Y 0],[]⟩).memory #[Ag #[I Y 0,I Y 0,U nO 0 0],U nO 0 0,I Y 0]:=by
 have hw:(DataW.whole enc pG ((iD pG os).forCall (λ_ _=>0) ⟨#[],#[Ag #[I Y 0,I Y 0,U nO 0 0],U nO 0 0,I Y 0],[]⟩).memory Tryz.f4.params.toList Rows.solveSoundSpec.vars false #[Value.agg #[I Y 0,I Y 0,U nO 0 0],U nO 0 0,I Y 0].toList 8).isSome=true:=by kernel_rfl
 obtain⟨x,hx⟩:=Option.isSome_iff_exists.1 hw
 exact OpenSpec.preRow_of_cond 8 hx rfl (λk hk=>by cases hk) (by kernel_rfl) (Bs os _)

theorem lifted (os:Os)(started:os.Started)(H:Type)(enc:TypeId×Value→H)(F:Stop.Interp):
  ReturnsInHanded {} Tryz.checked os 4 .any ((OpenSpec.ofChange Rows.solveSoundSpec).preRow enc pG Tryz.f4 Rows.solveSoundRow.domain false Rows.solveSoundRow.laid) (((OpenSpec.ofChange Rows.solveSoundSpec).at F).post enc pG Tryz.f4 false true false false):=by
 refine returnsInHanded_of_row (C:=Tryz.checked) (s:=OpenSpec.ofChange Rows.solveSoundSpec) own started (by kernel_rfl) Tryz.func4
  (witness_row_atRef (enc:=enc) (C:=Tryz.checked) false (iD pG os) #[Ag #[I Y 0,I Y 0,U nO 0 0],U nO 0 0,I Y 0] rfl (by kernel_rfl) (by kernel_rfl) (by kernel_rfl) (witness_row os enc)) ?_
 intro W base args ds gs before hval hW _ _ hz hL hS _
 exact contract H enc W base args ds gs before hval hW hL hS hz

theorem and_t {a b:Bool}(h:a=true)(k:b=true):(a&&b)=true:=by rw[h,k];rfl
theorem closed:joinedFacts pG 4 Tryz.f4 (OpenSpec.ofChange Rows.solveSoundSpec).bare Rows.solveSoundRow=true:=by
 unfold joinedFacts
 repeat' (with_reducible refine and_t ?_ ?_)
 all_goals (as_aux_lemma=>kernel_rfl)

theorem said:Rows.SolveSoundSaid:=
 OpenClaim.holds_of_cond 4 Tryz.f4 rfl rfl rfl rfl rfl rfl rfl ⟨rfl,rfl,rfl,rfl,rfl⟩ rfl rfl rfl rfl rfl (by kernel_rfl) Tryz.func4 closed
  (of_decide_eq_true (by kernel_rfl)) (by unfold Func.isWrapper;first|(rw[if_pos (by decide+kernel)];kernel_rfl)|(rw[if_neg (by decide+kernel)];exact⟨rfl,rfl⟩))
  (λos started H enc _ F=>by rw[OpenClaim.pre_eq_preRow];exact lifted os started H enc F)

theorem plain (f:FuncId)(fn:Func)(hf:Tryz.pinned.checked.prog.funcNamed "soundings/soundingslaw.SolveSound" =sO f)(hfn:Tryz.pinned.checked.prog.funcs[f]? =sO fn):
  true=Tryz.pinned.checked.prog.looks []∧∀(j:Nat) t,fn.params[j]? =sO t→Tryz.pinned.checked.prog.wantsStandIn t=false:=by
 obtain rfl:f=4:=x9.inj ((show Tryz.prog.funcNamed "soundings/soundingslaw.SolveSound" =sO 4 by kernel_rfl).symm.trans hf) |>.symm
 obtain rfl:fn=Tryz.f4:=(x9.inj (Tryz.func4.symm.trans hfn)).symm
 refine⟨by kernel_rfl,λj t ht=> ?_⟩
 rw[Tryz.params4] at ht
 have hm:t=24∨t=34∨t=3:=by simpa using Array.mem_of_getElem? ht
 rcases hm with rfl|rfl|rfl
 ·exact(show Tryz.prog.wantsStandIn 24=false by kernel_rfl)
 ·exact(show Tryz.prog.wantsStandIn 34=false by kernel_rfl)
 ·exact(show Tryz.prog.wantsStandIn 3=false by kernel_rfl)
end solveSound

theorem solveSound_holds:Rows.SolveSoundCardSaid:=
 Claim7.holds_tied_plain_at .later [] _ _ _ _ solveSound.said (λ_ h=>by cases h) (by kernel_rfl) (λ_ h=>by cases h) solveSound_row_tie rfl ⟨rfl,rfl⟩ (by kernel_rfl) rfl solveSound.plain (by kernel_rfl)
end
end Go.Proofs.YtmapdpcfanecdabGreatDoor
