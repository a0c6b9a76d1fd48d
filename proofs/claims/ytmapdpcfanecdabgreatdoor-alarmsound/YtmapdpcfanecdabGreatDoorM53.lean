import Derived.Test.YtmapdpcfanecdabGreatDoorM52
import Derived.RangeFuncBound
import Derived.RangeFuncCalls
import Derived.OwnWalkIn
import Derived.TacticsInMore
import Derived.LoopNIn
import Derived.LoopIn
open Array renaming getElem?_eq_some_iff→j3
open Bool renaming eq_false_or_eq_true→j9
open Go.Ending renaming returned→Rt
open Go.IntKind renaming i64→Y
open Go.Obj renaming cells→Cc
open Go.Proofs.Tryz renaming prog→pG
open Go.RowKit.Below renaming refl→bR
open Go.Value renaming agg→Ag,bool→Bb,int→I,pointer→Pp,slice→U,tuple→Tu
open Go.World renaming putObj→j7,putObj_heap_other→j4,putObj_heap_same→q4,size_alloc→j2
open Int renaming eq_ofNat_of_zero_le→j8
open List renaming append_toArray→z8,cons_append→x4,foldl_append→j5,getElem_mem→gM,length_cons→q7,length_nil→q8,nil_append→z9,push_toArray→z7,range_succ→q5,size_toArray→q6,take_succ_eq_append_getElem→x5
open Nat renaming add_le_add_right→x6,le_refl→lR,le_trans→lT,lt_of_lt_of_le→lL,reduceAdd→q9,reduceSub→z0,zero_le→j6
open Option renaming none→nO,some→sO
set_option linter.unusedSimpArgs false
set_option linter.unusedVariables false
set_option maxHeartbeats 16000000
set_option maxRecDepth 100000
namespace Go.Proofs.YtmapdpcfanecdabGreatDoor
section
open Go.RowKit
attribute [local go_sem ↓] Go.wp_at_zero Go.wp_at_succ
def KeptC (Ch:Nat→Prop)(W W':World):Prop:=W.heap.size≤W'.heap.size∧∀b,¬Ch b→b < W.heap.size→W'.heap[b]? =W.heap[b]?
theorem KeptC.refl (Ch:Nat→Prop)(W:World):KeptC Ch W W:=⟨lR _,λ_ _ _=>rfl⟩
theorem KeptC.trans {Ch:Nat→Prop}{A B C:World}(h:KeptC Ch A B)(k:KeptC Ch B C):KeptC Ch A C:=⟨lT h.1 k.1,λb hb hlt=>(k.2 b hb (lL hlt h.1)).trans (h.2 b hb hlt)⟩
theorem KeptC.of {Ch:Nat→Prop}{A B:World}(h:Below A.heap.size A B):KeptC Ch A B:=⟨h.size,λb _ hlt=>h.block b hlt⟩
theorem KeptC.cells {Ch:Nat→Prop}{A B:World}(h:KeptC Ch A B){b:Nat}{cs:List Value}(hc:Cells A b cs)(hb:¬Ch b):Cells B b cs:=hc.same (h.2 b hb hc.2.1) h.1
def mm {σ:Type}(c:List Ins)(pics:σ→List Pic)(due:σ→Nat→Bool)(next:Nat→Edg→σ→σ)(t:σ)(k:Nat):σ:=if due t k then(cS c k (aU (pics t) k)).foldl (λt e=>next k e t) t else t
def ik {σ:Type}(c:List Ins)(pics:σ→List Pic)(due:σ→Nat→Bool)(next:Nat→Edg→σ→σ)(t:σ)(k:Nat):σ:=(List.range k).foldl (mm c pics due next) t
theorem o8 {σ:Type}{c:List Ins}{pics:σ→List Pic}{due:σ→Nat→Bool}{next:Nat→Edg→σ→σ}{t:σ}{k:Nat}:ik c pics due next t (k+1)=mm c pics due next (ik c pics due next t k) k:=by unfold ik;rw[q5,j5];rfl
theorem Bh {σ:Type}{V F:Int}{s:Option Addr}{c:List Ins}{cap pb ib lb l n fd lc:Nat}{ls:Option Addr}{cs:Array Value}{ar:Value→Array Value}(har:∀p,#[p]++cs=ar p)(hf:∀args wx,Sem.run pG (callFunc fd args) wx=.ok (.enter fd args) wx){pics:σ→List Pic}{due:σ→Nat→Bool}{next:Nat→Edg→σ→σ}{St:σ→World→Prop}{Stop:World→Prop}{Ch:Nat→Prop}
  (h0:ai V F c=0)(t0:σ)(W:World)
  (hSt:∀t W W',St t W→Below W.heap.size W W'→St t W')
  (hRow:∀t W,St t W→XsAt W ls (pics t)∧XsOk V F c (pics t))
  (hDue:∀t W (k:Nat),St t W→k < c.length→Calls pG fd (ar (I Y (k:Int))) W λe W'=>e=Rt (Bb (due t k))∧Below W.heap.size W W')
  (hY:∀t W (k:Nat) (e:Edg) vs vc fs fc,St t W→k < c.length→(∃t1,e∈cS c k (aU (pics t1) k))→iR V F c e→PicOn (λb=>¬Ch b) W e.pic vs fs→(e.pic.vars.length≤vc∧vc≤maxLen)→(e.pic.flds.length≤fc∧fc≤maxLen)→YieldAt Fence.wide (n - 1) pG l #[I Y (k:Int),Ag #[I Y e.tgt,Bb e.pic.none,U vs e.pic.vars.length vc,U fs e.pic.flds.length fc]] W λr W'=>(r=Rt (Bb true)∧St (next k e t) W'∧KeptC Ch W W')∨(r=Rt (Bb false)∧Stop W'))
  (hcode:∀W W',KeptC Ch W W'→CodeAt W s c→CodeAt W' s c)(hCh:∀b,Ch b→b < W.heap.size)(hpb:¬Ch pb)(hib:¬Ch ib)(hlb:¬Ch lb)
  (hW:St t0 W)(hP:Cells W pb [I Y V,I Y F,U s c.length cap])(hI:Cells W ib [.func (.func fd) #[] cs])(hL:Cells W lb [U ls (c.length+1) lc])(hC:CodeAt W s c):
  CallsIn Fence.wide n pG 103 #[.func (.yield l) #[] #[],Pp (sO ⟨pb,0,nO⟩),Pp (sO ⟨ib,0,nO⟩),Pp (sO ⟨lb,0,nO⟩)] W λe W'=>(∃v,e=Rt v)∧((St (ik c pics due next t0 c.length) W'∧KeptC Ch W W')∨Stop W'):=by
 have h60:=(bM h0).2.2
 have HSt:=aa hSt
 have HRow:=aa hRow
 have HDue:=aa hDue
 have HY:=aa hY
 have HCO:=aa hcode
 have HW:=aa hW
 have HCK:=aa h0
 clear hSt hRow hDue hY hcode hW h0
 refine callsIn_of_wp Tryz.func103 rfl trivial (wpIn_wide.2 ?_)
 simp only[Tryz.ntmps103,q6,q7,q8,q9,z0,Array.replicate_succ,Array.replicate_zero,z7,z8,z9,x4]
 have p2:=hP.1 2 _ rfl
 go_wp2
 clear p2
 go_loopw [15] (λi wr=>∃k:Nat,k≤c.length∧i=I Y k∧Hid (St (ik c pics due next t0 k) wr)∧KeptC Ch W wr) (λi _=>c.length - (intOf i).toNat)
 case atStart=>exact⟨0,j6 _,rfl,HW.out,KeptC.refl _ _⟩
 case round=>
  obtain⟨k,hk,rfl,HS,hkr⟩:=hrel
  have P1:=hkr.cells hP hpb
  have I1:=hkr.cells hI hib
  have L1:=hkr.cells hL hlb
  by_cases hlt:k < c.length
  rotate_left
  ·have n1:¬(k:Int) < (c.length:Int):=by omega
   have ek:k=c.length:=by omega
   have HF:Hid (St (ik c pics due next t0 c.length) wr):=by show St _ _;rw[←ek];exact HS.out
   clear ek HS
   go_wp2
   go_end0
   exact⟨⟨_,rfl⟩,.inl ⟨HF.out,hkr⟩⟩
  have n0:(0:Int)≤(k:Int):=by omega
  have n1:(k:Int) < (c.length:Int):=by omega
  have i0:=I1.1 0 _ rfl
  go_wp2_with fail
  refine(HDue.out _ wr k HS.out hlt).mono ?_
  rintro e w1 ⟨rfl,hb1⟩
  have k1:KeptC Ch W w1:=hkr.trans (KeptC.of hb1)
  have HS1:=aa (HSt.out _ _ _ HS.out hb1)
  have P2:=P1.call hb1
  have L2:=L1.call hb1
  clear HS hb1 i0 P1 I1 L1
  obtain⟨t,et⟩:∃t,t=ik c pics due next t0 k:=⟨_,rfl⟩
  have HT:=aa (o8 (c:=c) (pics:=pics) (due:=due) (next:=next) (t:=t0) (k:=k))
  rw[←et] at HS1 HT ⊢
  clear et
  rcases j9 (due t k) with hd|hd
  rotate_left
  ·have HD:=aa hd
   rw[hd]
   clear hd
   go_wp2
   go_roundw
   case rel=>exact⟨k+1,by omega,by go_num,by show St _ _;rw[HT.out];unfold mm;rw[HD.out];exact HS1.out,k1⟩
   case measure=>simp[intOf];omega
  ·have HD:=aa hd
   rw[hd]
   clear hd
   obtain⟨hX,hXO⟩:=HRow.out _ _ HS1.out
   have hxl:k < (pics t).length:=by rw[hXO.len];omega
   obtain⟨rb,ro,els,zrb,vx,vxc,fx,fxc,⟨q0,q1,q2⟩,hPx,hvx,hfx⟩:=hX k hxl
   obtain⟨x,ex⟩:∃x,x=(pics t)[k]:=⟨_,rfl⟩
   have hckx:aK V F c x=0:=by rw[ex];exact hXO.ck _ (gM hxl)
   have HEX:Hid (aU (pics t) (k:Int)=x):=by show _=_;rw[lm hxl,ex]
   rw[←ex] at q0 q1 q2 hPx hvx hfx
   clear ex
   have C1:=HCO.out _ _ k1 hC
   have HSF:Hid (∀wx,Below w1.heap.size w1 wx→Calls pG 15 #[pv V F s c cap,I Y (k:Int),xv x vx vxc fx fxc] wx λe w'=>(∃es ec,e=Rt (Tu #[U es (cS c k x).length ec,Bb (aA (aO c k) k x).2.1,Bb (aA (aO c k) k x).2.2,I Y 0])∧EdsOn (λb=>w1.heap.size≤b) w' es (cS c k x))∧Below wx.heap.size wx w'):=λwx hb=>by
    have hu:aJ V F c [x]=0:=by unfold aJ;rw[if_pos HCK.out];unfold cy;rw[if_pos hckx];rfl
    have e0:gI V F c (k:Int) x=0:=by unfold gI;rw[if_pos hu,if_neg (by omega)]
    have e1:io V F c (k:Int) x=aA (aO c k) k x:=by unfold io;rw[if_pos e0]
    have h:=tT V F s c cap (k:Int) x vx vxc fx fxc wx (C1.below hb (lR _)) (hPx.below hb (lR _)) hvx hfx
    rw[e0,e1] at h
    refine h.mono ?_
    rintro e w' ⟨⟨es,ec,rfl,hE⟩,hb'⟩
    exact⟨⟨es,ec,rfl,hE.mono λb h _=>lT hb.size h⟩,hb'⟩
   have HEO:=aa (im HCK.out hckx hlt)
   subst els
   have HKZ:Hid (∀wx,Below w1.heap.size w1 wx→(wx.cell? ⟨pb,0,nO⟩=sO (I Y V)∧wx.cell? ⟨pb,1,nO⟩=sO (I Y F)∧wx.cell? ⟨pb,2,nO⟩=sO (U s c.length cap))∧wx.cell? ⟨lb,0,nO⟩=sO (U (sO ⟨rb,ro,nO⟩) (c.length+1) lc)∧(wx.cell? ⟨rb,ro+k * 3,nO⟩=sO (Bb x.none)∧wx.cell? ⟨rb,ro+k * 3+1,nO⟩=sO (U vx x.vars.length vxc)∧wx.cell? ⟨rb,ro+k * 3+2,nO⟩=sO (U fx x.flds.length fxc))):=λwx hb=>by
    have p:=P2.call hb
    have q:=L2.call hb
    refine⟨⟨p.1 0 _ rfl,p.1 1 _ rfl,p.1 2 _ rfl⟩,q.1 0 _ rfl,?_,?_,?_⟩
    ·rw[hb.cell (by simp only;exact zrb)];exact q0
    ·rw[hb.cell (by simp only;exact zrb)];exact q1
    ·rw[hb.cell (by simp only;exact zrb)];exact q2
   have B12:Below w1.heap.size w1 w1.drew:=(bR _ _).drew
   have m1:(k:Int) < (c.length:Int)+1:=by omega
   generalize (aA (aO c k) k x).2.1=sw at *
   generalize (aA (aO c k) k x).2.2=sf at *
   have HST:Hid (mm c pics due next t k=(cS c k x).foldl (λt e=>next k e t) t):=by show _=_;unfold mm;rw[HD.out,if_pos rfl,HEX.out]
   have HELE:Hid ((cS c k x).length≤10):=lT (yI _ _ _) (by decide)
   have HM:Hid (∀e∈cS c k x,∃t1,e∈cS c k (aU (pics t1) k)):=λe he=>⟨t,by rw[HEX.out];exact he⟩
   generalize cS c k x=E at *
   go_upto_region 4 with fail
   refine au (S:=(λwx=>(wx.cell? ⟨pb,0,nO⟩=sO (I Y V)∧wx.cell? ⟨pb,1,nO⟩=sO (I Y F)∧wx.cell? ⟨pb,2,nO⟩=sO (U s c.length cap))∧wx.cell? ⟨lb,0,nO⟩=sO (U (sO ⟨rb,ro,nO⟩) (c.length+1) lc)∧(wx.cell? ⟨rb,ro+k * 3,nO⟩=sO (Bb x.none)∧wx.cell? ⟨rb,ro+k * 3+1,nO⟩=sO (U vx x.vars.length vxc)∧wx.cell? ⟨rb,ro+k * 3+2,nO⟩=sO (U fx x.flds.length fxc)))) [] (by kernel_rfl) (HKZ.out _ B12) (λhHeld=> ?_)
   generalize w1.drew=w2 at *
   refine vZ 0 ?_ ?_
   refine vZ 1 ?_ ?_
   refine vZ 2 ?_ ?_
   refine vZ 3 ?_ ?_
   refine vZ 4 ?_ ?_
   refine vZ 5 ?_ ?_
   refine an (i:=6) rfl (by kernel_rfl) (λK hK=> ?_)
   go_simp
   go_at_call 15
   refine(HSF.out w2 B12).mono ?_
   rintro e w3 ⟨⟨es,ec,rfl,E3⟩,hb3⟩
   go_wp2_with fail
   refine hK.out _ _ (HKZ.out _ (B12.trans (hb3.mono B12.size))) (λhHeld=> ?_)
   clear hK K
   refine sm ?_
   refine vZ 7 ?_ ?_
   refine vZ 8 ?_ ?_
   refine vZ 9 ?_ ?_
   refine vZ 10 ?_ ?_
   refine vZ 11 ?_ ?_
   refine vZ 12 ?_ ?_
   refine vZ 13 ?_ ?_
   refine vZ 14 ?_ ?_
   refine vZ 15 ?_ ?_
   refine aq (by kernel_rfl) ?_ _
   have HS3:=aa (HSt.out _ _ _ HS1.out (B12.trans (hb3.mono B12.size)))
   have k3:KeptC Ch W w3:=k1.trans (KeptC.of (B12.trans (hb3.mono B12.size)))
   have HN:Hid (∀b,w1.heap.size≤b→¬Ch b):=λb hb hc=>by have:=hCh b hc;have:=k1.1;omega
   have HEL:Hid (E.length≤10):=HELE.out
   clear B12 hb3 HS1 P2 L2 hX hXO C1 HSF HKZ q0 q1 q2 hPx hvx hfx hckx
   go_wp2
   go_loopw [36] (λi wr=>∃j:Nat,j≤E.length∧i=I Y j∧Hid (St ((E.take j).foldl (λt e=>next k e t) t) wr)∧KeptC Ch w3 wr) (λi _=>E.length - (intOf i).toNat)
   case atStart=>exact⟨0,j6 _,rfl,HS3.out,KeptC.refl _ _⟩
   case round=>
    obtain⟨j,hj,rfl,HSj,hkj⟩:=hrel
    have hl10:=HEL.out
    by_cases hltj:j < E.length
    rotate_left
    ·have n2:¬(j:Int) < (E.length:Int):=by omega
     have HF:Hid (St (ik c pics due next t0 (k+1)) wr):=by
      show St _ _
      have h:=HSj.out
      rw[List.take_of_length_le (by omega)] at h
      rw[HT.out,HST.out]
      exact h
     have k4:=k3.trans hkj
     clear HSj HS3
     go_wp2
     go_roundw
     case rel=>exact⟨k+1,by omega,by go_num,HF.out,k4⟩
     case measure=>simp[intOf];omega
    have j0:(0:Int)≤(j:Int):=by omega
    have j1:(j:Int) < (E.length:Int):=by omega
    have EJ:=E3.same (w':=wr) (λb hb hlt=>hkj.2 b (HN.out b hb) hlt) hkj.1
    obtain⟨eb,eo,ees,hSb,zeb,vs,vc,fs,fc,⟨c0,c1,c2,c3⟩,hPe,hve,hfe⟩:=EJ j hltj
    have hba:Below wr.heap.size wr (wr.alloc (Cc #[I Y E[j].tgt,Bb E[j].pic.none,U vs E[j].pic.vars.length vc,U fs E[j].pic.flds.length fc] 45)):=by go_grown
    obtain⟨fn,tmps,assign,body,hy,hR⟩:=HY.out _ _ k E[j] vs vc fs fc (HSt.out _ _ _ HSj.out hba) hlt (HM.out _ (gM hltj)) (HEO.out _ (gM hltj)) ((hPe.mono λb hb _=>HN.out b hb).call hba) hve hfe
    have HTK:Hid ((E.take (j+1)).foldl (λt e=>next k e t) t=next k E[j] ((E.take j).foldl (λt e=>next k e t) t)):=by show _=_;rw[x5 hltj,j5];rfl
    have kba:KeptC Ch w3 (wr.alloc (Cc #[I Y E[j].tgt,Bb E[j].pic.none,U vs E[j].pic.vars.length vc,U fs E[j].pic.flds.length fc] 45)):=hkj.trans (KeptC.of hba)
    subst ees
    have NX:Cells (wr.alloc (Cc #[I Y E[j].tgt,Bb E[j].pic.none,U vs E[j].pic.vars.length vc,U fs E[j].pic.flds.length fc] 45)) wr.heap.size [I Y E[j].tgt,Bb E[j].pic.none,U vs E[j].pic.vars.length vc,U fs E[j].pic.flds.length fc]:=Cells.new wr _ [I Y E[j].tgt,Bb E[j].pic.none,U vs E[j].pic.vars.length vc,U fs E[j].pic.flds.length fc]
    clear EJ hPe HSj HS3
    go_upto_region 8 with fail
    clear c0 c1 c2 c3
    generalize wr.alloc (Cc #[I Y E[j].tgt,Bb E[j].pic.none,U vs E[j].pic.vars.length vc,U fs E[j].pic.flds.length fc] 45)=wy at *
    have c0:=NX.1 0 _ rfl
    have c1:=NX.1 1 _ rfl
    have c2:=NX.1 2 _ rfl
    have c3:=NX.1 3 _ rfl
    refine(wpIn_wide (n:=n)).1 ?_
    gi_wp2
    refine⟨λh=>(by cases h),hR.mono ?_⟩
    rintro e W3 (⟨rfl,hS4,hk4⟩|⟨rfl,hstop⟩)
    ·have HS4:=aa hS4
     clear hS4 hR hy c0 c1 c2 c3 NX
     have k5:=kba.trans hk4
     gi_wp2
     go_wp2
     go_roundw
     case rel=>exact⟨j+1,by omega,by go_num,by show St _ _;rw[HTK.out];exact HS4.out,k5⟩
     case measure=>simp[intOf];omega
    ·clear hR hy c0 c1 c2 c3 NX
     have HSP:=aa hstop
     clear hstop
     gi_wp2
     go_wp2
     refine bodyPost_ret (results_none rfl _ _ _) rfl ?_
     exact⟨⟨_,rfl⟩,.inr HSP.out⟩
theorem CU (V F:Int)(s:Option Addr)(c:List Ins)(cap:Nat)(ls:Option Addr)(pl pc dc sb db vb nb k:Nat)(n:Int)(D:List Int)(w:World)(hV:Cells w vb [Pp (sO ⟨sb,0,nO⟩)])(hN:Cells w nb [I Y n])(hst:Cells w sb [I Y V,I Y F,U s c.length cap,U ls pl pc,U (sO ⟨db,0,nO⟩) D.length dc])(hD:DRow w db D)(hk:k < D.length)(hm:D.length≤maxLen):
  Calls pG 99 #[I Y (k:Int),Pp (sO ⟨vb,0,nO⟩),Pp (sO ⟨nb,0,nO⟩)] w λe w'=>e=Rt (Bb (D[k]==n))∧Below w.heap.size w w':=by
 have HS:Hid (w.drew.cell? ⟨vb,0,nO⟩=sO (Pp (sO ⟨sb,0,nO⟩))∧w.drew.cell? ⟨nb,0,nO⟩=sO (I Y n)∧w.drew.cell? ⟨sb,4,nO⟩=sO (U (sO ⟨db,0,nO⟩) D.length dc)∧w.drew.cell? ⟨db,k,nO⟩=sO (I Y D[k])):=by
  have b:Below w.heap.size w w.drew:=(bR _ _).drew
  exact⟨(hV.call b).1 0 _ rfl,(hN.call b).1 0 _ rfl,(hst.call b).1 4 _ rfl,(hD.call b).get hk⟩
 have B34:Below w.heap.size w w.drew:=(bR _ _).drew
 generalize D[k]=d at *
 have m0:(0:Int)≤(k:Int):=by omega
 have m1:(k:Int) < (D.length:Int):=by omega
 go_enter Tryz.func99,Tryz.ntmps99
 go_upto_region 1 with fail
 refine au (S:=(λwx=>wx.cell? ⟨vb,0,nO⟩=sO (Pp (sO ⟨sb,0,nO⟩))∧wx.cell? ⟨nb,0,nO⟩=sO (I Y n)∧wx.cell? ⟨sb,4,nO⟩=sO (U (sO ⟨db,0,nO⟩) D.length dc)∧wx.cell? ⟨db,k,nO⟩=sO (I Y d))) [] (by kernel_rfl) HS.out (λhHeld=> ?_)
 refine vZ 0 ?_ ?_
 refine vZ 1 ?_ ?_
 refine vZ 2 ?_ ?_
 refine vZ 3 ?_ ?_
 refine vZ 4 ?_ ?_
 refine vZ 5 ?_ ?_
 refine vZ 6 ?_ ?_
 refine vZ 7 ?_ ?_
 refine vZ 8 ?_ ?_
 refine vZ 9 ?_ ?_
 refine aq (by kernel_rfl) ?_ _
 go_wp2
 go_ret
 exact⟨rfl,B34⟩
theorem Bt (V F:Int)(s:Option Addr)(c:List Ins)(cap:Nat)(ls:Option Addr)(len lc fd:Nat)(cs:Array Value)(w:World):
  Calls pG 53 #[pv V F s c cap,U ls len lc,.func (.func fd) #[] cs] w λe w'=>e=Rt (.func (.func 103) #[] #[Pp (sO ⟨w.heap.size,0,nO⟩),Pp (sO ⟨w.heap.size+1+1,0,nO⟩),Pp (sO ⟨w.heap.size+1,0,nO⟩)])∧(Cells w' w.heap.size [I Y V,I Y F,U s c.length cap]∧Cells w' (w.heap.size+1) [U ls len lc]∧Cells w' (w.heap.size+1+1) [.func (.func fd) #[] cs])∧Below w.heap.size w w':=by
 go_enter Tryz.func53,Tryz.ntmps53
 go_wp2
 go_ret
 refine⟨rfl,⟨(Cells.new w _ [_,_,_]).call (by go_grown),?_,?_⟩,by go_grown⟩
 ·have h:=Cells.new (w.alloc (Cc #[I Y V,I Y F,U s c.length cap] 24)) 47 [U ls len lc]
  rw[j2] at h
  exact h.call (by go_grown)
 ·have h:=Cells.new ((w.alloc (Cc #[I Y V,I Y F,U s c.length cap] 24)).alloc (Cc #[U ls len lc] 47)) 70 [.func (.func fd) #[] cs]
  rw[j2,j2] at h
  exact h
theorem GD {P:Program}{d:Code}{K:Act→World→Prop}{Q:Exit→Act→World→Prop}{a:Act}{w:World}(h:d.wp P (Exit.then K (λ_ _ _=>False)) a w):d.wp P (Exit.then K Q) a w:=wp_mono h λe a w q=>by
 cases e<;>first|exact q|exact q.elim
section
variable {w W W':World} {V F:Int} {s:Option Addr} {c:List Ins} {cap:Nat} {ls:Option Addr} {len lc:Nat}
end
attribute [local go_sem] Oper.semAt_some
end
section
open Go.RowKit
attribute [local go_sem ↓] Go.wp_at_zero Go.wp_at_succ
theorem Gt {c:List Ins}{n:Int}{t:List Pic×List Int×Bool}{k:Nat}:mm c (λt:List Pic×List Int×Bool=>t.1) (λt k=>t.2.1.getD k 0==n) (λk e t=>cD n k t e) t k=gA c n t k:=by
 unfold mm gA
 by_cases h:t.2.1.getD k 0=n
 ·rw[if_pos h,if_pos (by simpa using h)]
 ·rw[if_neg h,if_neg (by simpa using h)]
theorem yk {c:List Ins}{n:Int}{t:List Pic×List Int×Bool}:∀{k:Nat},ik c (λt:List Pic×List Int×Bool=>t.1) (λt k=>t.2.1.getD k 0==n) (λk e t=>cD n k t e) t k=(List.range k).foldl (gA c n) t
 |0=>rfl
 |k+1=>by rw[o8,yk,Gt,q5,j5];rfl
theorem Em {V F:Int}{c:List Ins}(h0:ai V F c=0){n i:Int}{t:List Pic×List Int×Bool}{e:Edg}(h:XsOk V F c t.1)(hd:t.2.1.length=c.length+1)(he:iR V F c e):XsOk V F c (cD n i t e).1∧(cD n i t e).2.1.length=c.length+1:=by
 obtain⟨b1,-⟩:=mb (n:=n) (i:=i) (s:=(t.1,t.2.2)) h0 h he
 have e1:(cL n i (t.1,t.2.2) e).1=(cD n i t e).1:=by rw[←mD]
 rw[e1] at b1
 refine⟨b1,?_⟩
 unfold cD
 split
 ·exact hd
 ·simpa using hd
theorem KeptC.code {Ch:Nat→Prop}{W W':World}{s:Option Addr}{c:List Ins}(h:KeptC Ch W W')(hs:∀a,s=sO a→¬Ch a.block)(hc:CodeAt W s c):CodeAt W' s c:=by
 rcases hc with hi|⟨b,off,e,hb,hc⟩
 ·exact .inl hi
 ·refine .inr ⟨b,off,e,lL hb h.1,λk hk=> ?_⟩
  obtain⟨h0,h1,h2,h3,h4,h5⟩:=hc k hk
  have hB:=h.2 b (hs _ e) hb
  refine⟨?_,?_,?_,?_,?_,?_⟩<;>rw[World.cell?_of_block hB]<;>assumption
theorem KeptC.mono {Ch Ch':Nat→Prop}{W W':World}(h:KeptC Ch W W')(hs:∀b,Ch b→Ch' b):KeptC Ch' W W':=⟨h.1,λb hb hlt=>h.2 b (λhc=>hb (hs b hc)) hlt⟩
theorem C8 {w:World}{s:Option Addr}{c:List Ins}{pb db cb:Nat}(hC:CodeAt w s c)(hsC:c≠[]→∀a,s=sO a→a.block≠pb∧a.block≠db)(hcb:w.heap.size≤cb):∀W W',KeptC (λb=>b=pb∨b=db∨b=cb) W W'→CodeAt W s c→CodeAt W' s c:=by
 by_cases hcn:c=[]
 ·exact λ_ _ _ _=>.inl hcn
 ·rcases hC with h|⟨b,off,e,hb,-⟩
  ·exact absurd h hcn
  intro W W' hk h
  refine hk.code (λa ha=> ?_) h
  have h1:=hsC hcn a ha
  have h2:a.block=b:=by rw[e] at ha;cases ha;rfl
  rintro (h|h|h)
  ·exact h1.1 h
  ·exact h1.2 h
  ·omega
theorem PicOn.drop {S:Nat→Prop}{W:World}{x:Pic}{vs fs:Option Addr}{l:Nat}{r:Loop}(h:PicOn S W x vs fs)(hl:W.heap[l]? =sO (.loop r)):PicOn (λb=>S b∧b≠l) W x vs fs:=λw2 h2 hz=>by
 have hlz:=(j3.1 hl).1
 have h3:PicAt (w2.putObj l (.loop r)) x vs fs:=h _ (λb hb hlt=>by
  by_cases e:b=l
  ·subst e;rw[q4 (by omega),hl]
  ·rw[j4 e];exact h2 b ⟨hb,e⟩ hlt) (by simpa[j7] using hz)
 refine CellsKept.pic (W:=w2.putObj l (.loop r)) ⟨by simp[j7],λb k v hv=> ?_⟩ h3
 by_cases e:b=l
 ·subst e
  exfalso
  have e2:(w2.putObj b (.loop r)).heap[b]? =sO (.loop r):=q4 (by omega)
  simp only[World.cell?,e2] at hv
  cases hv
 ·rw[World.cell?_of_block (a:=⟨b,k,nO⟩) (j4 e)] at hv
  exact hv
theorem Fl {F:Fence}{m:Nat}{P:Program}{c d:Code}{Q:Exit→Act→World→Prop}{a:Act}{w:World}(h:∀K:Act→World→Prop,Hid (∀a w,d.wpIn F m P Q a w→K a w)→c.wpIn F m P (Exit.then K (λ_ _ _=>False)) a w):(c.seq d).wpIn F m P Q a w:=wpIn_seq (uh (h _ λ_ _ h=>h))
theorem yg {V F:Int}{s:Option Addr}{c:List Ins}{cap:Nat}{x y:Pic}{vs1:Option Addr}{vc1:Nat}{fs1:Option Addr}{fc1:Nat}{vs2:Option Addr}{vc2:Nat}{fs2:Option Addr}{fc2:Nat}{w:World}(h0:ai V F c=0)(hx0:aK V F c x=0)(hy0:aK V F c y=0)(hcd:CodeAt w s c)(hx:PicAt w x vs1 fs1)(h1:x.vars.length≤vc1∧vc1≤maxLen)(h2:x.flds.length≤fc1∧fc1≤maxLen)(hy:PicAt w y vs2 fs2)(h3:y.vars.length≤vc2∧vc2≤maxLen)(h4:y.flds.length≤fc2∧fc2≤maxLen):Calls pG 32 #[pv V F s c cap,xv x vs1 vc1 fs1 fc1,xv y vs2 vc2 fs2 fc2] w λe w'=>kg w.heap.size w' e (aT (ae false) x y) 0∧Below w.heap.size w w':=by
 have hk:aJ V F c [x,y]=0:=by unfold aJ;rw[if_pos h0];unfold cy;rw[if_pos hx0];unfold cy;rw[if_pos hy0];rfl
 have h:=Ih V F s c cap x vs1 vc1 fs1 fc1 y vs2 vc2 fs2 fc2 w hcd hx h1 h2 hy h3 h4
 rw[if_pos hk,hk,(pu h0 hx0 hy0).1] at h
 exact h
theorem FW {V F:Int}{s:Option Addr}{c:List Ins}{cap:Nat}{x y:Pic}{vs1:Option Addr}{vc1:Nat}{fs1:Option Addr}{fc1:Nat}{vs2:Option Addr}{vc2:Nat}{fs2:Option Addr}{fc2:Nat}{w:World}(h0:ai V F c=0)(hx0:aK V F c x=0)(hy0:aK V F c y=0)(hcd:CodeAt w s c)(hx:PicAt w x vs1 fs1)(h1:x.vars.length≤vc1∧vc1≤maxLen)(h2:x.flds.length≤fc1∧fc1≤maxLen)(hy:PicAt w y vs2 fs2)(h3:y.vars.length≤vc2∧vc2≤maxLen)(h4:y.flds.length≤fc2∧fc2≤maxLen):Calls pG 33 #[pv V F s c cap,xv x vs1 vc1 fs1 fc1,xv y vs2 vc2 fs2 fc2] w λe w'=>kg w.heap.size w' e (aT (ae true) x y) 0∧Below w.heap.size w w':=by
 have hk:aJ V F c [x,y]=0:=by unfold aJ;rw[if_pos h0];unfold cy;rw[if_pos hx0];unfold cy;rw[if_pos hy0];rfl
 have h:=If V F s c cap x vs1 vc1 fs1 fc1 y vs2 vc2 fs2 fc2 w hcd hx h1 h2 hy h3 h4
 rw[if_pos hk,hk,(pu h0 hx0 hy0).2] at h
 exact h
theorem PRow.mono {S S':Nat→Prop}{W:World}{pb:Nat}{L:List Pic}(h:PRow S W pb L)(hs:∀b,S b→b < W.heap.size→S' b):PRow S' W pb L:=by
 obtain⟨cs,hc,hl,h⟩:=h
 refine⟨cs,hc,hl,λi hi=> ?_⟩
 obtain⟨vs,vc,fs,fc,h0,hp,hq⟩:=h i hi
 exact⟨vs,vc,fs,fc,h0,hp.mono hs,hq⟩
structure RndAt (S:Nat→Prop) (w:World) (V F:Int) (s:Option Addr) (c:List Ins) (cap sb pb pc db dc:Nat) (n:Int) (t:List Pic×List Int×Bool) (W:World):Prop where
 vs:Cells W w.heap.size [Pp (sO ⟨sb,0,nO⟩)]
 vn:Cells W (w.heap.size+1) [I Y n]
 vc:Cells W (w.heap.size+1+1) [Bb t.2.2]
 st:Cells W sb [I Y V,I Y F,U s c.length cap,U (sO ⟨pb,0,nO⟩) t.1.length pc,U (sO ⟨db,0,nO⟩) t.2.1.length dc]
 pr:PRow S W pb t.1
 dr:DRow W db t.2.1
 xs:XsOk V F c t.1
 ln:t.2.1.length=c.length+1
 kp:KeptC (λb=>b=pb∨b=db) w W
 lo:∀{B:Nat} {a:World},B≤pb→B≤db→B≤w.heap.size→Below B a w→Below B a W
section
variable {S:Nat→Prop} {w W W':World} {V F:Int} {s:Option Addr} {c:List Ins} {cap sb pb pc db dc:Nat} {n:Int} {t:List Pic×List Int×Bool}
theorem RndAt.below (h:RndAt S w V F s c cap sb pb pc db dc n t W)(hb:Below W.heap.size W W'):RndAt S w V F s c cap sb pb pc db dc n t W':=⟨h.vs.call hb,h.vn.call hb,h.vc.call hb,h.st.call hb,h.pr.call hb,h.dr.call hb,h.xs,h.ln,h.kp.trans (KeptC.of hb),λh1 h2 h3 h4=>(h.lo h1 h2 h3 h4).trans (hb.mono (lT h3 h.kp.1))⟩
theorem RndAt.mono {S':Nat→Prop}(h:RndAt S w V F s c cap sb pb pc db dc n t W)(hs:∀b,S b→b < W.heap.size→S' b):RndAt S' w V F s c cap sb pb pc db dc n t W:=⟨h.vs,h.vn,h.vc,h.st,h.pr.mono hs,h.dr,h.xs,h.ln,h.kp,h.lo⟩
theorem RndAt.round {l:Nat}(h:RndAt S w V F s c cap sb pb pc db dc n t W)(hO:RoundAt l W W')(hl:w.heap.size+1+1 < l)(hsb:sb≠l)(hpb:pb≠l)(hdb:db≠l)(hS:∀b,S b→b≠l):RndAt S w V F s c cap sb pb pc db dc n t W':=
 have hz:W.heap.size≤W'.heap.size:=by rw[hO.size];exact lR _
 ⟨h.vs.same (hO.far _ (by omega)) hz,h.vn.same (hO.far _ (by omega)) hz,h.vc.same (hO.far _ (by omega)) hz,h.st.same (hO.far _ hsb) hz,h.pr.far (hO.far _ hpb) (λb hb _=>hO.far b (hS b hb)) hz,h.dr.far (hO.far _ hdb) hz,h.xs,h.ln,⟨lT h.kp.1 hz,λb hb hlt=>(hO.far b (by omega)).trans (h.kp.2 b hb hlt)⟩,λh1 h2 h3 h4=>hO.low (by omega) (h.lo h1 h2 h3 h4)⟩
theorem ET {W5 wq W6:World}{L:List Pic}{D:List Int}(h:RndAt S w V F s c cap sb pb pc db dc n t W5)(e:Hid (wq=cu W5 (w.heap.size+1+1) 0 [Bb true]))(hs:gg S wq W6 pb db L D)(hn:pb < w.heap.size∧db < w.heap.size∧sb≠pb∧sb≠db∧sb < w.heap.size)(hl:L.length=t.1.length∧D.length=t.2.1.length)(hx:XsOk V F c L∧D.length=c.length+1)(hS:∀b,S b→b≠w.heap.size+1+1):
  RndAt S w V F s c cap sb pb pc db dc n (L,D,true) W6∧KeptC (λb=>b=pb∨b=db∨b=w.heap.size+1+1) W5 W6∧∀b,b≠pb→b≠db→b≠w.heap.size+1+1→b < W5.heap.size→W6.heap[b]? =W5.heap[b]? :=by
 have PQ:=gP h.vc 0 _ e.out
 obtain⟨s1,s2,s3,s4,s5⟩:=hs
 obtain⟨a1,a2,a3,a4,a5⟩:=hn
 have F:∀b,b≠pb→b≠db→b≠w.heap.size+1+1→b < W5.heap.size→W6.heap[b]? =W5.heap[b]? :=λb h1 h2 h3 h4=>(s3 b h1 h2 (lL h4 PQ.size)).trans (PQ.far b h3)
 have Z:W5.heap.size≤W6.heap.size:=lT PQ.size s4
 refine⟨⟨h.vs.same (F _ (by omega) (by omega) (by omega) h.vs.2.1) Z,h.vn.same (F _ (by omega) (by omega) (by omega) h.vn.2.1) Z,PQ.cells.same (s3 _ (by omega) (by omega) PQ.cells.2.1) s4,?_,s1,s2,hx.1,hx.2,⟨lT h.kp.1 Z,λb hb hlt=> ?_⟩,λh1 h2 h3 h4=>s5 h1 h2 (lT h3 (lT h.kp.1 PQ.size)) (PQ.low (by omega) (h.lo h1 h2 h3 h4))⟩,⟨Z,λb hb hlt=> ?_⟩,F⟩
 ·have q:=h.st.same (F sb a3 a4 (by omega) h.st.2.1) Z
  rw[←hl.1,←hl.2] at q
  exact q
 ·have hb':¬(b=pb∨b=db):=hb
  have:=h.kp.1
  rw[F b (by omega) (by omega) (by omega) (by omega)]
  exact h.kp.2 b hb hlt
 ·have hb':¬(b=pb∨b=db∨b=w.heap.size+1+1):=hb
  exact F b (by omega) (by omega) (by omega) hlt
theorem rr {Ch:Nat→Prop}{Wa W2 W3:World}{l D:Nat}{r:Loop}(hl:LoopAt W l D r)(hb:Below W.heap.size W Wa)(hO:RoundAt l Wa W2)(h3:KeptC Ch W2 W3):KeptC Ch W (W3.putObj l (.loop r)):=by
 have z:W.heap.size≤W3.heap.size:=lT hb.size (by rw[←hO.size];exact h3.1)
 have hlz:=(j3.1 hl.lp).1
 refine⟨by simpa[j7] using z,λb hc hlt=> ?_⟩
 by_cases e:b=l
 ·subst e
  rw[q4 (by omega),hl.lp]
 ·rw[j4 e,h3.2 b hc (by rw[hO.size];have:=hb.size;omega),hO.far b e,hb.block b hlt]
end
theorem Dr {S:Nat→Prop}{V F:Int}{s:Option Addr}{c:List Ins}{cap sb pb pc db dc:Nat}{n:Int}{L:List Pic}{D:List Int}{w w5 w6 W1:World}{fn:FuncId}{tmps:Array Value}{ps:Array Tmp}{assign body:Code}
  (h0:ai V F c=0)(hC:CodeAt w s c)(hCK:∀W W',KeptC (λb=>b=pb∨b=db∨b=w.heap.size+1+1) W W'→CodeAt W s c→CodeAt W' s c)(hz:w.heap.size+1+1 < w5.heap.size)(hpb:pb < w.heap.size)(hdb:db < w.heap.size)(hb:Below w6.heap.size w6 W1)(hl:LoopAt W1 (w6.heap.size+1) w6.heap.size (dE fn tmps ps assign body w6.heap.size .ready nO))(hR:RndAt S w V F s c cap sb pb pc db dc n (L,D,false) W1)
  (EP:Cells w6 w5.heap.size [I Y V,I Y F,U s c.length cap])(EL:Cells w6 (w5.heap.size+1) [U (sO ⟨pb,0,nO⟩) L.length pc])(EF:Cells w6 (w5.heap.size+1+1) [.func (.func 99) #[] #[Pp (sO ⟨w.heap.size,0,nO⟩),Pp (sO ⟨w.heap.size+1,0,nO⟩)]])
  (hY:∀(t:List Pic×List Int×Bool) W (k:Nat) (e:Edg) vs vc fs fc,RndAt S w V F s c cap sb pb pc db dc n t W→LoopAt W (w6.heap.size+1) w6.heap.size (dE fn tmps ps assign body w6.heap.size .ready nO)→iR V F c e→PicOn (λb=>¬(b=pb∨b=db∨b=w.heap.size+1+1)) W e.pic vs fs→(e.pic.vars.length≤vc∧vc≤maxLen)→(e.pic.flds.length≤fc∧fc≤maxLen)→YieldAt Fence.wide (5 - 1 - 1) pG (w6.heap.size+1) #[I Y (k:Int),Ag #[I Y e.tgt,Bb e.pic.none,U vs e.pic.vars.length vc,U fs e.pic.flds.length fc]] W λr W'=>r=Rt (Bb true)∧LoopAt W' (w6.heap.size+1) w6.heap.size (dE fn tmps ps assign body w6.heap.size .ready nO)∧RndAt S w V F s c cap sb pb pc db dc n (cD n k t e) W'∧KeptC (λb=>b=pb∨b=db∨b=w.heap.size+1+1) W W'):
  CallsIn Fence.wide (5 - 1) pG 103 (#[.func (.yield (w6.heap.size+1)) #[] #[]]++#[Pp (sO ⟨w5.heap.size,0,nO⟩),Pp (sO ⟨w5.heap.size+1+1,0,nO⟩),Pp (sO ⟨w5.heap.size+1,0,nO⟩)]) W1 λe W'=>(∃v,e=Rt v)∧((LoopAt W' (w6.heap.size+1) w6.heap.size (dE fn tmps ps assign body w6.heap.size .ready nO)∧RndAt S w V F s c cap sb pb pc db dc n (eT c n (L,D)) W')∨∃c',LoopAt W' (w6.heap.size+1) w6.heap.size (dE fn tmps ps assign body w6.heap.size .done (sO c'))∧False):=by
 have hz6:=EF.2.1
 have hzb:=hb.size
 refine(Bh (σ:=List Pic×List Int×Bool) (V:=V) (F:=F) (s:=s) (c:=c) (cap:=cap) (pb:=w5.heap.size) (ib:=w5.heap.size+1+1) (lb:=w5.heap.size+1) (l:=w6.heap.size+1) (n:=5 - 1) (fd:=99) (lc:=pc) (ls:=sO ⟨pb,0,nO⟩) (cs:=#[Pp (sO ⟨w.heap.size,0,nO⟩),Pp (sO ⟨w.heap.size+1,0,nO⟩)]) (ar:=λp=>#[p,Pp (sO ⟨w.heap.size,0,nO⟩),Pp (sO ⟨w.heap.size+1,0,nO⟩)]) (λ_=>by simp) (enters_of Tryz.func99 (by kernel_rfl) rfl) (pics:=λt=>t.1) (due:=λt k=>t.2.1.getD k 0==n) (next:=λk e t=>cD n k t e)
  (St:=λt W=>RndAt S w V F s c cap sb pb pc db dc n t W∧LoopAt W (w6.heap.size+1) w6.heap.size (dE fn tmps ps assign body w6.heap.size .ready nO))
  (Stop:=λ_=>False)
  (Ch:=λb=>b=pb∨b=db∨b=w.heap.size+1+1) h0 (L,D,false) W1 ?_ ?_ ?_ ?_ hCK (λb h=>by omega) (by omega) (by omega) (by omega) ⟨hR,hl⟩ (EP.call hb) (EF.call hb) (by rw[←hR.xs.len];exact EL.call hb) (hCK _ _ (hR.kp.mono λb h=>h.imp id Or.inl) hC)).mono ?_
 ·exact λt W W' h hb=>⟨h.1.below hb,h.2.below hb⟩
 ·exact λt W h=>⟨h.1.pr.xs,h.1.xs⟩
 ·intro t W k h hk
  have hk':k < t.2.1.length:=by rw[h.1.ln];omega
  have h60:=(bM h0).2.2
  have q:=CU V F s c cap _ _ pc dc sb db _ _ k n t.2.1 W h.1.vs h.1.vn h.1.st h.1.dr hk' (by rw[h.1.ln];unfold maxLen;omega)
  have e:t.2.1.getD k 0=t.2.1[k]:=by simp[List.getD,hk']
  rw[e]
  exact q
 ·rintro t W k e vs vc fs fc ⟨hR1,hl1⟩ hk - hok hp hv hf
  refine(hY t W k e vs vc fs fc hR1 hl1 hok hp hv hf).mono ?_
  rintro r W' ⟨e1,e2,e3,e4⟩
  exact .inl ⟨e1,⟨e3,e2⟩,e4⟩
 ·rintro e W' ⟨hv,⟨⟨h1,h2⟩,h4⟩|h⟩
  ·rw[yk] at h1
   exact⟨hv,.inl ⟨h2,h1⟩⟩
  ·exact h.elim
theorem y6 {X:World}{D0:Nat}{b:Bool}{tmps:Array Value}{R:Ending→World→Prop}(hD:X.heap[D0]? =sO (.deferred (sO [])))(h4:tmps[4]?.getD undef=Bb b)(hR:R (Rt (Bb b)) (X.putObj D0 (.deferred nO))):
  bodyPostM Fence.wide 5 pG Tryz.f49 R .ret ⟨tmps,[{target:=.collected D0,args:=#[]}]⟩ X:=
 ⟨by simp,.inl ⟨D0,_,rfl,run_takeDeferred hD,Bb b,by simp[results,Tryz.results49,go_sem,h4],hR⟩⟩
attribute [local go_sem] Oper.semAt_some
theorem mq {p:Prop}(h:p:=by
 gi_wp2_with fail
 refine⟨trivial,(CallsIn.inRound _ (callsIn_wide.2 HCL.out)).mono ?_⟩
 rintro e6 W6 ⟨⟨ve,rfl⟩,SS⟩
 obtain⟨N1,N2,N3⟩:=ET R5 ewq0 SS ⟨hpb,hdb,hsp.1,hsp.2,hsb⟩ ⟨by simp,by simp⟩ (by have:=Em (n:=n) (i:=k) h0 R5.xs R5.ln hok;rw[HED.out] at this;exact this) (λb hb=>(hS b hb).2.2.1)
 have hl6:=hl5.far (N3 _ (by omega) (by omega) (by omega) hlz5) (N3 _ (by omega) (by omega) (by omega) hDz5)
 clear HCL SS
 gi_wp2
 exact⟨hl6,hl6.put (by omega) _,by rw[HED.out];exact N1.round (hl6.round _) (by omega) (by omega) (by omega) (by omega) (λb hb=>(hS b hb).2.2.2),rr Hl.out HBA.out HO.out ((KeptC.of HB25.out).trans N2)⟩):p:=h
theorem Br {S0:Nat→Prop}(V F:Int)(s:Option Addr)(c:List Ins)(cap sb pb pc db dc:Nat)(n:Int)(L:List Pic)(D:List Int)(w:World)(h0:ai V F c=0)(hst:Cells w sb [I Y V,I Y F,U s c.length cap,U (sO ⟨pb,0,nO⟩) L.length pc,U (sO ⟨db,0,nO⟩) D.length dc])(hP:PRow S0 w pb L)(hDr:DRow w db D)(hC:CodeAt w s c)(hpd:pb≠db)(hsp:sb≠pb∧sb≠db)(hS0:∀b,S0 b→b≠pb∧b≠db)(hS2:∀b,w.heap.size≤b→S0 b)(hsC:c≠[]→∀a,s=sO a→a.block≠pb∧a.block≠db)(hX:XsOk V F c L)(hDl:D.length=c.length+1)(hnw:IntKind.i64.wrap (n+1)=n+1):
  Calls pG 49 #[Pp (sO ⟨sb,0,nO⟩),I Y n] w λe w'=>e=Rt (Bb (eT c n (L,D)).2.2)∧gg S0 w w' pb db (eT c n (L,D)).1 (eT c n (L,D)).2.1:=by
 have hpb:pb < w.heap.size:=hP.choose_spec.1.2.1
 have hdb:db < w.heap.size:=hDr.choose_spec.1.2.1
 have hsb:sb < w.heap.size:=hst.2.1
 have hCK:=C8 hC hsC (cb:=w.heap.size+1+1) (by omega)
 have h60:=(bM h0).2.2
 have hmx:61≤maxLen:=by decide
 have R3:RndAt (λb=>S0 b∧b < w.heap.size) w V F s c cap sb pb pc db dc n (L,D,false) (((w.alloc (Cc #[Pp (sO ⟨sb,0,nO⟩)] 103)).alloc (Cc #[I Y n] 3)).alloc (Cc #[Bb false] 4)):=by
  have B:Below w.heap.size w (((w.alloc (Cc #[Pp (sO ⟨sb,0,nO⟩)] 103)).alloc (Cc #[I Y n] 3)).alloc (Cc #[Bb false] 4)):=by go_grown
  refine⟨(Cells.new w _ [_]).call (by go_grown),?_,?_,hst.call B,(hP.mono λb h1 h2=>⟨h1,h2⟩).call B,hDr.call B,hX,hDl,KeptC.of B,λh1 h2 h3 h4=>h4.trans (B.mono h3)⟩
  ·have h:=Cells.new (w.alloc (Cc #[Pp (sO ⟨sb,0,nO⟩)] 103)) 3 [I Y n]
   rw[j2] at h
   exact h.call (by go_grown)
  ·have h:=Cells.new ((w.alloc (Cc #[Pp (sO ⟨sb,0,nO⟩)] 103)).alloc (Cc #[I Y n] 3)) 4 [Bb false]
   rw[j2,j2] at h
   exact h
 obtain⟨t1,et1⟩:∃t,t=eT c n (L,D):=⟨_,rfl⟩
 have HT1:=aa et1
 rw[←et1]
 clear et1
 refine callsIn_wide.1 (callsIn_of_wp_marks (n:=5) Tryz.func49 rfl trivial (wpIn_wide.2 ?_) rfl)
 simp only[Tryz.ntmps49,q6,q7,q8,q9,z0,Array.replicate_succ,Array.replicate_zero,z7,z8,z9,x4]
 go_upto_region 3 with fail
 generalize (((w.alloc (Cc #[Pp (sO ⟨sb,0,nO⟩)] 103)).alloc (Cc #[I Y n] 3)).alloc (Cc #[Bb false] 4))=w3 at *
 have HKZ:Hid (∀wx,Below w3.heap.size w3 wx→wx.cell? ⟨w.heap.size,0,nO⟩=sO (Pp (sO ⟨sb,0,nO⟩))∧(wx.cell? ⟨sb,0,nO⟩=sO (I Y V)∧wx.cell? ⟨sb,1,nO⟩=sO (I Y F)∧wx.cell? ⟨sb,2,nO⟩=sO (U s c.length cap)∧wx.cell? ⟨sb,3,nO⟩=sO (U (sO ⟨pb,0,nO⟩) L.length pc))):=λwx hb=>by
  have v:=R3.vs.call hb
  have p:=R3.st.call hb
  exact⟨v.1 0 _ rfl,p.1 0 _ rfl,p.1 1 _ rfl,p.1 2 _ rfl,p.1 3 _ rfl⟩
 have B34:Below w3.heap.size w3 w3.drew:=(bR _ _).drew
 have HR3:=aa R3
 have z3:=R3.vc.2.1
 clear R3
 refine GD ?_
 refine au (S:=(λwx=>wx.cell? ⟨w.heap.size,0,nO⟩=sO (Pp (sO ⟨sb,0,nO⟩))∧(wx.cell? ⟨sb,0,nO⟩=sO (I Y V)∧wx.cell? ⟨sb,1,nO⟩=sO (I Y F)∧wx.cell? ⟨sb,2,nO⟩=sO (U s c.length cap)∧wx.cell? ⟨sb,3,nO⟩=sO (U (sO ⟨pb,0,nO⟩) L.length pc)))) [] (by kernel_rfl) (HKZ.out _ B34) (λhHeld=> ?_)
 generalize w3.drew=w4 at *
 refine vZ 0 ?_ ?_
 refine vZ 1 ?_ ?_
 refine vZ 2 ?_ ?_
 refine vZ 3 ?_ ?_
 refine vZ 4 ?_ ?_
 refine vZ 5 ?_ ?_
 refine vZ 6 ?_ ?_
 refine vZ 7 ?_ ?_
 refine vZ 8 ?_ ?_
 refine an (i:=9) rfl (by kernel_rfl) (λK hK=> ?_)
 go_simp
 go_at_call 53
 refine(Bt V F s c cap _ L.length pc 99 #[Pp (sO ⟨w.heap.size,0,nO⟩),Pp (sO ⟨w.heap.size+1,0,nO⟩)] w4).mono ?_
 rintro e w6 ⟨rfl,⟨EP,EL,EF⟩,hb6⟩
 go_wp2_with fail
 refine hK.out _ _ (HKZ.out _ (B34.trans (hb6.mono B34.size))) (λhHeld=> ?_)
 clear hK K
 refine sm ?_
 refine aq (by kernel_rfl) ?_ _
 have hb36:=B34.trans (hb6.mono B34.size)
 have z4:=B34.size
 have z6:=EF.2.1
 have HR6:=aa (HR3.out.below hb36)
 have HOLD:=aa hst
 clear HR3 HKZ hHeld hb36 hb6 hst hP hDr
 go_wp2
 refine wpIn_wide.1 (Ci (n:=5) (gf:=103) (lb:=#[Pp (sO ⟨w4.heap.size,0,nO⟩),Pp (sO ⟨w4.heap.size+1+1,0,nO⟩),Pp (sO ⟨w4.heap.size+1,0,nO⟩)]) rfl (enters_of Tryz.func103 (by kernel_rfl) rfl) (λ_ _ _ W=>RndAt (λb=>S0 b∧b≠w.heap.size+1+1∧b≠w6.heap.size+1∧b≠w6.heap.size) w V F s c cap sb pb pc db dc n t1 W) (λ_ _ _ _ _=>False) ?hit ?hdone ?hstop)
 case hstop=>
  intro r c' W hl hf
  exact hf.elim
 case hdone=>
  rintro r W hl hR r'
  have hl2:=hl.round r'
  have hR2:=hR.round hl2 (by omega) (by omega) (by omega) (by omega) (λb hb=>hb.2.2.1)
  have hD:(W.putObj (w6.heap.size+1) r').heap[w6.heap.size]? =sO (.deferred (sO [])):=(j4 (by omega)).trans hl.dfr
  clear hR hl hl2 EP EL EF HR6 HOLD
  generalize W.putObj (w6.heap.size+1) r'=X at *
  have r0:=hR2.vc.1 0 _ rfl
  go_simp
  go_wp2
  refine y6 hD rfl ?_
  have hs:X.heap.size≤(X.putObj w6.heap.size (.deferred nO)).heap.size:=by simp[j7]
  have far:∀b,b≠w6.heap.size→(X.putObj w6.heap.size (.deferred nO)).heap[b]? =X.heap[b]? :=λb hb=>j4 hb
  refine⟨rfl,?_,hR2.dr.far (far db (by omega)) hs,λb h1 h2 hlt=>(far b (by omega)).trans (hR2.kp.2 b (by omega) hlt),lT hR2.kp.1 hs,λ{B} {a} h1 h2 h3 h4=>(hR2.lo h1 h2 h3 h4).trans (belowK_b (n₀:=B) (w:=w) h3 X w6.heap.size _ _ (by omega) hD rfl rfl)⟩
  exact(hR2.pr.far (far pb (by omega)) (λb hb _=>far b hb.2.2.2) hs).mono λb hb _=>hb.1
 case hit=>
  intro fn W1 hl hbW
  rw[HT1.out]
  refine Dr (S:=λb=>S0 b∧b≠w.heap.size+1+1∧b≠w6.heap.size+1∧b≠w6.heap.size) h0 hC hCK (by omega) hpb hdb hbW hl ((HR6.out.mono λb hb _=>⟨hb.1,by omega,by omega,by omega⟩).below hbW) EP EL EF ?_
  clear hl hbW HR6 EP EL EF W1 HOLD
  obtain⟨S,hSe⟩:∃S:Nat→Prop,S=λb=>S0 b∧b≠w.heap.size+1+1∧b≠w6.heap.size+1∧b≠w6.heap.size:=⟨_,rfl⟩
  have hS2:∀b,w6.heap.size+1 < b→S b:=λb hb=>by rw[hSe];exact⟨hS2 b (by omega),by omega,by omega,by omega⟩
  have hS:∀b,S b→b≠pb∧b≠db∧b≠w.heap.size+1+1∧b≠w6.heap.size+1:=λb hb=>by rw[hSe] at hb;exact⟨(hS0 b hb.1).1,(hS0 b hb.1).2,hb.2.1,hb.2.2.1⟩
  rw[←hSe]
  clear hSe
  have hpb:pb < w.heap.size:=hpb
  intro t W k e vs vc fs fc hR hl hok hp hv hf
  refine Fd hl rfl ?_
  gi_wp2
  have hba:Below W.heap.size W (W.alloc (Cc #[I Y e.tgt,Bb e.pic.none,U vs e.pic.vars.length vc,U fs e.pic.flds.length fc] 45)):=by go_grown
  have hbox:Cells (W.alloc (Cc #[I Y e.tgt,Bb e.pic.none,U vs e.pic.vars.length vc,U fs e.pic.flds.length fc] 45)) W.heap.size [I Y e.tgt,Bb e.pic.none,U vs e.pic.vars.length vc,U fs e.pic.flds.length fc]:=Cells.new W _ [_,_,_,_]
  have hlz:=(j3.1 hl.lp).1
  have Hl:=aa hl
  refine yD hl (by omega) hba ?_
  clear hl
  intro W2 hl2 hO
  have zO:=hO.size
  have za:=hba.size
  have zc:=hR.vc.2.1
  have R2:=(hR.below hba).round hO (by omega) (by omega) (by omega) (by omega) (λb hb=>(hS b hb).2.2.2)
  have BX2:=hbox.same (hO.far _ (by omega)) (by omega)
  have hp2:=(((hp.drop Hl.out.lp).call hba).same (λb hb _=>hO.far b hb.2) (by omega)).mono λb hb _=>hb.1
  have C2:=hCK _ _ (R2.kp.mono λb hb=>hb.imp id Or.inl) hC
  obtain⟨q,hq⟩:=j8 hok.2.1
  have hqL:q < t.1.length:=by have:=R2.xs.len;have:=hok.2.2;omega
  obtain⟨vy,vyc,fy,fyc,⟨q0,q1,q2⟩,hPy,hvy,hfy,hpz,-⟩:=R2.pr.cell hqL
  obtain⟨y,ey⟩:∃y,y=t.1[q]:=⟨_,rfl⟩
  have HEY:Hid (aU t.1 e.tgt=y):=by show _=_;rw[hq,ey];exact lm hqL
  have hcky:aK V F c y=0:=by rw[ey];exact R2.xs.ck _ (gM hqL)
  rw[←ey] at q0 q1 q2 hPy hvy hfy
  have HY0:=aa ey
  clear ey
  have hck2:aJ V F c [e.pic,y]=0:=by unfold aJ;rw[if_pos h0];unfold cy;rw[if_pos hok.1];unfold cy;rw[if_pos hcky];rfl
  have HWI:Hid (∀wx,Below W2.heap.size W2 wx→Calls pG 51 #[pv V F s c cap,xv e.pic vs vc fs fc,xv y vy vyc fy fyc] wx λe' w'=>e'=Rt (Bb (bw e.pic y))∧Below wx.heap.size wx w'):=λwx hb=>by
   have h:=uM V F s c cap e.pic vs vc fs fc y vy vyc fy fyc wx (C2.below hb (lR _)) (hp2.at.below hb (lR _)) hv hf (hPy.at.below hb (lR _)) hvy hfy
   rw[if_pos hck2] at h
   exact h
  rw[hq] at BX2
  have HKZ:Hid (∀wx,Below W2.heap.size W2 wx→wx.cell? ⟨w.heap.size,0,nO⟩=sO (Pp (sO ⟨sb,0,nO⟩))∧(wx.cell? ⟨sb,0,nO⟩=sO (I Y V)∧wx.cell? ⟨sb,1,nO⟩=sO (I Y F)∧wx.cell? ⟨sb,2,nO⟩=sO (U s c.length cap)∧wx.cell? ⟨sb,3,nO⟩=sO (U (sO ⟨pb,0,nO⟩) t.1.length pc))∧(wx.cell? ⟨W.heap.size,0,nO⟩=sO (I Y (q:Int))∧wx.cell? ⟨W.heap.size,1,nO⟩=sO (Bb e.pic.none)∧wx.cell? ⟨W.heap.size,2,nO⟩=sO (U vs e.pic.vars.length vc)∧wx.cell? ⟨W.heap.size,3,nO⟩=sO (U fs e.pic.flds.length fc))∧(wx.cell? ⟨pb,q * 3,nO⟩=sO (Bb y.none)∧wx.cell? ⟨pb,q * 3+1,nO⟩=sO (U vy y.vars.length vyc)∧wx.cell? ⟨pb,q * 3+2,nO⟩=sO (U fy y.flds.length fyc))):=λwx hb=>by
   have v:=R2.vs.call hb
   have p:=R2.st.call hb
   have g:=BX2.call hb
   exact⟨v.1 0 _ rfl,⟨p.1 0 _ rfl,p.1 1 _ rfl,p.1 2 _ rfl,p.1 3 _ rfl⟩,⟨g.1 0 _ rfl,g.1 1 _ rfl,g.1 2 _ rfl,g.1 3 _ rfl⟩,by rw[hb.cell hpz];exact q0,by rw[hb.cell hpz];exact q1,by rw[hb.cell hpz];exact q2⟩
  have B34:Below W2.heap.size W2 W2.drew:=(bR _ _).drew
  have m0:(0:Int)≤(q:Int):=by omega
  have m1:(q:Int) < (t.1.length:Int):=by omega
  have HIB:Hid (bw e.pic (aU t.1 e.tgt)=bw e.pic y):=by show _=_;rw[HEY.out]
  generalize bw e.pic y=ib at *
  refine wpIn_block (wpIn_seq (wpIn_seq (uh ?_)))
  refine G8 (S:=(λwx=>wx.cell? ⟨w.heap.size,0,nO⟩=sO (Pp (sO ⟨sb,0,nO⟩))∧(wx.cell? ⟨sb,0,nO⟩=sO (I Y V)∧wx.cell? ⟨sb,1,nO⟩=sO (I Y F)∧wx.cell? ⟨sb,2,nO⟩=sO (U s c.length cap)∧wx.cell? ⟨sb,3,nO⟩=sO (U (sO ⟨pb,0,nO⟩) t.1.length pc))∧(wx.cell? ⟨W.heap.size,0,nO⟩=sO (I Y (q:Int))∧wx.cell? ⟨W.heap.size,1,nO⟩=sO (Bb e.pic.none)∧wx.cell? ⟨W.heap.size,2,nO⟩=sO (U vs e.pic.vars.length vc)∧wx.cell? ⟨W.heap.size,3,nO⟩=sO (U fs e.pic.flds.length fc))∧(wx.cell? ⟨pb,q * 3,nO⟩=sO (Bb y.none)∧wx.cell? ⟨pb,q * 3+1,nO⟩=sO (U vy y.vars.length vyc)∧wx.cell? ⟨pb,q * 3+2,nO⟩=sO (U fy y.flds.length fyc)))) [] (by kernel_rfl) (by simp[tC]) IM (HKZ.out _ B34) (λhHeld=> ?_)
  generalize W2.drew=w4 at *
  refine vZ 0 ?_ ?_
  refine vZ 1 ?_ ?_
  refine vZ 2 ?_ ?_
  refine vZ 3 ?_ ?_
  refine vZ 4 ?_ ?_
  refine vZ 5 ?_ ?_
  refine vZ 6 ?_ ?_
  refine vZ 7 ?_ ?_
  refine vZ 8 ?_ ?_
  refine vZ 9 ?_ ?_
  refine vZ 10 ?_ ?_
  refine vZ 11 ?_ ?_
  refine vZ 12 ?_ ?_
  refine vZ 13 ?_ ?_
  refine an (i:=14) rfl (by kernel_rfl) (λK hK=> ?_)
  go_simp
  go_at_call 51
  refine(HWI.out w4 B34).mono ?_
  rintro e5 w5' ⟨rfl,hb5⟩
  go_wp2_with fail
  refine hK.out _ _ (HKZ.out _ (B34.trans (hb5.mono B34.size))) (λhHeld=> ?_)
  clear hK K
  refine sm ?_
  refine aq (by kernel_rfl) ?_ _
  have hb25:=B34.trans (hb5.mono B34.size)
  have R5:=R2.below hb25
  have hl5:=hl2.below hb25
  have BX5:=BX2.call hb25
  have hp5:=hp2.call hb25
  have C5:=C2.call hb25
  have hKE:=rr (Ch:=λb=>b=pb∨b=db∨b=w.heap.size+1+1) Hl.out hba hO (KeptC.of hb25)
  have HO:=aa hO
  have HBA:=aa hba
  have HB25:=aa hb25
  clear hO hba hb25 B34 hb5 hHeld HKZ HWI hPy hvy hfy q0 q1 q2 R2 BX2 hp2 C2 hbox hl2 hp hR
  rcases j9 ib with hib|hib
  ·subst hib
   have HE:Hid (cD n k t e=t):=by show _=_;unfold cD;rw[if_pos HIB.out]
   refine wpIn_cond_true rfl (wpIn_exit ?_)
   show _∧_
   refine⟨hl5,?_⟩
   exact⟨hl5.put (by omega) _,by rw[HE.out];exact R5.round (hl5.round _) (by omega) (by omega) (by omega) (by omega) (λb hb=>(hS b hb).2.2.2),hKE⟩
  ·subst hib
   refine wpIn_cond_false rfl (wpIn_skip ?_)
   refine Fl (λK hK=> ?_)
   have r0:=R5.vc.1 0 _ rfl
   have r1:=R5.vc.2.2 0
   gi_wp2
   refine hK.out _ _ ?_
   clear hK K r0 r1
   have hpz5:=R5.vc.2.1
   obtain⟨wq,ewq⟩:∃q',q'=cu w5' (w.heap.size+1+1) 0 [Bb true]:=⟨_,rfl⟩
   have ewq0:=aa ewq
   have PQ:=gP R5.vc 0 _ ewq
   simp only[cu] at ewq
   rw[←ewq]
   clear ewq
   have STq:=PQ.keep R5.st (by omega)
   have PRq:=R5.pr.far (PQ.far pb (by omega)) (λb hb _=>PQ.far b (hS b hb).2.2.1) PQ.size
   have DRq:=R5.dr.far (PQ.far db (by omega)) PQ.size
   have Bq:KeptC (λb=>b=w.heap.size+1+1) w5' wq:=⟨PQ.size,λb hb _=>PQ.far b hb⟩
   have Cq:CodeAt wq s c:=hCK _ _ (Bq.mono λb hb=>.inr (.inr hb)) C5
   have VSq:=PQ.keep R5.vs (by omega)
   have VNq:=PQ.keep R5.vn (by omega)
   have BXq:=PQ.keep BX5 (by omega)
   have hpq:PicAt wq e.pic vs fs:=(hp5.same (λb hb _=>PQ.far b λe=>hb.1 (.inr (.inr e))) PQ.size).at
   have hlz5:=(j3.1 hl5.lp).1
   have hDz5:=(j3.1 hl5.dfr).1
   have zq:=PQ.size
   have z5:=HB25.out.size
   have v0:=VSq.1 0 _ rfl
   have v1:=VNq.1 0 _ rfl
   have x0:=BXq.1 0 _ rfl
   have x1:=BXq.1 1 _ rfl
   have x2:=BXq.1 2 _ rfl
   have x3:=BXq.1 3 _ rfl
   by_cases hkq:(k:Int) < (q:Int)
   ·have HED:Hid (cD n k t e=(t.1.set q (aT (ae false) y e.pic),t.2.1.set q (n),true)):=by
     show _=_
     unfold cD ig
     rw[HIB.out,if_neg (by decide),HEY.out,hq]
     rw[if_pos (by omega),show decide ((q:Int)≤(k:Int))=false by simpa using hkq,Bool.and_false];rfl
    have HCL:=aa (E8 (S:=S) V F s c cap sb pb pc db dc q n t.1 t.2.1 e.pic vs vc fs fc (aT (ae false) y e.pic) wq STq PRq DRq hpd hsp.1 (λb hb=>⟨(hS b hb).1,(hS b hb).2.1⟩) (λb hb=>hS2 b (by omega)) hqL (by have:=R5.ln;have:=R5.xs.len;omega) (by have:=R5.ln;omega) (λwx vx vxc fx fxc hb k1 k2 k3=>by
     have hx:=HY0.out
     rw[←hx] at k1 k2 k3 ⊢
     exact yg h0 hcky hok.1 (Cq.below hb (lR _)) k1 k2 k3 (hpq.below hb (lR _)) hv hf))
    have g1:(k:Int) < (q:Int):=by omega
    exact mq
   ·by_cases hn4:n < 4
    ·have HED:Hid (cD n k t e=(t.1.set q (aT (ae false) y e.pic),t.2.1.set q (n+1),true)):=by
      show _=_
      unfold cD ig
      rw[HIB.out,if_neg (by decide),HEY.out,hq]
      rw[if_neg (by omega),show decide ((4:Int)≤n)=false by simpa using hn4,Bool.false_and];rfl
     have HCL:=aa (yG (S:=S) V F s c cap sb pb pc db dc q n t.1 t.2.1 e.pic vs vc fs fc (aT (ae false) y e.pic) wq STq PRq DRq hpd hsp.1 (λb hb=>⟨(hS b hb).1,(hS b hb).2.1⟩) (λb hb=>hS2 b (by omega)) hqL (by have:=R5.ln;have:=R5.xs.len;omega) (by have:=R5.ln;omega) hn4 hnw (λwx vx vxc fx fxc hb k1 k2 k3=>by
      have hx:=HY0.out
      rw[←hx] at k1 k2 k3 ⊢
      exact yg h0 hcky hok.1 (Cq.below hb (lR _)) k1 k2 k3 (hpq.below hb (lR _)) hv hf))
     have g1:¬(k:Int) < (q:Int):=by omega
     exact mq
    ·have HED:Hid (cD n k t e=(t.1.set q (aT (ae true) y e.pic),t.2.1.set q (n+1),true)):=by
      show _=_
      unfold cD ig
      rw[HIB.out,if_neg (by decide),HEY.out,hq]
      rw[if_neg (by omega),show decide ((4:Int)≤n)=true by simp;omega,show decide ((q:Int)≤(k:Int))=true by simp;omega,Bool.true_and];rfl
     have HCL:=aa (Ab (S:=S) V F s c cap sb pb pc db dc q n t.1 t.2.1 e.pic vs vc fs fc (aT (ae true) y e.pic) wq STq PRq DRq hpd hsp.1 (λb hb=>⟨(hS b hb).1,(hS b hb).2.1⟩) (λb hb=>hS2 b (by omega)) hqL (by have:=R5.ln;have:=R5.xs.len;omega) (by have:=R5.ln;omega) hn4 hnw (λwx vx vxc fx fxc hb k1 k2 k3=>by
      have hx:=HY0.out
      rw[←hx] at k1 k2 k3 ⊢
      exact FW h0 hcky hok.1 (Cq.below hb (lR _)) k1 k2 k3 (hpq.below hb (lR _)) hv hf))
     have g1:¬(k:Int) < (q:Int):=by omega
     exact mq
end
section
open Go.RowKit
attribute [local go_sem ↓] Go.wp_at_zero Go.wp_at_succ
def DR (V F:Int)(c:List Ins)(e:Ending)(w':World):Prop:=(ai V F c≠0∧e=Rt (Tu #[U nO 0 0,I Y 0,I Y (ai V F c)]))∨(ai V F c=0∧∃(m pb pc:Nat),SolvedAt V F c m∧m≤200000000000000∧e=Rt (Tu #[U (sO ⟨pb,0,nO⟩) (c.length+1) pc,I Y ((m+1:Nat):Int),I Y 0])∧XsAt w' (sO ⟨pb,0,nO⟩) (aD V F c m))
structure SolAt (w:World) (V F:Int) (s:Option Addr) (c:List Ins) (cap sb pb pc db dc m:Nat) (W:World):Prop where
 st:Cells W sb [I Y V,I Y F,U s c.length cap,U (sO ⟨pb,0,nO⟩) (c.length+1) pc,U (sO ⟨db,0,nO⟩) (c.length+1) dc]
 pr:PRow (λb=>b≠pb∧b≠db) W pb (aD V F c m)
 dr:∃D,DRow W db D∧Due V F c ((m+1:Nat):Int) 0 (aD V F c m) D
 all:∀k,k < m→(dS c ((k+1:Nat):Int) (aD V F c k)).2=true
 lo:Below w.heap.size w W
theorem SolAt.next {w W W':World}{V F:Int}{s:Option Addr}{c:List Ins}{cap sb pb pc db dc m:Nat}{D:List Int}(h0:ai V F c=0)(h:SolAt w V F s c cap sb pb pc db dc m W)(hD:Due V F c ((m+1:Nat):Int) 0 (aD V F c m) D)(hs:gg (λb=>b≠pb∧b≠db) W W' pb db (eT c ((m+1:Nat):Int) (aD V F c m,D)).1 (eT c ((m+1:Nat):Int) (aD V F c m,D)).2.1)(hsp:sb≠pb∧sb≠db)(hn:w.heap.size≤pb∧w.heap.size≤db):
  Cells W' sb [I Y V,I Y F,U s c.length cap,U (sO ⟨pb,0,nO⟩) (c.length+1) pc,U (sO ⟨db,0,nO⟩) (c.length+1) dc]∧Below w.heap.size w W'∧PRow (λb=>b≠pb∧b≠db) W' pb (aD V F c (m+1))∧((dS c ((m+1:Nat):Int) (aD V F c m)).2=true→SolAt w V F s c cap sb pb pc db dc (m+1) W'):=by
 obtain⟨s1,s2,s3,s4,s5⟩:=hs
 obtain⟨d1,d2,d3⟩:=pj h0 hD
 rw[d2] at s1
 have c1:=h.st.same (s3 sb hsp.1 hsp.2 h.st.2.1) s4
 have l1:=s5 hn.1 hn.2 h.lo.size h.lo
 refine⟨c1,l1,s1,λht=>⟨c1,s1,⟨_,s2,?_⟩,λk hk=> ?_,l1⟩⟩
 ·rw[d2] at d1
  exact d1
 ·by_cases e:k=m
  ·rw[e];exact ht
  ·exact h.all k (by omega)
theorem Bf (V F:Int)(s:Option Addr)(c:List Ins)(cap:Nat)(w:World)(hc:CodeAt w s c):
  Calls pG 17 #[pv V F s c cap] w λe w'=>DR V F c e w'∧Below w.heap.size w w':=by
 have B0:Below w.heap.size w (w.alloc (Cc #[I Y V,I Y F,U s c.length cap] 24)):=by go_grown
 have P0:Cells (w.alloc (Cc #[I Y V,I Y F,U s c.length cap] 24)) w.heap.size [I Y V,I Y F,U s c.length cap]:=Cells.new w _ [_,_,_]
 have C0:=hc.call B0
 have HC:=aa hc
 clear hc
 go_enter Tryz.func17,Tryz.ntmps17
 go_upto_region 1 with fail
 generalize w.alloc (Cc #[I Y V,I Y F,U s c.length cap] 24)=w0 at *
 have p0:=P0.1 0 _ rfl
 have p1:=P0.1 1 _ rfl
 have p2:=P0.1 2 _ rfl
 have HBG:=aa (Hq V F s c cap w0 C0)
 go_wp2_with (go_at_call 38;fail)
 refine HBG.out.mono ?_
 rintro e w1 ⟨⟨bs,bc,bf,be,rfl,PB,hbv,hbf⟩,hb1⟩
 clear HBG p0 p1 p2
 have B1:=B0.trans (hb1.mono B0.size)
 have P1:=P0.call hb1
 have C1:=C0.call hb1
 clear P0 C0 B0 hb1
 by_cases h0:ai V F c=0
 rotate_left
 ·have HE:Hid (∀w',DR V F c (Rt (Tu #[U nO 0 0,I Y 0,I Y (ai V F c)])) w'):=λw'=>.inl ⟨h0,rfl⟩
  generalize (if ai V F c=0 then cH V F c else dH)=bg at *
  generalize ai V F c=r at *
  have f1:(r !=0)=true:=by simpa using h0
  clear h0
  go_upto_region 3 with fail
  have hba:Below w1.heap.size w1 (w1.alloc (Cc #[Bb bg.none,U bs bg.vars.length bc,U bf bg.flds.length be] 28)):=by go_grown
  have B2:=B1.trans (hba.mono B1.size)
  clear P1 C1 B1 PB hba
  generalize w1.alloc (Cc #[Bb bg.none,U bs bg.vars.length bc,U bf bg.flds.length be] 28)=w2 at *
  go_wp2
  refine bodyPost_ret (v:=Tu #[U nO 0 0,I Y 0,I Y r]) (by simp[results,Tryz.results17,go_sem]) rfl ?_
  exact⟨HE.out _,B2⟩
 obtain⟨⟨hV1,hV8⟩,⟨hF0,hF3⟩,h60⟩:=bM h0
 rw[if_pos h0] at PB hbv hbf
 have HZ:Hid (ai V F c=0):=h0
 rw[h0,if_pos rfl]
 obtain⟨bg,ebg⟩:∃b,b=cH V F c:=⟨_,rfl⟩
 have HBG:=aa ebg
 rw[←ebg] at PB hbv hbf ⊢
 clear ebg h0
 have hba:Below w1.heap.size w1 (w1.alloc (Cc #[Bb bg.none,U bs bg.vars.length bc,U bf bg.flds.length be] 28)):=by go_grown
 have G2:Cells (w1.alloc (Cc #[Bb bg.none,U bs bg.vars.length bc,U bf bg.flds.length be] 28)) w1.heap.size [Bb bg.none,U bs bg.vars.length bc,U bf bg.flds.length be]:=Cells.new w1 _ [_,_,_]
 have PB2:=PB.at.call hba
 have P2:=P1.call hba
 have C2:=C1.call hba
 have B2:=B1.trans (hba.mono B1.size)
 clear P1 C1 B1 PB hba
 go_upto_region 4 with fail
 generalize w1.alloc (Cc #[Bb bg.none,U bs bg.vars.length bc,U bf bg.flds.length be] 28)=w2 at *
 have p0:=P2.1 0 _ rfl
 have p1:=P2.1 1 _ rfl
 have p2:=P2.1 2 _ rfl
 have g0:=G2.1 0 _ rfl
 have g1:=G2.1 1 _ rfl
 have g2:=G2.1 2 _ rfl
 have HNS:=aa (FF V F s c cap bg bs bc bf be w2 PB2 hbv hbf h60)
 go_wp2_with (go_at_call 48;fail)
 refine HNS.out.mono ?_
 rintro e w3 ⟨pb,pc,db,dc,rfl,ST3,PR3,DR3,hpn,hne,hb3⟩
 clear HNS p0 p1 p2 g0 g1 g2
 have z2:=B2.size
 have B3:=B2.trans (hb3.mono B2.size)
 obtain⟨sb,esb⟩:∃sb,sb=w2.heap.size+1+1+1+1:=⟨_,rfl⟩
 rw[←esb] at ST3 hne ⊢
 have hsb:w.heap.size≤sb:=by omega
 clear esb
 have HN:Hid (w.heap.size≤pb∧w.heap.size≤db):=⟨by omega,by omega⟩
 have HNE:Hid (pb≠db∧sb≠pb∧sb≠db):=⟨hne.1,Ne.symm hne.2.1,Ne.symm hne.2.2⟩
 have HSC:Hid (c≠[]→∀a,s=sO a→a.block≠pb∧a.block≠db):=λhcn a ha=>by
  rcases HC.out with h|⟨b,off,e,hb,-⟩
  ·exact absurd h hcn
  ·rw[e] at ha;cases ha
   have:=HN.out
   exact⟨by simp only;omega,by simp only;omega⟩
 have S3:SolAt w V F s c cap sb pb pc db dc 0 w3:=by
  refine⟨ST3,?_,⟨_,DR3,?_⟩,λk hk=>absurd hk (by omega),B3⟩
  ·have e:aD V F c 0=bg::List.replicate c.length nonePic:=by rw[HBG.out];rfl
   rw[e]
   exact PR3.mono λb hb _=>⟨by have:=hpn.1;omega,by have:=hpn.2;omega⟩
  ·exact Ck HZ.out
 clear ST3 PR3 DR3 hb3 B3 G2 PB2 P2 C2 B2 hbv hbf HBG hpn hne
 go_wp2
 obtain⟨M,hM⟩:∃M:Nat,M=200000000000003:=⟨_,rfl⟩
 have HM:=aa hM
 clear hM
 have HMB:Hid (∀m:Nat,m≤200000000000000→m+2 < M):=λm h=>by rw[HM.out];exact Nat.lt_of_le_of_lt (x6 h 2) (by decide)
 clear HM
 go_loopw [8] (λi wr=>∃m:Nat,i=I Y ((m+1:Nat):Int)∧Hid (SolAt w V F s c cap sb pb pc db dc m wr)) (λi _=>M - (intOf i).toNat)
 case atStart=>exact⟨0,rfl,S3⟩
 case round=>
  clear S3
  obtain⟨m,rfl,HS⟩:=hrel
  obtain⟨D,hDR,hDue⟩:=HS.out.dr
  have hfew:=sX HZ.out HS.out.all
  have hnw:IntKind.i64.wrap (((m+1:Nat):Int)+1)=((m+1:Nat):Int)+1:=by rw[IntKind.wrap_i64];omega
  have hxs:=dV HZ.out m
  have HRD:Hid (Calls pG 49 #[Pp (sO ⟨sb,0,nO⟩),I Y ((m+1:Nat):Int)] wr λe w'=>e=Rt (Bb (eT c ((m+1:Nat):Int) (aD V F c m,D)).2.2)∧gg (λb=>b≠pb∧b≠db) wr w' pb db (eT c ((m+1:Nat):Int) (aD V F c m,D)).1 (eT c ((m+1:Nat):Int) (aD V F c m,D)).2.1):=by
   have hC:CodeAt wr s c:=HC.out.below HS.out.lo (lR _)
   have hpz:pb < wr.heap.size:=HS.out.pr.choose_spec.1.2.1
   have hdz:db < wr.heap.size:=hDR.choose_spec.1.2.1
   have hst:Cells wr sb [I Y V,I Y F,U s c.length cap,U (sO ⟨pb,0,nO⟩) (aD V F c m).length pc,U (sO ⟨db,0,nO⟩) D.length dc]:=by rw[hxs.len,hDue.len];exact HS.out.st
   exact Br V F s c cap sb pb pc db dc ((m+1:Nat):Int) (aD V F c m) D wr HZ.out hst HS.out.pr hDR hC HNE.out.1 HNE.out.2 (λb hb=>hb) (λb hb=>⟨by omega,by omega⟩) HSC.out hxs hDue.len hnw
  have HDD:=aa (pj HZ.out hDue)
  have HMM:Hid (m≤200000000000000):=by show _≤_;omega
  have HMX:=aa (HMB.out m HMM.out)
  have hmb:(m:Int)≤200000000000000:=by have:=HMM.out;omega
  go_wp2_with (go_at_call 49;fail)
  refine HRD.out.mono ?_
  rintro e w5 ⟨rfl,SS⟩
  obtain⟨N1,N2,N3,N4⟩:=HS.out.next HZ.out hDue SS HNE.out.2 HN.out
  rw[HDD.out.2.2]
  clear HRD SS hDue hDR hfew hxs
  rcases j9 (dS c ((m+1:Nat):Int) (aD V F c m)).2 with ht|ht
  ·have HNX:=aa (N4 ht)
   rw[ht]
   clear ht N1 N2 N3 N4
   go_wp2
   go_roundw
   case rel=>exact⟨m+1,by go_num,HNX.out⟩
   case measure=>have:=HMX.out;simp[intOf];omega
  ·have HSV:Hid (SolvedAt V F c m):=⟨HS.out.all,ht⟩
   rw[ht]
   clear ht N4
   have q3:=N1.1 3 _ rfl
   have HPR:Hid (XsAt w5 (sO ⟨pb,0,nO⟩) (aD V F c m)):=by
    show XsAt _ _ _
    rw[←(o9 HZ.out HSV.out).1]
    exact N3.xs
   clear N3 N1 HS
   go_wp2
   refine bodyPost_ret (v:=Tu #[U (sO ⟨pb,0,nO⟩) (c.length+1) pc,I Y ((m+1:Nat):Int),I Y 0]) (by simp[results,Tryz.results17,go_sem]) rfl ?_
   exact⟨.inr ⟨HZ.out,m,pb,pc,HSV.out,HMM.out,rfl,HPR.out⟩,N2⟩
def wO (V F:Int)(c:List Ins)(B:Nat)(e:Ending)(w':World):Prop:=(ai V F c≠0∧e=Rt (Tu #[U nO 0 0,I Y (ai V F c)]))∨(ai V F c=0∧∃(m:Nat) (a:Option Addr) (ac:Nat),SolvedAt V F c m∧e=Rt (Tu #[U a (aG c (aD V F c m) c.length).length ac,I Y 0])∧w'.ownsRow B 62 2 (U a (aG c (aD V F c m) c.length).length ac) (aG c (aD V F c m) c.length).length (alC (aG c (aD V F c m) c.length)))
theorem iJ (V F:Int)(s:Option Addr)(c:List Ins)(cap:Nat)(w:World)(hc:CodeAt w s c):
  Calls pG 20 #[pv V F s c cap] w λe w'=>wO V F c w.heap.size e w'∧Below w.heap.size w w':=by
 have B0:Below w.heap.size w (w.alloc (Cc #[I Y V,I Y F,U s c.length cap] 24)):=by go_grown
 have P0:Cells (w.alloc (Cc #[I Y V,I Y F,U s c.length cap] 24)) w.heap.size [I Y V,I Y F,U s c.length cap]:=Cells.new w _ [_,_,_]
 go_enter Tryz.func20,Tryz.ntmps20
 go_upto_region 1 with fail
 generalize w.alloc (Cc #[I Y V,I Y F,U s c.length cap] 24)=w0 at *
 have p0:=P0.1 0 _ rfl
 have p1:=P0.1 1 _ rfl
 have p2:=P0.1 2 _ rfl
 have HSO:=aa (Bf V F s c cap w0 (hc.call B0))
 go_wp2_with (go_at_call 17;fail)
 refine HSO.out.mono ?_
 rintro e w4 ⟨hans,hb4⟩
 clear HSO p0 p1 p2
 have B4:=B0.trans (hb4.mono B0.size)
 have P4:=P0.call hb4
 clear P0 B0 hb4
 rcases hans with⟨h0,rfl⟩|⟨h0,m,pb,pc,hsv,-,rfl,hX⟩
 ·have HE:Hid (∀w',wO V F c w.heap.size (Rt (Tu #[U nO 0 0,I Y (ai V F c)])) w'):=λw'=>.inl ⟨h0,rfl⟩
  generalize ai V F c=r at *
  have f1:(r !=0)=true:=by simpa using h0
  clear h0 P4
  go_wp2
  refine bodyPost_ret (v:=Tu #[U nO 0 0,I Y r]) (by simp[results,Tryz.results20,go_sem]) rfl ?_
  exact⟨HE.out _,B4⟩
 have h60:=(bM h0).2.2
 have HXO:=aa (dV h0 m)
 have H0:=aa h0
 have HANS:Hid (∀(a:Option Addr) (ac:Nat) (w':World),w'.ownsRow w.heap.size 62 2 (U a (aG c (aD V F c m) c.length).length ac) (aG c (aD V F c m) c.length).length (alC (aG c (aD V F c m) c.length))→wO V F c w.heap.size (Rt (Tu #[U a (aG c (aD V F c m) c.length).length ac,I Y 0])) w'):=λa ac w' h=>.inr ⟨h0,m,a,ac,hsv,rfl,h⟩
 generalize aD V F c m=L at *
 have HX:=aa hX
 have HC:=aa (hc.below B4 (lR _))
 clear h0 hX hc hsv
 have zn:=P4.2.1
 have A0:AlmAt (w4.alloc (Cc #[U nO 0 0] 55)) w4.heap.size w4.heap.size (aG c L 0):=⟨_,Cells.new w4 _ [_],World.ownsRow_nil _ _ _ _,by simp[Value.ownBlock]⟩
 have hb0:Below w4.heap.size w4 (w4.alloc (Cc #[U nO 0 0] 55)):=by go_grown
 have p2:=(P4.call hb0).1 2 _ rfl
 go_upto_region 5 with fail
 generalize w4.alloc (Cc #[U nO 0 0] 55)=w5 at *
 go_wp2
 clear p2
 go_loopw [26] (λi wr=>∃k:Nat,k≤c.length∧i=I Y k∧AlmAt wr w4.heap.size w4.heap.size (aG c L k)∧Below w4.heap.size w4 wr) (λi _=>c.length - (intOf i).toNat)
 case atStart=>exact⟨0,j6 _,rfl,A0,hb0⟩
 case round=>
  clear A0 hb0
  obtain⟨k,hk,rfl,AR,BR⟩:=hrel
  by_cases hlt:k < c.length
  rotate_left
  ·have n1:¬(k:Int) < (c.length:Int):=by omega
   have ek:k=c.length:=by omega
   obtain⟨v,hV,hO,-⟩:=AR
   have hform:∃a cp,v=U a (aG c L k).length cp:=by
    rcases hO.2 with⟨h,h2⟩|⟨g,cp,_,h,_⟩
    ·exact⟨nO,0,by rw[h,h2]⟩
    ·exact⟨_,_,h⟩
   obtain⟨va,vcp,ev⟩:=hform
   subst ev
   rw[ek] at hV hO
   have v0:=hV.1 0 _ rfl
   have HO:=aa (cC hO (B':=w.heap.size) (by have:=B4.size;omega))
   clear hO hV ek
   go_wp2
   refine bodyPost_ret (v:=Tu #[U va (aG c L c.length).length vcp,I Y 0]) (by simp[results,Tryz.results20,go_sem]) rfl ?_
   exact⟨HANS.out _ _ _ HO.out,B4.trans (BR.mono B4.size)⟩
  have n0:(0:Int)≤(k:Int):=by omega
  have n1:(k:Int) < (c.length:Int):=by omega
  have n2:(k:Int) < (c.length:Int)+1:=by omega
  have hba:Below wr.heap.size wr (wr.alloc (Cc #[I Y (k:Int)] 3)):=by go_grown
  have AT:=AR.new.call hba
  have TT:Cells (wr.alloc (Cc #[I Y (k:Int)] 3)) wr.heap.size [I Y (k:Int)]:=Cells.new wr _ [_]
  have BT:=BR.trans (hba.mono BR.size)
  have zr:=BR.size
  have zA:w4.heap.size < wr.heap.size:=AR.choose_spec.1.2.1
  clear AR BR
  go_upto_region 9 with fail
  generalize wr.alloc (Cc #[I Y (k:Int)] 3)=wt at *
  obtain⟨tb,etb⟩:∃tb,tb=wr.heap.size:=⟨_,rfl⟩
  rw[←etb] at AT TT zA ⊢
  have hne:w4.heap.size≠tb:=by omega
  have hxl:k < L.length:=by rw[HXO.out.len];omega
  obtain⟨rb',ro',els,zpb,vx,vxc,fx,fxc,⟨q0,q1,q2⟩,hPx,hvx,hfx⟩:=HX.out k hxl
  cases els
  simp only[Nat.zero_add] at q0 q1 q2
  obtain⟨x,ex⟩:∃x,x=L[k]:=⟨_,rfl⟩
  have hckx:aK V F c x=0:=by rw[ex];exact HXO.out.ck _ (gM hxl)
  have HEX:Hid (aU L (k:Int)=x):=by show _=_;rw[lm hxl,ex]
  rw[←ex] at q0 q1 q2 hPx hvx hfx
  clear ex etb
  have HSF:Hid (∀wx,Below wt.heap.size wt wx→Calls pG 15 #[pv V F s c cap,I Y (k:Int),xv x vx vxc fx fxc] wx λe w'=>(∃es ec,e=Rt (Tu #[U es (cS c k x).length ec,Bb (aA (aO c k) k x).2.1,Bb (aA (aO c k) k x).2.2,I Y 0]))∧Below wx.heap.size wx w'):=λwx hb=>by
   have hu:aJ V F c [x]=0:=by unfold aJ;rw[if_pos H0.out];unfold cy;rw[if_pos hckx];rfl
   have e0:gI V F c (k:Int) x=0:=by unfold gI;rw[if_pos hu,if_neg (by omega)]
   have e1:io V F c (k:Int) x=aA (aO c k) k x:=by unfold io;rw[if_pos e0]
   have b:=BT.trans (hb.mono BT.size)
   have h:=tT V F s c cap (k:Int) x vx vxc fx fxc wx (HC.out.below b (lR _)) (hPx.below b (lR _)) hvx hfx
   rw[e0,e1] at h
   refine h.mono ?_
   rintro e w' ⟨⟨es,ec,rfl,-⟩,hb'⟩
   exact⟨⟨es,ec,rfl⟩,hb'⟩
  have HKZ:Hid (∀wx,Below wt.heap.size wt wx→(wx.cell? ⟨w.heap.size,0,nO⟩=sO (I Y V)∧wx.cell? ⟨w.heap.size,1,nO⟩=sO (I Y F)∧wx.cell? ⟨w.heap.size,2,nO⟩=sO (U s c.length cap))∧wx.cell? ⟨tb,0,nO⟩=sO (I Y (k:Int))∧(wx.cell? ⟨pb,k * 3,nO⟩=sO (Bb x.none)∧wx.cell? ⟨pb,k * 3+1,nO⟩=sO (U vx x.vars.length vxc)∧wx.cell? ⟨pb,k * 3+2,nO⟩=sO (U fx x.flds.length fxc))):=λwx hb=>by
   have b:=BT.trans (hb.mono BT.size)
   have p:=P4.call b
   exact⟨⟨p.1 0 _ rfl,p.1 1 _ rfl,p.1 2 _ rfl⟩,(TT.call hb).1 0 _ rfl,by rw[b.cell (by simp only;exact zpb)];exact q0,by rw[b.cell (by simp only;exact zpb)];exact q1,by rw[b.cell (by simp only;exact zpb)];exact q2⟩
  have BD:Below wt.heap.size wt wt.drew:=(bR _ _).drew
  have HNX:Hid (aG c L (k+1)=dP (dP (dP (aG c L k) k 1 (aA (aO c k) k x).2.1) k 2 (aA (aO c k) k x).2.2) k 3 x.none):=by show _=_;rw[gL];unfold kO;rw[HEX.out]
  have HLEN:Hid ((aG c L k).length+2≤500∧∀(A:List (Int×Int)) (a d:Int) (b:Bool),(dP A a d b).length≤A.length+1):=⟨by have:=fV (c:=c) (L:=L) (k:=k);omega,λ_ _ _ _=>kB⟩
  generalize (aA (aO c k) k x).2.1=sw at *
  generalize (aA (aO c k) k x).2.2=sf at *
  generalize (cS c k x).length=el at *
  have m1:(k:Int) < (L.length:Int):=by omega
  refine au (S:=(λwx=>(wx.cell? ⟨w.heap.size,0,nO⟩=sO (I Y V)∧wx.cell? ⟨w.heap.size,1,nO⟩=sO (I Y F)∧wx.cell? ⟨w.heap.size,2,nO⟩=sO (U s c.length cap))∧wx.cell? ⟨tb,0,nO⟩=sO (I Y (k:Int))∧(wx.cell? ⟨pb,k * 3,nO⟩=sO (Bb x.none)∧wx.cell? ⟨pb,k * 3+1,nO⟩=sO (U vx x.vars.length vxc)∧wx.cell? ⟨pb,k * 3+2,nO⟩=sO (U fx x.flds.length fxc)))) [] (by kernel_rfl) (HKZ.out _ BD) (λhHeld=> ?_)
  generalize wt.drew=wd at *
  refine vZ 0 ?_ ?_
  refine vZ 1 ?_ ?_
  refine vZ 2 ?_ ?_
  refine vZ 3 ?_ ?_
  refine vZ 4 ?_ ?_
  refine vZ 5 ?_ ?_
  refine an (i:=6) rfl (by kernel_rfl) (λK hK=> ?_)
  go_simp
  go_at_call 15
  refine(HSF.out wd BD).mono ?_
  rintro e w6 ⟨⟨es,ec,rfl⟩,hb6⟩
  go_wp2_with fail
  refine hK.out _ _ (HKZ.out _ (BD.trans (hb6.mono BD.size))) (λhHeld=> ?_)
  clear hK K
  refine sm ?_
  refine vZ 7 ?_ ?_
  refine vZ 8 ?_ ?_
  refine vZ 9 ?_ ?_
  refine vZ 10 ?_ ?_
  refine vZ 11 ?_ ?_
  refine vZ 12 ?_ ?_
  refine vZ 13 ?_ ?_
  refine vZ 14 ?_ ?_
  refine vZ 15 ?_ ?_
  refine aq (by kernel_rfl) ?_ _
  have b6:=BD.trans (hb6.mono BD.size)
  have A6:=AT.call b6
  have T6:=TT.call b6
  have B6:=BT.trans (b6.mono BT.size)
  clear AT TT BD hb6 b6 HKZ HSF hHeld
  go_wp2_with (go_at_call 54;fail)
  refine(nZ 1 (k:Int) sw w4.heap.size tb _ w6 A6 hne T6 (by have:=HLEN.out.1;omega)).mono ?_
  rintro e w7 ⟨⟨ve7,rfl⟩,A7,hb7,T7⟩
  have B7:=B6.trans hb7
  clear A6 T6 B6 hb7
  go_wp2_with (go_at_call 54;fail)
  refine(nZ 2 (k:Int) sf w4.heap.size tb _ w7 A7 hne T7 (lT (HLEN.out.2 _ _ _ _) (by have:=HLEN.out.1;omega))).mono ?_
  rintro e w8 ⟨⟨ve8,rfl⟩,A8,hb8,T8⟩
  have B8:=B7.trans hb8
  clear A7 T7 B7 hb8
  have x0:w8.cell? ⟨pb,k * 3,nO⟩=sO (Bb x.none):=by rw[B8.cell (by simp only;exact zpb)];exact q0
  have t0:=T8.1 0 _ rfl
  go_wp2_with (go_at_call 54;fail)
  refine(nZ 3 (k:Int) x.none w4.heap.size tb _ w8 A8 hne T8 (lT (HLEN.out.2 _ _ _ _) (lT (x6 (HLEN.out.2 _ _ _ _) 1) (by have:=HLEN.out.1;omega)))).mono ?_
  rintro e w9 ⟨⟨ve9,rfl⟩,A9,hb9,T9⟩
  have B9:=B8.trans hb9
  clear A8 T8 B8 hb9
  clear x0 t0
  have HA9:Hid (AlmAt w9 w4.heap.size w4.heap.size (aG c L (k+1))):=by
   rw[HNX.out]
   obtain⟨v,a1,a2,-⟩:=A9
   exact⟨v,a1,a2,λe=>by have:=(a2.lt _ e).1;omega⟩
  clear A9
  go_wp2
  go_roundw
  case rel=>exact⟨k+1,by omega,by go_num,HA9.out,B9⟩
  case measure=>simp[intOf];omega
def AlsAt (W:World)(a:Option Addr)(A:List (Int×Int)):Prop:=∀k (h:k < A.length),∃b,a=sO ⟨b,0,nO⟩∧b < W.heap.size∧W.cell? ⟨b,k * 2,nO⟩=sO (I Y A[k].1)∧W.cell? ⟨b,k * 2+1,nO⟩=sO (I Y A[k].2)
theorem AlsAt.below {W W':World}{a:Option Addr}{A:List (Int×Int)}(h:AlsAt W a A)(hb:Below W.heap.size W W'):AlsAt W' a A:=λk hk=>by
 obtain⟨b,e,hz,h0,h1⟩:=h k hk
 exact⟨b,e,lL hz hb.size,by rw[hb.cell (by simp only;exact hz)];exact h0,by rw[hb.cell (by simp only;exact hz)];exact h1⟩
theorem tO:∀{A:List (Int×Int)} {k:Nat} (h:k < A.length),(alC A)[k * 2]? =sO (I Y A[k].1)∧(alC A)[k * 2+1]? =sO (I Y A[k].2)
 |[],_,h=>absurd h (by simp)
 |a::A,0,_=>⟨rfl,rfl⟩
 |a::A,k+1,h=>by
  have ih:=tO (A:=A) (k:=k) (by simpa using h)
  have e:alC (a::A)=I Y a.1::I Y a.2::alC A:=rfl
  rw[e,show (k+1) * 2=k * 2+1+1 by omega]
  simpa using ih
theorem lu {W:World}{B ac:Nat}{a:Option Addr}{A:List (Int×Int)}(h:W.ownsRow B 62 2 (U a A.length ac) A.length (alC A)):AlsAt W a A:=λk hk=>by
 rcases h.2 with⟨_,h0⟩|⟨g,cp,_,e,_⟩
 ·omega
 ·cases e
  have z:=(h.lt g rfl).2
  exact⟨g,rfl,z,(h.cellAt _ (by omega)).trans (tO hk).1,(h.cellAt _ (by omega)).trans (tO hk).2⟩
theorem tX (A:List (Int×Int))(p:Int×Int→Bool)(k:Nat)(h:k < A.length):(A.drop k).any p=(p A[k]||(A.drop (k+1)).any p):=by rw[List.drop_eq_getElem_cons h];rfl
theorem DZ (a d:Int)(w:World):Calls pG 55 #[Ag #[I Y a,I Y d]] w λe w'=>e=Rt (Bb (d !=3))∧Below w.heap.size w w':=by
 go_enter Tryz.func55,Tryz.ntmps55
 go_wp2
 go_ret
 exact⟨by first|rfl|simp,by go_grown⟩
theorem uR (a:Option Addr)(ac:Nat)(A:List (Int×Int))(w:World)(hl:A.length≤1000)(hs:AlsAt w a A):
  Calls pG 104 #[U a A.length ac,.func (.func 55) #[] #[]] w λe w'=>∃n:Int,e=Rt (I Y n)∧decide (0≤n)=A.any (λx=>x.2 !=3)∧Below w.heap.size w w':=by
 have HS:=aa hs
 clear hs
 go_enter Tryz.func104,Tryz.ntmps104
 go_wp2
 go_loopw [8] (λi wr=>∃k:Nat,k≤A.length∧i=I Y k∧Below w.heap.size w wr∧Hid (A.any (λx=>x.2 !=3)=(A.drop k).any (λx=>x.2 !=3))) (λi _=>A.length - (intOf i).toNat)
 case atStart=>exact⟨0,j6 _,rfl,bR _ _,by show _=_;rw[List.drop_zero]⟩
 case round=>
  obtain⟨k,hk,rfl,hbr,HA⟩:=hrel
  by_cases hlt:k < A.length
  ·have n0:(0:Int)≤(k:Int):=by omega
   have n1:(k:Int) < (A.length:Int):=by omega
   have s0:=hbr.size
   obtain⟨b,rfl,hz,c0,c1⟩:=HS.out.below hbr k hlt
   have HN:=aa (tX A (λx=>x.2 !=3) k hlt)
   clear HS
   generalize A[k].1=a1 at *
   obtain⟨d1,ed⟩:∃d,d=A[k].2:=⟨_,rfl⟩
   have HD:=aa ed
   rw[←ed] at c1
   clear ed
   go_wp2_with (go_at_call 55;fail)
   refine(DZ a1 d1 _).mono ?_
   rintro e w1 ⟨rfl,hb1⟩
   have hb2:=hbr.trans (hb1.mono s0)
   cases hp:(d1 !=3) with
   |true=>
    have HT:Hid (A.any (λx=>x.2 !=3)=true):=by show _=_;rw[HA.out,HN.out,←HD.out,hp];rfl
    clear HN HA
    go_wp2
    go_ret
    exact⟨_,rfl,by rw[HT.out];simp,hb2⟩
   |false=>
    have HT:Hid (A.any (λx=>x.2 !=3)=(A.drop (k+1)).any (λx=>x.2 !=3)):=by show _=_;rw[HA.out,HN.out,←HD.out,hp];rfl
    clear HN HA
    go_wp2
    go_roundw
    case rel=>exact⟨k+1,by omega,by go_num,hb2,HT⟩
    case measure=>simp[intOf];omega
  ·have n1:¬(k:Int) < (A.length:Int):=by omega
   go_wp2
   go_ret
   exact⟨_,rfl,by rw[HA.out,List.drop_eq_nil_of_le (by omega)];rfl,hbr⟩
theorem pJ (a:Option Addr)(ac:Nat)(A:List (Int×Int))(w:World)(hl:A.length≤1000)(hs:AlsAt w a A):
  Calls pG 56 #[U a A.length ac,.func (.func 55) #[] #[]] w λe w'=>e=Rt (Bb (A.any (λx=>x.2 !=3)))∧Below w.heap.size w w':=by
 have HI:=aa (uR a ac A w hl hs)
 clear hs
 generalize A.any (λx=>x.2 !=3)=r at *
 go_enter Tryz.func56,Tryz.ntmps56
 go_wp2_with (go_at_call 104;fail)
 refine HI.out.mono ?_
 rintro e w1 ⟨q,rfl,hq,hb1⟩
 go_wp2
 go_ret
 exact⟨aI (by rw[←hq]),hb1⟩
def tR (V F:Int)(c:List Ins)(e:Ending):Prop:=(ai V F c≠0∧e=Rt (Tu #[Bb false,I Y (ai V F c)]))∨(ai V F c=0∧∃m:Nat,SolvedAt V F c m∧e=Rt (Tu #[Bb (!(aG c (aD V F c m) c.length).any (λx=>x.2 !=3)),I Y 0]))
theorem vM (V F:Int)(s:Option Addr)(c:List Ins)(cap:Nat)(w:World)(hc:CodeAt w s c):
  Calls pG 21 #[pv V F s c cap] w λe w'=>tR V F c e∧Below w.heap.size w w':=by
 have B0:Below w.heap.size w (w.alloc (Cc #[I Y V,I Y F,U s c.length cap] 24)):=by go_grown
 have P0:Cells (w.alloc (Cc #[I Y V,I Y F,U s c.length cap] 24)) w.heap.size [I Y V,I Y F,U s c.length cap]:=Cells.new w _ [_,_,_]
 go_enter Tryz.func21,Tryz.ntmps21
 go_upto_region 1 with fail
 generalize w.alloc (Cc #[I Y V,I Y F,U s c.length cap] 24)=w0 at *
 have p0:=P0.1 0 _ rfl
 have p1:=P0.1 1 _ rfl
 have p2:=P0.1 2 _ rfl
 have HAL:=aa (iJ V F s c cap w0 (hc.call B0))
 go_wp2_with (go_at_call 20;fail)
 refine HAL.out.mono ?_
 rintro e w4 ⟨hans,hb4⟩
 clear HAL p0 p1 p2 P0
 have B4:=B0.trans (hb4.mono B0.size)
 clear B0 hb4
 rcases hans with⟨h0,rfl⟩|⟨h0,m,a,ac,hsv,rfl,hO⟩
 ·have HE:Hid (tR V F c (Rt (Tu #[Bb false,I Y (ai V F c)]))):=.inl ⟨h0,rfl⟩
  generalize ai V F c=r at *
  have f1:(r !=0)=true:=by simpa using h0
  clear h0
  go_wp2
  refine bodyPost_ret (v:=Tu #[Bb false,I Y r]) (by simp[results,Tryz.results21,go_sem]) rfl ?_
  exact⟨HE.out,B4⟩
 have HE:Hid (tR V F c (Rt (Tu #[Bb (!(aG c (aD V F c m) c.length).any (λx=>x.2 !=3)),I Y 0]))):=.inr ⟨h0,m,hsv,rfl⟩
 have hl:(aG c (aD V F c m) c.length).length≤1000:=by have:=fV (c:=c) (L:=aD V F c m) (k:=c.length);have:=(bM h0).2.2;omega
 have HCF:=aa (pJ a ac _ w4 hl (lu hO))
 clear h0 hsv hO hl
 generalize (aG c (aD V F c m) c.length).any (λx=>x.2 !=3)=r at *
 generalize (aG c (aD V F c m) c.length).length=ln at *
 go_wp2_with (go_at_call 56;fail)
 refine HCF.out.mono ?_
 rintro e w5 ⟨rfl,hb5⟩
 have B5:=B4.trans (hb5.mono B4.size)
 go_wp2
 refine bodyPost_ret (v:=Tu #[Bb (!r),I Y 0]) (by simp[results,Tryz.results21,go_sem]) rfl ?_
 exact⟨HE.out,B5⟩
def ou (d:Int):ByteArray:=if d=1 then⟨#[119,114,111,110,103]⟩ else if d=2 then⟨#[102,97,105,108,101,100]⟩ else⟨#[105,100,108,101]⟩
def iZ (a:Int×Int):ByteArray:=fI a.1++⟨#[32]⟩++ou a.2++⟨#[10]⟩
def dx (A:List (Int×Int)):ByteArray:=A.foldl (λt a=>t++iZ a) ⟨#[]⟩
def BU (k:Int):ByteArray:=⟨#[101,114,114,111,114,32]⟩++fI k++⟨#[10]⟩
theorem ow {A:List (Int×Int)}{k:Nat}(h:k < A.length):dx (A.take (k+1))=dx (A.take k)++iZ A[k]:=by
 unfold dx
 rw[x5 h,j5]
 rfl
theorem ug (d:Int):(ou d).size≤6:=by
 unfold ou
 split
 ·decide
 ·split<;>decide
theorem pg {a:Int×Int}(h:kZ a.1):(iZ a).size≤40:=by
 have h1:=mo a.1 h
 have h2:=ug a.2
 unfold iZ
 have s1:(⟨#[32]⟩:ByteArray).size=1:=rfl
 have s2:(⟨#[10]⟩:ByteArray).size=1:=rfl
 rw[ByteArray.size_append,ByteArray.size_append,ByteArray.size_append,s1,s2]
 omega
theorem nz {A:List (Int×Int)}(h:∀a∈A,kZ a.1):∀{k:Nat},k≤A.length→(dx (A.take k)).size≤40 * k
 |0,_=>lR 0
 |k+1,hk=>by
  rw[ow hk,ByteArray.size_append]
  have h1:=nz h (k:=k) (by omega)
  have h2:=pg (h _ (gM hk))
  omega
theorem mJ {A:List (Int×Int)}{k kind:Int}{b:Bool}{a:Int×Int}(h:a∈dP A k kind b):a∈A∨a=(k,kind):=by
 unfold dP at h
 split at h
 ·simpa using h
 ·exact .inl h
theorem ox {c:List Ins}{L:List Pic}:∀{k:Nat} {a:Int×Int},a∈aG c L k→0≤a.1∧a.1 < k
 |0,a,h=>by simp[aG] at h
 |k+1,a,h=>by
  rw[gL] at h
  unfold kO at h
  rcases mJ h with h|rfl
  ·rcases mJ h with h|rfl
   ·rcases mJ h with h|rfl
    ·have:=ox h;omega
    ·simp only;omega
   ·simp only;omega
  ·simp only;omega
theorem yZ (d:Int)(w:World):Calls pG 120 #[I Y d] w λe w'=>e=Rt (.string (ou d))∧Below w.heap.size w w':=by
 by_cases h1:d=1
 ·subst h1
  go_enter Tryz.func120,Tryz.ntmps120
  go_wp2
  go_ret
  exact⟨rfl,bR _ _⟩
 by_cases h2:d=2
 ·subst h2
  go_enter Tryz.func120,Tryz.ntmps120
  go_wp2
  go_ret
  exact⟨rfl,bR _ _⟩
 have e:ou d=⟨#[105,100,108,101]⟩:=by unfold ou;rw[if_neg h1,if_neg h2]
 rw[e]
 have b1:(d==1)=false:=by simpa using h1
 have b2:(d==2)=false:=by simpa using h2
 clear e h1 h2
 go_enter Tryz.func120,Tryz.ntmps120
 go_wp2
 go_ret
 exact⟨rfl,bR _ _⟩
theorem tM (a d:Int)(w:World)(hf:kZ a)(ht:Tab w):Calls pG 63 #[Ag #[I Y a,I Y d]] w λe w'=>e=Rt (.string (iZ (a,d)))∧Below w.heap.size w w':=by
 have B1:Below w.heap.size w (w.alloc (Cc #[I Y a,I Y d] 62)):=by go_grown
 have X1:Cells (w.alloc (Cc #[I Y a,I Y d] 62)) w.heap.size [I Y a,I Y d]:=Cells.new w _ [_,_]
 have z1:=mo a hf
 have z2:=ug d
 go_enter Tryz.func63,Tryz.ntmps63
 go_upto_region 1 with fail
 generalize w.alloc (Cc #[I Y a,I Y d] 62)=w1 at *
 have HKZ:Hid (∀wx,Below w1.heap.size w1 wx→wx.cell? ⟨w.heap.size,0,nO⟩=sO (I Y a)∧wx.cell? ⟨w.heap.size,1,nO⟩=sO (I Y d)):=λwx hb=>⟨(X1.call hb).1 0 _ rfl,(X1.call hb).1 1 _ rfl⟩
 have B4:Below w1.heap.size w1 w1.drew:=(bR _ _).drew
 refine au (S:=(λwx=>wx.cell? ⟨w.heap.size,0,nO⟩=sO (I Y a)∧wx.cell? ⟨w.heap.size,1,nO⟩=sO (I Y d))) [] (by kernel_rfl) (HKZ.out _ B4) (λhHeld=> ?_)
 generalize w1.drew=w4 at *
 refine vZ 0 ?_ ?_
 refine vZ 1 ?_ ?_
 refine vZ 4 ?_ ?_
 refine vZ 5 ?_ ?_
 refine an (i:=2) rfl (by kernel_rfl) (λK hK=> ?_)
 go_simp
 go_at_call 118
 refine(kU a w4 hf (ht.below (B1.trans (B4.mono B1.size)))).mono ?_
 rintro e w5 ⟨rfl,hb5⟩
 have B5:=B4.trans (hb5.mono B4.size)
 go_wp2_with fail
 refine hK.out _ _ (HKZ.out _ B5) (λhHeld=> ?_)
 clear hK K
 refine sm ?_
 refine tZ 3 (.string (fI a++⟨#[32]⟩)) ?_ (hy:=by(intro w _;go_simp;first|done|omega))
 refine sm ?_
 refine an (i:=6) rfl (by kernel_rfl) (λK hK=> ?_)
 go_simp
 go_at_call 120
 refine(yZ d w5).mono ?_
 rintro e w6 ⟨rfl,hb6⟩
 have B6:=B5.trans (hb6.mono B5.size)
 go_wp2_with fail
 refine hK.out _ _ (HKZ.out _ B6) (λhHeld=> ?_)
 clear hK K
 refine sm ?_
 refine tZ 7 (.string (fI a++⟨#[32]⟩++ou d)) ?_ (hy:=by(intro w _;go_simp;first|done|omega))
 refine sm ?_
 refine tZ 8 (.string (fI a++⟨#[32]⟩++ou d++⟨#[10]⟩)) ?_ (hy:=by(intro w _;go_simp;first|done|omega))
 refine sm ?_
 refine vZ 9 ?_ ?_
 refine aq (by kernel_rfl) ?_ _
 go_wp2
 go_ret
 exact⟨rfl,B1.trans (B6.mono B1.size)⟩
theorem tG (k:Int)(w:World)(hf:kZ k)(ht:Tab w):Calls pG 61 #[I Y k] w λe w'=>e=Rt (.string (BU k))∧Below w.heap.size w w':=by
 have z1:=mo k hf
 go_enter Tryz.func61,Tryz.ntmps61
 go_wp2_with (go_at_call 118;fail)
 refine(kU k w hf ht).mono ?_
 rintro e w1 ⟨rfl,hb1⟩
 go_wp2
 go_ret
 exact⟨rfl,hb1⟩
def H9 (V F:Int)(c:List Ins)(ins:List Int)(e:Ending)(w':World):Prop:=(∃er:Int,er≠0∧e=Rt (Tu #[Ag #[I Y 0,U nO 0 0,U nO 0 0,I Y 0,U nO 0 0,I Y 0],I Y 0,I Y er]))∨∃(k:Nat) (vs:Option Addr) (vc:Nat) (ts:Option Addr) (tc:Nat) (ls:Option Addr) (lc:Nat),k≤5000∧e=Rt (Tu #[Ag #[I Y (bE V F c ins k).1.at_,U vs (bE V F c ins k).1.vars.length vc,U ts (bE V F c ins k).1.things.length tc,I Y (bE V F c ins k).1.taken,U ls (bE V F c ins k).1.lines.length lc,I Y (bE V F c ins k).1.fin],I Y (bE V F c ins k).2,I Y 0])∧RunAt w' (bE V F c ins k).1 vs ts ls∧RunOk V F c (bE V F c ins k).1∧kD (bE V F c ins k).1
theorem KQ (V F:Int)(s:Option Addr)(c:List Ins)(cap:Nat)(is:Option Addr)(ic:Nat)(ins:List Int)(fuel:Int)(w:World)(hc:CodeAt w s c)(hI:IntsAt w is ins)(hT:Tab w)(h0:ai V F c=0):
  Calls pG 19 #[pv V F s c cap,U is ins.length ic,I Y fuel] w λe w'=>H9 V F c ins e w'∧Below w.heap.size w w':=by
 have hp:=bK h0
 have h8:=hp.v8
 have h1:=hp.v1
 have h2:=hp.f0
 have h3:=(bM h0).2.1.2
 obtain⟨v,rfl⟩:=j8 (show 0≤V by omega)
 obtain⟨f,rfl⟩:=j8 h2
 by_cases hf:fuel < 0∨5000 < fuel
 ·refine(AS v f s c cap is ic ins fuel w hc h0 hf).mono ?_
  rintro e w' ⟨rfl,hb⟩
  exact⟨.inl ⟨3,by decide,rfl⟩,hb⟩
 ·obtain⟨k,rfl⟩:=j8 (show 0≤fuel by omega)
  refine(Ap v f s c cap is ic ins k w hc hI hT h0 (by omega)).mono ?_
  rintro e w' ⟨vv,tv,lv,fv,rfl,ho,hr,hl,hb⟩
  obtain⟨vs,vc,ts,tc,ls,lc,rfl,rfl,rfl,hat⟩:=ho.at
  refine⟨.inr ⟨k,vs,vc,ts,tc,ls,lc,by omega,rfl,hat,hr,?_,?_,?_,λt ht=> ?_⟩,hb⟩
  ·have:=hr.vars;unfold maxLen;omega
  ·have:=hr.things;unfold maxLen;omega
  ·unfold maxLen;omega
  ·have:=hr.fields t ht;unfold maxLen;omega
theorem vO:SolvedAt 1 0 smallC 1:=by
 refine⟨λk hk=> ?_,by decide+kernel⟩
 have:k=0:=by omega
 subst this
 decide+kernel
theorem Bp:ai 1 0 smallC=0:=by decide+kernel
end
end Go.Proofs.YtmapdpcfanecdabGreatDoor
