import Derived.Test.YtmapdpcfanecdabGreatDoorM45
open Go.IntKind renaming i64→Y
open Go.Obj renaming cells→Cc
open Go.RowKit.Below renaming refl→bR
open Go.Value renaming bool→Bb,int→I,pointer→Pp,slice→U
open List renaming getElem_mem→gM
open Nat renaming le_refl→lR,le_trans→lT
open Option renaming none→nO,some→sO
set_option linter.unusedSimpArgs false
set_option linter.unusedVariables false
set_option maxHeartbeats 16000000
set_option maxRecDepth 10000
namespace Go.Proofs.YtmapdpcfanecdabGreatDoor
section
open Go.RowKit
attribute [local go_sem ↓] Go.wp_at_zero Go.wp_at_succ
theorem Ij (n sb:Nat)(eb:Option Nat)(i:Ins)(V F:Int)(s:Option Addr)(c:List Ins)(cap:Nat)(at_:Int)(x:Pic)(vs:Option Addr)(vc:Nat)(fs:Option Addr)(fc:Nat)(ev:Value)(wr fl:Bool)(pb:Nat)(w:World)(hS:Cells w sb (aP i V F s c cap at_ x vs vc fs fc ev wr fl))(hP:Cells w pb [Pp (sO ⟨sb,0,nO⟩)])(hk:∃k:Nat,i.tgt=k∧k < x.vars.length)(hm:∃m:Nat,at_=m∧m < x.flds.length)(hn:n≤w.heap.size)(he:∀b,eb=sO b→b < w.heap.size):
  fP 153 (λp=>#[p,Pp (sO ⟨pb,0,nO⟩)]) n sb eb w x (bd (fg at_ x) i.tgt ⟨false,⟨true,0,0⟩,false,false,[at_]⟩):=by
 intro wx xb v gs gcc L hb0 hp
 obtain⟨zxb,A0,G0,OF,EX⟩:=hp
 have hdr:Below wx.heap.size wx wx.drew:=(bR _ _).drew
 have hb:=hb0.drew
 have A:=A0.call hdr
 have G:=G0.call hdr
 have hsz:w.heap.size≤wx.heap.size:=hb0.size
 have hzd:wx.heap.size≤wx.drew.heap.size:=hdr.size
 have hbd:Below w.heap.size wx wx.drew:=hdr.mono hsz
 clear hb0 A0 G0 hdr
 obtain⟨k,ek,hkx⟩:=hk
 obtain⟨m,em,hmx⟩:=hm
 have hkv:k < v.l.length:=by rw[←EX] at hkx;simpa[bP,roG] using hkx
 have hmL:m < L.length:=by rw[←EX] at hmx;simpa[bP] using hmx
 obtain⟨vb,evb,eb1,hvb,zvb⟩:=G.vars.form (by omega)
 have nxv:xb≠vb:=λe=>OF.1 (by rw[eb1,e])
 obtain⟨fb,efb,hfb,zfb,-⟩:=G.fform (by omega)
 subst efb
 have hLM:L[m].l.length≤9223372036854775807:=by
  have h:=(G.rows _ (gM hmL)).caps
  unfold maxLen at h
  omega
 have n0:(0:Int)≤(k:Int):=by omega
 have n1:(k:Int) < (v.l.length:Int):=by omega
 have m0:(0:Int)≤(m:Int):=by omega
 have m1:(m:Int) < (L.length:Int):=by omega
 have hsb:=hS.2.1
 have hxb:=A.2.1
 have HSP:Hid (∀wz,Below w.heap.size w wz→wz.cell? ⟨pb,0,nO⟩=sO (Pp (sO ⟨sb,0,nO⟩))∧wz.cell? ⟨sb,1,nO⟩=sO (I Y (k:Int))∧wz.cell? ⟨sb,9,nO⟩=sO (I Y (m:Int))):=λwz hz=>⟨(hP.call hz).1 0 _ rfl,by rw[←ek];exact(hS.call hz).1 1 _ rfl,by rw[←em];exact(hS.call hz).1 9 _ rfl⟩
 have HKZ:Hid (∀wz,Below wx.drew.heap.size wx.drew wz→wz.cell? ⟨xb,1,nO⟩=sO (U (sO ⟨vb,0,nO⟩) v.l.length v.rc)∧wz.cell? ⟨pb,0,nO⟩=sO (Pp (sO ⟨sb,0,nO⟩))∧wz.cell? ⟨sb,1,nO⟩=sO (I Y (k:Int))∧wz.cell? ⟨sb,9,nO⟩=sO (I Y (m:Int))):=λwz hz=>by
  have h1:=(A.call hz).1 1 _ rfl
  rw[evb] at h1
  have h2:=HSP.out wz (hb.trans (hz.mono (lT hsz hzd)))
  exact⟨h1,h2.1,h2.2.1,h2.2.2⟩
 have hba:Below wx.drew.heap.size wx.drew (wx.drew.alloc (Cc #[I Y (m:Int)] 3)):=by go_grown
 have GN:=G.call hba
 have GI:cd (λb=>ClT n sb eb xb b∧Off v (Value.slice (sO ⟨fb,0,nO⟩) L.length gcc).ownBlock L b) (wx.drew.alloc (Cc #[I Y (m:Int)] 3)) (⟨⟨false,⟨true,0,0⟩,false,false,[(m:Int)]⟩,sO ⟨wx.drew.heap.size,0,nO⟩,1⟩:Gc):=by
  refine⟨.inr ⟨_,0,rfl,⟨⟨by omega,by omega,by omega,λe=>by have:=he _ e;omega⟩,λe=> ?_,λe=> ?_,λr hr e=> ?_⟩,by simp,λq hq=> ?_⟩,lR _,by show 1≤maxLen;unfold maxLen;omega⟩
  ·have:=(G.vars.lt e).1;omega
  ·have:=(bo G.flds e).1;omega
  ·have:=((G.rows r hr).lt e).1;omega
  ·have eq0:q=0:=by simpa using hq
   subst eq0
   simp[go_sem]
 have GZ:=GN.setV evb hkv GI
 have GU:=GN.vars.gu evb hkv
 have TH:=aa (GN.vars.thaw evb)
 have hbx:Below w.heap.size wx (fG (wx.drew.alloc (Cc #[I Y (m:Int)] 3)) vb k (⟨⟨false,⟨true,0,0⟩,false,false,[(m:Int)]⟩,sO ⟨wx.drew.heap.size,0,nO⟩,1⟩:Gc)):=iz (hbd.trans (hba.mono (lT hsz hzd))) hvb
 have hbw:Below w.heap.size w (fG (wx.drew.alloc (Cc #[I Y (m:Int)] 3)) vb k (⟨⟨false,⟨true,0,0⟩,false,false,[(m:Int)]⟩,sO ⟨wx.drew.heap.size,0,nO⟩,1⟩:Gc)):=iz (hb.trans (hba.mono (lT hsz hzd))) hvb
 have AZ:Cells (fG (wx.drew.alloc (Cc #[I Y (m:Int)] 3)) vb k (⟨⟨false,⟨true,0,0⟩,false,false,[(m:Int)]⟩,sO ⟨wx.drew.heap.size,0,nO⟩,1⟩:Gc)) xb [Bb false,U v.rs v.l.length v.rc,U (sO ⟨fb,0,nO⟩) L.length gcc]:=(A.call hba).same (nR nxv) (by rw[nJ];exact lR _)
 have HH:Hid (∃y:Gc,y.g=⟨false,⟨true,0,0⟩,false,false,[(m:Int)]⟩∧PicG (ClT n sb eb xb) w.heap.size ((((((((wx.drew.alloc (Cc #[I Y (m:Int)] 3)).setCell ⟨vb,k * 7,nO⟩ (Bb false)).setCell ⟨vb,k * 7+1,nO⟩ (Bb true)).setCell ⟨vb,k * 7+2,nO⟩ (I Y 0)).setCell ⟨vb,k * 7+3,nO⟩ (I Y 0)).setCell ⟨vb,k * 7+4,nO⟩ (Bb false)).setCell ⟨vb,k * 7+5,nO⟩ (Bb false)).setCell ⟨vb,k * 7+6,nO⟩ (U (sO ⟨wx.drew.heap.size,0,nO⟩) 1 1)) ⟨v.rs,v.rc,v.l.set k y⟩ (sO ⟨fb,0,nO⟩) gcc L∧Below w.heap.size wx ((((((((wx.drew.alloc (Cc #[I Y (m:Int)] 3)).setCell ⟨vb,k * 7,nO⟩ (Bb false)).setCell ⟨vb,k * 7+1,nO⟩ (Bb true)).setCell ⟨vb,k * 7+2,nO⟩ (I Y 0)).setCell ⟨vb,k * 7+3,nO⟩ (I Y 0)).setCell ⟨vb,k * 7+4,nO⟩ (Bb false)).setCell ⟨vb,k * 7+5,nO⟩ (Bb false)).setCell ⟨vb,k * 7+6,nO⟩ (U (sO ⟨wx.drew.heap.size,0,nO⟩) 1 1))∧Below w.heap.size w ((((((((wx.drew.alloc (Cc #[I Y (m:Int)] 3)).setCell ⟨vb,k * 7,nO⟩ (Bb false)).setCell ⟨vb,k * 7+1,nO⟩ (Bb true)).setCell ⟨vb,k * 7+2,nO⟩ (I Y 0)).setCell ⟨vb,k * 7+3,nO⟩ (I Y 0)).setCell ⟨vb,k * 7+4,nO⟩ (Bb false)).setCell ⟨vb,k * 7+5,nO⟩ (Bb false)).setCell ⟨vb,k * 7+6,nO⟩ (U (sO ⟨wx.drew.heap.size,0,nO⟩) 1 1))∧Cells ((((((((wx.drew.alloc (Cc #[I Y (m:Int)] 3)).setCell ⟨vb,k * 7,nO⟩ (Bb false)).setCell ⟨vb,k * 7+1,nO⟩ (Bb true)).setCell ⟨vb,k * 7+2,nO⟩ (I Y 0)).setCell ⟨vb,k * 7+3,nO⟩ (I Y 0)).setCell ⟨vb,k * 7+4,nO⟩ (Bb false)).setCell ⟨vb,k * 7+5,nO⟩ (Bb false)).setCell ⟨vb,k * 7+6,nO⟩ (U (sO ⟨wx.drew.heap.size,0,nO⟩) 1 1)) xb [Bb false,U v.rs v.l.length v.rc,U (sO ⟨fb,0,nO⟩) L.length gcc]):=⟨(⟨⟨false,⟨true,0,0⟩,false,false,[(m:Int)]⟩,sO ⟨wx.drew.heap.size,0,nO⟩,1⟩:Gc),rfl,GZ,hbx,hbw,AZ⟩
 have HEX:Hid (bP false v L=x):=EX
 have HOF:Hid (Off v (Value.slice (sO ⟨fb,0,nO⟩) L.length gcc).ownBlock L xb):=OF
 have HEK:Hid (i.tgt=k∧at_=m):=⟨ek,em⟩
 have HEV:Hid (v.rs=sO ⟨vb,0,nO⟩):=evb
 clear GZ hbx hbw AZ GI GN A G EX OF ek em hS hP hb hbd he hn evb eb1 hkx hmx hsz hzd
 go_enter Tryz.func153,Tryz.ntmps153
 go_upto_region 0 with fail
 refine au (S:=(λwx=>wx.cell? ⟨xb,1,nO⟩=sO (U (sO ⟨vb,0,nO⟩) v.l.length v.rc)∧wx.cell? ⟨pb,0,nO⟩=sO (Pp (sO ⟨sb,0,nO⟩))∧wx.cell? ⟨sb,1,nO⟩=sO (I Y (k:Int))∧wx.cell? ⟨sb,9,nO⟩=sO (I Y (m:Int)))) [17] (by kernel_rfl) (HKZ.out _ (bR _ _)) (λhHeld=> ?_)
 generalize wx.drew=wq at *
 refine vZ 0 ?_ ?_
 refine vZ 1 ?_ ?_
 refine vZ 2 ?_ ?_
 refine vZ 3 ?_ ?_
 refine vZ 4 ?_ ?_
 refine vZ 5 ?_ ?_
 refine vZ 6 ?_ ?_
 refine vZ 7 ?_ ?_
 refine vZ 8 ?_ ?_
 refine vZ 9 ?_ ?_
 refine vZ 10 ?_ ?_
 refine vZ 11 ?_ ?_
 refine vZ 12 ?_ ?_
 refine vZ 13 ?_ ?_
 refine an (i:=14) rfl (by kernel_rfl) (λK hK=> ?_)
 go_simp
 refine hK.out _ _ (HKZ.out _ hba) (λhHeld=> ?_)
 clear hK K
 refine sm ?_
 generalize eA:wq.alloc (Cc #[I Y (m:Int)] 3)=wa at *
 clear eA
 generalize eB:wq.heap.size=nb0 at *
 clear eB
 refine vZ 15 ?_ ?_
 refine vZ 16 ?_ ?_
 refine aL (i:=17) rfl (by kernel_rfl) (by kernel_rfl) (λK hK=> ?_)
 obtain⟨⟨q0,q1,q2,q3,q4,q5,q6⟩,qz⟩:=id GU
 have f0:=TH.out (k * 7)
 have f1:=TH.out (k * 7+1)
 have f2:=TH.out (k * 7+2)
 have f3:=TH.out (k * 7+3)
 have f4:=TH.out (k * 7+4)
 have f5:=TH.out (k * 7+5)
 have f6:=TH.out (k * 7+6)
 go_simp
 refine hK.out _ _ ?_
 clear hK K q0 q1 q2 q3 q4 q5 q6 qz f0 f1 f2 f3 f4 f5 f6
 refine sm ?_
 refine aq (by kernel_rfl) ?_ _
 generalize eW:(((((((wa.setCell ⟨vb,k * 7,nO⟩ (Bb false)).setCell ⟨vb,k * 7+1,nO⟩ (Bb true)).setCell ⟨vb,k * 7+2,nO⟩ (I Y 0)).setCell ⟨vb,k * 7+3,nO⟩ (I Y 0)).setCell ⟨vb,k * 7+4,nO⟩ (Bb false)).setCell ⟨vb,k * 7+5,nO⟩ (Bb false)).setCell ⟨vb,k * 7+6,nO⟩ (U (sO ⟨nb0,0,nO⟩) 1 1))=w3 at *
 clear eW GU TH HKZ hba
 obtain⟨y,ey,G3,hbx,hbw,A3⟩:=HH.out
 have HEY:Hid (y.g=⟨false,⟨true,0,0⟩,false,false,[(m:Int)]⟩):=ey
 clear HH ey
 have hd3:Below w3.heap.size w3 w3.drew:=(bR _ _).drew
 have G4:=G3.call hd3
 have A4:=A3.call hd3
 have hbx4:=hbx.drew
 have hbw4:=hbw.drew
 clear G3 A3 hbx hbw hd3
 have hcm:=(G4.fform (by omega))
 obtain⟨fb',efb',-,-,hcm⟩:=hcm
 cases efb'
 have HK1:Hid (w3.drew.cell? ⟨xb,2,nO⟩=sO (U (sO ⟨fb,0,nO⟩) L.length gcc)∧w3.drew.cell? ⟨pb,0,nO⟩=sO (Pp (sO ⟨sb,0,nO⟩))∧w3.drew.cell? ⟨sb,9,nO⟩=sO (I Y (m:Int))∧w3.drew.cell? ⟨fb,m,nO⟩=sO (U L[m].rs L[m].l.length L[m].rc)):=⟨A4.1 2 _ rfl,(HSP.out _ hbw4).1,(HSP.out _ hbw4).2.2,hcm m hmL⟩
 clear hcm
 go_upto_region 1 with fail
 refine au (S:=(λwx=>wx.cell? ⟨xb,2,nO⟩=sO (U (sO ⟨fb,0,nO⟩) L.length gcc)∧wx.cell? ⟨pb,0,nO⟩=sO (Pp (sO ⟨sb,0,nO⟩))∧wx.cell? ⟨sb,9,nO⟩=sO (I Y (m:Int))∧wx.cell? ⟨fb,m,nO⟩=sO (U L[m].rs L[m].l.length L[m].rc))) [] (by kernel_rfl) HK1.out (λhHeld=> ?_)
 generalize w3.drew=w4 at *
 refine vZ 0 ?_ ?_
 refine vZ 1 ?_ ?_
 refine vZ 2 ?_ ?_
 refine vZ 3 ?_ ?_
 refine vZ 4 ?_ ?_
 refine vZ 5 ?_ ?_
 refine vZ 6 ?_ ?_
 refine vZ 7 ?_ ?_
 refine vZ 8 ?_ ?_
 refine vZ 9 ?_ ?_
 refine vZ 10 ?_ ?_
 refine vZ 11 ?_ ?_
 refine aq (by kernel_rfl) ?_ _
 clear HK1
 go_wp2
 go_loopw [32] (λi wr=>∃j:Nat,j≤L[m].l.length∧i=I Y j∧Cells wr xb [Bb false,U v.rs v.l.length v.rc,U (sO ⟨fb,0,nO⟩) L.length gcc]∧PicG (ClT n sb eb xb) w.heap.size wr ⟨v.rs,v.rc,v.l.set k y⟩ (sO ⟨fb,0,nO⟩) gcc (dy L m j hmL)∧Below w.heap.size wx wr∧Below w.heap.size w wr) (λi _=>L[m].l.length - (intOf i).toNat)
 case atStart=>exact⟨0,Nat.zero_le _,rfl,A4,by rw[Dz];exact G4,hbx4,hbw4⟩
 case round=>
  clear A4 G4 hbx4 hbw4
  obtain⟨j,hj,rfl,AR,GR,BR,CR⟩:=hrel
  by_cases hlt:j < L[m].l.length
  ·have j0:(0:Int)≤(j:Int):=by omega
   have j1:(j:Int) < (L[m].l.length:Int):=by omega
   have hdw:Below wr.heap.size wr wr.drew:=(bR _ _).drew
   have A5:=AR.call hdw
   have G5:=GR.call hdw
   have B5:=BR.drew
   have C5:=CR.drew
   clear AR GR BR CR hdw
   have hm':m < (dy L m j hmL).length:=by rw[iH];exact hmL
   have RW:=G5.rows _ (gM hm')
   have nx:roB (dy L m j hmL)[m]≠sO xb:=(nulR_off.2 HOF.out).2.2 _ (gM hm')
   rw[pY] at RW nx
   obtain⟨rb,erb,erB,hrb,zrb⟩:=RW.form (by show 0 < (gE j L[m].l).length;rw[gN];omega)
   have nxr:xb≠rb:=λe=>nx (by rw[erB,e])
   have GUR:=RW.gu erb (k:=j) (by show j < (gE j L[m].l).length;rw[gN];exact hlt)
   have q0:=GUR.1.1
   have f0:=RW.thaw erb (j * 7)
   have erb':L[m].rs=sO ⟨rb,0,nO⟩:=erb
   obtain⟨fb',efb',-,-,hcm⟩:=G5.fform (by rw[iH];omega)
   cases efb'
   have hcm':=hcm m hm'
   rw[EQ,erb'] at hcm'
   have HK4:Hid (wr.drew.cell? ⟨xb,2,nO⟩=sO (U (sO ⟨fb,0,nO⟩) L.length gcc)∧wr.drew.cell? ⟨pb,0,nO⟩=sO (Pp (sO ⟨sb,0,nO⟩))∧wr.drew.cell? ⟨sb,9,nO⟩=sO (I Y (m:Int))∧wr.drew.cell? ⟨fb,m,nO⟩=sO (U (sO ⟨rb,0,nO⟩) L[m].l.length L[m].rc)):=⟨A5.1 2 _ rfl,(HSP.out _ C5).1,(HSP.out _ C5).2.2,hcm'⟩
   have HN:Hid (Cells (wr.drew.setCell ⟨rb,j * 7,nO⟩ (Bb true)) xb [Bb false,U v.rs v.l.length v.rc,U (sO ⟨fb,0,nO⟩) L.length gcc]∧PicG (ClT n sb eb xb) w.heap.size (wr.drew.setCell ⟨rb,j * 7,nO⟩ (Bb true)) ⟨v.rs,v.rc,v.l.set k y⟩ (sO ⟨fb,0,nO⟩) gcc (dy L m (j+1) hmL)∧Below w.heap.size wx (wr.drew.setCell ⟨rb,j * 7,nO⟩ (Bb true))∧Below w.heap.size w (wr.drew.setCell ⟨rb,j * 7,nO⟩ (Bb true))):=⟨A5.far nxr _,G5.nul erb' hlt,B5.setCell hrb _,C5.setCell hrb _⟩
   have HQ0:=aa (And.intro q0 f0)
   clear A5 G5 B5 C5 RW nx erb erB hcm hcm' GUR erb' q0 f0
   go_upto_region 4 with fail
   refine au (S:=(λwx=>wx.cell? ⟨xb,2,nO⟩=sO (U (sO ⟨fb,0,nO⟩) L.length gcc)∧wx.cell? ⟨pb,0,nO⟩=sO (Pp (sO ⟨sb,0,nO⟩))∧wx.cell? ⟨sb,9,nO⟩=sO (I Y (m:Int))∧wx.cell? ⟨fb,m,nO⟩=sO (U (sO ⟨rb,0,nO⟩) L[m].l.length L[m].rc))) [13] (by kernel_rfl) HK4.out (λhHeld=> ?_)
   generalize wr.drew=w5 at *
   refine vZ 0 ?_ ?_
   refine vZ 1 ?_ ?_
   refine vZ 2 ?_ ?_
   refine vZ 3 ?_ ?_
   refine vZ 4 ?_ ?_
   refine vZ 5 ?_ ?_
   refine vZ 6 ?_ ?_
   refine vZ 7 ?_ ?_
   refine vZ 8 ?_ ?_
   refine vZ 9 ?_ ?_
   refine vZ 10 ?_ ?_
   refine vZ 11 ?_ ?_
   refine vZ 12 ?_ ?_
   refine aL (i:=13) rfl (by kernel_rfl) (by kernel_rfl) (λK hK=> ?_)
   obtain⟨q0,f0⟩:=HQ0.out
   go_simp
   refine hK.out _ _ ?_
   clear hK K
   refine sm ?_
   refine aq (by kernel_rfl) ?_ _
   clear HK4 HQ0
   go_wp2
   go_roundw
   case rel=>exact⟨j+1,by omega,by go_num,HN.out.1,HN.out.2.1,HN.out.2.2.1,HN.out.2.2.2⟩
   case measure=>simp[intOf];omega
  ·have j1:¬(j:Int) < (L[m].l.length:Int):=by omega
   have HF:Hid (∃v' gs' gc' L',lk n sb eb w.heap.size wr xb v' gs' gc' L' (bd (fg at_ x) i.tgt ⟨false,⟨true,0,0⟩,false,false,[at_]⟩)):=by
    refine⟨⟨v.rs,v.rc,v.l.set k y⟩,sO ⟨fb,0,nO⟩,gcc,dy L m j hmL,zxb,?_,GR,nulR_off.2 ((Off.same (gZ (by simp))).2 HOF.out),?_⟩
    ·simp only[List.length_set,iH]
     exact AR
    ·rw[Fk (by omega),kr,HEX.out,HEY.out,HEK.out.1,HEK.out.2]
     rfl
   clear AR GR CR
   go_wp2
   first|go_end0|refine bodyPost_ret (results_none rfl _ _ _) rfl ?_
   exact⟨rfl,HF.out,BR⟩
end
end Go.Proofs.YtmapdpcfanecdabGreatDoor
