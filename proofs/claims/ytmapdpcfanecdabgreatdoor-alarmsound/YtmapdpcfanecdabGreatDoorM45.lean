import Derived.Test.YtmapdpcfanecdabGreatDoorM44
open Go.Ending renaming returned→Rt
open Go.IntKind renaming i64→Y
open Go.Obj renaming cells→Cc
open Go.Proofs.Tryz renaming prog→pG
open Go.RowKit.Below renaming refl→bR
open Go.Value renaming agg→Ag,bool→Bb,int→I,pointer→Pp,slice→U,slice→j0,tuple→Tu
open Go.World renaming size_alloc→zA
open List renaming append_nil→j4,ext_getElem?→q7,getElem?_modify→q9,getElem?_set→q8,getElem_map→j9,getElem_mem→gM,getElem_set_self→j7,length_set→j6,map_set→j3,set_getElem_self→j2,take_succ_eq_append_getElem→j8
open Nat renaming le_of_lt→j1,le_refl→lR,le_trans→lT,zero_le→j5
open Option renaming none→nO,some→sO
set_option linter.unusedSimpArgs false
set_option linter.unusedVariables false
set_option maxHeartbeats 8000000
set_option maxRecDepth 100000
namespace Go.Proofs.YtmapdpcfanecdabGreatDoor
section
open Go.RowKit
attribute [local go_sem ↓] Go.wp_at_zero Go.wp_at_succ
theorem CF (a:Array Value)(wx:World):Sem.run pG (callFunc 162 a) wx=.ok (.enter 162 a) wx:=by kernel_rfl
theorem Ex (n:Nat)(ta:Int)(x':Pic)(gb pb:Nat):type_of% (eU 162 #[Pp (sO ⟨gb,0,nO⟩),Pp (sO ⟨pb,0,nO⟩)] (λp=>#[p,Pp (sO ⟨gb,0,nO⟩),Pp (sO ⟨pb,0,nO⟩)]) (λ_=>rfl) CF n ta x'):=eU 162 #[Pp (sO ⟨gb,0,nO⟩),Pp (sO ⟨pb,0,nO⟩)] (λp=>#[p,Pp (sO ⟨gb,0,nO⟩),Pp (sO ⟨pb,0,nO⟩)]) (λ_=>rfl) CF n ta x'
theorem Do (a:Array Value)(wx:World):Sem.run pG (callFunc 153 a) wx=.ok (.enter 153 a) wx:=by kernel_rfl
theorem Fp (n:Nat)(ta:Int)(x':Pic)(pb:Nat):type_of% (eU 153 #[Pp (sO ⟨pb,0,nO⟩)] (λp=>#[p,Pp (sO ⟨pb,0,nO⟩)]) (λ_=>rfl) Do n ta x'):=eU 153 #[Pp (sO ⟨pb,0,nO⟩)] (λp=>#[p,Pp (sO ⟨pb,0,nO⟩)]) (λ_=>rfl) Do n ta x'
theorem DS (a:Array Value)(wx:World):Sem.run pG (callFunc 155 a) wx=.ok (.enter 155 a) wx:=by kernel_rfl
theorem FB (n:Nat)(ta:Int)(x':Pic)(tb pb:Nat):type_of% (eU 155 #[Pp (sO ⟨tb,0,nO⟩),Pp (sO ⟨pb,0,nO⟩)] (λp=>#[p,Pp (sO ⟨tb,0,nO⟩),Pp (sO ⟨pb,0,nO⟩)]) (λ_=>rfl) DS n ta x'):=eU 155 #[Pp (sO ⟨tb,0,nO⟩),Pp (sO ⟨pb,0,nO⟩)] (λp=>#[p,Pp (sO ⟨tb,0,nO⟩),Pp (sO ⟨pb,0,nO⟩)]) (λ_=>rfl) DS n ta x'
theorem Cw (a:Array Value)(wx:World):Sem.run pG (callFunc 156 a) wx=.ok (.enter 156 a) wx:=by kernel_rfl
theorem Ev (n:Nat)(ta:Int)(x':Pic)(pb:Nat):type_of% (eU 156 #[Pp (sO ⟨pb,0,nO⟩)] (λp=>#[p,Pp (sO ⟨pb,0,nO⟩)]) (λ_=>rfl) Cw n ta x'):=eU 156 #[Pp (sO ⟨pb,0,nO⟩)] (λp=>#[p,Pp (sO ⟨pb,0,nO⟩)]) (λ_=>rfl) Cw n ta x'
theorem Ga (a:Array Value)(wx:World):Sem.run pG (callFunc 158 a) wx=.ok (.enter 158 a) wx:=by kernel_rfl
theorem Gy (n:Nat)(ta:Int)(x':Pic)(pb:Nat):type_of% (eU 158 #[Pp (sO ⟨pb,0,nO⟩)] (λp=>#[p,Pp (sO ⟨pb,0,nO⟩)]) (λ_=>rfl) Ga n ta x'):=eU 158 #[Pp (sO ⟨pb,0,nO⟩)] (λp=>#[p,Pp (sO ⟨pb,0,nO⟩)]) (λ_=>rfl) Ga n ta x'
theorem CX {s:Sp}:aR s ⟨false,0,0⟩=if s.has 0 then⟨false,0,0⟩ else⟨true,0,0⟩:=by
 obtain⟨n,lo,hi⟩:=s
 cases n with
 |true=>simp[aR,Sp.has]
 |false=>
  by_cases h1:lo≤0
  ·by_cases h2:0≤hi
   ·have e1:min hi 0=0:=by omega
    have e2:max lo 0=0:=by omega
    simp[aR,Sp.has,h1,h2,e1,e2]
   ·have e3:min hi 0 < max lo 0:=by omega
    simp[aR,Sp.has,h2,e3]
  ·have e3:min hi 0 < max lo 0:=by omega
   simp[aR,Sp.has,h1,e3]
theorem tU {n:Bool}{v:Ro}{L:List Ro}{k:Nat}(hk:k < v.l.length):gAt (bP n v L) (k:Int)=v.l[k].g:=by
 unfold gAt bP roG
 simp[List.getD,hk]
theorem Io (n sb:Nat)(eb:Option Nat)(i:Ins)(V F:Int)(s:Option Addr)(c:List Ins)(cap:Nat)(at_:Int)(x:Pic)(vs:Option Addr)(vc:Nat)(fs:Option Addr)(fc:Nat)(ev:Value)(wr fl:Bool)(pb:Nat)(w:World)(hS:Cells w sb (aP i V F s c cap at_ x vs vc fs fc ev wr fl))(hP:Cells w pb [Pp (sO ⟨sb,0,nO⟩)])(hsp:(gAt x i.a).sp.Ok)(hk:∃k:Nat,i.a=k∧k < x.vars.length):
  fP 156 (λp=>#[p,Pp (sO ⟨pb,0,nO⟩)]) n sb eb w x (bd x i.a (cW (gAt x i.a))):=by
 intro wx xb v gs gcc L hb0 hp
 obtain⟨zxb,A0,G0,OF,EX⟩:=hp
 have hdr:Below wx.heap.size wx wx.drew:=(bR _ _).drew
 have hb:=hb0.drew
 have A:=A0.call hdr
 have G:=G0.call hdr
 have hbd:Below w.heap.size wx wx.drew:=hdr.mono (lT hb0.size (lR _))
 have hsz:Hid (w.heap.size≤wx.heap.size):=hb0.size
 clear hb0 A0 G0 hdr
 obtain⟨k,ek,hkx⟩:=hk
 have hkv:k < v.l.length:=by rw[←EX] at hkx;simpa[bP,roG] using hkx
 have ega:gAt x i.a=v.l[k].g:=by rw[←EX,ek,tU hkv]
 obtain⟨vb,evb,eb1,hvb,zvb⟩:=G.vars.form (by omega)
 have nxv:xb≠vb:=λe=>OF.1 (by rw[eb1,e])
 have n0:(0:Int)≤(k:Int):=by omega
 have n1:(k:Int) < (v.l.length:Int):=by omega
 have A1:=A.1 1 _ rfl
 rw[evb] at A1
 have S1:=(hS.call hb).1 2 _ rfl
 rw[ek] at S1
 have P1:=(hP.call hb).1 0 _ rfl
 have HKZ:Hid (wx.drew.cell? ⟨xb,1,nO⟩=sO (U (sO ⟨vb,0,nO⟩) v.l.length v.rc)∧wx.drew.cell? ⟨pb,0,nO⟩=sO (Pp (sO ⟨sb,0,nO⟩))∧wx.drew.cell? ⟨sb,2,nO⟩=sO (I Y (k:Int))):=⟨A1,P1,S1⟩
 have HOK:Hid (v.l[k].g.sp.Ok):=by show _;rw[←ega];exact hsp
 clear A1 S1 P1 hS hP hsp
 go_enter Tryz.func156,Tryz.ntmps156
 go_upto_region 0 with fail
 refine au (S:=(λwx=>wx.cell? ⟨xb,1,nO⟩=sO (U (sO ⟨vb,0,nO⟩) v.l.length v.rc)∧wx.cell? ⟨pb,0,nO⟩=sO (Pp (sO ⟨sb,0,nO⟩))∧wx.cell? ⟨sb,2,nO⟩=sO (I Y (k:Int)))) [] (by kernel_rfl) HKZ.out (λhHeld=> ?_)
 generalize wx.drew=wq at *
 refine vZ 0 ?_ ?_
 refine vZ 1 ?_ ?_
 refine vZ 2 ?_ ?_
 refine vZ 3 ?_ ?_
 refine vZ 4 ?_ ?_
 refine vZ 5 ?_ ?_
 refine vZ 6 ?_ ?_
 refine vZ 7 ?_ ?_
 refine vZ 8 ?_ ?_
 refine vZ 9 ?_ ?_
 refine vZ 10 ?_ ?_
 refine aq (by kernel_rfl) ?_ _
 have GU:=G.vars.gu evb hkv
 obtain⟨⟨q0,q1,q2,q3,q4,q5,q6⟩,qz⟩:=id GU
 go_wp2_with (go_at_call 157;fail)
 refine(sy v.l[k].g.sp wq HOK.out).mono ?_
 rintro e w2 ⟨rfl,hb2⟩
 have h:=G.call hb2
 have A2:=A.call hb2
 have hbw:=hbd.trans (hb2.mono (by have:=hb.size;omega))
 clear q0 q1 q2 q3 q4 q5 q6 qz GU G A hb2 hbd
 have GU:=h.vars.gu evb hkv
 have TH:=aa (h.vars.thaw evb)
 obtain⟨⟨q0,q1,q2,q3,q4,q5,q6⟩,qz⟩:=id GU
 have f0:=TH.out (k * 7)
 have f1:=TH.out (k * 7+1)
 have f2:=TH.out (k * 7+2)
 have f3:=TH.out (k * 7+3)
 have f5:=TH.out (k * 7+5)
 have nb:¬(λq=>ClT n sb eb xb q∧Off v (j0 gs L.length gcc).ownBlock L q) vb:=λq=>q.2.1 eb1
 have gy:=h.sv _ (gM hkv)
 have h0:PicG (ClT n sb eb xb) w.heap.size w2 ⟨v.rs,v.rc,v.l.set k v.l[k]⟩ gs gcc L:=by rw[j2];exact h
 have h1:=h.cellV evb hkv h0 (j:=0) (u:=Bb false) (z:=⟨⟨false,v.l[k].g.sp,v.l[k].g.t,v.l[k].g.f,v.l[k].g.s⟩,v.l[k].ss,v.l[k].cap⟩) (by omega) (by rfl) gy
 have h2:=h.cellV evb hkv h1 (j:=5) (u:=Bb false) (z:=⟨⟨false,v.l[k].g.sp,v.l[k].g.t,false,v.l[k].g.s⟩,v.l[k].ss,v.l[k].cap⟩) (by omega) (by rfl) (aE gy nb)
 have h3:=h.cellV evb hkv h2 (j:=1) (u:=Bb (cn v.l[k].g.sp).n) (z:=⟨⟨false,⟨(cn v.l[k].g.sp).n,v.l[k].g.sp.lo,v.l[k].g.sp.hi⟩,v.l[k].g.t,false,v.l[k].g.s⟩,v.l[k].ss,v.l[k].cap⟩) (by omega) (by rfl) (aE (aE gy nb) nb)
 have h4:=h.cellV evb hkv h3 (j:=2) (u:=I Y (cn v.l[k].g.sp).lo) (z:=⟨⟨false,⟨(cn v.l[k].g.sp).n,(cn v.l[k].g.sp).lo,v.l[k].g.sp.hi⟩,v.l[k].g.t,false,v.l[k].g.s⟩,v.l[k].ss,v.l[k].cap⟩) (by omega) (by rfl) (aE (aE (aE gy nb) nb) nb)
 have h5:=h.cellV evb hkv h4 (j:=3) (u:=I Y (cn v.l[k].g.sp).hi) (z:=⟨⟨false,⟨(cn v.l[k].g.sp).n,(cn v.l[k].g.sp).lo,(cn v.l[k].g.sp).hi⟩,v.l[k].g.t,false,v.l[k].g.s⟩,v.l[k].ss,v.l[k].cap⟩) (by omega) (by rfl) (aE (aE (aE (aE gy nb) nb) nb) nb)
 have HPOST:Hid (∃v' gs' gc' L',lk n sb eb w.heap.size (((((w2.setCell ⟨vb,k * 7,nO⟩ (Bb false)).setCell ⟨vb,k * 7+5,nO⟩ (Bb false)).setCell ⟨vb,k * 7+1,nO⟩ (Bb (cn v.l[k].g.sp).n)).setCell ⟨vb,k * 7+2,nO⟩ (I Y (cn v.l[k].g.sp).lo)).setCell ⟨vb,k * 7+3,nO⟩ (I Y (cn v.l[k].g.sp).hi)) xb v' gs' gc' L' (bd x i.a (cW (gAt x i.a)))):=by
  refine⟨⟨v.rs,v.rc,v.l.set k ⟨cW v.l[k].g,v.l[k].ss,v.l[k].cap⟩⟩,gs,gcc,L,zxb,?_,h5,(Off.same (gZ (by simp))).2 OF,?_⟩
  ·simp only[j6]
   exact((((A2.far nxv _).far nxv _).far nxv _).far nxv _).far nxv _
  ·rw[kr,EX,ek,←ek,ega]
 have HBEL:Hid (Below w.heap.size wx (((((w2.setCell ⟨vb,k * 7,nO⟩ (Bb false)).setCell ⟨vb,k * 7+5,nO⟩ (Bb false)).setCell ⟨vb,k * 7+1,nO⟩ (Bb (cn v.l[k].g.sp).n)).setCell ⟨vb,k * 7+2,nO⟩ (I Y (cn v.l[k].g.sp).lo)).setCell ⟨vb,k * 7+3,nO⟩ (I Y (cn v.l[k].g.sp).hi))):=((((hbw.setCell hvb _).setCell hvb _).setCell hvb _).setCell hvb _).setCell hvb _
 clear h0 h1 h2 h3 h4 h5 h gy nb A2 GU hbw EX OF ega ek
 go_wp2
 first|go_end0|refine bodyPost_ret (results_none rfl _ _ _) rfl ?_
 exact⟨rfl,HPOST.out,HBEL.out⟩
theorem Kz (n sb:Nat)(eb:Option Nat)(i:Ins)(V F:Int)(s:Option Addr)(c:List Ins)(cap:Nat)(at_:Int)(x:Pic)(vs:Option Addr)(vc:Nat)(fs:Option Addr)(fc:Nat)(ev:Value)(wr fl:Bool)(pb:Nat)(w:World)(hS:Cells w sb (aP i V F s c cap at_ x vs vc fs fc ev wr fl))(hP:Cells w pb [Pp (sO ⟨sb,0,nO⟩)])(hsp:(gAt x i.a).sp.Ok)(hk:∃k:Nat,i.a=k∧k < x.vars.length):
  fP 158 (λp=>#[p,Pp (sO ⟨pb,0,nO⟩)]) n sb eb w x (bd x i.a (da (gAt x i.a))):=by
 intro wx xb v gs gcc L hb0 hp
 obtain⟨zxb,A0,G0,OF,EX⟩:=hp
 have hdr:Below wx.heap.size wx wx.drew:=(bR _ _).drew
 have hb:=hb0.drew
 have A:=A0.call hdr
 have G:=G0.call hdr
 have hbd:Below w.heap.size wx wx.drew:=hdr.mono (lT hb0.size (lR _))
 have hsz:Hid (w.heap.size≤wx.heap.size):=hb0.size
 clear hb0 A0 G0 hdr
 obtain⟨k,ek,hkx⟩:=hk
 have hkv:k < v.l.length:=by rw[←EX] at hkx;simpa[bP,roG] using hkx
 have ega:gAt x i.a=v.l[k].g:=by rw[←EX,ek,tU hkv]
 obtain⟨vb,evb,eb1,hvb,zvb⟩:=G.vars.form (by omega)
 have nxv:xb≠vb:=λe=>OF.1 (by rw[eb1,e])
 have n0:(0:Int)≤(k:Int):=by omega
 have n1:(k:Int) < (v.l.length:Int):=by omega
 have A1:=A.1 1 _ rfl
 rw[evb] at A1
 have S1:=(hS.call hb).1 2 _ rfl
 rw[ek] at S1
 have P1:=(hP.call hb).1 0 _ rfl
 have HKZ:Hid (wx.drew.cell? ⟨xb,1,nO⟩=sO (U (sO ⟨vb,0,nO⟩) v.l.length v.rc)∧wx.drew.cell? ⟨pb,0,nO⟩=sO (Pp (sO ⟨sb,0,nO⟩))∧wx.drew.cell? ⟨sb,2,nO⟩=sO (I Y (k:Int))):=⟨A1,P1,S1⟩
 have HOK:Hid (v.l[k].g.sp.Ok):=by show _;rw[←ega];exact hsp
 clear A1 S1 P1 hS hP hsp
 go_enter Tryz.func158,Tryz.ntmps158
 go_upto_region 0 with fail
 refine au (S:=(λwx=>wx.cell? ⟨xb,1,nO⟩=sO (U (sO ⟨vb,0,nO⟩) v.l.length v.rc)∧wx.cell? ⟨pb,0,nO⟩=sO (Pp (sO ⟨sb,0,nO⟩))∧wx.cell? ⟨sb,2,nO⟩=sO (I Y (k:Int)))) [] (by kernel_rfl) HKZ.out (λhHeld=> ?_)
 generalize wx.drew=wq at *
 refine vZ 0 ?_ ?_
 refine vZ 1 ?_ ?_
 refine vZ 2 ?_ ?_
 refine vZ 3 ?_ ?_
 refine vZ 4 ?_ ?_
 refine vZ 5 ?_ ?_
 refine vZ 6 ?_ ?_
 refine vZ 7 ?_ ?_
 refine vZ 8 ?_ ?_
 refine vZ 9 ?_ ?_
 refine vZ 10 ?_ ?_
 refine aq (by kernel_rfl) ?_ _
 have h:=G
 have GU:=h.vars.gu evb hkv
 have TH:=aa (h.vars.thaw evb)
 obtain⟨⟨q0,q1,q2,q3,q4,q5,q6⟩,qz⟩:=id GU
 have f4:=TH.out (k * 7+4)
 have f6:=TH.out (k * 7+6)
 have nb:¬(λq=>ClT n sb eb xb q∧Off v (j0 gs L.length gcc).ownBlock L q) vb:=λq=>q.2.1 eb1
 have gy:=h.sv _ (gM hkv)
 have gn:cd (λq=>ClT n sb eb xb q∧Off v (j0 gs L.length gcc).ownBlock L q) wq (⟨⟨v.l[k].g.n,v.l[k].g.sp,false,v.l[k].g.f,[]⟩,nO,0⟩:Gc):=⟨.inl rfl,lR _,j5 _⟩
 have h0:PicG (ClT n sb eb xb) w.heap.size wq ⟨v.rs,v.rc,v.l.set k v.l[k]⟩ gs gcc L:=by rw[j2];exact h
 have h1:=h.cellV evb hkv h0 (j:=4) (u:=Bb false) (z:=⟨⟨v.l[k].g.n,v.l[k].g.sp,false,v.l[k].g.f,v.l[k].g.s⟩,v.l[k].ss,v.l[k].cap⟩) (by omega) (by rfl) gy
 have h2:=h.cellV evb hkv h1 (j:=6) (u:=U nO 0 0) (z:=⟨⟨v.l[k].g.n,v.l[k].g.sp,false,v.l[k].g.f,[]⟩,nO,0⟩) (by omega) (by rfl) (aE gn nb)
 have hbw:Below w.heap.size wx ((wq.setCell ⟨vb,k * 7+4,nO⟩ (Bb false)).setCell ⟨vb,k * 7+6,nO⟩ (U nO 0 0)):=(hbd.setCell hvb _).setCell hvb _
 have A2:=(A.far nxv (Bb false) (a:=⟨vb,k * 7+4,nO⟩)).far nxv (U nO 0 0) (a:=⟨vb,k * 7+6,nO⟩)
 clear GU hbd gy gn h1 h0 A G
 have HH:=aa (And.intro h2 (And.intro hbw A2))
 clear h2 hbw A2
 go_upto_region 2 with fail
 generalize eW:((wq.setCell ⟨vb,k * 7+4,nO⟩ (Bb false)).setCell ⟨vb,k * 7+6,nO⟩ (U nO 0 0))=w1 at *
 obtain⟨h2,hbw,A2⟩:=HH.out
 clear q0 q1 q2 q3 q4 q5 q6 qz TH f4 f6 HH eW
 have GU:=h2.vars.gu (b:=vb) evb (k:=k) (by simpa using hkv)
 simp only[j7] at GU
 obtain⟨⟨q0,q1,q2,q3,q4,q5,q6⟩,qz⟩:=id GU
 go_wp2_with (go_at_call 159;fail)
 refine(iV v.l[k].g.sp ⟨false,0,0⟩ w1).mono ?_
 rintro e w2 ⟨rfl,hb2⟩
 have eok:br v.l[k].g.sp ⟨false,0,0⟩=0:=ckSps_ok.2 ⟨HOK.out,by simp[Sp.Ok,aV]⟩
 rw[eok]
 have h3:=h2.call hb2
 have A3:=A2.call hb2
 have hbw2:=hbw.trans (hb2.mono (lT hsz.out hbw.size))
 clear q0 q1 q2 q3 q4 q5 q6 qz GU A2 hb2 hbw h2 eok
 have GU:=h3.vars.gu (b:=vb) evb (k:=k) (by simpa using hkv)
 simp only[j7] at GU
 have TH:=aa (h3.vars.thaw (b:=vb) evb)
 obtain⟨⟨q0,q1,q2,q3,q4,q5,q6⟩,qz⟩:=id GU
 have f1:=TH.out (k * 7+1)
 have f2:=TH.out (k * 7+2)
 have f3:=TH.out (k * 7+3)
 have gm:cd (λq=>ClT n sb eb xb q∧Off v (j0 gs L.length gcc).ownBlock L q) w2 (⟨⟨v.l[k].g.n,v.l[k].g.sp,false,v.l[k].g.f,[]⟩,nO,0⟩:Gc):=⟨.inl rfl,lR _,j5 _⟩
 have h4:=h.cellV evb hkv h3 (j:=1) (u:=Bb (aR v.l[k].g.sp ⟨false,0,0⟩).n) (z:=⟨⟨v.l[k].g.n,⟨(aR v.l[k].g.sp ⟨false,0,0⟩).n,v.l[k].g.sp.lo,v.l[k].g.sp.hi⟩,false,v.l[k].g.f,[]⟩,nO,0⟩) (by omega) (by rfl) gm
 have h5:=h.cellV evb hkv h4 (j:=2) (u:=I Y (aR v.l[k].g.sp ⟨false,0,0⟩).lo) (z:=⟨⟨v.l[k].g.n,⟨(aR v.l[k].g.sp ⟨false,0,0⟩).n,(aR v.l[k].g.sp ⟨false,0,0⟩).lo,v.l[k].g.sp.hi⟩,false,v.l[k].g.f,[]⟩,nO,0⟩) (by omega) (by rfl) (aE gm nb)
 have h6:=h.cellV evb hkv h5 (j:=3) (u:=I Y (aR v.l[k].g.sp ⟨false,0,0⟩).hi) (z:=⟨⟨v.l[k].g.n,⟨(aR v.l[k].g.sp ⟨false,0,0⟩).n,(aR v.l[k].g.sp ⟨false,0,0⟩).lo,(aR v.l[k].g.sp ⟨false,0,0⟩).hi⟩,false,v.l[k].g.f,[]⟩,nO,0⟩) (by omega) (by rfl) (aE (aE gm nb) nb)
 have HPOST:Hid (∃v' gs' gc' L',lk n sb eb w.heap.size (((w2.setCell ⟨vb,k * 7+1,nO⟩ (Bb (aR v.l[k].g.sp ⟨false,0,0⟩).n)).setCell ⟨vb,k * 7+2,nO⟩ (I Y (aR v.l[k].g.sp ⟨false,0,0⟩).lo)).setCell ⟨vb,k * 7+3,nO⟩ (I Y (aR v.l[k].g.sp ⟨false,0,0⟩).hi)) xb v' gs' gc' L' (bd x i.a (da (gAt x i.a)))):=by
  refine⟨⟨v.rs,v.rc,v.l.set k ⟨da v.l[k].g,nO,0⟩⟩,gs,gcc,L,zxb,?_,?_,(Off.same (gZ (by simp))).2 OF,?_⟩
  ·simp only[j6]
   exact((A3.far nxv _).far nxv _).far nxv _
  ·have e:da v.l[k].g=⟨v.l[k].g.n,(aR v.l[k].g.sp ⟨false,0,0⟩),false,v.l[k].g.f,[]⟩:=by rw[CX];rfl
   rw[e]
   exact h6
  ·rw[kr,EX,ek,←ek,ega]
 have HBEL:Hid (Below w.heap.size wx (((w2.setCell ⟨vb,k * 7+1,nO⟩ (Bb (aR v.l[k].g.sp ⟨false,0,0⟩).n)).setCell ⟨vb,k * 7+2,nO⟩ (I Y (aR v.l[k].g.sp ⟨false,0,0⟩).lo)).setCell ⟨vb,k * 7+3,nO⟩ (I Y (aR v.l[k].g.sp ⟨false,0,0⟩).hi))):=((hbw2.setCell hvb _).setCell hvb _).setCell hvb _
 clear h3 h4 h5 h6 h gm nb A3 GU hbw2 EX OF ega ek
 go_wp2
 first|go_end0|refine bodyPost_ret (results_none rfl _ _ _) rfl ?_
 exact⟨rfl,HPOST.out,HBEL.out⟩
def cw (sb:Nat)(w:World)(cs:Value→List Value)(EL:List Ed)(l:List Edg):Prop:=∃ev QL,Cells w sb (cs ev)∧ERow sb sb w ev (EL++QL)∧QL.map edG=l
theorem SCtx.spA {V F:Int}{c:List Ins}{x:Pic}{vc fc:Nat}{i:Ins}{at_:Int}(K:SCtx V F c x vc fc i at_)(hA:nA i.k=true):(gAt x i.a).sp.Ok:=by
 obtain⟨k,ek,hk⟩:=K.varA hA
 rw[ek,kL hk]
 exact(ckGs_iff.1 (K.kx.gv _ (gM hk))).1
theorem sj {p:Prop}(h:p:=by
 go_wp2_with (go_at_call 93;fail)
 refine(HE.out w2 hbw hP2).mono ?_
 rintro e w3 ⟨rfl,⟨ev',q,C3,E3,eq3⟩,hb3⟩
 have HF:Hid (cw sb w3 (λev'=>aP i V F s c cap at_ x vs vc fs fc ev' wr fl) EL [⟨ta,xx⟩]):=⟨ev',[q],C3,E3,by simp[eq3]⟩
 have hbz:Below sb w w3:=(hbw.mono (Nat.le_of_lt hsb)).trans hb3
 clear C3 E3 eq3 hb3 hP2 p0 HE HN
 go_wp2
 first|go_end0|refine bodyPost_ret (results_none rfl _ _ _) rfl ?_
 exact⟨rfl,HF.out,hbz⟩):p:=h
theorem td (ta:Int)(EL:List Ed)(es:Option Addr)(ec:Nat)(sb:Nat)(i:Ins)(V F:Int)(s:Option Addr)(c:List Ins)(cap:Nat)(at_:Int)(x:Pic)(vs:Option Addr)(vc:Nat)(fs:Option Addr)(fc:Nat)(wr fl:Bool)(w0 w:World)(hS:Cells w sb (aP i V F s c cap at_ x vs vc fs fc (U es EL.length ec) wr fl))(hc0:CodeAt w0 s c)(hx0:PicAt w0 x vs fs)(hz0:w0.heap.size≤sb)(hB0:Below w0.heap.size w0 w)(K:SCtx V F c x vc fc i at_)(hER:ERow sb sb w (U es EL.length ec) EL)(hL2:EL.length≤10)(hA:nA i.k=true):
  Calls pG 90 #[Pp (sO ⟨sb,0,nO⟩),I Y ta] w λe w'=>e=Rt (Tu #[])∧cw sb w' (λev'=>aP i V F s c cap at_ x vs vc fs fc ev' wr fl) EL (if ca (gAt x i.a) then [⟨ta,bd x i.a (cW (gAt x i.a))⟩] else [])∧Below sb w w':=by
 have hsb:=hS.2.1
 have hb1:Below w.heap.size w (w.alloc (Cc #[Pp (sO ⟨sb,0,nO⟩)] 150)):=by go_grown
 have hP1:Cells (w.alloc (Cc #[Pp (sO ⟨sb,0,nO⟩)] 150)) w.heap.size [Pp (sO ⟨sb,0,nO⟩)]:=Cells.new w 150 [Pp (sO ⟨sb,0,nO⟩)]
 have HT:Hid (∀wx,Below w.heap.size w wx→Calls pG 95 #[Pp (sO ⟨sb,0,nO⟩)] wx λe w'=>e=Rt (Tu #[Bb (ca (gAt x i.a)),Bb (cT (gAt x i.a))])∧Below wx.heap.size wx w'):=λwx hb=>mE sb i V F s c cap at_ x vs vc fs fc _ wr fl wx (hS.call hb) (hc0.below (hB0.trans (hb.mono hB0.size)) (lR _)) (hx0.below (hB0.trans (hb.mono hB0.size)) (lR _)) K hA
 have HE:Hid (∀wx,Below w.heap.size w wx→Cells wx w.heap.size [Pp (sO ⟨sb,0,nO⟩)]→Calls pG 93 #[Pp (sO ⟨sb,0,nO⟩),I Y ta,.func (.func 156) #[] #[Pp (sO ⟨w.heap.size,0,nO⟩)]] wx λe w'=>e=Rt (Tu #[])∧(∃ev' q,Cells w' sb (aP i V F s c cap at_ x vs vc fs fc ev' wr fl)∧ERow sb sb w' ev' (EL++[q])∧edG q=⟨ta,bd x i.a (cW (gAt x i.a))⟩)∧Below sb wx w'):=λwx hb hp=>
  Ev sb ta _ w.heap.size EL es ec sb i V F s c cap at_ x vs vc fs fc wr fl w0 wx (hS.call hb) hc0 hx0 hz0 (hB0.trans (hb.mono hB0.size)) K rfl (hER.call hb) hL2 (Io sb sb _ i V F s c cap at_ x vs vc fs fc _ wr fl w.heap.size wx (hS.call hb) hp (K.spA hA) (K.varA hA))
 have HN:Hid (Cells w sb (aP i V F s c cap at_ x vs vc fs fc (U es EL.length ec) wr fl)∧ERow sb sb w (U es EL.length ec) EL):=⟨hS,hER⟩
 clear hS hER hc0 hx0 hB0 K hz0
 generalize hy:ca (gAt x i.a)=yy at *
 generalize hn:cT (gAt x i.a)=nn at *
 clear hy hn
 generalize hpic:bd x i.a (cW (gAt x i.a))=xx at *
 clear hpic
 go_enter Tryz.func90,Tryz.ntmps90
 go_wp2_with (go_at_call 95;fail)
 refine(HT.out _ hb1).mono ?_
 rintro e w2 ⟨rfl,hb2⟩
 have hP2:=hP1.call hb2
 have hbw:Below w.heap.size w w2:=hb1.trans (hb2.mono hb1.size)
 have p0:=hP2.1 0 _ rfl
 clear hP1 hb2 hb1 HT
 cases yy with
 |false=>
  go_wp2
  first|go_end0|refine bodyPost_ret (results_none rfl _ _ _) rfl ?_
  exact⟨rfl,⟨_,[],HN.out.1.call hbw,by rw[j4];exact HN.out.2.call hbw,rfl⟩,hbw.mono (j1 hsb)⟩
 |true=>
  exact sj
theorem Aa (ta:Int)(EL:List Ed)(es:Option Addr)(ec:Nat)(sb:Nat)(i:Ins)(V F:Int)(s:Option Addr)(c:List Ins)(cap:Nat)(at_:Int)(x:Pic)(vs:Option Addr)(vc:Nat)(fs:Option Addr)(fc:Nat)(wr fl:Bool)(w0 w:World)(hS:Cells w sb (aP i V F s c cap at_ x vs vc fs fc (U es EL.length ec) wr fl))(hc0:CodeAt w0 s c)(hx0:PicAt w0 x vs fs)(hz0:w0.heap.size≤sb)(hB0:Below w0.heap.size w0 w)(K:SCtx V F c x vc fc i at_)(hER:ERow sb sb w (U es EL.length ec) EL)(hL2:EL.length≤10)(hA:nA i.k=true):
  Calls pG 91 #[Pp (sO ⟨sb,0,nO⟩),I Y ta] w λe w'=>e=Rt (Tu #[])∧cw sb w' (λev'=>aP i V F s c cap at_ x vs vc fs fc ev' wr fl) EL (if cT (gAt x i.a) then [⟨ta,bd x i.a (da (gAt x i.a))⟩] else [])∧Below sb w w':=by
 have hsb:=hS.2.1
 have hb1:Below w.heap.size w (w.alloc (Cc #[Pp (sO ⟨sb,0,nO⟩)] 150)):=by go_grown
 have hP1:Cells (w.alloc (Cc #[Pp (sO ⟨sb,0,nO⟩)] 150)) w.heap.size [Pp (sO ⟨sb,0,nO⟩)]:=Cells.new w 150 [Pp (sO ⟨sb,0,nO⟩)]
 have HT:Hid (∀wx,Below w.heap.size w wx→Calls pG 95 #[Pp (sO ⟨sb,0,nO⟩)] wx λe w'=>e=Rt (Tu #[Bb (ca (gAt x i.a)),Bb (cT (gAt x i.a))])∧Below wx.heap.size wx w'):=λwx hb=>mE sb i V F s c cap at_ x vs vc fs fc _ wr fl wx (hS.call hb) (hc0.below (hB0.trans (hb.mono hB0.size)) (lR _)) (hx0.below (hB0.trans (hb.mono hB0.size)) (lR _)) K hA
 have HE:Hid (∀wx,Below w.heap.size w wx→Cells wx w.heap.size [Pp (sO ⟨sb,0,nO⟩)]→Calls pG 93 #[Pp (sO ⟨sb,0,nO⟩),I Y ta,.func (.func 158) #[] #[Pp (sO ⟨w.heap.size,0,nO⟩)]] wx λe w'=>e=Rt (Tu #[])∧(∃ev' q,Cells w' sb (aP i V F s c cap at_ x vs vc fs fc ev' wr fl)∧ERow sb sb w' ev' (EL++[q])∧edG q=⟨ta,bd x i.a (da (gAt x i.a))⟩)∧Below sb wx w'):=λwx hb hp=>
  Gy sb ta _ w.heap.size EL es ec sb i V F s c cap at_ x vs vc fs fc wr fl w0 wx (hS.call hb) hc0 hx0 hz0 (hB0.trans (hb.mono hB0.size)) K rfl (hER.call hb) hL2 (Kz sb sb _ i V F s c cap at_ x vs vc fs fc _ wr fl w.heap.size wx (hS.call hb) hp (K.spA hA) (K.varA hA))
 have HN:Hid (Cells w sb (aP i V F s c cap at_ x vs vc fs fc (U es EL.length ec) wr fl)∧ERow sb sb w (U es EL.length ec) EL):=⟨hS,hER⟩
 clear hS hER hc0 hx0 hB0 K hz0
 generalize hy:ca (gAt x i.a)=yy at *
 generalize hn:cT (gAt x i.a)=nn at *
 clear hy hn
 generalize hpic:bd x i.a (da (gAt x i.a))=xx at *
 clear hpic
 go_enter Tryz.func91,Tryz.ntmps91
 go_wp2_with (go_at_call 95;fail)
 refine(HT.out _ hb1).mono ?_
 rintro e w2 ⟨rfl,hb2⟩
 have hP2:=hP1.call hb2
 have hbw:Below w.heap.size w w2:=hb1.trans (hb2.mono hb1.size)
 have p0:=hP2.1 0 _ rfl
 clear hP1 hb2 hb1 HT
 cases nn with
 |false=>
  go_wp2
  first|go_end0|refine bodyPost_ret (results_none rfl _ _ _) rfl ?_
  exact⟨rfl,⟨_,[],HN.out.1.call hbw,by rw[j4];exact HN.out.2.call hbw,rfl⟩,hbw.mono (j1 hsb)⟩
 |true=>
  exact sj
theorem FQ (g:Gs):cB g bX=aB g:=by
 obtain⟨n,⟨sn,lo,hi⟩,t,f,s⟩:=g
 cases s with
 |nil=>cases n<;>cases sn<;>cases t<;>cases f<;>simp[cB,bX,aB,aW,eK,Sp.has]
 |cons a r=>cases n<;>cases sn<;>cases t<;>cases f<;>simp[cB,bX,aB,aW,eK,Sp.has]
theorem Gv (g:Gs)(ss:Option Addr)(gc:Nat)(EL:List Ed)(es:Option Addr)(ec:Nat)(sb:Nat)(i:Ins)(V F:Int)(s:Option Addr)(c:List Ins)(cap:Nat)(at_:Int)(x:Pic)(vs:Option Addr)(vc:Nat)(fs:Option Addr)(fc:Nat)(wr fl:Bool)(w0 w:World)(hS:Cells w sb (aP i V F s c cap at_ x vs vc fs fc (U es EL.length ec) wr fl))(hc0:CodeAt w0 s c)(hx0:PicAt w0 x vs fs)(hz0:w0.heap.size≤sb)(hB0:Below w0.heap.size w0 w)(K:SCtx V F c x vc fc i at_)(hER:ERow sb sb w (U es EL.length ec) EL)(hL2:EL.length≤10)(hI:IntsIn (λb=>sb≤b∧b≠sb∧(j0 es EL.length ec).ownBlock≠sO b) w ss g.s)(h1:g.s.length≤gc)(h2:gc≤maxLen)(hg:aC c g=0)(hT:nTo i.k=true):
  Calls pG 97 #[Pp (sO ⟨sb,0,nO⟩),Ag #[Bb g.n,Bb g.sp.n,I Y g.sp.lo,I Y g.sp.hi,Bb g.t,Bb g.f,U ss g.s.length gc]] w λe w'=>e=Rt (Tu #[])∧cw sb w' (λev'=>aP i V F s c cap at_ x vs vc fs fc ev' wr fl) EL (if aB g then [] else [⟨at_+1,bd x i.tgt g⟩])∧Below sb w w':=by
 have hsb:=hS.2.1
 have ha0:=K.a0
 have ha1:at_≤1000:=by have:=K.a1;have:=K.lens;omega
 have hb1:Below w.heap.size w ((w.alloc (Cc #[Pp (sO ⟨sb,0,nO⟩)] 150)).alloc (Cc #[Bb g.n,Bb g.sp.n,I Y g.sp.lo,I Y g.sp.hi,Bb g.t,Bb g.f,U ss g.s.length gc] 91)).drew:=(show Below w.heap.size w ((w.alloc (Cc #[Pp (sO ⟨sb,0,nO⟩)] 150)).alloc (Cc #[Bb g.n,Bb g.sp.n,I Y g.sp.lo,I Y g.sp.hi,Bb g.t,Bb g.f,U ss g.s.length gc] 91)) by go_grown).drew
 have hP1:Cells ((w.alloc (Cc #[Pp (sO ⟨sb,0,nO⟩)] 150)).alloc (Cc #[Bb g.n,Bb g.sp.n,I Y g.sp.lo,I Y g.sp.hi,Bb g.t,Bb g.f,U ss g.s.length gc] 91)).drew w.heap.size [Pp (sO ⟨sb,0,nO⟩)]:=((Cells.new w 150 [Pp (sO ⟨sb,0,nO⟩)]).call (by go_grown)).call (bR _ _).drew
 have hG1:Cells ((w.alloc (Cc #[Pp (sO ⟨sb,0,nO⟩)] 150)).alloc (Cc #[Bb g.n,Bb g.sp.n,I Y g.sp.lo,I Y g.sp.hi,Bb g.t,Bb g.f,U ss g.s.length gc] 91)).drew (w.heap.size+1) [Bb g.n,Bb g.sp.n,I Y g.sp.lo,I Y g.sp.hi,Bb g.t,Bb g.f,U ss g.s.length gc]:=by
  have h:=(Cells.new (w.alloc (Cc #[Pp (sO ⟨sb,0,nO⟩)] 150)) 91 [Bb g.n,Bb g.sp.n,I Y g.sp.lo,I Y g.sp.hi,Bb g.t,Bb g.f,U ss g.s.length gc]).call (bR _ _).drew
  rw[zA] at h
  exact h
 have HWI:Hid (∀wx,Below w.heap.size w wx→Calls pG 161 #[pv V F s c cap,gv g ss gc,gv bX nO 0] wx λe w'=>e=Rt (Tu #[Bb (aB g),I Y 0])∧Below wx.heap.size wx w'):=λwx hb=>by
  rw[←FQ]
  exact rT V F s c cap g ss gc bX nO 0 wx (hc0.below (hB0.trans (hb.mono hB0.size)) (lR _)) (hI.at.call hb) h1 h2 (.inl rfl) (lR _) (j5 _) (K.duo hg rfl)
 have HE:Hid (∀wx,Below w.heap.size w wx→Cells wx w.heap.size [Pp (sO ⟨sb,0,nO⟩)]→Cells wx (w.heap.size+1) [Bb g.n,Bb g.sp.n,I Y g.sp.lo,I Y g.sp.hi,Bb g.t,Bb g.f,U ss g.s.length gc]→Calls pG 93 #[Pp (sO ⟨sb,0,nO⟩),I Y (at_+1),.func (.func 162) #[] #[Pp (sO ⟨w.heap.size+1,0,nO⟩),Pp (sO ⟨w.heap.size,0,nO⟩)]] wx λe w'=>e=Rt (Tu #[])∧(∃ev' q,Cells w' sb (aP i V F s c cap at_ x vs vc fs fc ev' wr fl)∧ERow sb sb w' ev' (EL++[q])∧edG q=⟨at_+1,bd x i.tgt g⟩)∧Below sb wx w'):=λwx hb hp hq=>
  Ex sb (at_+1) _ (w.heap.size+1) w.heap.size EL es ec sb i V F s c cap at_ x vs vc fs fc wr fl w0 wx (hS.call hb) hc0 hx0 hz0 (hB0.trans (hb.mono hB0.size)) K rfl (hER.call hb) hL2 (Is sb sb _ i V F s c cap at_ x vs vc fs fc _ wr fl (w.heap.size+1) w.heap.size g ss gc wx (hS.call hb) hp hq ((hI.call hb)) h1 h2 (K.varTo hT))
 have HN:Hid (∀wx,Below w.heap.size w wx→Cells wx sb (aP i V F s c cap at_ x vs vc fs fc (U es EL.length ec) wr fl)∧ERow sb sb wx (U es EL.length ec) EL):=λwx hb=>⟨hS.call hb,hER.call hb⟩
 clear hER hc0 hx0 hB0 K hz0 hI hg hT
 generalize ePB:w.heap.size=pb at hP1 hG1 HE hb1 ⊢
 generalize eGB:pb+1=gb at hG1 HE ⊢
 have HKZ:Hid (∀wx,Below pb w wx→Cells wx pb [Pp (sO ⟨sb,0,nO⟩)]→Cells wx gb [Bb g.n,Bb g.sp.n,I Y g.sp.lo,I Y g.sp.hi,Bb g.t,Bb g.f,U ss g.s.length gc]→wx.cell? ⟨pb,0,nO⟩=sO (Pp (sO ⟨sb,0,nO⟩))∧(wx.cell? ⟨sb,6,nO⟩=sO (I Y V)∧wx.cell? ⟨sb,7,nO⟩=sO (I Y F)∧wx.cell? ⟨sb,8,nO⟩=sO (U s c.length cap))∧(wx.cell? ⟨gb,0,nO⟩=sO (Bb g.n)∧wx.cell? ⟨gb,1,nO⟩=sO (Bb g.sp.n)∧wx.cell? ⟨gb,2,nO⟩=sO (I Y g.sp.lo)∧wx.cell? ⟨gb,3,nO⟩=sO (I Y g.sp.hi)∧wx.cell? ⟨gb,4,nO⟩=sO (Bb g.t)∧wx.cell? ⟨gb,5,nO⟩=sO (Bb g.f)∧wx.cell? ⟨gb,6,nO⟩=sO (U ss g.s.length gc))):=λwx hb hp hq=>by
  rw[←ePB] at hb
  have h:=hS.call hb
  exact⟨hp.1 0 _ rfl,⟨h.1 6 _ rfl,h.1 7 _ rfl,h.1 8 _ rfl⟩,⟨hq.1 0 _ rfl,hq.1 1 _ rfl,hq.1 2 _ rfl,hq.1 3 _ rfl,hq.1 4 _ rfl,hq.1 5 _ rfl,hq.1 6 _ rfl⟩⟩
 clear hS
 subst eGB
 subst ePB
 generalize ex:bd x i.tgt g=xx at *
 generalize ey:aB g=yy at *
 clear ex ey
 go_enter Tryz.func97,Tryz.ntmps97
 go_upto_region 1 with fail
 refine au (S:=(λwx=>wx.cell? ⟨w.heap.size,0,nO⟩=sO (Pp (sO ⟨sb,0,nO⟩))∧(wx.cell? ⟨sb,6,nO⟩=sO (I Y V)∧wx.cell? ⟨sb,7,nO⟩=sO (I Y F)∧wx.cell? ⟨sb,8,nO⟩=sO (U s c.length cap))∧(wx.cell? ⟨w.heap.size+1,0,nO⟩=sO (Bb g.n)∧wx.cell? ⟨w.heap.size+1,1,nO⟩=sO (Bb g.sp.n)∧wx.cell? ⟨w.heap.size+1,2,nO⟩=sO (I Y g.sp.lo)∧wx.cell? ⟨w.heap.size+1,3,nO⟩=sO (I Y g.sp.hi)∧wx.cell? ⟨w.heap.size+1,4,nO⟩=sO (Bb g.t)∧wx.cell? ⟨w.heap.size+1,5,nO⟩=sO (Bb g.f)∧wx.cell? ⟨w.heap.size+1,6,nO⟩=sO (U ss g.s.length gc)))) [] (by kernel_rfl) (HKZ.out _ hb1 hP1 hG1) (λhHeld=> ?_)
 generalize ((w.alloc (Cc #[Pp (sO ⟨sb,0,nO⟩)] 150)).alloc (Cc #[Bb g.n,Bb g.sp.n,I Y g.sp.lo,I Y g.sp.hi,Bb g.t,Bb g.f,U ss g.s.length gc] 91)).drew=w1 at *
 refine vZ 0 ?_ ?_
 refine vZ 1 ?_ ?_
 refine vZ 2 ?_ ?_
 refine vZ 3 ?_ ?_
 refine vZ 4 ?_ ?_
 refine vZ 5 ?_ ?_
 refine vZ 6 ?_ ?_
 refine an (i:=7) rfl (by kernel_rfl) (λK hK=> ?_)
 go_simp
 refine(HWI.out w1 hb1).mono ?_
 rintro e w2 ⟨rfl,hb2⟩
 have hbw:Below w.heap.size w w2:=hb1.trans (hb2.mono hb1.size)
 have hP2:=hP1.call hb2
 have hG2:=hG1.call hb2
 refine hK.out _ _ (HKZ.out w2 hbw hP2 hG2) (λhHeld=> ?_)
 clear hK K hb1 hb2 hP1 hG1
 refine sm ?_
 refine vZ 8 ?_ ?_
 refine vZ 9 ?_ ?_
 refine vZ 10 ?_ ?_
 refine vZ 11 ?_ ?_
 refine vZ 12 ?_ ?_
 refine aq (by kernel_rfl) ?_ _
 cases yy with
 |true=>
  have HF:Hid (cw sb w2 (λev'=>aP i V F s c cap at_ x vs vc fs fc ev' wr fl) EL []):=⟨_,[],(HN.out w2 hbw).1,by rw[j4];exact(HN.out w2 hbw).2,rfl⟩
  clear HE HKZ HWI
  go_wp2
  first|go_end0|refine bodyPost_ret (results_none rfl _ _ _) rfl ?_
  exact⟨rfl,HF.out,hbw.mono (j1 hsb)⟩
 |false=>
  have hbq:=hbw.drew
  have hPq:=hP2.call (bR _ _).drew
  have hGq:=hG2.call (bR _ _).drew
  have PQ:=hPq.1 0 _ rfl
  have CQ:=(HN.out _ hbq).1
  clear HN HKZ HWI hP2 hG2 hbw
  go_upto_region 3 with fail
  refine au (S:=(λwx=>wx.cell? ⟨w.heap.size,0,nO⟩=sO (Pp (sO ⟨sb,0,nO⟩)))) [4] (by kernel_rfl) PQ (λhHeld=> ?_)
  generalize w2.drew=wq at *
  refine vZ 0 ?_ ?_
  refine vZ 1 ?_ ?_
  refine vZ 3 ?_ ?_
  refine an (i:=2) rfl (by kernel_rfl) (λK hK=> ?_)
  go_simp
  refine(iF sb at_ _ wq CQ rfl ha0 ha1).mono ?_
  rintro e w' ⟨rfl,ew⟩
  rw[ew]
  clear ew w'
  refine hK.out _ _ PQ (λhHeld=> ?_)
  clear hK K
  refine sm ?_
  refine aL (i:=4) rfl (by kernel_rfl) (by kernel_rfl) (λK hK=> ?_)
  go_simp
  refine(HE.out wq hbq hPq hGq).mono ?_
  rintro e w3 ⟨rfl,⟨ev',q,C3,E3,eq3⟩,hb3⟩
  have HF:Hid (cw sb w3 (λev'=>aP i V F s c cap at_ x vs vc fs fc ev' wr fl) EL [⟨at_+1,xx⟩]):=⟨ev',[q],C3,E3,by simp[eq3]⟩
  have hbz:Below sb w w3:=(hbq.mono (j1 hsb)).trans hb3
  clear C3 E3 eq3 hb3 hPq hGq HE PQ CQ hbq
  refine hK.out _ _ ?_
  clear hK K
  refine sm ?_
  refine aq (by kernel_rfl) ?_ _
  first|go_end0|refine bodyPost_ret (results_none rfl _ _ _) rfl ?_
  exact⟨rfl,HF.out,hbz⟩
theorem wn (x':Pic)(EL:List Ed)(es:Option Addr)(ec:Nat)(sb:Nat)(i:Ins)(V F:Int)(s:Option Addr)(c:List Ins)(cap:Nat)(at_:Int)(x:Pic)(vs:Option Addr)(vc:Nat)(fs:Option Addr)(fc:Nat)(wr fl:Bool)(w0 w:World)(hS:Cells w sb (aP i V F s c cap at_ x vs vc fs fc (U es EL.length ec) wr fl))(hc0:CodeAt w0 s c)(hx0:PicAt w0 x vs fs)(hz0:w0.heap.size≤sb)(hB0:Below w0.heap.size w0 w)(K:SCtx V F c x vc fc i at_)(hER:ERow sb sb w (U es EL.length ec) EL)(hL2:EL.length≤10)(HC:∀wx,Below w.heap.size w wx→Cells wx sb (aP i V F s c cap at_ x vs vc fs fc (U es EL.length ec) wr fl)→Cells wx w.heap.size [Pp (sO ⟨sb,0,nO⟩)]→fP 153 (λp=>#[p,Pp (sO ⟨w.heap.size,0,nO⟩)]) sb sb (j0 es EL.length ec).ownBlock wx x x'):
  Calls pG 88 #[Pp (sO ⟨sb,0,nO⟩)] w λe w'=>e=Rt (Tu #[])∧cw sb w' (λev'=>aP i V F s c cap at_ x vs vc fs fc ev' wr fl) EL ([⟨at_+1,x'⟩])∧Below sb w w':=by
 have hsb:=hS.2.1
 have ha0:=K.a0
 have ha1:at_≤1000:=by have:=K.a1;have:=K.lens;omega
 have hb1:Below w.heap.size w (w.alloc (Cc #[Pp (sO ⟨sb,0,nO⟩)] 150)):=by go_grown
 have hP1:Cells (w.alloc (Cc #[Pp (sO ⟨sb,0,nO⟩)] 150)) w.heap.size [Pp (sO ⟨sb,0,nO⟩)]:=Cells.new w 150 [Pp (sO ⟨sb,0,nO⟩)]
 have hbw:=hb1.drew
 have hP2:=hP1.call (bR _ _).drew
 have PQ:=hP2.1 0 _ rfl
 have PQ0:=PQ
 have HE:Hid (∀wx,Below w.heap.size w wx→Cells wx w.heap.size [Pp (sO ⟨sb,0,nO⟩)]→Calls pG 93 #[Pp (sO ⟨sb,0,nO⟩),I Y (at_+1),.func (.func 153) #[] #[Pp (sO ⟨w.heap.size,0,nO⟩)]] wx λe w'=>e=Rt (Tu #[])∧(∃ev' q,Cells w' sb (aP i V F s c cap at_ x vs vc fs fc ev' wr fl)∧ERow sb sb w' ev' (EL++[q])∧edG q=⟨at_+1,x'⟩)∧Below sb wx w'):=λwx hb hp=>
  Fp sb (at_+1) _ w.heap.size EL es ec sb i V F s c cap at_ x vs vc fs fc wr fl w0 wx (hS.call hb) hc0 hx0 hz0 (hB0.trans (hb.mono hB0.size)) K rfl (hER.call hb) hL2 (HC wx hb (hS.call hb) hp)
 have CQ:=hS.call hbw
 clear hS hER hc0 hx0 hB0 K hz0 hP1 hb1 HC
 generalize x'=xx at *
 go_enter Tryz.func88,Tryz.ntmps88
 go_upto_region 1 with fail
 refine au (S:=(λwx=>wx.cell? ⟨w.heap.size,0,nO⟩=sO (Pp (sO ⟨sb,0,nO⟩)))) [4] (by kernel_rfl) PQ0 (λhHeld=> ?_)
 generalize (w.alloc (Cc #[Pp (sO ⟨sb,0,nO⟩)] 150)).drew=wq at *
 refine vZ 0 ?_ ?_
 refine vZ 1 ?_ ?_
 refine vZ 3 ?_ ?_
 refine an (i:=2) rfl (by kernel_rfl) (λK hK=> ?_)
 go_simp
 refine(iF sb at_ _ wq CQ rfl ha0 ha1).mono ?_
 rintro e w' ⟨rfl,ew⟩
 rw[ew]
 clear ew w'
 refine hK.out _ _ PQ (λhHeld=> ?_)
 clear hK K
 refine sm ?_
 refine aL (i:=4) rfl (by kernel_rfl) (by kernel_rfl) (λK hK=> ?_)
 go_simp
 refine(HE.out wq hbw hP2).mono ?_
 rintro e w3 ⟨rfl,⟨ev',q,C3,E3,eq3⟩,hb3⟩
 have HF:Hid (cw sb w3 (λev'=>aP i V F s c cap at_ x vs vc fs fc ev' wr fl) EL [⟨at_+1,xx⟩]):=⟨ev',[q],C3,E3,by simp[eq3]⟩
 have hbz:Below sb w w3:=(hbw.mono (j1 hsb)).trans hb3
 clear C3 E3 eq3 hb3 hP2 HE PQ CQ hbw
 refine hK.out _ _ ?_
 clear hK K
 refine sm ?_
 refine aq (by kernel_rfl) ?_ _
 first|go_end0|refine bodyPost_ret (results_none rfl _ _ _) rfl ?_
 exact⟨rfl,HF.out,hbz⟩
theorem IB (x':Pic)(EL:List Ed)(es:Option Addr)(ec:Nat)(sb:Nat)(i:Ins)(V F:Int)(s:Option Addr)(c:List Ins)(cap:Nat)(at_:Int)(x:Pic)(vs:Option Addr)(vc:Nat)(fs:Option Addr)(fc:Nat)(wr fl:Bool)(w0 w:World)(hS:Cells w sb (aP i V F s c cap at_ x vs vc fs fc (U es EL.length ec) wr fl))(hc0:CodeAt w0 s c)(hx0:PicAt w0 x vs fs)(hz0:w0.heap.size≤sb)(hB0:Below w0.heap.size w0 w)(K:SCtx V F c x vc fc i at_)(hER:ERow sb sb w (U es EL.length ec) EL)(hL2:EL.length≤10)(hA:nA i.k=true)(HC:∀wx ss gc tb,Below w0.heap.size w0 wx→Cells wx sb (aP i V F s c cap at_ x vs vc fs fc (U es EL.length ec) (bI (gAt x i.a)) fl)→Cells wx w.heap.size [Pp (sO ⟨sb,0,nO⟩)]→Cells wx tb [U ss (gAt x i.a).s.length gc]→IntsAt w0 ss (gAt x i.a).s→fP 155 (λp=>#[p,Pp (sO ⟨tb,0,nO⟩),Pp (sO ⟨w.heap.size,0,nO⟩)]) sb sb (j0 es EL.length ec).ownBlock wx x x'):
  Calls pG 89 #[Pp (sO ⟨sb,0,nO⟩)] w λe w'=>e=Rt (Tu #[])∧cw sb w' (λev'=>aP i V F s c cap at_ x vs vc fs fc ev' (bI (gAt x i.a)) fl) EL (if (gAt x i.a).s.length=0 then [] else [⟨at_+1,x'⟩])∧Below sb w w':=by
 have hsb:=hS.2.1
 have ha0:=K.a0
 have ha1:at_≤1000:=by have:=K.a1;have:=K.lens;omega
 have hb1:Below w.heap.size w (w.alloc (Cc #[Pp (sO ⟨sb,0,nO⟩)] 150)):=by go_grown
 have hP1:Cells (w.alloc (Cc #[Pp (sO ⟨sb,0,nO⟩)] 150)) w.heap.size [Pp (sO ⟨sb,0,nO⟩)]:=Cells.new w 150 [Pp (sO ⟨sb,0,nO⟩)]
 have HT:=aa (rA sb i V F s c cap at_ x vs vc fs fc _ wr fl w0 (w.alloc (Cc #[Pp (sO ⟨sb,0,nO⟩)] 150)) (hS.call hb1) hc0 hx0 hz0 (hB0.trans (hb1.mono hB0.size)) K hA)
 have HE:Hid (∀wx,Below w0.heap.size w0 wx→Cells wx sb (aP i V F s c cap at_ x vs vc fs fc (U es EL.length ec) (bI (gAt x i.a)) fl)→ERow sb sb wx (U es EL.length ec) EL→∀tb ss gc,IntsAt w0 ss (gAt x i.a).s→Cells wx w.heap.size [Pp (sO ⟨sb,0,nO⟩)]→Cells wx tb [U ss (gAt x i.a).s.length gc]→Calls pG 93 #[Pp (sO ⟨sb,0,nO⟩),I Y (at_+1),.func (.func 155) #[] #[Pp (sO ⟨tb,0,nO⟩),Pp (sO ⟨w.heap.size,0,nO⟩)]] wx λe w'=>e=Rt (Tu #[])∧(∃ev' q,Cells w' sb (aP i V F s c cap at_ x vs vc fs fc ev' (bI (gAt x i.a)) fl)∧ERow sb sb w' ev' (EL++[q])∧edG q=⟨at_+1,x'⟩)∧Below sb wx w'):=λwx hb hs hr tb ss gc hi hp hq=>
  FB sb (at_+1) _ tb w.heap.size EL es ec sb i V F s c cap at_ x vs vc fs fc _ fl w0 wx hs hc0 hx0 hz0 hb K rfl hr hL2 (HC wx ss gc tb hb hs hp hq hi)
 have hER1:=hER.call hb1
 have hB1:=hB0.trans (hb1.mono hB0.size)
 have hzz:=aa hz0
 clear hS hER hc0 hx0 hB0 K hz0 HC hA
 generalize x'=xx at *
 generalize eN:bI (gAt x i.a)=nt at *
 clear eN
 generalize eL:(gAt x i.a).s=l at *
 clear eL
 generalize eM:l.length=ln at *
 go_enter Tryz.func89,Tryz.ntmps89
 go_wp2_with (go_at_call 154;fail)
 generalize eW:w.alloc (Cc #[Pp (sO ⟨sb,0,nO⟩)] 150)=w1 at *
 refine HT.out.mono ?_
 rintro e w2 ⟨⟨ss,gc,rfl,hi,hl1,hl2⟩,C2,M2⟩
 have hP2:Cells w2 w.heap.size [Pp (sO ⟨sb,0,nO⟩)]:=hP1.same (M2.2 _ hP1.2.1 (Nat.ne_of_gt hsb)) M2.1.size
 have hE2:=hER1.same (λb _ hne hlt=>M2.2 b hlt hne) M2.1.size
 have hB2:Below w0.heap.size w0 w2:=hB1.trans (M2.1.mono hzz.out)
 have hM2:Below sb w w2:=(hb1.mono (j1 hsb)).trans M2.1
 clear hP1 hER1 hB1 hb1 M2 HT eW
 have hb3:Below w2.heap.size w2 (w2.alloc (Cc #[U ss ln gc] 34)):=by go_grown
 have T3:Cells (w2.alloc (Cc #[U ss ln gc] 34)) w2.heap.size [U ss ln gc]:=Cells.new w2 34 [U ss ln gc]
 have hzb:sb≤w2.heap.size:=j1 C2.2.1
 have C3:=C2.call hb3
 have P3:=hP2.call hb3
 have R3:=hE2.call hb3
 have B3:=hB2.trans (hb3.mono hB2.size)
 have M3:=hM2.trans (hb3.mono hzb)
 have HE3:=aa (λwx h1 h2 h3=>HE.out wx h1 h2 h3 w2.heap.size ss gc hi)
 clear HE C2 hP2 hE2 hB2 hM2 hzb hi hb3
 have t0:=T3.1 0 _ rfl
 have p0:=P3.1 0 _ rfl
 have HH:=aa (And.intro C3 (And.intro P3 (And.intro R3 (And.intro B3 (And.intro M3 T3)))))
 clear C3 P3 R3 B3 M3 T3
 have HQ:Hid (l.length=ln):=eM
 clear eM
 rcases Nat.eq_zero_or_pos ln with hz|hz
 ·subst hz
  obtain⟨C3,P3,R3,B3,M3,T3⟩:=HH.out
  have HF:Hid (cw sb (w2.alloc (Cc #[U ss 0 gc] 34)) (λev'=>aP i V F s c cap at_ x vs vc fs fc ev' nt fl) EL []):=⟨_,[],C3,by rw[j4];exact R3,rfl⟩
  have hbz:Below sb w (w2.alloc (Cc #[U ss 0 gc] 34)):=M3
  clear C3 P3 R3 B3 M3 T3 HE3 HH
  go_wp2
  first|go_end0|refine bodyPost_ret (results_none rfl _ _ _) rfl ?_
  exact⟨rfl,HF.out,hbz⟩
 ·have hc:((ln:Int)==0)=false:=by simp;omega
  have hn:¬ln=0:=by omega
  have HNZ:=aa hn
  clear hn hz
  go_upto_region 3 with fail
  generalize eW:w2.alloc (Cc #[U ss ln gc] 34)=w3 at *
  clear eW
  obtain⟨C3,P3,R3,B3,M3,T3⟩:=HH.out
  have hdr:Below w3.heap.size w3 w3.drew:=(bR _ _).drew
  have CQ:=C3.call hdr
  have hPq:=P3.call hdr
  have hRq:=R3.call hdr
  have hBq:=B3.drew
  have hMq:=M3.drew
  have hTq:=T3.call hdr
  have PQ:=hPq.1 0 _ rfl
  clear C3 P3 R3 B3 M3 T3 HH hdr t0 p0
  refine au (S:=(λwx=>wx.cell? ⟨w.heap.size,0,nO⟩=sO (Pp (sO ⟨sb,0,nO⟩)))) [4] (by kernel_rfl) PQ (λhHeld=> ?_)
  generalize w3.drew=wq at *
  refine vZ 0 ?_ ?_
  refine vZ 1 ?_ ?_
  refine vZ 3 ?_ ?_
  refine an (i:=2) rfl (by kernel_rfl) (λK hK=> ?_)
  go_simp
  refine(iF sb at_ _ wq CQ rfl ha0 ha1).mono ?_
  rintro e w' ⟨rfl,ew⟩
  rw[ew]
  clear ew w'
  refine hK.out _ _ PQ (λhHeld=> ?_)
  clear hK K
  refine sm ?_
  refine aL (i:=4) rfl (by kernel_rfl) (by kernel_rfl) (λK hK=> ?_)
  go_simp
  refine(HE3.out wq hBq CQ hRq hPq hTq).mono ?_
  rintro e w4 ⟨rfl,⟨ev',q,C3,E3,eq3⟩,hb3⟩
  have HF:Hid (cw sb w4 (λev'=>aP i V F s c cap at_ x vs vc fs fc ev' nt fl) EL [⟨at_+1,xx⟩]):=⟨ev',[q],C3,E3,by simp[eq3]⟩
  have hbz:Below sb w w4:=hMq.trans hb3
  clear C3 E3 eq3 hb3 hPq hTq HE3 PQ CQ hMq hBq hRq
  refine hK.out _ _ ?_
  clear hK K
  refine sm ?_
  refine aq (by kernel_rfl) ?_ _
  first|go_end0|refine bodyPost_ret (results_none rfl _ _ _) rfl ?_
  exact⟨rfl,by rw[if_neg HNZ.out];exact HF.out,hbz⟩
end
section
open Go.RowKit
def pT (y:Gc):Gc:=⟨{y.g with n:=true},y.ss,y.cap⟩
def gE (j:Nat)(l:List Gc):List Gc:=(l.take j).map pT++l.drop j
theorem gN (j:Nat)(l:List Gc):(gE j l).length=l.length:=by simp[gE];omega
theorem FU {j:Nat}{l:List Gc}(h:j < l.length):(gE j l)[j]'(by rw[gN];exact h)=l[j]:=by
 simp only[gE]
 rw[List.getElem_append_right (by simp;omega)]
 simp only[List.length_map,List.length_take,List.getElem_drop]
 congr 1
 omega
theorem DQ {j:Nat}{l:List Gc}(h:j < l.length):(gE j l).set j (pT l[j])=gE (j+1) l:=by
 unfold gE
 rw[List.set_append_right _ _ (by simp;omega),j8 h,List.map_append,List.append_assoc,List.drop_eq_getElem_cons h]
 have e:j - (List.map pT (l.take j)).length=0:=by simp;omega
 rw[e]
 rfl
theorem EH {j:Nat}{l:List Gc}(h:l.length≤j):gE j l=l.map pT:=by simp[gE,List.take_of_length_le h,List.drop_of_length_le h]
theorem Dc (l:List Gc):gE 0 l=l:=by simp[gE]
def dy (L:List Ro)(m j:Nat)(hm:m < L.length):List Ro:=L.set m ⟨L[m].rs,L[m].rc,gE j L[m].l⟩
theorem iH (L:List Ro)(m j:Nat)(hm:m < L.length):(dy L m j hm).length=L.length:=by simp[dy]
theorem pY (L:List Ro)(m j:Nat)(hm:m < L.length):(dy L m j hm)[m]'(by rw[iH];exact hm)=⟨L[m].rs,L[m].rc,gE j L[m].l⟩:=by simp[dy]
theorem Dz (L:List Ro)(m:Nat)(hm:m < L.length):dy L m 0 hm=L:=by
 unfold dy
 rw[Dc]
 exact j2 hm
theorem EQ (L:List Ro)(m j:Nat)(hm:m < L.length):roV ((dy L m j hm)[m]'(by rw[iH];exact hm))=U L[m].rs L[m].l.length L[m].rc:=by rw[pY];unfold roV;rw[gN]
theorem Ey (L:List Ro)(m j:Nat)(hm:m < L.length):(dy L m j hm).map roB=L.map roB:=by
 unfold dy
 rw[j3,gZ (v:=L[m]) (gN _ _),←j9 (f:=roB) (h:=by simpa using hm),j2]
section
variable {T:Nat→Prop} {B:Nat} {w:World} {v:Ro} {fs:Option Addr} {fc:Nat} {L:List Ro} {m j b:Nat}
theorem PicG.nul {hm:m < L.length}(h:PicG T B w v fs fc (dy L m j hm))(hb:L[m].rs=sO ⟨b,0,nO⟩)(hj:j < L[m].l.length):PicG T B (w.setCell ⟨b,j * 7,nO⟩ (Bb true)) v fs fc (dy L m (j+1) hm):=by
 have hm':m < (dy L m j hm).length:=by rw[iH];exact hm
 have e0:=pY L m j hm
 have hk:j < (dy L m j hm)[m].l.length:=by rw[e0];simpa[gN] using hj
 have e1:(dy L m j hm)[m].l[j]=L[m].l[j]:=by
  have:∀(r:Ro) (hr:(dy L m j hm)[m]=r) (h':j < r.l.length),(dy L m j hm)[m].l[j]=r.l[j]:=by intro r hr h';subst hr;rfl
  rw[this _ e0 (by simpa[gN] using hj)]
  exact FU hj
 have g1:=h.sf _ (gM hm') _ (gM hk)
 rw[e1] at g1
 have h1:=h.putF hm' (b:=b) (by rw[e0];exact hb) (k:=j) (j:=0) (u:=Bb true) (x':=pT L[m].l[j]) hk (by omega) (by rw[e1];rfl) ⟨g1.1,g1.2⟩
 rw[e0] at h1
 have e2:(dy L m j hm).set m ⟨L[m].rs,L[m].rc,(gE j L[m].l).set j (pT L[m].l[j])⟩=dy L m (j+1) hm:=by
  rw[DQ hj]
  unfold dy
  rw[List.set_set]
 rw[e2] at h1
 exact h1
theorem nulR_off {hm:m < L.length}{fb:Option Nat}{q:Nat}:Off v fb (dy L m j hm) q↔Off v fb L q:=by
 have:(∀r∈dy L m j hm,roB r≠sO q)↔∀r∈L,roB r≠sO q:=by
  have h1:∀l:List Ro,(∀r∈l,roB r≠sO q)↔∀o∈l.map roB,o≠sO q:=λl=>by simp
  rw[h1,h1,Ey]
 unfold Off
 rw[this]
theorem Fk {hm:m < L.length}{n:Bool}(hj:L[m].l.length≤j):bP n v (dy L m j hm)=fg (m:Int) (bP n v L):=by
 unfold dy bP fg
 rw[EH hj]
 simp only[j3,roG,Int.toNat_natCast,List.map_map]
 congr 1
 refine q7 λq=> ?_
 rw[q8,q9]
 by_cases e:m=q
 ·subst e
  simp[hm,roG,pT,Function.comp_def]
 ·simp[e]
end
theorem sW {c:List Ins}{g h:Gs}(h60:c.length≤60)(hg:aC c g=0)(hh:aC c h=0):dh bq g h=ae false g h:=by
 have a:=du h60 hg
 have b:=du h60 hh
 have e:cA [g,h]=gj g.s h.s:=mi g h a.1 b.1
 unfold dh ae
 rw[e]
 rfl
theorem yP {x:Pic}{n:Int}{b:Gs}{l:List Int}{j:Nat}(h:j < l.length):cN x n b (l.take (j+1))=gH (cN x n b (l.take j)) l[j] n (ae false (fAt (cN x n b (l.take j)) l[j] n) b):=by
 unfold cN
 rw[j8 h,List.foldl_append]
 rfl
theorem By {n:Bool}{v:Ro}{L:List Ro}{m p:Nat}{z:Gc}(hm:m < L.length):bP n v (L.set m ⟨L[m].rs,L[m].rc,L[m].l.set p z⟩)=gH (bP n v L) (m:Int) (p:Int) z.g:=by
 unfold bP gH
 simp only[j3,Int.toNat_natCast]
 congr 1
 refine q7 λq=> ?_
 rw[q8,q9]
 by_cases e:m=q
 ·subst e
  simp[hm,roG,j3]
 ·simp[e]
theorem ul {n:Bool}{v:Ro}{L:List Ro}{m p:Nat}(hm:m < L.length)(hp:p < L[m].l.length):fAt (bP n v L) (m:Int) (p:Int)=L[m].l[p].g:=by
 unfold fAt bP roG
 simp[List.getD,hm,hp]
theorem CS {V F:Int}{c:List Ins}{n:Bool}{v:Ro}{L:List Ro}(h:PicOk V F c (bP n v L)):L.length=c.length∧∀m (hm:m < L.length),(L[m].l.length:Int)=F:=by
 refine⟨by simpa[bP] using h.flds,λm hm=> ?_⟩
 have:=h.row m (by simpa[bP] using hm)
 simpa[bP,roG] using this
theorem FJ {v:Ro}{fb:Option Nat}{L:List Ro}{m q:Nat}{l:List Gc}(hm:m < L.length)(hl:l.length=L[m].l.length):Off v fb (L.set m ⟨L[m].rs,L[m].rc,l⟩) q↔Off v fb L q:=by
 have e:(L.set m ⟨L[m].rs,L[m].rc,l⟩).map roB=L.map roB:=by
  rw[j3,gZ (v:=L[m]) hl,←j9 (f:=roB) (h:=by simpa using hm),j2]
 have:(∀r∈L.set m ⟨L[m].rs,L[m].rc,l⟩,roB r≠sO q)↔∀r∈L,roB r≠sO q:=by
  have h1:∀l:List Ro,(∀r∈l,roB r≠sO q)↔∀o∈l.map roB,o≠sO q:=λl=>by simp
  rw[h1,h1,e]
 unfold Off
 rw[this]
theorem Fb {n sb H:Nat}{eb:Option Nat}{w w':World}{xb:Nat}{v:Ro}{gs:Option Addr}{gc:Nat}{L:List Ro}{y:Gc}(hi:IntsAt w' y.ss y.g.s)(hf:∀a,y.ss=sO a→w.heap.size≤a.block)(h1:y.g.s.length≤y.cap)(h2:y.cap≤maxLen)(G:PicG (ClT n sb eb xb) H w v gs gc L)(hx:xb < w.heap.size)(hs:sb < w.heap.size)(hn:n≤w.heap.size)(he:∀b,eb=sO b→b < w.heap.size):cd (λb=>ClT n sb eb xb b∧Off v (j0 gs L.length gc).ownBlock L b) w' y:=by
 refine⟨?_,h1,h2⟩
 rcases hi with hi|⟨b,off,e,hb,hc⟩
 ·exact .inl hi
 ·have hz:w.heap.size≤b:=hf _ e
  refine .inr ⟨b,off,e,⟨⟨by omega,by omega,by omega,λe=>by have:=he _ e;omega⟩,λe=> ?_,λe=> ?_,λr hr e=> ?_⟩,hb,hc⟩
  ·have:=(G.vars.lt e).1;omega
  ·have:=(bo G.flds e).1;omega
  ·have:=((G.rows r hr).lt e).1;omega
end
end Go.Proofs.YtmapdpcfanecdabGreatDoor
