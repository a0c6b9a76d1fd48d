import Derived.Test.YtmapdpcfanecdabGreatDoorM51
open Go.Ending renaming returned→Rt
open Go.IntKind renaming i64→Y
open Go.Obj renaming cells→Cc
open Go.Proofs.Tryz renaming prog→pG
open Go.RowKit.Below renaming refl→bR
open Go.Value renaming bool→Bb,int→I,pointer→Pp,slice→U,tuple→Tu
open List renaming length_cons→j7,length_nil→j8,length_set→j6
open Nat renaming le_refl→lR
open Option renaming none→nO,some→sO
set_option linter.unusedSimpArgs false
set_option linter.unusedVariables false
set_option maxHeartbeats 16000000
set_option maxRecDepth 100000
namespace Go.Proofs.YtmapdpcfanecdabGreatDoor
section
open Go.RowKit
attribute [local go_sem ↓] Go.wp_at_zero Go.wp_at_succ
def gI (V F:Int)(c:List Ins)(at_:Int)(x:Pic):Int:=if aJ V F c [x]=0 then(if at_ < 0∨(c.length:Int)≤at_ then 5 else 0) else aJ V F c [x]
def io (V F:Int)(c:List Ins)(at_:Int)(x:Pic):List Edg×Bool×Bool:=if gI V F c at_ x=0 then aA (aO c at_) at_ x else([],false,false)
def vV (B:Nat)(w':World)(e:Ending)(r:List Edg×Bool×Bool)(er:Int):Prop:=∃es ec,e=Rt (Tu #[U es r.1.length ec,Bb r.2.1,Bb r.2.2,I Y er])∧EdsOn (λb=>B≤b) w' es r.1
theorem Co {V F:Int}{c:List Ins}{x:Pic}(h:aJ V F c [x]=0):ai V F c=0∧aK V F c x=0:=by
 unfold aJ at h
 by_cases h0:ai V F c=0
 ·rw[if_pos h0] at h
  unfold cy at h
  by_cases h1:aK V F c x=0
  ·exact⟨h0,h1⟩
  ·rw[if_neg h1] at h;exact absurd h h1
 ·rw[if_neg h0] at h;exact absurd h h0
theorem kF {p:Prop}(h:p:=by
 have h:=Cells.new (w.alloc (.cells #[.int .i64 V,.int .i64 F,.slice s c.length cap] 24)) 28 [.bool x.none,.slice vs x.vars.length vc,.slice fs x.flds.length fc]
 rw[World.size_alloc] at h
 exact h):p:=h
theorem Db (V F:Int)(s:Option Addr)(c:List Ins)(cap:Nat)(at_:Int)(x:Pic)(vs:Option Addr)(vc:Nat)(fs:Option Addr)(fc:Nat)(w:World)(hc:CodeAt w s c)(hx:PicAt w x vs fs)(h1:x.vars.length≤vc∧vc≤maxLen)(h2:x.flds.length≤fc∧fc≤maxLen)(hu:aJ V F c [x]≠0):
  Calls pG 15 #[pv V F s c cap,I Y at_,xv x vs vc fs fc] w λe w'=>vV w.heap.size w' e ([],false,false) (aJ V F c [x])∧Below w.heap.size w w':=by
 have hb0:Below w.heap.size w ((w.alloc (Cc #[I Y V,I Y F,U s c.length cap] 24)).alloc (Cc #[Bb x.none,U vs x.vars.length vc,U fs x.flds.length fc] 28)):=by go_grown
 have P0:Cells ((w.alloc (Cc #[I Y V,I Y F,U s c.length cap] 24)).alloc (Cc #[Bb x.none,U vs x.vars.length vc,U fs x.flds.length fc] 28)) w.heap.size [I Y V,I Y F,U s c.length cap]:=(Cells.new w 24 [I Y V,I Y F,U s c.length cap]).call (by go_grown)
 have X0:Cells ((w.alloc (Cc #[I Y V,I Y F,U s c.length cap] 24)).alloc (Cc #[Bb x.none,U vs x.vars.length vc,U fs x.flds.length fc] 28)) (w.heap.size+1) [Bb x.none,U vs x.vars.length vc,U fs x.flds.length fc]:=by
  exact kF
 have HC:=aa (kw V F s c cap x vs vc fs fc ((w.alloc (Cc #[I Y V,I Y F,U s c.length cap] 24)).alloc (Cc #[Bb x.none,U vs x.vars.length vc,U fs x.flds.length fc] 28)) (hc.below hb0 (lR _)) (hx.below hb0 (lR _)) h1 h2)
 generalize aJ V F c [x]=u at *
 have hub:(u !=0)=true:=by simpa using hu
 clear hu hc hx
 go_enter Tryz.func15,Tryz.ntmps15
 go_wp2_with (go_at_call 41;fail)
 refine HC.out.mono ?_
 rintro e w1 ⟨rfl,hb1⟩
 generalize ((w.alloc (Cc #[I Y V,I Y F,U s c.length cap] 24)).alloc (Cc #[Bb x.none,U vs x.vars.length vc,U fs x.flds.length fc] 28))=w0 at *
 have B1:=hb0.trans (hb1.mono hb0.size)
 have P1:=P0.call hb1
 have X1:=X0.call hb1
 clear P0 X0 hb0 hb1 HC
 go_wp2
 refine bodyPost_ret (v:=Tu #[U nO 0 0,Bb false,Bb false,I Y u]) (by simp[results,Tryz.results15,go_sem]) rfl ⟨⟨nO,0,rfl,EdsOn.nil⟩,B1⟩
theorem Am (V F:Int)(s:Option Addr)(c:List Ins)(cap:Nat)(at_:Int)(x:Pic)(vs:Option Addr)(vc:Nat)(fs:Option Addr)(fc:Nat)(w:World)(hc:CodeAt w s c)(hx:PicAt w x vs fs)(h1:x.vars.length≤vc∧vc≤maxLen)(h2:x.flds.length≤fc∧fc≤maxLen)(hu:aJ V F c [x]=0)(hr:at_ < 0∨(c.length:Int)≤at_):
  Calls pG 15 #[pv V F s c cap,I Y at_,xv x vs vc fs fc] w λe w'=>vV w.heap.size w' e ([],false,false) 5∧Below w.heap.size w w':=by
 have hb0:Below w.heap.size w ((w.alloc (Cc #[I Y V,I Y F,U s c.length cap] 24)).alloc (Cc #[Bb x.none,U vs x.vars.length vc,U fs x.flds.length fc] 28)):=by go_grown
 have P0:Cells ((w.alloc (Cc #[I Y V,I Y F,U s c.length cap] 24)).alloc (Cc #[Bb x.none,U vs x.vars.length vc,U fs x.flds.length fc] 28)) w.heap.size [I Y V,I Y F,U s c.length cap]:=(Cells.new w 24 [I Y V,I Y F,U s c.length cap]).call (by go_grown)
 have X0:Cells ((w.alloc (Cc #[I Y V,I Y F,U s c.length cap] 24)).alloc (Cc #[Bb x.none,U vs x.vars.length vc,U fs x.flds.length fc] 28)) (w.heap.size+1) [Bb x.none,U vs x.vars.length vc,U fs x.flds.length fc]:=by
  exact kF
 have HC:=aa (kw V F s c cap x vs vc fs fc ((w.alloc (Cc #[I Y V,I Y F,U s c.length cap] 24)).alloc (Cc #[Bb x.none,U vs x.vars.length vc,U fs x.flds.length fc] 28)) (hc.below hb0 (lR _)) (hx.below hb0 (lR _)) h1 h2)
 rw[hu] at HC
 clear hu hc hx
 go_enter Tryz.func15,Tryz.ntmps15
 go_wp2_with (go_at_call 41;fail)
 refine HC.out.mono ?_
 rintro e w1 ⟨rfl,hb1⟩
 generalize ((w.alloc (Cc #[I Y V,I Y F,U s c.length cap] 24)).alloc (Cc #[Bb x.none,U vs x.vars.length vc,U fs x.flds.length fc] 28))=w0 at *
 have B1:=hb0.trans (hb1.mono hb0.size)
 have P1:=P0.call hb1
 have X1:=X0.call hb1
 clear P0 X0 hb0 hb1 HC
 have p2:=P1.1 2 _ rfl
 by_cases h0:at_ < 0
 ·clear hr
  go_wp2
  refine bodyPost_ret (v:=Tu #[U nO 0 0,Bb false,Bb false,I Y 5]) (by simp[results,Tryz.results15,go_sem]) rfl ⟨⟨nO,0,rfl,EdsOn.nil⟩,B1⟩
 ·have h3:(c.length:Int)≤at_:=by omega
  clear hr
  go_wp2
  refine bodyPost_ret (v:=Tu #[U nO 0 0,Bb false,Bb false,I Y 5]) (by simp[results,Tryz.results15,go_sem]) rfl ⟨⟨nO,0,rfl,EdsOn.nil⟩,B1⟩
theorem Bu (V F:Int)(s:Option Addr)(c:List Ins)(cap:Nat)(at_:Int)(x:Pic)(vs:Option Addr)(vc:Nat)(fs:Option Addr)(fc:Nat)(w:World)(hc:CodeAt w s c)(hx:PicAt w x vs fs)(h1:x.vars.length≤vc∧vc≤maxLen)(h2:x.flds.length≤fc∧fc≤maxLen)(hu:aJ V F c [x]=0)(hr:¬(at_ < 0∨(c.length:Int)≤at_))(hn:x.none=true):
  Calls pG 15 #[pv V F s c cap,I Y at_,xv x vs vc fs fc] w λe w'=>vV w.heap.size w' e ([],false,false) 0∧Below w.heap.size w w':=by
 have hb0:Below w.heap.size w ((w.alloc (Cc #[I Y V,I Y F,U s c.length cap] 24)).alloc (Cc #[Bb x.none,U vs x.vars.length vc,U fs x.flds.length fc] 28)):=by go_grown
 have P0:Cells ((w.alloc (Cc #[I Y V,I Y F,U s c.length cap] 24)).alloc (Cc #[Bb x.none,U vs x.vars.length vc,U fs x.flds.length fc] 28)) w.heap.size [I Y V,I Y F,U s c.length cap]:=(Cells.new w 24 [I Y V,I Y F,U s c.length cap]).call (by go_grown)
 have X0:Cells ((w.alloc (Cc #[I Y V,I Y F,U s c.length cap] 24)).alloc (Cc #[Bb x.none,U vs x.vars.length vc,U fs x.flds.length fc] 28)) (w.heap.size+1) [Bb x.none,U vs x.vars.length vc,U fs x.flds.length fc]:=by
  exact kF
 have HC:=aa (kw V F s c cap x vs vc fs fc ((w.alloc (Cc #[I Y V,I Y F,U s c.length cap] 24)).alloc (Cc #[Bb x.none,U vs x.vars.length vc,U fs x.flds.length fc] 28)) (hc.below hb0 (lR _)) (hx.below hb0 (lR _)) h1 h2)
 rw[hu] at HC
 have HNX:=aa hn
 have r0:¬at_ < 0:=by omega
 have r1:¬(c.length:Int)≤at_:=by omega
 clear hu hc hx hn hr
 go_enter Tryz.func15,Tryz.ntmps15
 go_wp2_with (go_at_call 41;fail)
 refine HC.out.mono ?_
 rintro e w1 ⟨rfl,hb1⟩
 generalize ((w.alloc (Cc #[I Y V,I Y F,U s c.length cap] 24)).alloc (Cc #[Bb x.none,U vs x.vars.length vc,U fs x.flds.length fc] 28))=w0 at *
 have B1:=hb0.trans (hb1.mono hb0.size)
 have P1:=P0.call hb1
 have X1:=X0.call hb1
 clear P0 X0 hb0 hb1 HC
 have p2:=P1.1 2 _ rfl
 have x0:=X1.1 0 _ rfl
 rw[HNX.out] at x0
 go_wp2
 refine bodyPost_ret (v:=Tu #[U nO 0 0,Bb false,Bb false,I Y 0]) (by simp[results,Tryz.results15,go_sem]) rfl ⟨⟨nO,0,rfl,EdsOn.nil⟩,B1⟩
theorem Fq (V F:Int)(s:Option Addr)(c:List Ins)(cap:Nat)(at_:Int)(x:Pic)(vs:Option Addr)(vc:Nat)(fs:Option Addr)(fc:Nat)(w:World)(hc:CodeAt w s c)(hx:PicAt w x vs fs)(h1:x.vars.length≤vc∧vc≤maxLen)(h2:x.flds.length≤fc∧fc≤maxLen)(hu:aJ V F c [x]=0)(hr:¬(at_ < 0∨(c.length:Int)≤at_))(hn:x.none=false):
  Calls pG 15 #[pv V F s c cap,I Y at_,xv x vs vc fs fc] w λe w'=>vV w.heap.size w' e (aA (aO c at_) at_ x) 0∧Below w.heap.size w w':=by
 obtain⟨i,hi⟩:∃i,i=aO c at_:=⟨_,rfl⟩
 rw[←hi]
 obtain⟨k0,kx⟩:=Co hu
 have K:SCtx V F c x vc fc i at_:=⟨k0,bY kx hn,hi,by omega,by omega,h1,h2⟩
 obtain⟨m,em⟩:=Int.eq_ofNat_of_zero_le K.a0
 have ha1:=K.a1
 have hm:m < c.length:=by omega
 have hcm:c[m]=i:=by rw[hi,em];unfold aO;simp[List.getD,hm]
 have HST:Hid (∀sb wx,Cells wx sb (aP i V F s c cap at_ x vs vc fs fc (U nO 0 0) false false)→w.heap.size≤sb→Below w.heap.size w wx→Calls pG 47 #[Pp (sO ⟨sb,0,nO⟩)] wx λe w'=>e=Rt (Tu #[])∧cw sb w' (λev'=>aP i V F s c cap at_ x vs vc fs fc ev' (aA i at_ x).2.1 (aA i at_ x).2.2) [] (aA i at_ x).1∧Below sb wx w'):=λsb wx hs hz hb=>Eh sb i V F s c cap at_ x vs vc fs fc w wx hs hc hx hz hb K
 have HCA:=aa hc
 have r0:¬at_ < 0:=by omega
 have r1:¬(c.length:Int)≤at_:=by omega
 have n0:(0:Int)≤(m:Int):=by omega
 have n1:(m:Int) < (c.length:Int):=by omega
 have HCM:=aa hcm
 have HNX:=aa hn
 have hb0:Below w.heap.size w ((w.alloc (Cc #[I Y V,I Y F,U s c.length cap] 24)).alloc (Cc #[Bb x.none,U vs x.vars.length vc,U fs x.flds.length fc] 28)):=by go_grown
 have P0:Cells ((w.alloc (Cc #[I Y V,I Y F,U s c.length cap] 24)).alloc (Cc #[Bb x.none,U vs x.vars.length vc,U fs x.flds.length fc] 28)) w.heap.size [I Y V,I Y F,U s c.length cap]:=(Cells.new w 24 [I Y V,I Y F,U s c.length cap]).call (by go_grown)
 have X0:Cells ((w.alloc (Cc #[I Y V,I Y F,U s c.length cap] 24)).alloc (Cc #[Bb x.none,U vs x.vars.length vc,U fs x.flds.length fc] 28)) (w.heap.size+1) [Bb x.none,U vs x.vars.length vc,U fs x.flds.length fc]:=by
  exact kF
 have HC:=aa (kw V F s c cap x vs vc fs fc ((w.alloc (Cc #[I Y V,I Y F,U s c.length cap] 24)).alloc (Cc #[Bb x.none,U vs x.vars.length vc,U fs x.flds.length fc] 28)) (hc.below hb0 (lR _)) (hx.below hb0 (lR _)) h1 h2)
 rw[hu] at HC
 clear hu hc hx hn hr hi hcm K kx k0 ha1
 obtain⟨⟨SL,wr,fl⟩,hst⟩:∃q,q=aA i at_ x:=⟨_,rfl⟩
 rw[←hst] at HST ⊢
 clear hst
 go_enter Tryz.func15,Tryz.ntmps15
 go_wp2_with (go_at_call 41;fail)
 refine HC.out.mono ?_
 rintro e w1 ⟨rfl,hb1⟩
 generalize ((w.alloc (Cc #[I Y V,I Y F,U s c.length cap] 24)).alloc (Cc #[Bb x.none,U vs x.vars.length vc,U fs x.flds.length fc] 28))=w0 at *
 have B1:=hb0.trans (hb1.mono hb0.size)
 have P1:=P0.call hb1
 have X1:=X0.call hb1
 clear P0 X0 hb0 hb1 HC
 obtain⟨cb0,co,es,hcb,hci⟩:=HCA.out.get m hm
 obtain⟨j0,j1,j2,j3,j4,j5⟩:=(hci m hm).below B1 hcb
 rw[HCM.out] at j0 j1 j2 j3 j4 j5
 have p2:=P1.1 2 _ rfl
 have x0:=X1.1 0 _ rfl
 rw[HNX.out] at x0
 have hzz:w1.heap.size≤w1.drew.heap.size:=(bR w1.heap.size w1).drew.size
 have D1:Below w1.heap.size w1 w1.drew:=(bR _ _).drew
 have P2:=P1.call D1
 have X2:=X1.call D1
 have B2:=B1.trans (D1.mono B1.size)
 rw[HNX.out] at X2
 have HKZ:Hid (∀wx,Below w1.drew.heap.size w1.drew wx→(wx.cell? ⟨w.heap.size,0,nO⟩=sO (I Y V)∧wx.cell? ⟨w.heap.size,1,nO⟩=sO (I Y F)∧wx.cell? ⟨w.heap.size,2,nO⟩=sO (U (sO ⟨cb0,co,nO⟩) c.length cap))∧(wx.cell? ⟨w.heap.size+1,0,nO⟩=sO (Bb false)∧wx.cell? ⟨w.heap.size+1,1,nO⟩=sO (U vs x.vars.length vc)∧wx.cell? ⟨w.heap.size+1,2,nO⟩=sO (U fs x.flds.length fc))∧(wx.cell? ⟨cb0,co+m * 6,nO⟩=sO (I Y i.k)∧wx.cell? ⟨cb0,co+m * 6+1,nO⟩=sO (I Y i.tgt)∧wx.cell? ⟨cb0,co+m * 6+2,nO⟩=sO (I Y i.a)∧wx.cell? ⟨cb0,co+m * 6+3,nO⟩=sO (I Y i.b)∧wx.cell? ⟨cb0,co+m * 6+4,nO⟩=sO (I Y i.n)∧wx.cell? ⟨cb0,co+m * 6+5,nO⟩=sO (I Y i.g))):=λwx hb=>by
  have p:=P2.call hb
  have q:=X2.call hb
  have bb:=B2.trans (hb.mono B2.size)
  have pp:=p.1 2 _ rfl
  rw[es] at pp
  refine⟨⟨p.1 0 _ rfl,p.1 1 _ rfl,pp⟩,⟨q.1 0 _ rfl,q.1 1 _ rfl,q.1 2 _ rfl⟩,?_⟩
  have:=(hci m hm).below bb hcb
  rw[HCM.out] at this
  exact this
 have HES:=aa es
 clear es hci j0 j1 j2 j3 j4 j5 P1 X1 D1 hzz
 subst em
 go_upto_region 8 with fail
 clear p2 x0 r0 r1
 refine au (S:=(λwx=>(wx.cell? ⟨w.heap.size,0,nO⟩=sO (I Y V)∧wx.cell? ⟨w.heap.size,1,nO⟩=sO (I Y F)∧wx.cell? ⟨w.heap.size,2,nO⟩=sO (U (sO ⟨cb0,co,nO⟩) c.length cap))∧(wx.cell? ⟨w.heap.size+1,0,nO⟩=sO (Bb false)∧wx.cell? ⟨w.heap.size+1,1,nO⟩=sO (U vs x.vars.length vc)∧wx.cell? ⟨w.heap.size+1,2,nO⟩=sO (U fs x.flds.length fc))∧(wx.cell? ⟨cb0,co+m * 6,nO⟩=sO (I Y i.k)∧wx.cell? ⟨cb0,co+m * 6+1,nO⟩=sO (I Y i.tgt)∧wx.cell? ⟨cb0,co+m * 6+2,nO⟩=sO (I Y i.a)∧wx.cell? ⟨cb0,co+m * 6+3,nO⟩=sO (I Y i.b)∧wx.cell? ⟨cb0,co+m * 6+4,nO⟩=sO (I Y i.n)∧wx.cell? ⟨cb0,co+m * 6+5,nO⟩=sO (I Y i.g)))) [10] (by kernel_rfl) (HKZ.out _ (bR _ _)) (λhHeld=> ?_)
 generalize w1.drew=w2 at *
 refine vZ 0 ?_ ?_
 refine vZ 1 ?_ ?_
 refine vZ 2 ?_ ?_
 refine vZ 3 ?_ ?_
 refine vZ 4 ?_ ?_
 refine vZ 5 ?_ ?_
 refine vZ 6 ?_ ?_
 refine vZ 7 ?_ ?_
 refine vZ 8 ?_ ?_
 refine an (i:=9) rfl (by kernel_rfl) (λK hK=> ?_)
 go_simp
 have hb3:Below w2.heap.size w2 (w2.alloc (Cc #[I Y 0,I Y 0,I Y 0,I Y 0,I Y 0,I Y 0,I Y 0,I Y 0,U nO 0 0,I Y 0,Bb false,U nO 0 0,U nO 0 0,U nO 0 0,Bb false,Bb false] 102)):=by go_grown
 have S3:Cells (w2.alloc (Cc #[I Y 0,I Y 0,I Y 0,I Y 0,I Y 0,I Y 0,I Y 0,I Y 0,U nO 0 0,I Y 0,Bb false,U nO 0 0,U nO 0 0,U nO 0 0,Bb false,Bb false] 102)) w2.heap.size [I Y 0,I Y 0,I Y 0,I Y 0,I Y 0,I Y 0,I Y 0,I Y 0,U nO 0 0,I Y 0,Bb false,U nO 0 0,U nO 0 0,U nO 0 0,Bb false,Bb false]:=Cells.new w2 102 [I Y 0,I Y 0,I Y 0,I Y 0,I Y 0,I Y 0,I Y 0,I Y 0,U nO 0 0,I Y 0,Bb false,U nO 0 0,U nO 0 0,U nO 0 0,Bb false,Bb false]
 refine hK.out _ _ (HKZ.out _ hb3) (λhHeld=> ?_)
 clear hK K
 refine sm ?_
 generalize w2.alloc (Cc #[I Y 0,I Y 0,I Y 0,I Y 0,I Y 0,I Y 0,I Y 0,I Y 0,U nO 0 0,I Y 0,Bb false,U nO 0 0,U nO 0 0,U nO 0 0,Bb false,Bb false] 102)=w3 at *
 generalize eSB:w2.heap.size=sb at *
 refine aL (i:=10) rfl (by kernel_rfl) (by kernel_rfl) (λK hK=> ?_)
 have r0:=S3.1 0 _ rfl
 have f0:=S3.2.2 0
 have r1:=S3.1 1 _ rfl
 have f1:=S3.2.2 1
 have r2:=S3.1 2 _ rfl
 have f2:=S3.2.2 2
 have r3:=S3.1 3 _ rfl
 have f3:=S3.2.2 3
 have r4:=S3.1 4 _ rfl
 have f4:=S3.2.2 4
 have r5:=S3.1 5 _ rfl
 have f5:=S3.2.2 5
 have r6:=S3.1 6 _ rfl
 have f6:=S3.2.2 6
 have r7:=S3.1 7 _ rfl
 have f7:=S3.2.2 7
 have r8:=S3.1 8 _ rfl
 have f8:=S3.2.2 8
 have r9:=S3.1 9 _ rfl
 have f9:=S3.2.2 9
 have r10:=S3.1 10 _ rfl
 have f10:=S3.2.2 10
 have r11:=S3.1 11 _ rfl
 have f11:=S3.2.2 11
 have r12:=S3.1 12 _ rfl
 have f12:=S3.2.2 12
 have r13:=S3.1 13 _ rfl
 have f13:=S3.2.2 13
 have r14:=S3.1 14 _ rfl
 have f14:=S3.2.2 14
 have r15:=S3.1 15 _ rfl
 have f15:=S3.2.2 15
 go_simp
 refine hK.out _ _ ?_
 clear hK K r0 f0 r1 f1 r2 f2 r3 f3 r4 f4 r5 f5 r6 f6 r7 f7 r8 f8 r9 f9 r10 f10 r11 f11 r12 f12 r13 f13 r14 f14 r15 f15
 refine sm ?_
 refine aq (by kernel_rfl) ?_ _
 have hs2:w2.heap.size≤sb:=by omega
 have C4:Cells ((((((((((((((((w3.setCell ⟨sb,0,nO⟩ (I Y i.k)).setCell ⟨sb,1,nO⟩ (I Y i.tgt)).setCell ⟨sb,2,nO⟩ (I Y i.a)).setCell ⟨sb,3,nO⟩ (I Y i.b)).setCell ⟨sb,4,nO⟩ (I Y i.n)).setCell ⟨sb,5,nO⟩ (I Y i.g)).setCell ⟨sb,6,nO⟩ (I Y V)).setCell ⟨sb,7,nO⟩ (I Y F)).setCell ⟨sb,8,nO⟩ (U (sO ⟨cb0,co,nO⟩) c.length cap)).setCell ⟨sb,9,nO⟩ (I Y (m:Int))).setCell ⟨sb,10,nO⟩ (Bb false)).setCell ⟨sb,11,nO⟩ (U vs x.vars.length vc)).setCell ⟨sb,12,nO⟩ (U fs x.flds.length fc)).setCell ⟨sb,13,nO⟩ (U nO 0 0)).setCell ⟨sb,14,nO⟩ (Bb false)).setCell ⟨sb,15,nO⟩ (Bb false)) sb (aP i V F s c cap (m:Int) x vs vc fs fc (U nO 0 0) false false):=by
  have h:=((((((((((((((((S3.put 0 (by simp only[j6,j7,j8];omega) (I Y i.k)).put 1 (by simp only[j6,j7,j8];omega) (I Y i.tgt)).put 2 (by simp only[j6,j7,j8];omega) (I Y i.a)).put 3 (by simp only[j6,j7,j8];omega) (I Y i.b)).put 4 (by simp only[j6,j7,j8];omega) (I Y i.n)).put 5 (by simp only[j6,j7,j8];omega) (I Y i.g)).put 6 (by simp only[j6,j7,j8];omega) (I Y V)).put 7 (by simp only[j6,j7,j8];omega) (I Y F)).put 8 (by simp only[j6,j7,j8];omega) (U (sO ⟨cb0,co,nO⟩) c.length cap)).put 9 (by simp only[j6,j7,j8];omega) (I Y (m:Int))).put 10 (by simp only[j6,j7,j8];omega) (Bb false)).put 11 (by simp only[j6,j7,j8];omega) (U vs x.vars.length vc)).put 12 (by simp only[j6,j7,j8];omega) (U fs x.flds.length fc)).put 13 (by simp only[j6,j7,j8];omega) (U nO 0 0)).put 14 (by simp only[j6,j7,j8];omega) (Bb false)).put 15 (by simp only[j6,j7,j8];omega) (Bb false))
  have e:aP i V F s c cap (m:Int) x vs vc fs fc (U nO 0 0) false false=[I Y i.k,I Y i.tgt,I Y i.a,I Y i.b,I Y i.n,I Y i.g,I Y V,I Y F,U (sO ⟨cb0,co,nO⟩) c.length cap,I Y (m:Int),Bb false,U vs x.vars.length vc,U fs x.flds.length fc,U nO 0 0,Bb false,Bb false]:=by unfold aP;rw[HNX.out,HES.out]
  rw[e]
  simp only[List.set_cons_zero,List.set_cons_succ] at h
  exact h
 have B4:Below sb w2 ((((((((((((((((w3.setCell ⟨sb,0,nO⟩ (I Y i.k)).setCell ⟨sb,1,nO⟩ (I Y i.tgt)).setCell ⟨sb,2,nO⟩ (I Y i.a)).setCell ⟨sb,3,nO⟩ (I Y i.b)).setCell ⟨sb,4,nO⟩ (I Y i.n)).setCell ⟨sb,5,nO⟩ (I Y i.g)).setCell ⟨sb,6,nO⟩ (I Y V)).setCell ⟨sb,7,nO⟩ (I Y F)).setCell ⟨sb,8,nO⟩ (U (sO ⟨cb0,co,nO⟩) c.length cap)).setCell ⟨sb,9,nO⟩ (I Y (m:Int))).setCell ⟨sb,10,nO⟩ (Bb false)).setCell ⟨sb,11,nO⟩ (U vs x.vars.length vc)).setCell ⟨sb,12,nO⟩ (U fs x.flds.length fc)).setCell ⟨sb,13,nO⟩ (U nO 0 0)).setCell ⟨sb,14,nO⟩ (Bb false)).setCell ⟨sb,15,nO⟩ (Bb false)):=((((((((((((((((hb3.setCell (lR _) _).setCell (lR _) _).setCell (lR _) _).setCell (lR _) _).setCell (lR _) _).setCell (lR _) _).setCell (lR _) _).setCell (lR _) _).setCell (lR _) _).setCell (lR _) _).setCell (lR _) _).setCell (lR _) _).setCell (lR _) _).setCell (lR _) _).setCell (lR _) _).setCell (lR _) _)
 have hsb:w.heap.size≤sb:=by have:=B2.size;omega
 have BB:=B2.trans (B4.mono hsb)
 clear S3 hb3 B4 HKZ P2 X2
 generalize ((((((((((((((((w3.setCell ⟨sb,0,nO⟩ (I Y i.k)).setCell ⟨sb,1,nO⟩ (I Y i.tgt)).setCell ⟨sb,2,nO⟩ (I Y i.a)).setCell ⟨sb,3,nO⟩ (I Y i.b)).setCell ⟨sb,4,nO⟩ (I Y i.n)).setCell ⟨sb,5,nO⟩ (I Y i.g)).setCell ⟨sb,6,nO⟩ (I Y V)).setCell ⟨sb,7,nO⟩ (I Y F)).setCell ⟨sb,8,nO⟩ (U (sO ⟨cb0,co,nO⟩) c.length cap)).setCell ⟨sb,9,nO⟩ (I Y (m:Int))).setCell ⟨sb,10,nO⟩ (Bb false)).setCell ⟨sb,11,nO⟩ (U vs x.vars.length vc)).setCell ⟨sb,12,nO⟩ (U fs x.flds.length fc)).setCell ⟨sb,13,nO⟩ (U nO 0 0)).setCell ⟨sb,14,nO⟩ (Bb false)).setCell ⟨sb,15,nO⟩ (Bb false))=w4 at *
 go_wp2_with (go_at_call 47;fail)
 refine(HST.out sb w4 C4 hsb BB).mono ?_
 rintro e w5 ⟨rfl,⟨ev,QL,C5,E5,eq5⟩,hb5⟩
 rw[List.nil_append] at E5
 obtain⟨es,ec,rfl,-,-⟩:=E5.form
 have hd:Below w5.heap.size w5 w5.drew:=(bR _ _).drew
 have CD:=C5.call hd
 have ED:=E5.call hd
 have BD:=(BB.trans (hb5.mono hsb)).drew
 have HEQ:=aa eq5
 clear C5 E5 C4 HST eq5
 go_upto_region 10 with fail
 refine au (S:=(λwx=>wx.cell? ⟨sb,13,nO⟩=sO (U es QL.length ec)∧wx.cell? ⟨sb,14,nO⟩=sO (Bb wr)∧wx.cell? ⟨sb,15,nO⟩=sO (Bb fl))) [] (by kernel_rfl) ⟨CD.1 13 _ rfl,CD.1 14 _ rfl,CD.1 15 _ rfl⟩ (λhHeld=> ?_)
 refine vZ 0 ?_ ?_
 refine vZ 1 ?_ ?_
 refine vZ 2 ?_ ?_
 refine vZ 3 ?_ ?_
 refine vZ 4 ?_ ?_
 refine vZ 5 ?_ ?_
 refine vZ 6 ?_ ?_
 refine vZ 7 ?_ ?_
 refine vZ 8 ?_ ?_
 refine vZ 9 ?_ ?_
 refine aq (by kernel_rfl) ?_ _
 go_wp2
 have hl:QL.length=SL.length:=by rw[←HEQ.out];simp
 refine bodyPost_ret (v:=Tu #[U es QL.length ec,Bb wr,Bb fl,I Y 0]) (by simp[results,Tryz.results15,go_sem]) rfl ⟨⟨es,ec,by rw[hl],?_⟩,BD⟩
 have h:=ED.eds
 rw[HEQ.out] at h
 exact h.mono λb hb _=>by omega
theorem tT (V F:Int)(s:Option Addr)(c:List Ins)(cap:Nat)(at_:Int)(x:Pic)(vs:Option Addr)(vc:Nat)(fs:Option Addr)(fc:Nat)(w:World)(hc:CodeAt w s c)(hx:PicAt w x vs fs)(h1:x.vars.length≤vc∧vc≤maxLen)(h2:x.flds.length≤fc∧fc≤maxLen):
  Calls pG 15 #[pv V F s c cap,I Y at_,xv x vs vc fs fc] w λe w'=>vV w.heap.size w' e (io V F c at_ x) (gI V F c at_ x)∧Below w.heap.size w w':=by
 by_cases hu:aJ V F c [x]=0
 ·by_cases hr:at_ < 0∨(c.length:Int)≤at_
  ·have e1:gI V F c at_ x=5:=by unfold gI;rw[if_pos hu,if_pos hr]
   have e2:io V F c at_ x=([],false,false):=by unfold io;rw[e1,if_neg (by decide)]
   rw[e1,e2]
   exact Am V F s c cap at_ x vs vc fs fc w hc hx h1 h2 hu hr
  ·have e1:gI V F c at_ x=0:=by unfold gI;rw[if_pos hu,if_neg hr]
   have e2:io V F c at_ x=aA (aO c at_) at_ x:=by unfold io;rw[e1,if_pos rfl]
   rw[e1,e2]
   by_cases hn:x.none=true
   ·have e3:aA (aO c at_) at_ x=([],false,false):=by unfold aA;rw[if_pos hn]
    rw[e3]
    exact Bu V F s c cap at_ x vs vc fs fc w hc hx h1 h2 hu hr hn
   ·exact Fq V F s c cap at_ x vs vc fs fc w hc hx h1 h2 hu hr (by simpa using hn)
 ·have e1:gI V F c at_ x=aJ V F c [x]:=by unfold gI;rw[if_neg hu]
  have e2:io V F c at_ x=([],false,false):=by unfold io;rw[e1,if_neg hu]
  rw[e1,e2]
  exact Db V F s c cap at_ x vs vc fs fc w hc hx h1 h2 hu
end
end Go.Proofs.YtmapdpcfanecdabGreatDoor
