import Derived.Test.YtmapdpcfanecdabGreatDoorM42
import Derived.Shelf.Abstract
import Derived.Test.YtmapdpcfanecdabGreatDoorM43
open Go.Ending renaming returned→Rt
open Go.IntKind renaming i64→Y
open Go.Obj renaming cells→Cc
open Go.Proofs.Tryz renaming prog→pG
open Go.RowKit.Below renaming heap_setCell→hSe,refl→bR
open Go.Value renaming agg→Ag,bool→Bb,int→I,pointer→Pp,slice→U,slice→j1,tuple→Tu
open Go.World renaming setCell→j2,size_alloc→zA
open List renaming ext_getElem→j6,getElem_mem→gM,getElem_zipWith→j7,length_replicate→j5,replicate→j0
open Nat renaming le_refl→lR,le_trans→lT,lt_irrefl→j4,lt_of_lt_of_le→lL,zero_le→j3
open Option renaming none→nO,some→sO
set_option linter.unusedSimpArgs false
set_option linter.unusedVariables false
set_option maxHeartbeats 16000000
set_option maxRecDepth 100000
namespace Go.Proofs.YtmapdpcfanecdabGreatDoor
section
open Go.RowKit
attribute [local go_sem ↓] Go.wp_at_zero Go.wp_at_succ
theorem rh {S:Nat→Prop}(V F:Int)(s:Option Addr)(c:List Ins)(cap sb pb pc q:Nat)(dv:Value)(L:List Pic)(z:Pic)(zs:Option Addr)(zc:Nat)(gs:Option Addr)(gc fh:Nat)(r:Pic)(w:World)(hfh:∀args wx,Sem.run pG (callFunc fh args) wx=.ok (.enter fh args) wx)
  (hst:Cells w sb [I Y V,I Y F,U s c.length cap,U (sO ⟨pb,0,nO⟩) L.length pc,dv])(hP:PRow S w pb L)(hS:∀b,S b→b≠pb)(hS2:∀b,w.heap.size≤b→S b)(hq:q < L.length)
  (hHow:∀wx vx vxc fx fxc,Below w.heap.size w wx→PicAt wx L[q] vx fx→(L[q].vars.length≤vxc∧vxc≤maxLen)→(L[q].flds.length≤fxc∧fxc≤maxLen)→Calls pG fh #[pv V F s c cap,xv L[q] vx vxc fx fxc,xv z zs zc gs gc] wx λe w'=>kg wx.heap.size w' e r 0∧Below wx.heap.size wx w'):
  Calls pG 165 #[Pp (sO ⟨sb,0,nO⟩),Ag #[I Y (q:Int),Bb z.none,U zs z.vars.length zc,U gs z.flds.length gc],.func (.func fh) #[] #[]] w λe w'=>(∃v,e=Rt v)∧PRow S w' pb (L.set q r)∧(∀b,b≠pb→b < w.heap.size→w'.heap[b]? =w.heap[b]?)∧w.heap.size≤w'.heap.size∧∀{B:Nat} {a:World},B≤pb→B≤w.heap.size→Below B a w→Below B a w':=by
 have B1:Below w.heap.size w (w.alloc (Cc #[I Y (q:Int),Bb z.none,U zs z.vars.length zc,U gs z.flds.length gc] 45)):=by go_grown
 have X1:Cells (w.alloc (Cc #[I Y (q:Int),Bb z.none,U zs z.vars.length zc,U gs z.flds.length gc] 45)) w.heap.size [I Y (q:Int),Bb z.none,U zs z.vars.length zc,U gs z.flds.length gc]:=Cells.new w _ [_,_,_,_]
 go_enter Tryz.func165,Tryz.ntmps165
 go_upto_region 1 with fail
 generalize w.alloc (Cc #[I Y (q:Int),Bb z.none,U zs z.vars.length zc,U gs z.flds.length gc] 45)=w1 at *
 have PR1:=hP.call B1
 have ST1:=hst.call B1
 have hpb:pb < w.heap.size:=hP.choose_spec.1.2.1
 obtain⟨vy,vyc,fy,fyc,⟨k0,k1,k2⟩,hPy,hvy,hfy,-,-⟩:=PR1.cell hq
 have HOW:Hid (∀wx,Below w1.heap.size w1 wx→Calls pG fh #[pv V F s c cap,xv L[q] vy vyc fy fyc,xv z zs zc gs gc] wx λe w'=>kg wx.heap.size w' e r 0∧Below wx.heap.size wx w'):=λwx hb=>hHow wx vy vyc fy fyc (B1.trans (hb.mono B1.size)) (hPy.call hb).at hvy hfy
 clear hHow hPy hvy hfy
 obtain⟨y,ey⟩:∃y,y=L[q]:=⟨_,rfl⟩
 rw[←ey] at HOW k0 k1 k2
 have hp1:pb < w1.heap.size:=lL hpb B1.size
 have HKZ:Hid (∀wx,Below w1.heap.size w1 wx→(wx.cell? ⟨sb,0,nO⟩=sO (I Y V)∧wx.cell? ⟨sb,1,nO⟩=sO (I Y F)∧wx.cell? ⟨sb,2,nO⟩=sO (U s c.length cap)∧wx.cell? ⟨sb,3,nO⟩=sO (U (sO ⟨pb,0,nO⟩) L.length pc))∧(wx.cell? ⟨w.heap.size,0,nO⟩=sO (I Y (q:Int))∧wx.cell? ⟨w.heap.size,1,nO⟩=sO (Bb z.none)∧wx.cell? ⟨w.heap.size,2,nO⟩=sO (U zs z.vars.length zc)∧wx.cell? ⟨w.heap.size,3,nO⟩=sO (U gs z.flds.length gc))∧(wx.cell? ⟨pb,q * 3,nO⟩=sO (Bb y.none)∧wx.cell? ⟨pb,q * 3+1,nO⟩=sO (U vy y.vars.length vyc)∧wx.cell? ⟨pb,q * 3+2,nO⟩=sO (U fy y.flds.length fyc))):=λwx hb=>by
  have p:=ST1.call hb
  have x:=X1.call hb
  exact⟨⟨p.1 0 _ rfl,p.1 1 _ rfl,p.1 2 _ rfl,p.1 3 _ rfl⟩,⟨x.1 0 _ rfl,x.1 1 _ rfl,x.1 2 _ rfl,x.1 3 _ rfl⟩,by rw[hb.cell hp1];exact k0,by rw[hb.cell hp1];exact k1,by rw[hb.cell hp1];exact k2⟩
 clear ey
 have B4:Below w1.heap.size w1 w1.drew:=(bR _ _).drew
 have m0:(0:Int)≤(q:Int):=by omega
 have m1:(q:Int) < (L.length:Int):=by omega
 refine au (S:=(λwx=>(wx.cell? ⟨sb,0,nO⟩=sO (I Y V)∧wx.cell? ⟨sb,1,nO⟩=sO (I Y F)∧wx.cell? ⟨sb,2,nO⟩=sO (U s c.length cap)∧wx.cell? ⟨sb,3,nO⟩=sO (U (sO ⟨pb,0,nO⟩) L.length pc))∧(wx.cell? ⟨w.heap.size,0,nO⟩=sO (I Y (q:Int))∧wx.cell? ⟨w.heap.size,1,nO⟩=sO (Bb z.none)∧wx.cell? ⟨w.heap.size,2,nO⟩=sO (U zs z.vars.length zc)∧wx.cell? ⟨w.heap.size,3,nO⟩=sO (U gs z.flds.length gc))∧(wx.cell? ⟨pb,q * 3,nO⟩=sO (Bb y.none)∧wx.cell? ⟨pb,q * 3+1,nO⟩=sO (U vy y.vars.length vyc)∧wx.cell? ⟨pb,q * 3+2,nO⟩=sO (U fy y.flds.length fyc)))) [26] (by kernel_rfl) (HKZ.out _ B4) (λhHeld=> ?_)
 generalize w1.drew=w4 at *
 refine vZ 0 ?_ ?_
 refine vZ 1 ?_ ?_
 refine vZ 2 ?_ ?_
 refine vZ 3 ?_ ?_
 refine vZ 4 ?_ ?_
 refine vZ 5 ?_ ?_
 refine vZ 6 ?_ ?_
 refine vZ 7 ?_ ?_
 refine vZ 8 ?_ ?_
 refine vZ 9 ?_ ?_
 refine vZ 10 ?_ ?_
 refine vZ 11 ?_ ?_
 refine vZ 12 ?_ ?_
 refine vZ 13 ?_ ?_
 refine vZ 14 ?_ ?_
 refine vZ 15 ?_ ?_
 refine vZ 16 ?_ ?_
 refine vZ 17 ?_ ?_
 refine vZ 18 ?_ ?_
 refine vZ 19 ?_ ?_
 refine vZ 20 ?_ ?_
 refine an (i:=21) rfl (by kernel_rfl) (λK hK=> ?_)
 go_simp
 refine(HOW.out w4 B4).mono ?_
 rintro e5 w5 ⟨⟨rs,rc,rf,rg,rfl,RP,RV,RF⟩,hb5⟩
 have B5:=B4.trans (hb5.mono B4.size)
 go_wp2_with fail
 refine hK.out _ _ (HKZ.out _ B5) (λhHeld=> ?_)
 clear hK K
 refine sm ?_
 refine vZ 22 ?_ ?_
 refine vZ 23 ?_ ?_
 refine pZ 24 ?_ ?_
 refine sm ?_
 refine vZ 25 ?_ ?_
 refine aL (i:=26) rfl (by kernel_rfl) (by kernel_rfl) (λK hK=> ?_)
 have PR5:=(PR1.call B5)
 obtain⟨_,_,_,_,_,_,_,_,_,fz⟩:=PR5.cell hq
 obtain⟨-,-,c0,c1,c2⟩:=hHeld
 have f0:=fz (q * 3)
 have f1:=fz (q * 3+1)
 have f2:=fz (q * 3+2)
 clear fz
 go_simp
 obtain⟨wq,ewq⟩:∃q',q'=cu w5 pb (q * 3) [Bb r.none,U rs r.vars.length rc,U rf r.flds.length rg]:=⟨_,rfl⟩
 have PT:=aa (PR5.put hS hq (RP.mono λb hb _=>hS2 b (lT (lT B1.size B4.size) hb)) RV RF ewq)
 simp only[cu] at ewq
 rw[←ewq]
 refine hK.out _ _ ?_
 clear hK K c0 c1 c2 f0 f1 f2 ewq
 refine sm ?_
 refine aq (by kernel_rfl) ?_ _
 clear HOW HKZ hHeld
 obtain⟨T1,T2,T3,T4⟩:=PT.out
 have hB:Below w.heap.size w w5:=B1.trans (B5.mono B1.size)
 first|go_end0|refine bodyPost_ret (results_none rfl _ _ _) rfl ?_
 exact⟨⟨_,rfl⟩,T1,λb hb hlt=>(T2 b hb).trans (hB.block b hlt),lT hB.size T3,λ{B} {a} h1 h2 h3=>T4 h1 (h3.trans (hB.mono h2))⟩
def gg (S:Nat→Prop)(w w':World)(pb db:Nat)(L:List Pic)(D:List Int):Prop:=PRow S w' pb L∧DRow w' db D∧(∀b,b≠pb→b≠db→b < w.heap.size→w'.heap[b]? =w.heap[b]?)∧w.heap.size≤w'.heap.size∧∀{B:Nat} {a:World},B≤pb→B≤db→B≤w.heap.size→Below B a w→Below B a w'
theorem E8 {S:Nat→Prop}(V F:Int)(s:Option Addr)(c:List Ins)(cap sb pb pc db dc q:Nat)(n:Int)(L:List Pic)(D:List Int)(z:Pic)(zs:Option Addr)(zc:Nat)(gs:Option Addr)(gc:Nat)(r:Pic)(w:World)
  (hst:Cells w sb [I Y V,I Y F,U s c.length cap,U (sO ⟨pb,0,nO⟩) L.length pc,U (sO ⟨db,0,nO⟩) D.length dc])(hP:PRow S w pb L)(hD:DRow w db D)(hpd:pb≠db)(hsp:sb≠pb)(hS:∀b,S b→b≠pb∧b≠db)(hS2:∀b,w.heap.size≤b→S b)(hq:q < L.length)(hqD:q < D.length)(hDm:D.length≤maxLen)
  (hHow:∀wx vx vxc fx fxc,Below w.heap.size w wx→PicAt wx L[q] vx fx→(L[q].vars.length≤vxc∧vxc≤maxLen)→(L[q].flds.length≤fxc∧fxc≤maxLen)→Calls pG 32 #[pv V F s c cap,xv L[q] vx vxc fx fxc,xv z zs zc gs gc] wx λe w'=>kg wx.heap.size w' e r 0∧Below wx.heap.size wx w'):
  Calls pG 100 #[Pp (sO ⟨sb,0,nO⟩),I Y n,Ag #[I Y (q:Int),Bb z.none,U zs z.vars.length zc,U gs z.flds.length gc]] w λe w'=>(∃v,e=Rt v)∧gg S w w' pb db (L.set q r) (D.set q (n)):=by
 have B1:Below w.heap.size w (w.alloc (Cc #[I Y (q:Int),Bb z.none,U zs z.vars.length zc,U gs z.flds.length gc] 45)):=by go_grown
 have X1:Cells (w.alloc (Cc #[I Y (q:Int),Bb z.none,U zs z.vars.length zc,U gs z.flds.length gc] 45)) w.heap.size [I Y (q:Int),Bb z.none,U zs z.vars.length zc,U gs z.flds.length gc]:=Cells.new w _ [_,_,_,_]
 have sz1:(w.alloc (Cc #[I Y (q:Int),Bb z.none,U zs z.vars.length zc,U gs z.flds.length gc] 45)).heap.size=w.heap.size+1:=zA _ _
 have ST1:=hst.call B1
 have PR1:=hP.call B1
 have DR1:=hD.call B1
 have hpb:pb < w.heap.size:=hP.choose_spec.1.2.1
 have hdb:db < w.heap.size:=hD.choose_spec.1.2.1
 have HPU:Hid (Calls pG 165 #[Pp (sO ⟨sb,0,nO⟩),Ag #[I Y (q:Int),Bb z.none,U zs z.vars.length zc,U gs z.flds.length gc],.func (.func 32) #[] #[]] (w.alloc (Cc #[I Y (q:Int),Bb z.none,U zs z.vars.length zc,U gs z.flds.length gc] 45)) λe w'=>(∃v,e=Rt v)∧PRow S w' pb (L.set q r)∧(∀b,b≠pb→b < (w.alloc (Cc #[I Y (q:Int),Bb z.none,U zs z.vars.length zc,U gs z.flds.length gc] 45)).heap.size→w'.heap[b]? =(w.alloc (Cc #[I Y (q:Int),Bb z.none,U zs z.vars.length zc,U gs z.flds.length gc] 45)).heap[b]?)∧(w.alloc (Cc #[I Y (q:Int),Bb z.none,U zs z.vars.length zc,U gs z.flds.length gc] 45)).heap.size≤w'.heap.size∧∀{B:Nat} {a:World},B≤pb→B≤(w.alloc (Cc #[I Y (q:Int),Bb z.none,U zs z.vars.length zc,U gs z.flds.length gc] 45)).heap.size→Below B a (w.alloc (Cc #[I Y (q:Int),Bb z.none,U zs z.vars.length zc,U gs z.flds.length gc] 45))→Below B a w'):=rh V F s c cap sb pb pc q _ L z zs zc gs gc 32 r _ (enters_of Tryz.func32 (by kernel_rfl) rfl) ST1 PR1 (λb hb=>(hS b hb).1) (λb hb=>hS2 b (by omega)) hq (λwx vx vxc fx fxc hb k1 k2 k3=>hHow wx vx vxc fx fxc (B1.trans (hb.mono B1.size)) k1 k2 k3)
 clear hHow hP hD hst
 unfold gg
 go_enter Tryz.func100,Tryz.ntmps100
 go_wp2_with fail
 generalize w.alloc (Cc #[I Y (q:Int),Bb z.none,U zs z.vars.length zc,U gs z.flds.length gc] 45)=w1 at *
 refine HPU.out.mono ?_
 clear HPU
 rintro e w2 ⟨⟨ve,rfl⟩,PR2,FR2,SZ2,LO2⟩
 have DR3:DRow w2 db D:=DR1.far (FR2 db (Ne.symm hpd) DR1.choose_spec.1.2.1) SZ2
 have X3:=X1.same (FR2 w.heap.size (by omega) X1.2.1) SZ2
 have ST3:=ST1.same (FR2 sb hsp ST1.2.1) SZ2
 have HKZ:Hid (∀wx,Below w2.heap.size w2 wx→wx.cell? ⟨sb,4,nO⟩=sO (U (sO ⟨db,0,nO⟩) D.length dc)∧wx.cell? ⟨w.heap.size,0,nO⟩=sO (I Y (q:Int))∧wx.cell? ⟨db,q,nO⟩=sO (I Y D[q])):=λwx hb=>⟨(ST3.call hb).1 4 _ rfl,(X3.call hb).1 0 _ rfl,(DR3.call hb).get hqD⟩
 have B4:Below w2.heap.size w2 w2.drew:=(bR _ _).drew
 have m0:(0:Int)≤(q:Int):=by omega
 have m1:(q:Int) < (D.length:Int):=by omega
 clear ST1 X1 DR1 X3 ST3
 go_upto_region 2 with fail
 refine au (S:=(λwx=>wx.cell? ⟨sb,4,nO⟩=sO (U (sO ⟨db,0,nO⟩) D.length dc)∧wx.cell? ⟨w.heap.size,0,nO⟩=sO (I Y (q:Int))∧wx.cell? ⟨db,q,nO⟩=sO (I Y D[q]))) [8] (by kernel_rfl) (HKZ.out _ B4) (λhHeld=> ?_)
 generalize w2.drew=w4 at *
 refine vZ 0 ?_ ?_
 refine vZ 1 ?_ ?_
 refine vZ 2 ?_ ?_
 refine vZ 3 ?_ ?_
 refine vZ 4 ?_ ?_
 refine vZ 5 ?_ ?_
 refine vZ 6 ?_ ?_
 refine vZ 7 ?_ ?_
 refine aL (i:=8) rfl (by kernel_rfl) (by kernel_rfl) (λK hK=> ?_)
 have DR5:=DR3.call B4
 obtain⟨_,DC,_,_⟩:=DR5
 obtain⟨-,-,c0⟩:=hHeld
 have f0:=DC.2.2 q
 clear DC
 go_simp
 obtain⟨wq,ewq⟩:∃q',q'=cu w4 db q [I Y (n)]:=⟨_,rfl⟩
 have PT:=aa ((DR3.call B4).put ewq hqD)
 simp only[cu] at ewq
 rw[←ewq]
 refine hK.out _ _ ?_
 clear hK K c0 f0 ewq
 refine sm ?_
 refine aq (by kernel_rfl) ?_ _
 clear HKZ
 have z24:=B4.size
 obtain⟨T1,T2,T3,T4⟩:=PT.out
 have PR5:=(PR2.call B4).far (T2 pb hpd) (λb hb _=>T2 b (hS b hb).2) T3
 first|go_end0|refine bodyPost_ret (results_none rfl _ _ _) rfl ?_
 exact⟨⟨_,rfl⟩,PR5,T1,λb h1 h2 hlt=>((T2 b h2).trans (B4.block b (by omega))).trans ((FR2 b h1 (by omega)).trans (B1.block b hlt)),by omega,λ{B} {a} h1 h2 h3 h4=>T4 h2 ((LO2 h1 (by omega) (h4.trans (B1.mono h3))).trans (B4.mono (by omega)))⟩
theorem sR {p:Prop}(h:p:=by
 clear hHow hP hD hst
 unfold gg
 go_enter Tryz.func101,Tryz.ntmps101
 go_wp2_with fail
 generalize w.alloc (.cells #[.int .i64 (q:Int),.bool z.none,.slice zs z.vars.length zc,.slice gs z.flds.length gc] 45)=w1 at *
 refine HPU.out.mono ?_
 clear HPU
 rintro e w2 ⟨⟨ve,rfl⟩,PR2,FR2,SZ2,LO2⟩
 have DR3:DRow w2 db D:=DR1.far (FR2 db (Ne.symm hpd) DR1.choose_spec.1.2.1) SZ2
 have X3:=X1.same (FR2 w.heap.size (by omega) X1.2.1) SZ2
 have ST3:=ST1.same (FR2 sb hsp ST1.2.1) SZ2
 have HKZ:Hid (∀wx,Below w2.heap.size w2 wx→wx.cell? ⟨sb,4,none⟩=some (.slice (some ⟨db,0,none⟩) D.length dc)∧wx.cell? ⟨w.heap.size,0,none⟩=some (.int .i64 (q:Int))∧wx.cell? ⟨db,q,none⟩=some (.int .i64 D[q])):=λwx hb=>⟨(ST3.call hb).1 4 _ rfl,(X3.call hb).1 0 _ rfl,(DR3.call hb).get hqD⟩
 have B4:Below w2.heap.size w2 w2.drew:=(Below.refl _ _).drew
 have m0:(0:Int)≤(q:Int):=by omega
 have m1:(q:Int) < (D.length:Int):=by omega
 clear ST1 X1 DR1 X3 ST3
 go_upto_region 4 with fail
 refine au (S:=(λwx=>wx.cell? ⟨sb,4,none⟩=some (.slice (some ⟨db,0,none⟩) D.length dc)∧wx.cell? ⟨w.heap.size,0,none⟩=some (.int .i64 (q:Int))∧wx.cell? ⟨db,q,none⟩=some (.int .i64 D[q]))) [9] (by kernel_rfl) (HKZ.out _ B4) (λhHeld=> ?_)
 generalize w2.drew=w4 at *
 refine vZ 0 ?_ ?_
 refine vZ 1 ?_ ?_
 refine vZ 2 ?_ ?_
 refine vZ 3 ?_ ?_
 refine vZ 4 ?_ ?_
 refine vZ 5 ?_ ?_
 refine vZ 6 ?_ ?_
 refine vZ 7 ?_ ?_
 refine vZ 8 ?_ ?_
 refine aL (i:=9) rfl (by kernel_rfl) (by kernel_rfl) (λK hK=> ?_)
 have DR5:=DR3.call B4
 obtain⟨_,DC,_,_⟩:=DR5
 obtain⟨-,-,c0⟩:=hHeld
 have f0:=DC.2.2 q
 clear DC
 go_simp
 obtain⟨wq,ewq⟩:∃q',q'=cu w4 db q [.int .i64 (n+1)]:=⟨_,rfl⟩
 have PT:=aa ((DR3.call B4).put ewq hqD)
 simp only[cu] at ewq
 rw[←ewq]
 refine hK.out _ _ ?_
 clear hK K c0 f0 ewq
 refine sm ?_
 refine aq (by kernel_rfl) ?_ _
 clear HKZ
 have z24:=B4.size
 obtain⟨T1,T2,T3,T4⟩:=PT.out
 have PR5:=(PR2.call B4).far (T2 pb hpd) (λb hb _=>T2 b (hS b hb).2) T3
 first|go_end0|refine bodyPost_ret (results_none rfl _ _ _) rfl ?_
 exact⟨⟨_,rfl⟩,PR5,T1,λb h1 h2 hlt=>((T2 b h2).trans (B4.block b (by omega))).trans ((FR2 b h1 (by omega)).trans (B1.block b hlt)),by omega,λ{B} {a} h1 h2 h3 h4=>T4 h2 ((LO2 h1 (by omega) (h4.trans (B1.mono h3))).trans (B4.mono (by omega)))⟩):p:=h
theorem yG {S:Nat→Prop}(V F:Int)(s:Option Addr)(c:List Ins)(cap sb pb pc db dc q:Nat)(n:Int)(L:List Pic)(D:List Int)(z:Pic)(zs:Option Addr)(zc:Nat)(gs:Option Addr)(gc:Nat)(r:Pic)(w:World)
  (hst:Cells w sb [I Y V,I Y F,U s c.length cap,U (sO ⟨pb,0,nO⟩) L.length pc,U (sO ⟨db,0,nO⟩) D.length dc])(hP:PRow S w pb L)(hD:DRow w db D)(hpd:pb≠db)(hsp:sb≠pb)(hS:∀b,S b→b≠pb∧b≠db)(hS2:∀b,w.heap.size≤b→S b)(hq:q < L.length)(hqD:q < D.length)(hDm:D.length≤maxLen)(hn:n < 4)(hnw:IntKind.i64.wrap (n+1)=n+1)
  (hHow:∀wx vx vxc fx fxc,Below w.heap.size w wx→PicAt wx L[q] vx fx→(L[q].vars.length≤vxc∧vxc≤maxLen)→(L[q].flds.length≤fxc∧fxc≤maxLen)→Calls pG 32 #[pv V F s c cap,xv L[q] vx vxc fx fxc,xv z zs zc gs gc] wx λe w'=>kg wx.heap.size w' e r 0∧Below wx.heap.size wx w'):
  Calls pG 101 #[Pp (sO ⟨sb,0,nO⟩),I Y n,Ag #[I Y (q:Int),Bb z.none,U zs z.vars.length zc,U gs z.flds.length gc]] w λe w'=>(∃v,e=Rt v)∧gg S w w' pb db (L.set q r) (D.set q (n+1)):=by
 have B1:Below w.heap.size w (w.alloc (Cc #[I Y (q:Int),Bb z.none,U zs z.vars.length zc,U gs z.flds.length gc] 45)):=by go_grown
 have X1:Cells (w.alloc (Cc #[I Y (q:Int),Bb z.none,U zs z.vars.length zc,U gs z.flds.length gc] 45)) w.heap.size [I Y (q:Int),Bb z.none,U zs z.vars.length zc,U gs z.flds.length gc]:=Cells.new w _ [_,_,_,_]
 have sz1:(w.alloc (Cc #[I Y (q:Int),Bb z.none,U zs z.vars.length zc,U gs z.flds.length gc] 45)).heap.size=w.heap.size+1:=zA _ _
 have ST1:=hst.call B1
 have PR1:=hP.call B1
 have DR1:=hD.call B1
 have hpb:pb < w.heap.size:=hP.choose_spec.1.2.1
 have hdb:db < w.heap.size:=hD.choose_spec.1.2.1
 have HPU:Hid (Calls pG 165 #[Pp (sO ⟨sb,0,nO⟩),Ag #[I Y (q:Int),Bb z.none,U zs z.vars.length zc,U gs z.flds.length gc],.func (.func 32) #[] #[]] (w.alloc (Cc #[I Y (q:Int),Bb z.none,U zs z.vars.length zc,U gs z.flds.length gc] 45)) λe w'=>(∃v,e=Rt v)∧PRow S w' pb (L.set q r)∧(∀b,b≠pb→b < (w.alloc (Cc #[I Y (q:Int),Bb z.none,U zs z.vars.length zc,U gs z.flds.length gc] 45)).heap.size→w'.heap[b]? =(w.alloc (Cc #[I Y (q:Int),Bb z.none,U zs z.vars.length zc,U gs z.flds.length gc] 45)).heap[b]?)∧(w.alloc (Cc #[I Y (q:Int),Bb z.none,U zs z.vars.length zc,U gs z.flds.length gc] 45)).heap.size≤w'.heap.size∧∀{B:Nat} {a:World},B≤pb→B≤(w.alloc (Cc #[I Y (q:Int),Bb z.none,U zs z.vars.length zc,U gs z.flds.length gc] 45)).heap.size→Below B a (w.alloc (Cc #[I Y (q:Int),Bb z.none,U zs z.vars.length zc,U gs z.flds.length gc] 45))→Below B a w'):=rh V F s c cap sb pb pc q _ L z zs zc gs gc 32 r _ (enters_of Tryz.func32 (by kernel_rfl) rfl) ST1 PR1 (λb hb=>(hS b hb).1) (λb hb=>hS2 b (by omega)) hq (λwx vx vxc fx fxc hb k1 k2 k3=>hHow wx vx vxc fx fxc (B1.trans (hb.mono B1.size)) k1 k2 k3)
 exact sR
theorem Ab {S:Nat→Prop}(V F:Int)(s:Option Addr)(c:List Ins)(cap sb pb pc db dc q:Nat)(n:Int)(L:List Pic)(D:List Int)(z:Pic)(zs:Option Addr)(zc:Nat)(gs:Option Addr)(gc:Nat)(r:Pic)(w:World)
  (hst:Cells w sb [I Y V,I Y F,U s c.length cap,U (sO ⟨pb,0,nO⟩) L.length pc,U (sO ⟨db,0,nO⟩) D.length dc])(hP:PRow S w pb L)(hD:DRow w db D)(hpd:pb≠db)(hsp:sb≠pb)(hS:∀b,S b→b≠pb∧b≠db)(hS2:∀b,w.heap.size≤b→S b)(hq:q < L.length)(hqD:q < D.length)(hDm:D.length≤maxLen)(hn:¬n < 4)(hnw:IntKind.i64.wrap (n+1)=n+1)
  (hHow:∀wx vx vxc fx fxc,Below w.heap.size w wx→PicAt wx L[q] vx fx→(L[q].vars.length≤vxc∧vxc≤maxLen)→(L[q].flds.length≤fxc∧fxc≤maxLen)→Calls pG 33 #[pv V F s c cap,xv L[q] vx vxc fx fxc,xv z zs zc gs gc] wx λe w'=>kg wx.heap.size w' e r 0∧Below wx.heap.size wx w'):
  Calls pG 101 #[Pp (sO ⟨sb,0,nO⟩),I Y n,Ag #[I Y (q:Int),Bb z.none,U zs z.vars.length zc,U gs z.flds.length gc]] w λe w'=>(∃v,e=Rt v)∧gg S w w' pb db (L.set q r) (D.set q (n+1)):=by
 have B1:Below w.heap.size w (w.alloc (Cc #[I Y (q:Int),Bb z.none,U zs z.vars.length zc,U gs z.flds.length gc] 45)):=by go_grown
 have X1:Cells (w.alloc (Cc #[I Y (q:Int),Bb z.none,U zs z.vars.length zc,U gs z.flds.length gc] 45)) w.heap.size [I Y (q:Int),Bb z.none,U zs z.vars.length zc,U gs z.flds.length gc]:=Cells.new w _ [_,_,_,_]
 have sz1:(w.alloc (Cc #[I Y (q:Int),Bb z.none,U zs z.vars.length zc,U gs z.flds.length gc] 45)).heap.size=w.heap.size+1:=zA _ _
 have ST1:=hst.call B1
 have PR1:=hP.call B1
 have DR1:=hD.call B1
 have hpb:pb < w.heap.size:=hP.choose_spec.1.2.1
 have hdb:db < w.heap.size:=hD.choose_spec.1.2.1
 have HPU:Hid (Calls pG 165 #[Pp (sO ⟨sb,0,nO⟩),Ag #[I Y (q:Int),Bb z.none,U zs z.vars.length zc,U gs z.flds.length gc],.func (.func 33) #[] #[]] (w.alloc (Cc #[I Y (q:Int),Bb z.none,U zs z.vars.length zc,U gs z.flds.length gc] 45)) λe w'=>(∃v,e=Rt v)∧PRow S w' pb (L.set q r)∧(∀b,b≠pb→b < (w.alloc (Cc #[I Y (q:Int),Bb z.none,U zs z.vars.length zc,U gs z.flds.length gc] 45)).heap.size→w'.heap[b]? =(w.alloc (Cc #[I Y (q:Int),Bb z.none,U zs z.vars.length zc,U gs z.flds.length gc] 45)).heap[b]?)∧(w.alloc (Cc #[I Y (q:Int),Bb z.none,U zs z.vars.length zc,U gs z.flds.length gc] 45)).heap.size≤w'.heap.size∧∀{B:Nat} {a:World},B≤pb→B≤(w.alloc (Cc #[I Y (q:Int),Bb z.none,U zs z.vars.length zc,U gs z.flds.length gc] 45)).heap.size→Below B a (w.alloc (Cc #[I Y (q:Int),Bb z.none,U zs z.vars.length zc,U gs z.flds.length gc] 45))→Below B a w'):=rh V F s c cap sb pb pc q _ L z zs zc gs gc 33 r _ (enters_of Tryz.func33 (by kernel_rfl) rfl) ST1 PR1 (λb hb=>(hS b hb).1) (λb hb=>hS2 b (by omega)) hq (λwx vx vxc fx fxc hb k1 k2 k3=>hHow wx vx vxc fx fxc (B1.trans (hb.mono B1.size)) k1 k2 k3)
 exact sR
theorem sM {V F:Int}{c:List Ins}{x y:Pic}(h:aJ V F c [x,y]=0):ai V F c=0∧aK V F c x=0∧aK V F c y=0:=by
 have h0:ai V F c=0:=by
  unfold aJ at h
  split at h
  ·assumption
  ·exact h
 have hl:cy V F c [x,y]=0:=by
  unfold aJ at h
  rw[if_pos h0] at h
  exact h
 have hcx:aK V F c x=0:=by
  unfold cy at hl
  split at hl
  ·assumption
  ·exact hl
 refine⟨h0,hcx,?_⟩
 unfold cy at hl
 rw[if_pos hcx] at hl
 unfold cy at hl
 split at hl
 ·assumption
 ·exact hl
theorem nF {V F:Int}{s:Option Addr}{c:List Ins}{cap:Nat}(h0:ai V F c=0):∀(g:Gs) (ss:Option Addr) (gc:Nat) (h:Gs) (st:Option Addr) (hc:Nat) (wx:World),CodeAt wx s c→IntsAt wx ss g.s→g.s.length≤gc→gc≤maxLen→IntsAt wx st h.s→h.s.length≤hc→hc≤maxLen→aC c g=0→aC c h=0→Calls pG 72 #[pv V F s c cap,gv g ss gc,gv h st hc] wx λe w'=>(∃js jc,e=Rt (Tu #[gv (dh bq g h) js jc,I Y 0])∧IntsAt w' js (dh bq g h).s∧(dh bq g h).s.length≤jc∧jc≤maxLen∧∀a,js=sO a→wx.heap.size≤a.block)∧Below wx.heap.size wx w':=by
 intro g ss gc h st hc wx hcd hs h1 h2 ht h3 h4 hg0 hh0
 have hck:=lF h0 hg0 hh0
 obtain⟨hg,hh⟩:=ld hck
 have l1:=eY hg.2 hg.1
 have l2:=eY hh.2 hh.1
 refine(Ec V F s c cap g ss gc h st hc wx hcd hs h1 h2 ht h3 h4 hck (by simp;omega)).mono ?_
 rintro e w' ⟨v,rfl,hown,hb⟩
 obtain⟨js,jc,rfl,hi,k1,k2,hf⟩:=IntsAt.own hown
 exact⟨⟨js,jc,rfl,hi,k1,k2,hf⟩,hb⟩
theorem C9 (V F:Int)(s:Option Addr)(c:List Ins)(cap:Nat)(x:Pic)(vs1:Option Addr)(vc1:Nat)(fs1:Option Addr)(fc1:Nat)(y:Pic)(vs2:Option Addr)(vc2:Nat)(fs2:Option Addr)(fc2:Nat)(w:World)(hcd:CodeAt w s c)(hx:PicAt w x vs1 fs1)(h1:x.vars.length≤vc1∧vc1≤maxLen)(h2:x.flds.length≤fc1∧fc1≤maxLen)(hy:PicAt w y vs2 fs2)(h3:y.vars.length≤vc2∧vc2≤maxLen)(h4:y.flds.length≤fc2∧fc2≤maxLen):Calls pG 71 #[pv V F s c cap,xv x vs1 vc1 fs1 fc1,xv y vs2 vc2 fs2 fc2,.func (.func 72) #[] #[]] w λe w'=>PicS w.heap.size w' e (if aJ V F c [x,y]=0 then aT (dh bq) x y else dH) (aJ V F c [x,y])∧Below w.heap.size w w':=by
 by_cases h:aJ V F c [x,y]=0
 ·obtain⟨h0,hcx,hcy⟩:=sM h
  rw[if_pos h,h]
  exact lA 72 (dh bq) (enters_of Tryz.func72 (by kernel_rfl) rfl) V F s c cap x vs1 vc1 fs1 fc1 y vs2 vc2 fs2 fc2 w hcd hx h1 h2 hy h3 h4 h hcx hcy h0 (λg hg=>wL Ak (bM h0).2.2 hg) (nF h0)
 ·rw[if_neg h]
  refine(kS 72 V F s c cap x vs1 vc1 fs1 fc1 y vs2 vc2 fs2 fc2 w hcd hx h1 h2 hy h3 h4 h).mono ?_
  rintro e w1 ⟨rfl,hb⟩
  exact⟨⟨⟨nO,0,[]⟩,nO,0,[],rfl,rfl,ue _ _⟩,hb⟩
theorem DV (V F:Int)(s:Option Addr)(c:List Ins)(cap:Nat)(x:Pic)(vs1:Option Addr)(vc1:Nat)(fs1:Option Addr)(fc1:Nat)(y:Pic)(vs2:Option Addr)(vc2:Nat)(fs2:Option Addr)(fc2:Nat)(w:World)(hcd:CodeAt w s c)(hx:PicAt w x vs1 fs1)(h1:x.vars.length≤vc1∧vc1≤maxLen)(h2:x.flds.length≤fc1∧fc1≤maxLen)(hy:PicAt w y vs2 fs2)(h3:y.vars.length≤vc2∧vc2≤maxLen)(h4:y.flds.length≤fc2∧fc2≤maxLen):Calls pG 32 #[pv V F s c cap,xv x vs1 vc1 fs1 fc1,xv y vs2 vc2 fs2 fc2] w λe w'=>PicS w.heap.size w' e (if aJ V F c [x,y]=0 then aT (dh bq) x y else dH) (aJ V F c [x,y])∧Below w.heap.size w w':=by
 have B0:Below w.heap.size w ((((w.alloc (Cc #[I Y V,I Y F,U s c.length cap] 24)).alloc (Cc #[Bb x.none,U vs1 x.vars.length vc1,U fs1 x.flds.length fc1] 28)).alloc (Cc #[Bb y.none,U vs2 y.vars.length vc2,U fs2 y.flds.length fc2] 28)).alloc (Cc #[Bb false,U nO 0 0,U nO 0 0] 28)):=by go_grown
 have Z0:=X3.new (((w.alloc (Cc #[I Y V,I Y F,U s c.length cap] 24)).alloc (Cc #[Bb x.none,U vs1 x.vars.length vc1,U fs1 x.flds.length fc1] 28)).alloc (Cc #[Bb y.none,U vs2 y.vars.length vc2,U fs2 y.flds.length fc2] 28)) 28 (Bb false) (U nO 0 0) (U nO 0 0)
 rw[zA,zA,zA] at Z0
 have HT:=aa (C9 V F s c cap x vs1 vc1 fs1 fc1 y vs2 vc2 fs2 fc2 ((((w.alloc (Cc #[I Y V,I Y F,U s c.length cap] 24)).alloc (Cc #[Bb x.none,U vs1 x.vars.length vc1,U fs1 x.flds.length fc1] 28)).alloc (Cc #[Bb y.none,U vs2 y.vars.length vc2,U fs2 y.flds.length fc2] 28)).alloc (Cc #[Bb false,U nO 0 0,U nO 0 0] 28)) (hcd.below B0 (lR _)) (hx.below B0 (lR _)) h1 h2 (hy.below B0 (lR _)) h3 h4)
 clear hcd hx hy
 generalize (if aJ V F c [x,y]=0 then aT (dh bq) x y else dH)=z at *
 generalize aJ V F c [x,y]=ce at *
 go_enter Tryz.func32,Tryz.ntmps32
 go_wp2_with (go_at_call 71;fail)
 refine HT.out.mono ?_
 rintro e w1 ⟨⟨⟨us,uc,vl⟩,gs,gc,L,hZ,rfl,PV⟩,hb1⟩
 have HZZ:=aa hZ
 clear hZ
 have Z1:=Z0.call hb1
 have B1:=B0.trans (hb1.mono B0.size)
 clear HT hb1 B0 Z0
 obtain⟨⟨z0,z1,z2⟩,zz,zf⟩:=id Z1
 have f0:=zf 0
 have f1:=zf 1
 have f2:=zf 2
 clear zf
 have e3:((((w.alloc (Cc #[I Y V,I Y F,U s c.length cap] 24)).alloc (Cc #[Bb x.none,U vs1 x.vars.length vc1,U fs1 x.flds.length fc1] 28)).alloc (Cc #[Bb y.none,U vs2 y.vars.length vc2,U fs2 y.flds.length fc2] 28)).alloc (Cc #[Bb false,U nO 0 0,U nO 0 0] 28)).heap.size=w.heap.size+1+1+1+1:=by simp
 rw[e3] at PV
 have HPV:=aa PV
 clear PV e3
 go_wp2
 refine bodyPost_ret (v:=Tu #[Ag #[Bb z.none,U us vl.length uc,U gs L.length gc],I Y ce]) (by simp[results,Tryz.results32,go_sem,z0,z1,z2]) rfl ⟨⟨⟨us,uc,vl⟩,gs,gc,L,HZZ.out,rfl,((HPV.out.same (λb hb _=> ?_) (by simp[j2])).mono λb hb _=>by omega).down (by omega)⟩,?_⟩
 ·rw[hSe _ _ _ _ (by simp only;omega),hSe _ _ _ _ (by simp only;omega),hSe _ _ _ _ (by simp only;omega)]
 ·exact((B1.setCell (by simp only;omega) _).setCell (by simp only;omega) _).setCell (by simp only;omega) _
theorem Ih (V F:Int)(s:Option Addr)(c:List Ins)(cap:Nat)(x:Pic)(vs1:Option Addr)(vc1:Nat)(fs1:Option Addr)(fc1:Nat)(y:Pic)(vs2:Option Addr)(vc2:Nat)(fs2:Option Addr)(fc2:Nat)(w:World)(hcd:CodeAt w s c)(hx:PicAt w x vs1 fs1)(h1:x.vars.length≤vc1∧vc1≤maxLen)(h2:x.flds.length≤fc1∧fc1≤maxLen)(hy:PicAt w y vs2 fs2)(h3:y.vars.length≤vc2∧vc2≤maxLen)(h4:y.flds.length≤fc2∧fc2≤maxLen):Calls pG 32 #[pv V F s c cap,xv x vs1 vc1 fs1 fc1,xv y vs2 vc2 fs2 fc2] w λe w'=>kg w.heap.size w' e (if aJ V F c [x,y]=0 then aT (dh bq) x y else dH) (aJ V F c [x,y])∧Below w.heap.size w w':=
 (DV V F s c cap x vs1 vc1 fs1 fc1 y vs2 vc2 fs2 fc2 w hcd hx h1 h2 hy h3 h4).mono λe w' h=>⟨h.1.weak,h.2⟩
theorem DP {V F:Int}{s:Option Addr}{c:List Ins}{cap:Nat}(h0:ai V F c=0):∀(g:Gs) (ss:Option Addr) (gc:Nat) (h:Gs) (st:Option Addr) (hc:Nat) (wx:World),CodeAt wx s c→IntsAt wx ss g.s→g.s.length≤gc→gc≤maxLen→IntsAt wx st h.s→h.s.length≤hc→hc≤maxLen→aC c g=0→aC c h=0→Calls pG 73 #[pv V F s c cap,gv g ss gc,gv h st hc] wx λe w'=>(∃js jc,e=Rt (Tu #[gv (dh bB g h) js jc,I Y 0])∧IntsAt w' js (dh bB g h).s∧(dh bB g h).s.length≤jc∧jc≤maxLen∧∀a,js=sO a→wx.heap.size≤a.block)∧Below wx.heap.size wx w':=by
 intro g ss gc h st hc wx hcd hs h1 h2 ht h3 h4 hg0 hh0
 have hck:=lF h0 hg0 hh0
 obtain⟨hg,hh⟩:=ld hck
 have l1:=eY hg.2 hg.1
 have l2:=eY hh.2 hh.1
 refine(Fj V F s c cap g ss gc h st hc wx hcd hs h1 h2 ht h3 h4 hck (by simp;omega)).mono ?_
 rintro e w' ⟨v,rfl,hown,hb⟩
 obtain⟨js,jc,rfl,hi,k1,k2,hf⟩:=IntsAt.own hown
 exact⟨⟨js,jc,rfl,hi,k1,k2,hf⟩,hb⟩
theorem D8 (V F:Int)(s:Option Addr)(c:List Ins)(cap:Nat)(x:Pic)(vs1:Option Addr)(vc1:Nat)(fs1:Option Addr)(fc1:Nat)(y:Pic)(vs2:Option Addr)(vc2:Nat)(fs2:Option Addr)(fc2:Nat)(w:World)(hcd:CodeAt w s c)(hx:PicAt w x vs1 fs1)(h1:x.vars.length≤vc1∧vc1≤maxLen)(h2:x.flds.length≤fc1∧fc1≤maxLen)(hy:PicAt w y vs2 fs2)(h3:y.vars.length≤vc2∧vc2≤maxLen)(h4:y.flds.length≤fc2∧fc2≤maxLen):Calls pG 71 #[pv V F s c cap,xv x vs1 vc1 fs1 fc1,xv y vs2 vc2 fs2 fc2,.func (.func 73) #[] #[]] w λe w'=>PicS w.heap.size w' e (if aJ V F c [x,y]=0 then aT (dh bB) x y else dH) (aJ V F c [x,y])∧Below w.heap.size w w':=by
 by_cases h:aJ V F c [x,y]=0
 ·obtain⟨h0,hcx,hcy⟩:=sM h
  rw[if_pos h,h]
  exact lA 73 (dh bB) (enters_of Tryz.func73 (by kernel_rfl) rfl) V F s c cap x vs1 vc1 fs1 fc1 y vs2 vc2 fs2 fc2 w hcd hx h1 h2 hy h3 h4 h hcx hcy h0 (λg hg=>wL yQ (bM h0).2.2 hg) (DP h0)
 ·rw[if_neg h]
  refine(kS 73 V F s c cap x vs1 vc1 fs1 fc1 y vs2 vc2 fs2 fc2 w hcd hx h1 h2 hy h3 h4 h).mono ?_
  rintro e w1 ⟨rfl,hb⟩
  exact⟨⟨⟨nO,0,[]⟩,nO,0,[],rfl,rfl,ue _ _⟩,hb⟩
theorem Ip (V F:Int)(s:Option Addr)(c:List Ins)(cap:Nat)(x:Pic)(vs1:Option Addr)(vc1:Nat)(fs1:Option Addr)(fc1:Nat)(y:Pic)(vs2:Option Addr)(vc2:Nat)(fs2:Option Addr)(fc2:Nat)(w:World)(hcd:CodeAt w s c)(hx:PicAt w x vs1 fs1)(h1:x.vars.length≤vc1∧vc1≤maxLen)(h2:x.flds.length≤fc1∧fc1≤maxLen)(hy:PicAt w y vs2 fs2)(h3:y.vars.length≤vc2∧vc2≤maxLen)(h4:y.flds.length≤fc2∧fc2≤maxLen):Calls pG 33 #[pv V F s c cap,xv x vs1 vc1 fs1 fc1,xv y vs2 vc2 fs2 fc2] w λe w'=>PicS w.heap.size w' e (if aJ V F c [x,y]=0 then aT (dh bB) x y else dH) (aJ V F c [x,y])∧Below w.heap.size w w':=by
 have B0:Below w.heap.size w ((((w.alloc (Cc #[I Y V,I Y F,U s c.length cap] 24)).alloc (Cc #[Bb x.none,U vs1 x.vars.length vc1,U fs1 x.flds.length fc1] 28)).alloc (Cc #[Bb y.none,U vs2 y.vars.length vc2,U fs2 y.flds.length fc2] 28)).alloc (Cc #[Bb false,U nO 0 0,U nO 0 0] 28)):=by go_grown
 have Z0:=X3.new (((w.alloc (Cc #[I Y V,I Y F,U s c.length cap] 24)).alloc (Cc #[Bb x.none,U vs1 x.vars.length vc1,U fs1 x.flds.length fc1] 28)).alloc (Cc #[Bb y.none,U vs2 y.vars.length vc2,U fs2 y.flds.length fc2] 28)) 28 (Bb false) (U nO 0 0) (U nO 0 0)
 rw[zA,zA,zA] at Z0
 have HT:=aa (D8 V F s c cap x vs1 vc1 fs1 fc1 y vs2 vc2 fs2 fc2 ((((w.alloc (Cc #[I Y V,I Y F,U s c.length cap] 24)).alloc (Cc #[Bb x.none,U vs1 x.vars.length vc1,U fs1 x.flds.length fc1] 28)).alloc (Cc #[Bb y.none,U vs2 y.vars.length vc2,U fs2 y.flds.length fc2] 28)).alloc (Cc #[Bb false,U nO 0 0,U nO 0 0] 28)) (hcd.below B0 (lR _)) (hx.below B0 (lR _)) h1 h2 (hy.below B0 (lR _)) h3 h4)
 clear hcd hx hy
 generalize (if aJ V F c [x,y]=0 then aT (dh bB) x y else dH)=z at *
 generalize aJ V F c [x,y]=ce at *
 go_enter Tryz.func33,Tryz.ntmps33
 go_wp2_with (go_at_call 71;fail)
 refine HT.out.mono ?_
 rintro e w1 ⟨⟨⟨us,uc,vl⟩,gs,gc,L,hZ,rfl,PV⟩,hb1⟩
 have HZZ:=aa hZ
 clear hZ
 have Z1:=Z0.call hb1
 have B1:=B0.trans (hb1.mono B0.size)
 clear HT hb1 B0 Z0
 obtain⟨⟨z0,z1,z2⟩,zz,zf⟩:=id Z1
 have f0:=zf 0
 have f1:=zf 1
 have f2:=zf 2
 clear zf
 have e3:((((w.alloc (Cc #[I Y V,I Y F,U s c.length cap] 24)).alloc (Cc #[Bb x.none,U vs1 x.vars.length vc1,U fs1 x.flds.length fc1] 28)).alloc (Cc #[Bb y.none,U vs2 y.vars.length vc2,U fs2 y.flds.length fc2] 28)).alloc (Cc #[Bb false,U nO 0 0,U nO 0 0] 28)).heap.size=w.heap.size+1+1+1+1:=by simp
 rw[e3] at PV
 have HPV:=aa PV
 clear PV e3
 go_wp2
 refine bodyPost_ret (v:=Tu #[Ag #[Bb z.none,U us vl.length uc,U gs L.length gc],I Y ce]) (by simp[results,Tryz.results33,go_sem,z0,z1,z2]) rfl ⟨⟨⟨us,uc,vl⟩,gs,gc,L,HZZ.out,rfl,((HPV.out.same (λb hb _=> ?_) (by simp[j2])).mono λb hb _=>by omega).down (by omega)⟩,?_⟩
 ·rw[hSe _ _ _ _ (by simp only;omega),hSe _ _ _ _ (by simp only;omega),hSe _ _ _ _ (by simp only;omega)]
 ·exact((B1.setCell (by simp only;omega) _).setCell (by simp only;omega) _).setCell (by simp only;omega) _
theorem If (V F:Int)(s:Option Addr)(c:List Ins)(cap:Nat)(x:Pic)(vs1:Option Addr)(vc1:Nat)(fs1:Option Addr)(fc1:Nat)(y:Pic)(vs2:Option Addr)(vc2:Nat)(fs2:Option Addr)(fc2:Nat)(w:World)(hcd:CodeAt w s c)(hx:PicAt w x vs1 fs1)(h1:x.vars.length≤vc1∧vc1≤maxLen)(h2:x.flds.length≤fc1∧fc1≤maxLen)(hy:PicAt w y vs2 fs2)(h3:y.vars.length≤vc2∧vc2≤maxLen)(h4:y.flds.length≤fc2∧fc2≤maxLen):Calls pG 33 #[pv V F s c cap,xv x vs1 vc1 fs1 fc1,xv y vs2 vc2 fs2 fc2] w λe w'=>kg w.heap.size w' e (if aJ V F c [x,y]=0 then aT (dh bB) x y else dH) (aJ V F c [x,y])∧Below w.heap.size w w':=
 (Ip V F s c cap x vs1 vc1 fs1 fc1 y vs2 vc2 fs2 fc2 w hcd hx h1 h2 hy h3 h4).mono λe w' h=>⟨h.1.weak,h.2⟩
theorem Tryz.info_edge:(Tryz.prog.info? 45).map (λi=>(i.zero,i.size,i.bytes))=sO (sO (Ag #[I Y 0,Bb false,U nO 0 0,U nO 0 0]),4,64):=by kernel_rfl
def fP (fn:Nat)(ar:Value→Array Value)(n sb:Nat)(eb:Option Nat)(w:World)(x x':Pic):Prop:=∀wx xb v gs gc L,Below w.heap.size w wx→lk n sb eb w.heap.size wx xb v gs gc L x→Calls pG fn (ar (Pp (sO ⟨xb,0,nO⟩))) wx λe w'=>e=Rt (Tu #[])∧(∃v' gs' gc' L',lk n sb eb w.heap.size w' xb v' gs' gc' L' x')∧Below w.heap.size wx w'
theorem Kc (w:World)(e:Ed)(cs:Array Value)(t:TypeId)(hcs:cs.toList=dQ e):∀ad,sO (⟨w.heap.size,0,nO⟩:Addr)=sO ad→∀j u,(dQ e)[j]? =sO u→(w.alloc (Cc cs t)).cell? (ad.add j)=sO u:=by
  intro ad e1 j u hj
  cases e1
  rw[Addr.add_lit,Nat.zero_add]
  rw[←hcs] at hj
  simpa[go_sem] using hj
theorem AK (w:World):PicAt w nonePic nO none:=⟨λi hi=>absurd hi (by simp[nonePic]),λi hi=>absurd hi (by simp[nonePic])⟩
theorem yL {V F:Int}{c:List Ins}{x:Pic}(h0:ai V F c=0)(hx:aK V F c x=0):aJ V F c [x,nonePic]=0:=by
  unfold aJ
  rw[if_pos h0]
  unfold cy
  rw[if_pos hx]
  unfold cy
  rw[if_pos (show aK V F c nonePic=0 from rfl)]
  rfl
theorem ym {j:Gs→Gs→Gs}{x:Pic}(hn:x.none=false):aT j x nonePic=x:=by
  unfold aT
  rw[if_neg (by rw[hn];decide),if_pos (show nonePic.none=true from rfl)]
theorem FT {T:Nat→Prop}{H xb:Nat}{w w':World}{v:Ro}{gs:Option Addr}{gc:Nat}{L:List Ro}(h:PicG T H w v gs gc L)(hT:∀b,T b→b≠xb)(ho:Off v (j1 gs L.length gc).ownBlock L xb)(hs:∀b,b≠xb→w'.heap[b]? =w.heap[b]?)(hz:w.heap.size≤w'.heap.size):PicG T H w' v gs gc L:=
  ⟨h.vars.same λb hb=>hs b λe=>ho.1 (by rw[hb,e]),dp h.flds λb hb=>hs b λe=>ho.2.1 (by rw[hb,e]),λr hr=>(h.rows r hr).same λb hb=>hs b λe=>ho.2.2 r hr (by rw[hb,e]),
   λg hg=>⟨(h.sv g hg).1.same (λb hb _=>hs b (hT b hb.1)) hz,(h.sv g hg).2⟩,λr hr g hg=>⟨(h.sf r hr g hg).1.same (λb hb _=>hs b (hT b hb.1)) hz,(h.sf r hr g hg).2⟩,h.dv,h.df,h.dr⟩
theorem rk {p:Prop}(h:p:=by
  refine wpAnyH_ready (rs:=[14]) (by kernel_rfl) (by simp) ?_
  refine AllReadyH.cons rfl (λK hK=> ?_) AllReadyH.nil
  have r0:=A3.1 0 _ rfl
  have r1:=A3.1 1 _ rfl
  have r2:=A3.1 2 _ rfl
  have f0:=A3.2.2 0
  have f1:=A3.2.2 1
  have f2:=A3.2.2 2
  go_simp
  have A4:Cells (((w3.setCell ⟨xb,0,none⟩ (.bool false)).setCell ⟨xb,1,none⟩ (.slice v.rs v.l.length v.rc)).setCell ⟨xb,2,none⟩ (.slice gs L0.length gc)) xb [.bool false,.slice v.rs v.l.length v.rc,.slice gs L0.length gc]:=((A3.put 0 (by simp) _).put 1 (by simp) _).put 2 (by simp) _
  have B4:Below w.heap.size w (((w3.setCell ⟨xb,0,none⟩ (.bool false)).setCell ⟨xb,1,none⟩ (.slice v.rs v.l.length v.rc)).setCell ⟨xb,2,none⟩ (.slice gs L0.length gc)):=((B3.setCell (by simp only;omega) _).setCell (by simp only;omega) _).setCell (by simp only;omega) _
  have hch:∀q,q≠xb→(((w3.setCell ⟨xb,0,none⟩ (.bool false)).setCell ⟨xb,1,none⟩ (.slice v.rs v.l.length v.rc)).setCell ⟨xb,2,none⟩ (.slice gs L0.length gc)).heap[q]? =w3.heap[q]? :=λq hq=>by rw[Below.heap_setCell _ _ _ _ hq,Below.heap_setCell _ _ _ _ hq,Below.heap_setCell _ _ _ _ hq]
  have hcz:w3.heap.size≤(((w3.setCell ⟨xb,0,none⟩ (.bool false)).setCell ⟨xb,1,none⟩ (.slice v.rs v.l.length v.rc)).setCell ⟨xb,2,none⟩ (.slice gs L0.length gc)).heap.size:=by simp[World.setCell]
  have G4:PicG (ClT n sb (Value.slice es EL.length ec).ownBlock xb) w.heap.size (((w3.setCell ⟨xb,0,none⟩ (.bool false)).setCell ⟨xb,1,none⟩ (.slice v.rs v.l.length v.rc)).setCell ⟨xb,2,none⟩ (.slice gs L0.length gc)) v gs gc L0:=FT G3 (λb hb=>hb.2.2.1) OF3 hch hcz
  refine hK.out _ _ (HKZ.out _ B4) (λhHeld4=> ?_)
  clear hK K r0 r1 r2 f0 f1 f2 A3 B3 G3 hch hcz
  refine sm ?_
  generalize (((w3.setCell ⟨xb,0,none⟩ (.bool false)).setCell ⟨xb,1,none⟩ (.slice v.rs v.l.length v.rc)).setCell ⟨xb,2,none⟩ (.slice gs L0.length gc))=w4 at *
  have OF4:=OF3
  have EX4:=EX3
  clear OF3 EX3
  refine vH 15 ?_ ?_
  refine wpAnyH_done (by kernel_rfl) ?_ _
  first|refine hK1 _ _ (Met.intro (hJ1 _ _ ?_))|refine Met.intro (hJ1 _ _ ?_)|refine hJ1 _ _ ?_
  (repeat apply Exists.intro)
  refine⟨?_,rfl⟩
  exact⟨xb,v,gs,gc,L0,rfl,rfl,⟨zxb,A4,G4,OF4,EX4.out.symm⟩,B4⟩):p:=h
theorem eU (fn:Nat)(cs:Array Value)(ar:Value→Array Value)(har:∀p,#[p]++cs=ar p)(hf:∀args wx,Sem.run pG (callFunc fn args) wx=.ok (.enter fn args) wx)(n:Nat)(ta:Int)(x':Pic)(EL:List Ed)(es:Option Addr)(ec:Nat)(sb:Nat)(i:Ins)(V F:Int)(s:Option Addr)(c:List Ins)(cap:Nat)(at_:Int)(x:Pic)(vs:Option Addr)(vc:Nat)(fs:Option Addr)(fc:Nat)(wr fl:Bool)(w0 w:World)(hS:Cells w sb (aP i V F s c cap at_ x vs vc fs fc (U es EL.length ec) wr fl))(hc0:CodeAt w0 s c)(hx0:PicAt w0 x vs fs)(hz0:w0.heap.size≤sb)(hB0:Below w0.heap.size w0 w)(K:SCtx V F c x vc fc i at_)(hn:n=sb)(hER:ERow n sb w (U es EL.length ec) EL)(hL2:EL.length≤10)
    (hCL:fP fn ar n sb (j1 es EL.length ec).ownBlock w x x'):
    Calls pG 93 #[Pp (sO ⟨sb,0,nO⟩),I Y ta,.func (.func fn) #[] cs] w λe w'=>e=Rt (Tu #[])∧(∃ev' q,Cells w' sb (aP i V F s c cap at_ x vs vc fs fc ev' wr fl)∧ERow n sb w' ev' (EL++[q])∧edG q=⟨ta,x'⟩)∧Below sb w w':=by
  obtain⟨tk,hik,hik0,hik1,hik2⟩:=info_parts Tryz.info_edge
  have hnx:x.none=false:=K.kx.none
  have hck:aK V F c x=0:=K.kx.ck
  have HJN:Hid (∀wx,Below w.heap.size w wx→Calls pG 32 #[pv V F s c cap,Ag #[Bb false,U vs x.vars.length vc,U fs x.flds.length fc],Ag #[Bb true,U nO 0 0,U nO 0 0]] wx λe w'=>(∃v gs gc L0,x=bP false v L0∧e=Rt (Tu #[Ag #[Bb false,U v.rs v.l.length v.rc,U gs L0.length gc],I Y 0])∧PicG (λb=>wx.heap.size≤b) wx.heap.size w' v gs gc L0)∧Below wx.heap.size wx w'):=λwx hb=>by
    have hbb:=hB0.trans (hb.mono hB0.size)
    have h:=DV V F s c cap x vs vc fs fc nonePic nO 0 nO 0 wx (hc0.below hbb (lR _)) (hx0.below hbb (lR _)) K.cv K.cf (AK wx) ⟨lR _,j3 _⟩ ⟨lR _,j3 _⟩
    rw[yL K.h0 hck,if_pos rfl,ym hnx] at h
    have exv:xv x vs vc fs fc=Ag #[Bb false,U vs x.vars.length vc,U fs x.flds.length fc]:=by unfold xv;rw[hnx]
    rw[exv] at h
    refine h.mono ?_
    rintro e w' ⟨⟨v,gs,gc,L0,h1,h2,h3⟩,h4⟩
    rw[hnx] at h1 h2
    exact⟨⟨v,gs,gc,L0,h1,h2,h3⟩,h4⟩
  have HKZ:Hid (∀wx,Below w.heap.size w wx→(wx.cell? ⟨sb,6,nO⟩=sO (I Y V)∧wx.cell? ⟨sb,7,nO⟩=sO (I Y F)∧wx.cell? ⟨sb,8,nO⟩=sO (U s c.length cap))∧(wx.cell? ⟨sb,10,nO⟩=sO (Bb false)∧wx.cell? ⟨sb,11,nO⟩=sO (U vs x.vars.length vc)∧wx.cell? ⟨sb,12,nO⟩=sO (U fs x.flds.length fc))):=λwx hb=>by
    have h:=hS.call hb
    exact⟨⟨h.1 6 _ rfl,h.1 7 _ rfl,h.1 8 _ rfl⟩,by rw[←hnx];exact h.1 10 _ rfl,h.1 11 _ rfl,h.1 12 _ rfl⟩
  have HSS:=aa hS
  have HCL:=aa hCL
  have zsb:=hS.2.1
  clear hS hc0 hx0 hnx hck hCL
  go_enter Tryz.func93,Tryz.ntmps93
  go_upto_region 0 with fail
  go_cut [6,7] (λt6 t7 wc=>∃xb v gs gc L0,t6=Pp (sO ⟨xb,0,nO⟩)∧t7=I Y 0∧lk n sb (j1 es EL.length ec).ownBlock w.heap.size wc xb v gs gc L0 x∧Below w.heap.size w wc)
  case first=>
    rename_i J1 K1 hJ1 hK1
    have B1:Below w.heap.size w w.drew:=(bR _ _).drew
    refine wp_region_held_drew (S:=(λwx=>(wx.cell? ⟨sb,6,nO⟩=sO (I Y V)∧wx.cell? ⟨sb,7,nO⟩=sO (I Y F)∧wx.cell? ⟨sb,8,nO⟩=sO (U s c.length cap))∧(wx.cell? ⟨sb,10,nO⟩=sO (Bb false)∧wx.cell? ⟨sb,11,nO⟩=sO (U vs x.vars.length vc)∧wx.cell? ⟨sb,12,nO⟩=sO (U fs x.flds.length fc)))) (by kernel_rfl) (HKZ.out _ B1) (λhHeld=> ?_)
    generalize w.drew=w1 at *
    refine vH 0 ?_ ?_
    refine vH 1 ?_ ?_
    refine vH 2 ?_ ?_
    refine vH 3 ?_ ?_
    refine vH 4 ?_ ?_
    refine vH 5 ?_ ?_
    refine vH 6 ?_ ?_
    refine vH 7 ?_ ?_
    refine vH 8 ?_ ?_
    refine wpAnyH_ready (rs:=[9,13]) (by kernel_rfl) (by simp) ?_
    refine AllReadyH.cons rfl (λK hK=> ?_) (AllReadyH.cons rfl (λK hK=> ?_) AllReadyH.nil)
    · go_simp
      refine(HJN.out w1 B1).mono ?_
      rintro e w2 ⟨⟨v,gs,gc,L0,EX,rfl,PG⟩,hb2⟩
      have B2:=B1.trans (hb2.mono (B1.size))
      have EX2:=aa EX
      clear EX
      have P2:PicG (λb=>w.heap.size≤b) w.heap.size w2 v gs gc L0:=(PG.mono λb hb _=>by have:=B1.size;omega).down B1.size
      clear PG
      refine hK.out _ _ (HKZ.out _ B2) (λhHeld2=> ?_)
      clear hK K hb2 B1
      refine sm ?_
      refine vH 10 ?_ ?_
      refine vH 11 ?_ ?_
      refine vH 12 ?_ ?_
      refine wpAnyH_ready (rs:=[13]) (by kernel_rfl) (by simp) ?_
      refine AllReadyH.cons rfl (λK hK=> ?_) AllReadyH.nil
      go_simp
      have hb3:Below w2.heap.size w2 (w2.alloc (Cc #[Bb false,U nO 0 0,U nO 0 0] 28)):=by go_grown
      have B3:=B2.trans (hb3.mono (B2.size))
      have A3:Cells (w2.alloc (Cc #[Bb false,U nO 0 0,U nO 0 0] 28)) w2.heap.size [Bb false,U nO 0 0,U nO 0 0]:=Cells.new w2 28 [Bb false,U nO 0 0,U nO 0 0]
      have zxb:=B2.size
      have G3:PicG (ClT n sb (j1 es EL.length ec).ownBlock w2.heap.size) w.heap.size (w2.alloc (Cc #[Bb false,U nO 0 0,U nO 0 0] 28)) v gs gc L0:=(P2.mono λb hb hlt=>⟨by omega,by omega,Nat.ne_of_lt hlt,λe=>by have:=(bo hER.own e).1;omega⟩).call hb3
      have OF3:Off v (j1 gs L0.length gc).ownBlock L0 w2.heap.size:=⟨λe=>j4 _ (P2.vars.lt e).1,λe=>j4 _ (bo P2.flds e).1,λr hr e=>j4 _ ((P2.rows r hr).lt e).1⟩
      have EX3:=EX2
      clear P2 EX2
      clear B2
      refine hK.out _ _ (HKZ.out _ B3) (λhHeld3=> ?_)
      clear hK K hb3
      refine sm ?_
      generalize w2.alloc (Cc #[Bb false,U nO 0 0,U nO 0 0] 28)=w3 at *
      generalize w2.heap.size=xb at *
      exact rk
    · go_simp
      have hb2:Below w1.heap.size w1 (w1.alloc (Cc #[Bb false,U nO 0 0,U nO 0 0] 28)):=by go_grown
      have B2:=B1.trans (hb2.mono (B1.size))
      have A2:Cells (w1.alloc (Cc #[Bb false,U nO 0 0,U nO 0 0] 28)) w1.heap.size [Bb false,U nO 0 0,U nO 0 0]:=Cells.new w1 28 [Bb false,U nO 0 0,U nO 0 0]
      have zxb:=B1.size
      clear B1
      refine hK.out _ _ (HKZ.out _ B2) (λhHeld2=> ?_)
      clear hK K hb2
      refine sm ?_
      generalize w1.alloc (Cc #[Bb false,U nO 0 0,U nO 0 0] 28)=w2 at *
      generalize w1.heap.size=xb at *
      refine wpAnyH_ready (rs:=[9]) (by kernel_rfl) (by simp) ?_
      refine AllReadyH.cons rfl (λK hK=> ?_) AllReadyH.nil
      go_simp
      refine(HJN.out w2 B2).mono ?_
      rintro e w3 ⟨⟨v,gs,gc,L0,EX,rfl,PG⟩,hb3⟩
      have A3:=A2.call hb3
      have B3:=B2.trans (hb3.mono (B2.size))
      have EX3:=aa EX
      clear EX
      have G3:PicG (ClT n sb (j1 es EL.length ec).ownBlock xb) w.heap.size w3 v gs gc L0:=((PG.mono λb hb _=>⟨by have:=B2.size;omega,by have:=B2.size;omega,by have:=A2.2.1;omega,λe=>by have:=(bo hER.own e).1;have:=B2.size;omega⟩).down B2.size)
      have OF3:Off v (j1 gs L0.length gc).ownBlock L0 xb:=⟨λe=>by have:=(PG.vars.lt e).2;have:=A2.2.1;omega,λe=>by have:=(bo PG.flds e).2;have:=A2.2.1;omega,λr hr e=>by have:=((PG.rows r hr).lt e).2;have:=A2.2.1;omega⟩
      clear PG
      refine hK.out _ _ (HKZ.out _ B3) (λhHeld3=> ?_)
      clear hK K hb3 A2 B2
      refine sm ?_
      refine vH 10 ?_ ?_
      refine vH 11 ?_ ?_
      refine vH 12 ?_ ?_
      exact rk
  obtain⟨xb,v,gs,gc,L0,rfl,rfl,CP,B1⟩:=hcut
  generalize wc=w1 at *
  clear wc HKZ HJN
  go_wp2_with fail
  refine(HCL.out w1 xb v gs gc L0 B1 CP).mono ?_
  rintro e w2 ⟨rfl,⟨v',gs',gc',L',CP'⟩,hb2⟩
  have B2:=B1.trans hb2
  have zxb:=CP'.1
  have A2:=CP'.2.1
  have G2:=CP'.2.2.1
  have EX':=CP'.2.2.2.2
  have S2:=HSS.out.call B2
  have ER1:=hER
  have ER2:=hER.call B2
  have zs2:=S2.2.1
  have bz:=B2.size
  clear CP CP' hb2 B1 HCL v gs gc L0
  have HKZ:Hid (∀wx,Below w2.heap.size w2 wx→wx.cell? ⟨sb,13,nO⟩=sO (U es EL.length ec)∧(wx.cell? ⟨xb,0,nO⟩=sO (Bb false)∧wx.cell? ⟨xb,1,nO⟩=sO (U v'.rs v'.l.length v'.rc)∧wx.cell? ⟨xb,2,nO⟩=sO (U gs' L'.length gc'))):=λwx hb=>⟨(S2.call hb).1 13 _ rfl,(A2.call hb).1 0 _ rfl,(A2.call hb).1 1 _ rfl,(A2.call hb).1 2 _ rfl⟩
  go_upto_region 2 with fail
  have HD:Below w2.heap.size w2 w2.drew:=(bR _ _).drew
  refine au (S:=(λwx=>wx.cell? ⟨sb,13,nO⟩=sO (U es EL.length ec)∧(wx.cell? ⟨xb,0,nO⟩=sO (Bb false)∧wx.cell? ⟨xb,1,nO⟩=sO (U v'.rs v'.l.length v'.rc)∧wx.cell? ⟨xb,2,nO⟩=sO (U gs' L'.length gc')))) [12] (by kernel_rfl) (HKZ.out _ HD) (λhHeld=> ?_)
  generalize w2.drew=w3 at *
  refine vZ 0 ?_ ?_
  refine vZ 1 ?_ ?_
  refine vZ 2 ?_ ?_
  refine vZ 3 ?_ ?_
  refine vZ 4 ?_ ?_
  refine vZ 5 ?_ ?_
  refine vZ 6 ?_ ?_
  refine vZ 7 ?_ ?_
  refine an (i:=8) rfl (by kernel_rfl) (λK hK=> ?_)
  go_simp
  have HB4:Below w2.heap.size w2 (w3.alloc (Cc #[I Y ta,Bb false,U v'.rs v'.l.length v'.rc,U gs' L'.length gc'] 45)):=HD.alloc HD.size _
  refine hK.out _ _ (HKZ.out _ HB4) (λhHeld=> ?_)
  clear hK K
  refine sm ?_
  refine an (i:=9) rfl (by kernel_rfl) (λK hK=> ?_)
  have R4:=ER2.call HB4
  have hfl:L'.map roG=x'.flds:=by rw[←EX'];rfl
  have hvl:roG v'=x'.vars:=by rw[←EX'];rfl
  have hnn:x'.none=false:=by rw[←EX'];rfl
  have ln1:x'.vars.length=v'.l.length:=by rw[←hvl];simp[roG]
  have ln2:x'.flds.length=L'.length:=by rw[←hfl];simp
  have EDI:Cu (λb=>n≤b∧b≠sb∧(j1 es EL.length ec).ownBlock≠sO b) (w3.alloc (Cc #[I Y ta,Bb false,U v'.rs v'.l.length v'.rc,U gs' L'.length gc'] 45)) ⟨ta,x',v'.rs,v'.rc,gs',gc'⟩:=by
    have h1:=(G2.call HB4).on false
    rw[EX'] at h1
    have c1:=G2.vcap false
    have c2:=G2.fcap' false
    rw[EX'] at c1 c2
    refine⟨h1.mono λb hb _=> ?_,c1,c2⟩
    rcases hb with hb|hb
    · exact⟨hb.1,hb.2.1,hb.2.2.2⟩
    · exact⟨by omega,by omega,λe=>by have:=(bo ER1.own e).1;omega⟩
  refine iq _ rfl _ _ 41 rfl n 45 tk (Ag #[I Y 0,Bb false,U nO 0 0,U nO 0 0]) 4 64 Tryz.underlying41 hik hik0 hik1 hik2 rfl (by decide) _ _ _ rfl R4.own (sO ⟨w3.heap.size,0,nO⟩) 1 1 (dQ ⟨ta,x',v'.rs,v'.rc,gs',gc'⟩) rfl rfl (λh=>by cases h) (Kc w3 ⟨ta,x',v'.rs,v'.rc,gs',gc'⟩ #[I Y ta,Bb false,U v'.rs v'.l.length v'.rc,U gs' L'.length gc'] _ (by simp only[dQ,hnn,ln1,ln2])) (yE _) (by unfold maxLen;omega) (by omega) (by rw[zA];have:=HD.size;omega) ?_
  intro ev' w5 hown hgrow hat
  have R5:=R4.grown EDI hown hgrow hat (by rw[zA];have:=HD.size;omega)
  have HB5:∀b,b < w2.heap.size→(j1 es EL.length ec).ownBlock≠sO b→w5.heap[b]? =w2.heap[b]? :=λb hb hne=>by rw[hgrow.block b (by rw[zA];have:=HD.size;omega) (λe=>hne e.symm)];exact HB4.block b hb
  have HL5:Below sb w2 w5:=(HB4.mono (Nat.le_of_lt zs2)).grown hgrow (by rw[zA];have:=HD.size;omega) (λk hk=>by have:=(bo R4.own hk).2;omega)
  obtain⟨es',ec',rfl,-,-⟩:=R5.form
  rw[show (EL++[(⟨ta,x',v'.rs,v'.rc,gs',gc'⟩:Ed)]).length=EL.length+1 by simp] at R5
  have S5:Cells w5 sb (aP i V F s c cap at_ x vs vc fs fc (U es EL.length ec) wr fl):=S2.same (HB5 sb zs2 ER1.off) HL5.size
  have X5:Cells w5 xb [Bb false,U v'.rs v'.l.length v'.rc,U gs' L'.length gc']:=A2.same (HB5 xb A2.2.1 (λe=>by have:=(bo ER1.own e).1;omega)) HL5.size
  refine hK.out _ _ ⟨S5.1 13 _ rfl,X5.1 0 _ rfl,X5.1 1 _ rfl,X5.1 2 _ rfl⟩ (λhHeld=> ?_)
  clear hK K hown hgrow hat HB4 R4 EDI
  refine sm ?_
  refine vZ 10 ?_ ?_
  refine vZ 11 ?_ ?_
  refine aL (i:=12) rfl (by kernel_rfl) (by kernel_rfl) (λK hK=> ?_)
  have s13:=S5.1 13 _ rfl
  have f13:=S5.2.2 13
  go_simp
  refine hK.out _ _ ?_
  clear hK K
  refine sm ?_
  refine aq (by kernel_rfl) ?_ _
  first|go_end0|refine bodyPost_ret (results_none rfl _ _ _) rfl ?_
  refine⟨rfl,⟨_,⟨ta,x',v'.rs,v'.rc,gs',gc'⟩,S5.put 13 (by simp[aP]) _,R5.same (λb hb hne _=>hSe _ _ _ _ hne) (by simp[j2]),rfl⟩,((B2.mono (Nat.le_of_lt zsb)).trans HL5).setCell (lR _) _⟩
theorem Ao (a:Array Value)(wx:World):Sem.run pG (callFunc 94 a) wx=.ok (.enter 94 a) wx:=by kernel_rfl
theorem DK (n:Nat)(ta:Int)(x':Pic):type_of% (eU 94 #[] (λp=>#[p]) (λ_=>rfl) Ao n ta x'):=eU 94 #[] (λp=>#[p]) (λ_=>rfl) Ao n ta x'
theorem wB (a:Array Value)(wx:World):Sem.run pG (callFunc 96 a) wx=.ok (.enter 96 a) wx:=by kernel_rfl
theorem BQ (n:Nat)(ta:Int)(x':Pic):type_of% (eU 96 #[] (λp=>#[p]) (λ_=>rfl) wB n ta x'):=eU 96 #[] (λp=>#[p]) (λ_=>rfl) wB n ta x'
theorem RoOwn.gu {w:World}{B:Nat}{r:Ro}(h:RoOwn w B r){b:Nat}(hb:r.rs=sO ⟨b,0,nO⟩){k:Nat}(hk:k < r.l.length):GuAt w b (k * 7) r.l[k].g r.l[k].ss r.l[k].cap:=by
 obtain⟨b',e,eb,_,hz⟩:=h.form (by omega)
 rw[hb] at e
 cases e
 have h1:w.ownsRow B 91 7 (U (sO ⟨b,0,nO⟩) r.l.length r.rc) r.l.length (aH r.l):=by rw[←hb];exact h
 have hc:∀j,j < 7→w.cell? ⟨b,k * 7+j,nO⟩=(bC r.l[k])[j]? :=λj hj=>by
  rw[←eI r.l k hk j hj]
  exact World.ownsRow.cellAt h1 _ (by omega)
 exact⟨⟨hc 0 (by omega),hc 1 (by omega),hc 2 (by omega),hc 3 (by omega),hc 4 (by omega),hc 5 (by omega),hc 6 (by omega)⟩,hz⟩
theorem kr {n:Bool}{v:Ro}{L:List Ro}{k:Nat}{y:Gc}:bP n ⟨v.rs,v.rc,v.l.set k y⟩ L=bd (bP n v L) (k:Int) y.g:=by simp[bP,roG,bd,List.map_set]
theorem Es {n sb H:Nat}{eb:Option Nat}{w0 w:World}{xb:Nat}{v:Ro}{gs:Option Addr}{gc:Nat}{L:List Ro}{y:Gc}(h:IntsIn (λb=>n≤b∧b≠sb∧eb≠sO b) w0 y.ss y.g.s)(h1:y.g.s.length≤y.cap)(h2:y.cap≤maxLen)(hH:w0.heap.size≤H)(hb:Below w0.heap.size w0 w)(G:PicG (ClT n sb eb xb) H w v gs gc L)(hx:H≤xb):cd (λb=>ClT n sb eb xb b∧Off v (j1 gs L.length gc).ownBlock L b) w y:=by
 refine⟨((h.mono (S':=λb=>(n≤b∧b≠sb∧eb≠sO b)∧b < w0.heap.size) λb hb hlt=>⟨hb,hlt⟩).call hb).mono λb hb' _=>⟨⟨hb'.1.1,hb'.1.2.1,by omega,hb'.1.2.2⟩,λe=> ?_,λe=> ?_,λr hr e=> ?_⟩,h1,h2⟩
 ·have:=(G.vars.lt e).2;omega
 ·have:=(bo G.flds e).2;omega
 ·have:=((G.rows r hr).lt e).2;omega
theorem GE (n sb:Nat)(eb:Option Nat)(w:World)(x:Pic):fP 94 (λp=>#[p]) n sb eb w x x:=by
 intro wx xb v gs gc L hb hp
 have HP:=aa hp
 clear hp hb
 go_enter Tryz.func94,Tryz.ntmps94
 go_wp2
 first|go_end0|refine bodyPost_ret (results_none rfl _ _ _) rfl ?_
 exact⟨rfl,⟨v,gs,gc,L,HP.out⟩,bR _ _⟩
theorem FM (n sb:Nat)(eb:Option Nat)(w:World)(x:Pic):fP 96 (λp=>#[p]) n sb eb w x x:=by
 intro wx xb v gs gc L hb hp
 have HP:=aa hp
 clear hp hb
 go_enter Tryz.func96,Tryz.ntmps96
 go_wp2
 first|go_end0|refine bodyPost_ret (results_none rfl _ _ _) rfl ?_
 exact⟨rfl,⟨v,gs,gc,L,HP.out⟩,bR _ _⟩
theorem Is (n sb:Nat)(eb:Option Nat)(i:Ins)(V F:Int)(s:Option Addr)(c:List Ins)(cap:Nat)(at_:Int)(x:Pic)(vs:Option Addr)(vc:Nat)(fs:Option Addr)(fc:Nat)(ev:Value)(wr fl:Bool)(gb pb:Nat)(g:Gs)(ss:Option Addr)(gc:Nat)(w:World)(hS:Cells w sb (aP i V F s c cap at_ x vs vc fs fc ev wr fl))(hP:Cells w pb [Pp (sO ⟨sb,0,nO⟩)])(hG:Cells w gb [Bb g.n,Bb g.sp.n,I Y g.sp.lo,I Y g.sp.hi,Bb g.t,Bb g.f,U ss g.s.length gc])(hI:IntsIn (λb=>n≤b∧b≠sb∧eb≠sO b) w ss g.s)(h1:g.s.length≤gc)(h2:gc≤maxLen)(hk:∃k:Nat,i.tgt=k∧k < x.vars.length):
  fP 162 (λp=>#[p,Pp (sO ⟨gb,0,nO⟩),Pp (sO ⟨pb,0,nO⟩)]) n sb eb w x (bd x i.tgt g):=by
 intro wx xb v gs gcc L hb0 hp
 obtain⟨zxb,A0,G0,OF,EX⟩:=hp
 have hdr:Below wx.heap.size wx wx.drew:=(bR _ _).drew
 have hb:=hb0.drew
 have A:=A0.call hdr
 have G:=G0.call hdr
 clear hb0 A0 G0 hdr
 obtain⟨k,ek,hkx⟩:=hk
 have hkv:k < v.l.length:=by rw[←EX] at hkx;simpa[bP,roG] using hkx
 obtain⟨vb,evb,eb1,hvb,zvb⟩:=G.vars.form (by omega)
 have GU:=G.vars.gu evb hkv
 have GI:=Es (y:=⟨g,ss,gc⟩) hI h1 h2 (lR _) hb G zxb
 have GZ:=G.setV evb hkv GI
 have TH:=aa (G.vars.thaw evb)
 have nxv:xb≠vb:=λe=>OF.1 (by rw[eb1,e])
 have n0:(0:Int)≤(k:Int):=by omega
 have n1:(k:Int) < (v.l.length:Int):=by omega
 have A1:=A.1 1 _ rfl
 rw[evb] at A1
 have S1:=(hS.call hb).1 1 _ rfl
 rw[ek] at S1
 have P1:=(hP.call hb).1 0 _ rfl
 have G7:=hG.call hb
 have HKZ:Hid (wx.drew.cell? ⟨xb,1,nO⟩=sO (U (sO ⟨vb,0,nO⟩) v.l.length v.rc)∧wx.drew.cell? ⟨pb,0,nO⟩=sO (Pp (sO ⟨sb,0,nO⟩))∧wx.drew.cell? ⟨sb,1,nO⟩=sO (I Y (k:Int))∧(wx.drew.cell? ⟨gb,0,nO⟩=sO (Bb g.n)∧wx.drew.cell? ⟨gb,1,nO⟩=sO (Bb g.sp.n)∧wx.drew.cell? ⟨gb,2,nO⟩=sO (I Y g.sp.lo)∧wx.drew.cell? ⟨gb,3,nO⟩=sO (I Y g.sp.hi)∧wx.drew.cell? ⟨gb,4,nO⟩=sO (Bb g.t)∧wx.drew.cell? ⟨gb,5,nO⟩=sO (Bb g.f)∧wx.drew.cell? ⟨gb,6,nO⟩=sO (U ss g.s.length gc))):=⟨A1,P1,S1,G7.1 0 _ rfl,G7.1 1 _ rfl,G7.1 2 _ rfl,G7.1 3 _ rfl,G7.1 4 _ rfl,G7.1 5 _ rfl,G7.1 6 _ rfl⟩
 have HPOST:Hid (∃v' gs' gc' L',lk n sb eb w.heap.size (fG wx.drew vb k ⟨g,ss,gc⟩) xb v' gs' gc' L' (bd x i.tgt g)):=by
  refine⟨⟨v.rs,v.rc,v.l.set k ⟨g,ss,gc⟩⟩,gs,gcc,L,zxb,?_,GZ,(Off.same (gZ (by simp))).2 OF,?_⟩
  ·simp only[List.length_set]
   exact A.same (nR nxv) (by rw[nJ];exact lR _)
  ·rw[kr,EX,ek]
 have HBEL:Hid (Below w.heap.size wx (fG wx.drew vb k ⟨g,ss,gc⟩)):=iz (bR _ _).drew hvb
 clear A1 S1 P1 G7 GI GZ A G OF EX ek hS hP hG hI
 unfold fG at HPOST HBEL
 go_enter Tryz.func162,Tryz.ntmps162
 go_upto_region 0 with fail
 refine au (S:=(λwx=>wx.cell? ⟨xb,1,nO⟩=sO (U (sO ⟨vb,0,nO⟩) v.l.length v.rc)∧wx.cell? ⟨pb,0,nO⟩=sO (Pp (sO ⟨sb,0,nO⟩))∧wx.cell? ⟨sb,1,nO⟩=sO (I Y (k:Int))∧(wx.cell? ⟨gb,0,nO⟩=sO (Bb g.n)∧wx.cell? ⟨gb,1,nO⟩=sO (Bb g.sp.n)∧wx.cell? ⟨gb,2,nO⟩=sO (I Y g.sp.lo)∧wx.cell? ⟨gb,3,nO⟩=sO (I Y g.sp.hi)∧wx.cell? ⟨gb,4,nO⟩=sO (Bb g.t)∧wx.cell? ⟨gb,5,nO⟩=sO (Bb g.f)∧wx.cell? ⟨gb,6,nO⟩=sO (U ss g.s.length gc)))) [11] (by kernel_rfl) HKZ.out (λhHeld=> ?_)
 generalize wx.drew=wq at *
 refine vZ 0 ?_ ?_
 refine vZ 1 ?_ ?_
 refine vZ 2 ?_ ?_
 refine vZ 3 ?_ ?_
 refine vZ 4 ?_ ?_
 refine vZ 5 ?_ ?_
 refine vZ 6 ?_ ?_
 refine vZ 7 ?_ ?_
 refine vZ 8 ?_ ?_
 refine vZ 9 ?_ ?_
 refine vZ 10 ?_ ?_
 refine aL (i:=11) rfl (by kernel_rfl) (by kernel_rfl) (λK hK=> ?_)
 obtain⟨⟨q0,q1,q2,q3,q4,q5,q6⟩,qz⟩:=id GU
 have f0:=TH.out (k * 7)
 have f1:=TH.out (k * 7+1)
 have f2:=TH.out (k * 7+2)
 have f3:=TH.out (k * 7+3)
 have f4:=TH.out (k * 7+4)
 have f5:=TH.out (k * 7+5)
 have f6:=TH.out (k * 7+6)
 go_simp
 refine hK.out _ _ ?_
 clear hK K q0 q1 q2 q3 q4 q5 q6 qz f0 f1 f2 f3 f4 f5 f6
 refine sm ?_
 refine aq (by kernel_rfl) ?_ _
 go_wp2
 first|go_end0|refine bodyPost_ret (results_none rfl _ _ _) rfl ?_
 exact⟨rfl,HPOST.out,HBEL.out⟩
theorem Bv (V F:Int)(s:Option Addr)(c:List Ins)(cap:Nat)(w:World)(hcd:CodeAt w s c)(h:ai V F c≠0):
  Calls pG 38 #[pv V F s c cap] w λe w'=>KP w' e dH (ai V F c)∧Below w.heap.size w w':=by
 have B0:Below w.heap.size w ((w.alloc (Cc #[I Y V,I Y F,U s c.length cap] 24)).alloc (Cc #[Bb false,U nO 0 0,U nO 0 0] 28)):=by go_grown
 have P0:=(PrAt.new w V F s c cap).call (w':=((w.alloc (Cc #[I Y V,I Y F,U s c.length cap] 24)).alloc (Cc #[Bb false,U nO 0 0,U nO 0 0] 28))) (by go_grown)
 have Z0:=X3.new (w.alloc (Cc #[I Y V,I Y F,U s c.length cap] 24)) 28 (Bb false) (U nO 0 0) (U nO 0 0)
 rw[zA] at Z0
 have HC:=aa (di V F s cap c ((w.alloc (Cc #[I Y V,I Y F,U s c.length cap] 24)).alloc (Cc #[Bb false,U nO 0 0,U nO 0 0] 28)) (hcd.below B0 (lR _)))
 have d1:(ai V F c !=0)=true:=by simpa using h
 generalize ai V F c=ce at *
 clear h hcd P0
 go_enter Tryz.func38,Tryz.ntmps38
 go_wp2_with (go_at_call 76;fail)
 refine HC.out.mono ?_
 rintro e w1 ⟨rfl,hb1⟩
 have Z1:=Z0.call hb1
 have B1:=B0.trans (hb1.mono B0.size)
 clear hb1 B0 Z0 HC
 obtain⟨⟨z0,z1,z2⟩,zz,zf⟩:=id Z1
 have f0:=zf 0
 have f1:=zf 1
 have f2:=zf 2
 clear zf
 go_wp2
 refine bodyPost_ret (v:=Tu #[Ag #[Bb false,U nO 0 0,U nO 0 0],I Y ce]) (by simp[results,Tryz.results38,go_sem,z0,z1,z2]) rfl ⟨⟨nO,0,nO,0,rfl,⟨λi hi=>absurd hi (by simp[dH]),λi hi=>absurd hi (by simp[dH])⟩,⟨j3 _,j3 _⟩,j3 _,j3 _⟩,?_⟩
 exact((B1.setCell (by simp only;omega) _).setCell (by simp only;omega) _).setCell (by simp only;omega) _
theorem D4 (v f:Nat)(s:Option Addr)(c:List Ins)(cap:Nat)(w:World)(hcd:CodeAt w s c)(h:ai (v:Int) (f:Int) c=0):
  Calls pG 38 #[pv (v:Int) (f:Int) s c cap] w λe w'=>kg w.heap.size w' e (cH (v:Int) (f:Int) c) 0∧Below w.heap.size w w':=by
 have efp:cH (v:Int) (f:Int) c=⟨false,j0 v iw,j0 c.length (j0 f bX)⟩:=by simp[cH]
 rw[efp]
 clear efp
 obtain⟨⟨_,hv8⟩,⟨_,hf3⟩,h60⟩:=bM h
 obtain⟨tk,hk,hx0,hx1,hx2⟩:=info_parts Tryz.info_row
 have B0:Below w.heap.size w ((w.alloc (Cc #[I Y (v:Int),I Y (f:Int),U s c.length cap] 24)).alloc (Cc #[Bb false,U nO 0 0,U nO 0 0] 28)):=by go_grown
 have P0:=(PrAt.new w (v:Int) (f:Int) s c cap).call (w':=((w.alloc (Cc #[I Y (v:Int),I Y (f:Int),U s c.length cap] 24)).alloc (Cc #[Bb false,U nO 0 0,U nO 0 0] 28))) (by go_grown)
 have Z0:=X3.new (w.alloc (Cc #[I Y (v:Int),I Y (f:Int),U s c.length cap] 24)) 28 (Bb false) (U nO 0 0) (U nO 0 0)
 rw[zA] at Z0
 have HC:=aa (di (v:Int) (f:Int) s cap c ((w.alloc (Cc #[I Y (v:Int),I Y (f:Int),U s c.length cap] 24)).alloc (Cc #[Bb false,U nO 0 0,U nO 0 0] 28)) (hcd.below B0 (lR _)))
 rw[h] at HC
 have HNO:=aa ni
 have HRF:Hid (∀wx,Calls pG 78 #[Ag #[Bb false,Bb true,I Y 0,I Y 0,Bb false,Bb false,U nO 0 0],I Y (f:Int)] wx λe w'=>(∃rs,e=Rt (U rs f f)∧GsIn (λb=>wx.heap.size≤b) w' rs (j0 f bX))∧Below wx.heap.size wx w'):=λwx=>vQ bX rfl f (by omega) wx
 have HRV:Hid (∀wx,Calls pG 78 #[Ag #[Bb true,Bb true,I Y 0,I Y 0,Bb false,Bb false,U nO 0 0],I Y (v:Int)] wx λe w'=>(∃rs,e=Rt (U rs v v)∧GsIn (λb=>wx.heap.size≤b) w' rs (j0 v iw))∧Below wx.heap.size wx w'):=λwx=>vQ iw rfl v (by omega) wx
 clear h hcd
 go_enter Tryz.func38,Tryz.ntmps38
 go_wp2_with (go_at_call 76;fail)
 refine HC.out.mono ?_
 rintro e w1 ⟨rfl,hb1⟩
 have Z1:=Z0.call hb1
 have P1:=P0.call hb1
 have B1:=B0.trans (hb1.mono B0.size)
 have z1:w.heap.size+1+1≤w1.heap.size:=by have:=hb1.size;simpa using this
 clear hb1 B0 Z0 P0 HC
 go_wp2_with (go_at_call 77;fail)
 refine(HNO.out _).mono ?_
 rintro e w2 ⟨rfl,hb2⟩
 have hb3:Below w2.heap.size w2 (w2.alloc (Cc #[Bb true,Bb true,I Y 0,I Y 0,Bb false,Bb false,U nO 0 0] 91)):=by go_grown
 have hb23:=hb2.trans (hb3.mono hb2.size)
 have Z3:=Z1.call hb23
 have P3:=P1.call hb23
 have B3:=B1.trans (hb23.mono B1.size)
 have z3:w.heap.size+1+1≤(w2.alloc (Cc #[Bb true,Bb true,I Y 0,I Y 0,Bb false,Bb false,U nO 0 0] 91)).heap.size:=lT z1 hb23.size
 clear hb2 hb3 hb23 Z1 P1 B1 z1
 obtain⟨⟨p0,p1,p2⟩,pz⟩:=id P3
 go_wp2_with (go_at_call 78;fail)
 refine(HRV.out _).mono ?_
 rintro e w4 ⟨⟨vs,rfl,GV0⟩,hb4⟩
 clear p0 p1 p2 pz HRV
 have hbx:Below w4.heap.size w4 (w4.alloc (Cc #[Bb false,U vs v v,U nO 0 0] 28)):=by go_grown
 have hb45:=hb4.trans (hbx.mono hb4.size)
 have Z5:=Z3.call hb45
 have P5:=P3.call hb45
 have B5:=B3.trans (hb45.mono B3.size)
 have U5:=X3.new w4 28 (Bb false) (U vs v v) (U nO 0 0)
 have z5:w.heap.size+1+1≤w4.heap.size:=lT z3 hb4.size
 have GV5:GsIn (λb=>w.heap.size+1+1≤b∧b < w4.heap.size+1∧b≠w4.heap.size) (w4.alloc (Cc #[Bb false,U vs v v,U nO 0 0] 28)) vs (j0 v iw):=(GV0.mono (S':=λb=>w.heap.size+1+1≤b∧b < w4.heap.size+1∧b≠w4.heap.size) λb h1 h2=>⟨lT z3 h1,by omega,by omega⟩).call hbx
 have e5:w4.heap.size+1≤(w4.alloc (Cc #[Bb false,U vs v v,U nO 0 0] 28)).heap.size:=by simp
 have l5:w4.heap.size < w4.heap.size+1:=by omega
 clear hb4 hbx hb45 Z3 P3 B3 z3 GV0
 obtain⟨⟨p0,p1,p2⟩,pz⟩:=id P5
 go_wp2
 clear p0 p1 p2 pz
 generalize w4.alloc (Cc #[Bb false,U vs v v,U nO 0 0] 28)=w5 at *
 generalize w4.heap.size+1=N at *
 generalize w4.heap.size=zb at *
 go_loopw [23] (λi wr=>∃(k:Nat) (fs:Option Addr) (fc:Nat) (L:List Rw),k≤c.length∧i=I Y k∧PrAt wr w.heap.size (v:Int) (f:Int) s c cap∧X3 wr (w.heap.size+1) (Bb false) (U nO 0 0) (U nO 0 0)∧X3 wr zb (Bb false) (U vs v v) (U fs L.length fc)∧FRow wr N (U fs L.length fc) L∧Hid (L.map Rw.l=j0 k (j0 f bX))∧GsIn (λb=>w.heap.size+1+1≤b∧b < N∧b≠zb) wr vs (j0 v iw)∧Below w.heap.size w wr∧N≤wr.heap.size) (λi _=>c.length - (intOf i).toNat)
 case atStart=>exact⟨0,nO,0,[],j3 _,rfl,P5,Z5,U5,FRow.nil _ _,rfl,GV5,B5,e5⟩
 case round=>
  clear P5 Z5 U5 GV5 B5 e5
  obtain⟨k,fs,fc,L,hk1,rfl,PR,ZR,UR,FR,HL,GV,LR,zr⟩:=hrel
  have LL:Hid (L.length=k):=by
   show _=_
   have h1:=congrArg List.length HL.out
   simpa using h1
  by_cases hlt:k < c.length
  ·have n0:(0:Int)≤(k:Int):=by omega
   have n1:(k:Int) < (c.length:Int):=by omega
   obtain⟨⟨p0,p1,p2⟩,pz⟩:=id PR
   obtain⟨⟨y0,y1,y2⟩,yz,yf⟩:=id UR
   have HKZ:Hid (∀wx,Below N wr wx→wx.cell? ⟨w.heap.size,1,nO⟩=sO (I Y (f:Int))∧wx.cell? ⟨zb,2,nO⟩=sO (U fs L.length fc)):=λwx hx=>⟨by rw[hx.cell (by simp only;omega)];exact p1,by rw[hx.cell (by simp only;omega)];exact y2⟩
   have HD:Below wr.heap.size wr wr.drew:=(bR _ _).drew
   go_upto_region 9 with fail
   clear p0 p1 p2 pz y0 y1 y2 yz yf
   refine au (S:=(λwx=>wx.cell? ⟨w.heap.size,1,nO⟩=sO (I Y (f:Int))∧wx.cell? ⟨zb,2,nO⟩=sO (U fs L.length fc))) [9] (by kernel_rfl) (HKZ.out _ (HD.mono zr)) (λhHeld=> ?_)
   refine vZ 0 ?_ ?_
   refine vZ 1 ?_ ?_
   refine vZ 3 ?_ ?_
   refine vZ 4 ?_ ?_
   refine an (i:=2) rfl (by kernel_rfl) (λK hK=> ?_)
   go_simp
   go_at_call 77
   refine(HNO.out _).mono ?_
   rintro e w4 ⟨rfl,hb4⟩
   have HW4:Below wr.heap.size wr w4:=HD.trans (hb4.mono HD.size)
   have HB4:Below N wr w4:=HW4.mono zr
   go_wp2_with fail
   refine hK.out _ _ (HKZ.out _ HB4) (λhHeld=> ?_)
   clear hK K
   refine sm ?_
   refine an (i:=5) rfl (by kernel_rfl) (λK hK=> ?_)
   go_simp
   go_at_call 78
   refine(HRF.out _).mono ?_
   rintro e w5 ⟨⟨rs,rfl,GR⟩,hb5⟩
   have HW5:Below wr.heap.size wr w5:=HW4.trans (hb5.mono HW4.size)
   have HB5:Below N wr w5:=HW5.mono zr
   go_wp2_with fail
   refine hK.out _ _ (HKZ.out _ HB5) (λhHeld=> ?_)
   clear hK K
   refine sm ?_
   refine an (i:=6) rfl (by kernel_rfl) (λK hK=> ?_)
   go_simp
   have HW6:Below wr.heap.size wr (w5.alloc (Cc #[U rs f f] 25)):=HW5.alloc HW5.size _
   have HB6:Below N wr (w5.alloc (Cc #[U rs f f] 25)):=HW6.mono zr
   refine hK.out _ _ (HKZ.out _ HB6) (λhHeld=> ?_)
   clear hK K
   refine sm ?_
   refine an (i:=7) rfl (by kernel_rfl) (λK hK=> ?_)
   have F6:=FR.call HW6
   have RX:BV (λb=>N≤b∧(j1 fs L.length fc).ownBlock≠sO b) (w5.alloc (Cc #[U rs f f] 25)) ⟨rs,f,j0 f bX⟩:=⟨(GR.mono λb h1 _=>⟨lT zr (lT HW4.size h1),λe=>by have:=(bo FR.1 e).1;have:=HW4.size;omega⟩).call (by go_grown),by simp,by unfold maxLen;simp only;omega⟩
   have hlr:(j0 f bX).length=f:=j5
   refine iq _ rfl _ _ 26 rfl N 25 tk (U nO 0 0) 1 24 Tryz.underlying26 hk hx0 hx1 hx2 rfl (by decide) _ _ _ rfl F6.1 (sO ⟨w5.heap.size,0,nO⟩) 1 1 [U rs f f] rfl rfl (λh=>by cases h) (F9 w5 _ _) (by intro u hu;rw[List.mem_singleton.1 hu];rfl) (by unfold maxLen;have:=LL.out;omega) (by have:=LL.out;omega) (by rw[zA];have:=HW5.size;omega) ?_
   intro v' w7 hown hgrow hat
   have F7:=F6.grown (x:=⟨rs,f,j0 f bX⟩) RX (by unfold rwV;rw[hlr];exact hown) hgrow hat
   have HB7:Below N wr w7:=HB6.grown hgrow (by rw[zA];have:=HW5.size;omega) (λk hk=>(bo F6.1 hk).2)
   obtain⟨fs',fc',rfl,-,-,-⟩:=F7.rows
   refine hK.out _ _ (HKZ.out _ HB7) (λhHeld=> ?_)
   clear hK K hown hgrow hat F6 RX HB6 HW6 HB5 HW5 GR hlr
   refine sm ?_
   refine vZ 8 ?_ ?_
   refine aL (i:=9) rfl (by kernel_rfl) (by kernel_rfl) (λK hK=> ?_)
   have U7:X3 w7 zb _ _ _:=UR.same (HB7.block _ (by omega)) HB7.size
   obtain⟨⟨y0,y1,y2⟩,yz,yf⟩:=id U7
   have yf2:=yf 2
   clear yf
   go_simp
   refine hK.out _ _ ?_
   clear hK K
   refine sm ?_
   refine aq (by kernel_rfl) ?_ _
   clear y0 y1 y2 yz yf2
   have P7:=PR.low HB7 (by omega)
   have Z7:X3 w7 (w.heap.size+1) (Bb false) (U nO 0 0) (U nO 0 0):=ZR.same (HB7.block _ (by omega)) HB7.size
   have V7:=GV.same (w':=w7) (λb hS _=>HB7.block b hS.2.1) HB7.size
   have L7:=LR.trans (HB7.mono (by omega))
   have z7:N≤w7.heap.size:=lT zr HB7.size
   have E7:Hid (∀(x:Value) b,b≠zb→(w7.setCell ⟨zb,2,nO⟩ x).heap[b]? =w7.heap[b]?):=λx b hb=>hSe _ _ _ _ hb
   have S7:Hid (∀(x:Value),w7.heap.size≤(w7.setCell ⟨zb,2,nO⟩ x).heap.size):=λx=>by simp[j2]
   clear PR ZR UR FR LR zr HKZ GV HB7
   go_wp2
   go_roundw
   case rel=>exact⟨k+1,fs',fc',L++[⟨rs,f,j0 f bX⟩],by omega,by go_num,P7.far (by simp only;omega) _,Z7.same (E7.out _ _ (by omega)) (S7.out _),by first|exact U7.put2 _|(rw[List.length_append];exact U7.put2 _),F7.old (λb hb=>E7.out _ b (by omega)) (S7.out _),by show _=_;rw[List.map_append,HL.out,List.replicate_succ'];rfl,V7.same (λb hS _=>E7.out _ b hS.2.2) (S7.out _),L7.setCell (by simp only;omega) _,by simpa[j2] using z7⟩
   case measure=>simp[intOf];omega
  ·have n1':¬(k:Int) < (c.length:Int):=by omega
   have ek:k=c.length:=by omega
   have ELL:Hid (L.length=c.length):=by show _=_;rw[LL.out,ek]
   have hch:∀b,b≠w.heap.size+1→(((wr.setCell ⟨w.heap.size+1,0,nO⟩ (Bb false)).setCell ⟨w.heap.size+1,1,nO⟩ (U vs v v)).setCell ⟨w.heap.size+1,2,nO⟩ (U fs L.length fc)).heap[b]? =wr.heap[b]? :=λb hb=>by rw[hSe _ _ _ _ hb,hSe _ _ _ _ hb,hSe _ _ _ _ hb]
   have hcz:wr.heap.size≤(((wr.setCell ⟨w.heap.size+1,0,nO⟩ (Bb false)).setCell ⟨w.heap.size+1,1,nO⟩ (U vs v v)).setCell ⟨w.heap.size+1,2,nO⟩ (U fs L.length fc)).heap.size:=by simp[j2]
   have FX:=FR.old (w':=(((wr.setCell ⟨w.heap.size+1,0,nO⟩ (Bb false)).setCell ⟨w.heap.size+1,1,nO⟩ (U vs v v)).setCell ⟨w.heap.size+1,2,nO⟩ (U fs L.length fc))) (λb hb=>hch b (by omega)) hcz
   have GX:=GV.same (w':=(((wr.setCell ⟨w.heap.size+1,0,nO⟩ (Bb false)).setCell ⟨w.heap.size+1,1,nO⟩ (U vs v v)).setCell ⟨w.heap.size+1,2,nO⟩ (U fs L.length fc))) (λb hS _=>hch b (by omega)) hcz
   have BX:Below w.heap.size w (((wr.setCell ⟨w.heap.size+1,0,nO⟩ (Bb false)).setCell ⟨w.heap.size+1,1,nO⟩ (U vs v v)).setCell ⟨w.heap.size+1,2,nO⟩ (U fs L.length fc)):=((LR.setCell (by simp only;omega) _).setCell (by simp only;omega) _).setCell (by simp only;omega) _
   have HFX:Hid (∀wz:World,(∀b,w.heap.size≤b→b < (((wr.setCell ⟨w.heap.size+1,0,nO⟩ (Bb false)).setCell ⟨w.heap.size+1,1,nO⟩ (U vs v v)).setCell ⟨w.heap.size+1,2,nO⟩ (U fs L.length fc)).heap.size→wz.heap[b]? =(((wr.setCell ⟨w.heap.size+1,0,nO⟩ (Bb false)).setCell ⟨w.heap.size+1,1,nO⟩ (U vs v v)).setCell ⟨w.heap.size+1,2,nO⟩ (U fs L.length fc)).heap[b]?)→(((wr.setCell ⟨w.heap.size+1,0,nO⟩ (Bb false)).setCell ⟨w.heap.size+1,1,nO⟩ (U vs v v)).setCell ⟨w.heap.size+1,2,nO⟩ (U fs L.length fc)).heap.size≤wz.heap.size→GsAt wz vs (j0 v iw)∧RowsAt wz fs (j0 c.length (j0 f bX))):=λwz hs hz=>by
    obtain⟨fs0,fc0,e0,hk0,hk00,RW0⟩:=(FX.olden (w':=wz) (λb hb hlt=>hs b (by omega) hlt) hz).rows
    cases e0
    rw[HL.out,ek] at RW0
    exact⟨(GX.same (λb hS hlt=>hs b (by have:=hS.1;omega) hlt) hz).at,RW0⟩
   have CFX:Hid (L.length≤fc∧fc≤maxLen):=by
    obtain⟨fs0,fc0,e0,hk0,hk00,-⟩:=FR.rows
    cases e0
    exact⟨hk0,hk00⟩
   obtain⟨⟨y0,y1,y2⟩,yz,yf⟩:=id UR
   obtain⟨⟨d0,d1,d2⟩,dz,df⟩:=id ZR
   have f0:=df 0
   have f1:=df 1
   have f2:=df 2
   clear df yf hch hcz FX GX ek
   go_wp2
   refine bodyPost_ret (v:=Tu #[Ag #[Bb false,U vs v v,U fs L.length fc],I Y 0]) (by simp[results,Tryz.results38,go_sem,d0,d1,d2]) rfl ⟨?_,BX⟩
   refine⟨vs,v,fs,fc,?_,λwz hs hz=>HFX.out wz hs hz,⟨by simp,by unfold maxLen;omega⟩,by rw[j5,←ELL.out];exact CFX.out⟩
   rw[ELL.out]
   simp
theorem Hq (V F:Int)(s:Option Addr)(c:List Ins)(cap:Nat)(w:World)(hcd:CodeAt w s c):
  Calls pG 38 #[pv V F s c cap] w λe w'=>kg w.heap.size w' e (if ai V F c=0 then cH V F c else dH) (ai V F c)∧Below w.heap.size w w':=by
 by_cases h:ai V F c=0
 ·rw[if_pos h,h]
  obtain⟨⟨hV,_⟩,⟨hF,_⟩,_⟩:=bM h
  obtain⟨v,rfl⟩:=Int.eq_ofNat_of_zero_le (show 0≤V by omega)
  obtain⟨f,rfl⟩:=Int.eq_ofNat_of_zero_le hF
  exact D4 v f s c cap w hcd h
 ·rw[if_neg h]
  refine(Bv V F s c cap w hcd h).mono ?_
  rintro e w1 ⟨⟨us,uc,gs,gc,he,-,hcp⟩,hb⟩
  exact⟨⟨us,uc,gs,gc,he,λwz _ _=>⟨λi hi=>absurd hi (by simp[dH]),λi hi=>absurd hi (by simp[dH])⟩,hcp⟩,hb⟩
end
section
open Go.RowKit
theorem sq {c:List Ins}{g h:Gs}(h60:c.length≤60)(hg:aC c g=0)(hh:aC c h=0):dh bq g h=ae false g h∧dh bB g h=ae true g h:=by
 have a:=du h60 hg
 have b:=du h60 hh
 have e:cA [g,h]=gj g.s h.s:=mi g h a.1 b.1
 unfold dh ae
 rw[e]
 exact⟨rfl,rfl⟩
theorem m9 {j k:Gs→Gs→Gs}{a b:List Gs}(h:∀g∈a,∀q∈b,j g q=k g q):bh j a b=bh k a b:=by
 unfold bh
 refine j6 (by simp) λi h1 h2=> ?_
 simp only[j7]
 exact h _ (gM _) _ (gM _)
theorem na {V F:Int}{c:List Ins}{x y:Pic}{j k:Gs→Gs→Gs}(hx:aK V F c x=0)(hy:aK V F c y=0)(h:∀g q,aC c g=0→aC c q=0→j g q=k g q):aT j x y=aT k x y:=by
 unfold aT
 split
 ·rfl
 split
 ·rfl
 rename_i hn hm
 have kx:=bY hx (by simpa using hn)
 have ky:=bY hy (by simpa using hm)
 rw[m9 (k:=k) λg hg q hq=>h g q (kx.gv g hg) (ky.gv q hq)]
 congr 1
 refine j6 (by simp) λi h1 h2=> ?_
 simp only[j7]
 simp only[List.length_zipWith] at h1
 exact m9 λg hg q hq=>h g q (kx.gf i (by omega) g hg) (ky.gf i (by omega) q hq)
theorem pu {V F:Int}{c:List Ins}{x y:Pic}(h0:ai V F c=0)(hx:aK V F c x=0)(hy:aK V F c y=0):aT (dh bq) x y=aT (ae false) x y∧aT (dh bB) x y=aT (ae true) x y:=
 ⟨na hx hy λg q hg hq=>(sq (bM h0).2.2 hg hq).1,na hx hy λg q hg hq=>(sq (bM h0).2.2 hg hq).2⟩
end
end Go.Proofs.YtmapdpcfanecdabGreatDoor
