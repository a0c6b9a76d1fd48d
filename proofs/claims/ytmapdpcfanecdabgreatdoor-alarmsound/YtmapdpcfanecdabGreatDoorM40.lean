import Derived.Test.YtmapdpcfanecdabGreatDoorM39
open Go.Ending renaming returned→Rt
open Go.IntKind renaming i64→Y
open Go.Obj renaming cells→Cc
open Go.Proofs.Tryz renaming prog→pG
open Go.RowKit.Below renaming heap_setCell→hSe,refl→bR
open Go.Value renaming agg→Ag,bool→Bb,int→I,slice→U,tuple→Tu
open Go.World renaming setCell→j1,size_alloc→zA
open List renaming getElem_mem→gM,length_append→j3,length_take→j2,map_append→j4,take_of_length_le→j5
open Nat renaming le_refl→lR,le_trans→lT,zero_add→j0
open Option renaming none→nO,some→sO
set_option linter.unusedSimpArgs false
set_option linter.unusedVariables false
set_option maxHeartbeats 32000000
set_option maxRecDepth 20000
namespace Go.Proofs.YtmapdpcfanecdabGreatDoor
section
open Go.RowKit Go
attribute [local go_sem ↓] Go.wp_at_zero Go.wp_at_succ
theorem rV (fh:Nat)(jn:Gs→Gs→Gs)(hfh:∀args wx,Sem.run pG (callFunc fh args) wx=.ok (.enter fh args) wx)(V F:Int)(s:Option Addr)(c:List Ins)(cap:Nat)(a b:List Gs)(ra:Option Addr)(rac:Nat)(rb:Option Addr)(rbc:Nat)(w:World)(hcd:CodeAt w s c)(ha:GsAt w ra a)(hb:GsAt w rb b)(hl:a.length=b.length)(hl8:a.length≤1000)(h0:ai V F c=0)(hga:∀g∈a,aC c g=0)(hgb:∀g∈b,aC c g=0)(hop:∀g,aC c g=0→jn g g=g)
  (hJ:∀(g:Gs) (ss:Option Addr) (gc:Nat) (h:Gs) (st:Option Addr) (hc:Nat) (wx:World),CodeAt wx s c→IntsAt wx ss g.s→g.s.length≤gc→gc≤maxLen→IntsAt wx st h.s→h.s.length≤hc→hc≤maxLen→aC c g=0→aC c h=0→Calls pG fh #[pv V F s c cap,gv g ss gc,gv h st hc] wx λe w'=>(∃js jc,e=Rt (Tu #[gv (jn g h) js jc,I Y 0])∧IntsAt w' js (jn g h).s∧(jn g h).s.length≤jc∧jc≤maxLen∧∀a,js=sO a→wx.heap.size≤a.block)∧Below wx.heap.size wx w'):
  Calls pG 122 #[pv V F s c cap,U ra a.length rac,U rb b.length rbc,.func (.func fh) #[] #[]] w λe w'=>Be w w' e (bh jn a b)∧Below w.heap.size w w':=by
 obtain⟨ti,hi,hz0,hz1,hz2⟩:=info_parts Tryz.info_guess
 obtain⟨-,-,h60⟩:=bM h0
 have B0:Below w.heap.size w (w.alloc (Cc #[I Y V,I Y F,U s c.length cap] 24)):=by go_grown
 have P0:=PrAt.new w V F s c cap
 have z01:w.heap.size≤(w.alloc (Cc #[I Y V,I Y F,U s c.length cap] 24)).heap.size:=by simp
 have HL:=aa hl
 have HGA:=aa hga
 have HGB:=aa hgb
 have HA:=aa ha
 have HB:=aa hb
 have HCD:=aa hcd
 have HJ:=aa hJ
 have H0:=aa h0
 have HOP:=aa hop
 clear hop
 have HCL:=aa AQ
 clear hl hga hgb ha hb hcd hJ h0
 go_enter Tryz.func122,Tryz.ntmps122
 go_upto_region 1 with fail
 generalize w.alloc (Cc #[I Y V,I Y F,U s c.length cap] 24)=w1 at *
 go_wp2
 go_loopw [9,14] (λv i wr=>∃(k:Nat) (rs:Option Addr) (rc:Nat) (l:List Gc),k≤a.length∧i=I Y k∧v=U rs l.length rc∧Below w1.heap.size w1 wr∧SRow wr w1.heap.size (U rs l.length rc) l∧Hid (l.map Gc.g=bh jn (a.take k) (b.take k))) (λ_ i _=>a.length - (intOf i).toNat)
 case atStart=>exact⟨0,nO,0,[],Nat.zero_le _,rfl,rfl,bR _ _,SRow.nil _ _,rfl⟩
 case round=>
  obtain⟨k,rs,rc,l,hk,rfl,rfl,hbr,SR,HE⟩:=hrel
  have LL:Hid (l.length=k):=by
   show _=_
   have h1:=congrArg List.length HE.out
   have h2:=HL.out
   unfold bh at h1
   rw[List.length_map,List.length_zipWith,j2,j2] at h1
   omega
  have LR:=B0.trans (hbr.mono B0.size)
  by_cases hlt:k < a.length
  ·have n0:(0:Int)≤(k:Int):=by omega
   have n1:(k:Int) < (a.length:Int):=by omega
   have hlt':k < b.length:=by have:=HL.out;omega
   have n2:(k:Int) < (b.length:Int):=by omega
   obtain⟨b1,o1,e1,ss1,g1,G1,I1,k1,m1⟩:=(HA.out.below LR (lR _)) k hlt
   obtain⟨b2,o2,e2,ss2,g2,G2,J1,k2,m2⟩:=(HB.out.below LR (lR _)) k hlt'
   subst e1 e2
   have zb2:b2 < w.heap.size:=Ib HB.out k hlt'
   have hRa:=HGA.out _ (gM hlt)
   have hRb:=HGB.out _ (gM hlt')
   obtain⟨⟨q0,q1,q2,q3,q4,q5,q6⟩,qz⟩:=id G1
   have Q4:=GuAt.new wr a[k] ss1 g1
   have F4:∀j,(wr.alloc (Cc #[Bb a[k].n,Bb a[k].sp.n,I Y a[k].sp.lo,I Y a[k].sp.hi,Bb a[k].t,Bb a[k].f,U ss1 a[k].s.length g1] 91)).frozen? ⟨wr.heap.size,j,nO⟩=false:=λj=>by simp[go_sem]
   have hb4:Below wr.heap.size wr (wr.alloc (Cc #[Bb a[k].n,Bb a[k].sp.n,I Y a[k].sp.lo,I Y a[k].sp.hi,Bb a[k].t,Bb a[k].f,U ss1 a[k].s.length g1] 91)):=by go_grown
   have I4:=I1.call hb4
   have J4:=J1.call hb4
   have G4:=G2.call hb4
   have hq:wr.heap.size < (wr.alloc (Cc #[Bb a[k].n,Bb a[k].sp.n,I Y a[k].sp.lo,I Y a[k].sp.hi,Bb a[k].t,Bb a[k].f,U ss1 a[k].s.length g1] 91)).heap.size:=by simp
   go_upto_region 5 with fail
   generalize wr.alloc (Cc #[Bb a[k].n,Bb a[k].sp.n,I Y a[k].sp.lo,I Y a[k].sp.hi,Bb a[k].t,Bb a[k].f,U ss1 a[k].s.length g1] 91)=w4 at *
   have hqb:∃qb,qb=wr.heap.size:=⟨_,rfl⟩
   obtain⟨qb,eqb⟩:=hqb
   rw[←eqb] at Q4 F4 hq ⊢
   have EQB:=aa eqb
   clear q0 q1 q2 q3 q4 q5 q6 qz G1 G2 I1 J1 eqb
   have HKZ:Hid (∀wx,Below w4.heap.size w4 wx→(wx.cell? ⟨qb,0,nO⟩=sO (Bb a[k].n)∧wx.cell? ⟨qb,0+1,nO⟩=sO (Bb a[k].sp.n)∧wx.cell? ⟨qb,0+2,nO⟩=sO (I Y a[k].sp.lo)∧wx.cell? ⟨qb,0+3,nO⟩=sO (I Y a[k].sp.hi)∧wx.cell? ⟨qb,0+4,nO⟩=sO (Bb a[k].t)∧wx.cell? ⟨qb,0+5,nO⟩=sO (Bb a[k].f)∧wx.cell? ⟨qb,0+6,nO⟩=sO (U ss1 a[k].s.length g1))∧(wx.cell? ⟨b2,o2+k * 7,nO⟩=sO (Bb b[k].n)∧wx.cell? ⟨b2,o2+k * 7+1,nO⟩=sO (Bb b[k].sp.n)∧wx.cell? ⟨b2,o2+k * 7+2,nO⟩=sO (I Y b[k].sp.lo)∧wx.cell? ⟨b2,o2+k * 7+3,nO⟩=sO (I Y b[k].sp.hi)∧wx.cell? ⟨b2,o2+k * 7+4,nO⟩=sO (Bb b[k].t)∧wx.cell? ⟨b2,o2+k * 7+5,nO⟩=sO (Bb b[k].f)∧wx.cell? ⟨b2,o2+k * 7+6,nO⟩=sO (U ss2 b[k].s.length g2))):=λwx hx=>⟨(Q4.call hx).1,(G4.call hx).1⟩
   have HD:Below w4.heap.size w4 w4.drew:=(bR _ _).drew
   refine au (S:=(λwx=>(wx.cell? ⟨qb,0,nO⟩=sO (Bb a[k].n)∧wx.cell? ⟨qb,0+1,nO⟩=sO (Bb a[k].sp.n)∧wx.cell? ⟨qb,0+2,nO⟩=sO (I Y a[k].sp.lo)∧wx.cell? ⟨qb,0+3,nO⟩=sO (I Y a[k].sp.hi)∧wx.cell? ⟨qb,0+4,nO⟩=sO (Bb a[k].t)∧wx.cell? ⟨qb,0+5,nO⟩=sO (Bb a[k].f)∧wx.cell? ⟨qb,0+6,nO⟩=sO (U ss1 a[k].s.length g1))∧(wx.cell? ⟨b2,o2+k * 7,nO⟩=sO (Bb b[k].n)∧wx.cell? ⟨b2,o2+k * 7+1,nO⟩=sO (Bb b[k].sp.n)∧wx.cell? ⟨b2,o2+k * 7+2,nO⟩=sO (I Y b[k].sp.lo)∧wx.cell? ⟨b2,o2+k * 7+3,nO⟩=sO (I Y b[k].sp.hi)∧wx.cell? ⟨b2,o2+k * 7+4,nO⟩=sO (Bb b[k].t)∧wx.cell? ⟨b2,o2+k * 7+5,nO⟩=sO (Bb b[k].f)∧wx.cell? ⟨b2,o2+k * 7+6,nO⟩=sO (U ss2 b[k].s.length g2)))) [] (by kernel_rfl) (HKZ.out _ HD) (λhHeld=> ?_)
   refine vZ 0 ?_ ?_
   refine vZ 1 ?_ ?_
   refine vZ 2 ?_ ?_
   refine vZ 3 ?_ ?_
   refine vZ 4 ?_ ?_
   refine an (i:=5) rfl (by kernel_rfl) (λK hK=> ?_)
   go_simp
   go_at_call 178
   refine(mB a[k] ss1 g1 b[k] ss2 g2 _ (I4.call HD) (J4.call HD) (lT k1 m1) (lT k2 m2)).mono ?_
   rintro e w5 ⟨rfl,hb5⟩
   have HB5:Below w4.heap.size w4 w5:=HD.trans (hb5.mono HD.size)
   go_wp2_with fail
   refine hK.out _ _ (HKZ.out _ HB5) (λhHeld=> ?_)
   clear hK K
   refine sm ?_
   refine aq (by kernel_rfl) ?_ _
   have Q5:=Q4.call HB5
   have F5:∀j,w5.frozen? ⟨qb,j,nO⟩=false:=λj=>by rw[HB5.frozen (by simp only;exact hq)];exact F4 j
   have I5:=I4.call HB5
   have J5:=J4.call HB5
   have G5:=G4.call HB5
   have hbr5:Below wr.heap.size wr w5:=hb4.trans (HB5.mono hb4.size)
   have L5:=LR.trans (hbr5.mono LR.size)
   have C5:=HCD.out.below L5 (lR _)
   have z5:wr.heap.size≤w5.heap.size:=hbr5.size
   clear Q4 F4 I4 J4 G4 HKZ HD HB5 hb4
   rcases (show dC a[k] b[k]=false∨dC a[k] b[k]=true by cases dC a[k] b[k]<;>simp) with hs|hs<;>have HSG:=aa hs<;>rw[hs]<;>clear hs
   ·have P5:=(P0.call (hbr.trans (hbr5.mono hbr.size)))
    have z0w:w.heap.size < w1.heap.size:=P0.2
    have z15:w1.heap.size≤w5.heap.size:=lT hbr.size z5
    have HKY:Hid (∀wx,Below w1.heap.size w5 wx→(wx.cell? ⟨w.heap.size,0,nO⟩=sO (I Y V)∧wx.cell? ⟨w.heap.size,1,nO⟩=sO (I Y F)∧wx.cell? ⟨w.heap.size,2,nO⟩=sO (U s c.length cap))∧(wx.cell? ⟨b2,o2+k * 7,nO⟩=sO (Bb b[k].n)∧wx.cell? ⟨b2,o2+k * 7+1,nO⟩=sO (Bb b[k].sp.n)∧wx.cell? ⟨b2,o2+k * 7+2,nO⟩=sO (I Y b[k].sp.lo)∧wx.cell? ⟨b2,o2+k * 7+3,nO⟩=sO (I Y b[k].sp.hi)∧wx.cell? ⟨b2,o2+k * 7+4,nO⟩=sO (Bb b[k].t)∧wx.cell? ⟨b2,o2+k * 7+5,nO⟩=sO (Bb b[k].f)∧wx.cell? ⟨b2,o2+k * 7+6,nO⟩=sO (U ss2 b[k].s.length g2))):=λwx hx=>⟨(P5.low hx z0w).1,(G5.low hx (by omega)).1⟩
    have HE5:Below w5.heap.size w5 w5.drew:=(bR _ _).drew
    go_wp2
    refine au (S:=(λwx=>(wx.cell? ⟨w.heap.size,0,nO⟩=sO (I Y V)∧wx.cell? ⟨w.heap.size,1,nO⟩=sO (I Y F)∧wx.cell? ⟨w.heap.size,2,nO⟩=sO (U s c.length cap))∧(wx.cell? ⟨b2,o2+k * 7,nO⟩=sO (Bb b[k].n)∧wx.cell? ⟨b2,o2+k * 7+1,nO⟩=sO (Bb b[k].sp.n)∧wx.cell? ⟨b2,o2+k * 7+2,nO⟩=sO (I Y b[k].sp.lo)∧wx.cell? ⟨b2,o2+k * 7+3,nO⟩=sO (I Y b[k].sp.hi)∧wx.cell? ⟨b2,o2+k * 7+4,nO⟩=sO (Bb b[k].t)∧wx.cell? ⟨b2,o2+k * 7+5,nO⟩=sO (Bb b[k].f)∧wx.cell? ⟨b2,o2+k * 7+6,nO⟩=sO (U ss2 b[k].s.length g2)))) [] (by kernel_rfl) (HKY.out _ (HE5.mono z15)) (λhHeld=> ?_)
    refine vZ 0 ?_ ?_
    refine vZ 1 ?_ ?_
    refine vZ 3 ?_ ?_
    refine vZ 4 ?_ ?_
    refine vZ 5 ?_ ?_
    refine vZ 6 ?_ ?_
    refine an (i:=2) rfl (by kernel_rfl) (λK hK=> ?_)
    have Qd:=Q5.drew
    obtain⟨⟨q0,q1,q2,q3,q4,q5,q6⟩,qz⟩:=id Qd
    simp only[j0] at q0 q1 q2 q3 q4 q5 q6
    go_simp
    refine hK.out _ _ (HKY.out _ (HE5.mono z15)) (λhHeld=> ?_)
    clear hK K q0 q1 q2 q3 q4 q5 q6 qz
    refine sm ?_
    refine an (i:=7) rfl (by kernel_rfl) (λK hK=> ?_)
    go_simp
    refine(HJ.out a[k] ss1 g1 b[k] ss2 g2 _ (C5.call HE5) (I5.call HE5) k1 m1 (J5.call HE5) k2 m2 hRa hRb).mono ?_
    rintro e w6 ⟨⟨js,jc,rfl,HI6,HJ1,HJ2,HF7⟩,hb6⟩
    have HB6:Below w5.heap.size w5 w6:=HE5.trans (hb6.mono HE5.size)
    go_wp2_with fail
    refine hK.out _ _ (HKY.out _ (HB6.mono z15)) (λhHeld=> ?_)
    clear hK K
    refine sm ?_
    refine vZ 8 ?_ ?_
    refine vZ 9 ?_ ?_
    refine vZ 10 ?_ ?_
    refine an (i:=11) rfl (by kernel_rfl) (λK hK=> ?_)
    have Q6:=Q5.call HB6
    have F6:∀j,w6.frozen? ⟨qb,j,nO⟩=false:=λj=>by rw[HB6.frozen (by simp only;exact Q5.2)];exact F5 j
    obtain⟨⟨q0,q1,q2,q3,q4,q5,q6⟩,qz⟩:=id Q6
    simp only[j0] at q0 q1 q2 q3 q4 q5 q6
    have f0:=F6 0
    have f1:=F6 1
    have f2:=F6 2
    have f3:=F6 3
    have f4:=F6 4
    have f5:=F6 5
    have f6:=F6 6
    go_simp
    have HBC:Below w1.heap.size w5 (((((((w6.setCell ⟨qb,0,nO⟩ (Bb (jn a[k] b[k]).n)).setCell ⟨qb,1,nO⟩ (Bb (jn a[k] b[k]).sp.n)).setCell ⟨qb,2,nO⟩ (I Y (jn a[k] b[k]).sp.lo)).setCell ⟨qb,3,nO⟩ (I Y (jn a[k] b[k]).sp.hi)).setCell ⟨qb,4,nO⟩ (Bb (jn a[k] b[k]).t)).setCell ⟨qb,5,nO⟩ (Bb (jn a[k] b[k]).f)).setCell ⟨qb,6,nO⟩ (U js (jn a[k] b[k]).s.length jc)):=((((((((HB6.mono z15)).setCell (by simp only;have:=EQB.out;have:=hbr.size;omega) _).setCell (by simp only;have:=EQB.out;have:=hbr.size;omega) _).setCell (by simp only;have:=EQB.out;have:=hbr.size;omega) _).setCell (by simp only;have:=EQB.out;have:=hbr.size;omega) _).setCell (by simp only;have:=EQB.out;have:=hbr.size;omega) _).setCell (by simp only;have:=EQB.out;have:=hbr.size;omega) _).setCell (by simp only;have:=EQB.out;have:=hbr.size;omega) _
    refine hK.out _ _ (HKY.out _ HBC) (λhHeld=> ?_)
    clear hK K HBC
    refine sm ?_
    refine aq (by kernel_rfl) ?_ _
    have hch:∀bb,bb≠qb→(((((((w6.setCell ⟨qb,0,nO⟩ (Bb (jn a[k] b[k]).n)).setCell ⟨qb,1,nO⟩ (Bb (jn a[k] b[k]).sp.n)).setCell ⟨qb,2,nO⟩ (I Y (jn a[k] b[k]).sp.lo)).setCell ⟨qb,3,nO⟩ (I Y (jn a[k] b[k]).sp.hi)).setCell ⟨qb,4,nO⟩ (Bb (jn a[k] b[k]).t)).setCell ⟨qb,5,nO⟩ (Bb (jn a[k] b[k]).f)).setCell ⟨qb,6,nO⟩ (U js (jn a[k] b[k]).s.length jc)).heap[bb]? =w6.heap[bb]? :=λbb hbb=>by rw[hSe _ _ _ _ hbb,hSe _ _ _ _ hbb,hSe _ _ _ _ hbb,hSe _ _ _ _ hbb,hSe _ _ _ _ hbb,hSe _ _ _ _ hbb,hSe _ _ _ _ hbb]
    have hcz:w6.heap.size≤(((((((w6.setCell ⟨qb,0,nO⟩ (Bb (jn a[k] b[k]).n)).setCell ⟨qb,1,nO⟩ (Bb (jn a[k] b[k]).sp.n)).setCell ⟨qb,2,nO⟩ (I Y (jn a[k] b[k]).sp.lo)).setCell ⟨qb,3,nO⟩ (I Y (jn a[k] b[k]).sp.hi)).setCell ⟨qb,4,nO⟩ (Bb (jn a[k] b[k]).t)).setCell ⟨qb,5,nO⟩ (Bb (jn a[k] b[k]).f)).setCell ⟨qb,6,nO⟩ (U js (jn a[k] b[k]).s.length jc)).heap.size:=by simp[j1]
    have G7:GuAt (((((((w6.setCell ⟨qb,0,nO⟩ (Bb (jn a[k] b[k]).n)).setCell ⟨qb,1,nO⟩ (Bb (jn a[k] b[k]).sp.n)).setCell ⟨qb,2,nO⟩ (I Y (jn a[k] b[k]).sp.lo)).setCell ⟨qb,3,nO⟩ (I Y (jn a[k] b[k]).sp.hi)).setCell ⟨qb,4,nO⟩ (Bb (jn a[k] b[k]).t)).setCell ⟨qb,5,nO⟩ (Bb (jn a[k] b[k]).f)).setCell ⟨qb,6,nO⟩ (U js (jn a[k] b[k]).s.length jc)) qb 0 (jn a[k] b[k]) js jc:=by
     refine⟨?_,by simpa[j1] using qz⟩
     simp[go_sem,q0,q1,q2,q3,q4,q5,q6]
    have HB7:Below wr.heap.size wr (((((((w6.setCell ⟨qb,0,nO⟩ (Bb (jn a[k] b[k]).n)).setCell ⟨qb,1,nO⟩ (Bb (jn a[k] b[k]).sp.n)).setCell ⟨qb,2,nO⟩ (I Y (jn a[k] b[k]).sp.lo)).setCell ⟨qb,3,nO⟩ (I Y (jn a[k] b[k]).sp.hi)).setCell ⟨qb,4,nO⟩ (Bb (jn a[k] b[k]).t)).setCell ⟨qb,5,nO⟩ (Bb (jn a[k] b[k]).f)).setCell ⟨qb,6,nO⟩ (U js (jn a[k] b[k]).s.length jc)):=(((((((hbr5.trans (HB6.mono z5)).setCell (by simp only;have:=EQB.out;omega) _).setCell (by simp only;have:=EQB.out;omega) _).setCell (by simp only;have:=EQB.out;omega) _).setCell (by simp only;have:=EQB.out;omega) _).setCell (by simp only;have:=EQB.out;omega) _).setCell (by simp only;have:=EQB.out;omega) _).setCell (by simp only;have:=EQB.out;omega) _
    have hqq:qb < w5.heap.size:=Q5.2
    have HI7:IntsAt (((((((w6.setCell ⟨qb,0,nO⟩ (Bb (jn a[k] b[k]).n)).setCell ⟨qb,1,nO⟩ (Bb (jn a[k] b[k]).sp.n)).setCell ⟨qb,2,nO⟩ (I Y (jn a[k] b[k]).sp.lo)).setCell ⟨qb,3,nO⟩ (I Y (jn a[k] b[k]).sp.hi)).setCell ⟨qb,4,nO⟩ (Bb (jn a[k] b[k]).t)).setCell ⟨qb,5,nO⟩ (Bb (jn a[k] b[k]).f)).setCell ⟨qb,6,nO⟩ (U js (jn a[k] b[k]).s.length jc)) js (jn a[k] b[k]).s:=uw HI6 HF7 (λbb hbb=>hch bb (by have h9:w5.drew.heap.size=w5.heap.size:=rfl;omega)) hcz
    have zwd:wr.heap.size≤w5.drew.heap.size:=z5
    clear q0 q1 q2 q3 q4 q5 q6 qz f0 f1 f2 f3 f4 f5 f6 F6 Q6 hch hcz
    generalize (((((((w6.setCell ⟨qb,0,nO⟩ (Bb (jn a[k] b[k]).n)).setCell ⟨qb,1,nO⟩ (Bb (jn a[k] b[k]).sp.n)).setCell ⟨qb,2,nO⟩ (I Y (jn a[k] b[k]).sp.lo)).setCell ⟨qb,3,nO⟩ (I Y (jn a[k] b[k]).sp.hi)).setCell ⟨qb,4,nO⟩ (Bb (jn a[k] b[k]).t)).setCell ⟨qb,5,nO⟩ (Bb (jn a[k] b[k]).f)).setCell ⟨qb,6,nO⟩ (U js (jn a[k] b[k]).s.length jc))=w7 at *
    have S7:=SR.call HB7
    obtain⟨⟨q0,q1,q2,q3,q4,q5,q6⟩,qz⟩:=id G7
    simp only[j0] at q0 q1 q2 q3 q4 q5 q6
    have hb8:Below w7.heap.size w7 (w7.alloc (Cc #[Bb (jn a[k] b[k]).n,Bb (jn a[k] b[k]).sp.n,I Y (jn a[k] b[k]).sp.lo,I Y (jn a[k] b[k]).sp.hi,Bb (jn a[k] b[k]).t,Bb (jn a[k] b[k]).f,U js (jn a[k] b[k]).s.length jc] 91)):=by go_grown
    have S8:=S7.call hb8
    have z17:w1.heap.size≤w7.heap.size:=lT hbr.size HB7.size
    have GX:cd (λb=>w1.heap.size≤b∧(Value.slice rs l.length rc).ownBlock≠sO b) (w7.alloc (Cc #[Bb (jn a[k] b[k]).n,Bb (jn a[k] b[k]).sp.n,I Y (jn a[k] b[k]).sp.lo,I Y (jn a[k] b[k]).sp.hi,Bb (jn a[k] b[k]).t,Bb (jn a[k] b[k]).f,U js (jn a[k] b[k]).s.length jc] 91)) ⟨(jn a[k] b[k]),js,jc⟩:=ub HI7 HJ1 HJ2 HF7 hbr.size (λe=>(bo SR.1 e).1) hb8 zwd
    go_wp2_with (at_builtin;refine cj _ rfl _ _ 25 rfl w1.heap.size 91 ti (Ag #[Bb false,Bb false,I Y 0,I Y 0,Bb false,Bb false,U nO 0 0]) 7 64 Tryz.underlying25 hi hz0 hz1 hz2 rfl (by decide) _ _ _ rfl S8.1 (sO ⟨w7.heap.size,0,nO⟩) 1 1 (bC ⟨(jn a[k] b[k]),js,jc⟩) rfl rfl (λh=>by cases h) ?qa2 (iN _) ?qa4 ?qa5 ?qa6 ?_)
    (try (case qa2=>exact Gg w7 ⟨(jn a[k] b[k]),js,jc⟩ #[Bb (jn a[k] b[k]).n,Bb (jn a[k] b[k]).sp.n,I Y (jn a[k] b[k]).sp.lo,I Y (jn a[k] b[k]).sp.hi,Bb (jn a[k] b[k]).t,Bb (jn a[k] b[k]).f,U js (jn a[k] b[k]).s.length jc] _ rfl))
    case qa4=>unfold maxLen;have:=LL.out;omega
    case qa5=>have:=LL.out;omega
    (try (case qa6=>first|omega|(rw[zA];omega)|(simp;omega)|simp))
    intro v' w9 hown hgrow hat
    have S9:=S8.grown (x:=⟨(jn a[k] b[k]),js,jc⟩) GX hown hgrow (by rw[zA];exact hat)
    have hb9:Below w1.heap.size w1 w9:=((hbr.trans (HB7.mono hbr.size)).alloc z17 _).grown hgrow (by simp;omega) (λk hk=>(bo S8.1 hk).2)
    obtain⟨rs',rc',rfl,-,-,-⟩:=S9.in
    clear hown hgrow hat S8 S7 GX q0 q1 q2 q3 q4 q5 q6 qz hb8
    go_wp2
    go_roundw
    case rel=>exact⟨k+1,rs',rc',l++[⟨(jn a[k] b[k]),js,jc⟩],by omega,by go_num,by first|rfl|(rw[j3];rfl),hb9,S9,by show _=_;rw[j4,HE.out,ny _ a b k hlt hlt'];rfl⟩
    case measure=>simp[intOf];omega
   ·have ES:Hid ((jn a[k] b[k])=a[k]):=by
     show _=_
     rw[←sameGs_iff.1 HSG.out]
     exact HOP.out _ hRa
    obtain⟨⟨q0,q1,q2,q3,q4,q5,q6⟩,qz⟩:=id Q5
    simp only[j0] at q0 q1 q2 q3 q4 q5 q6
    have l60:=eY (du h60 hRa).2 (du h60 hRa).1
    go_wp2_with (go_at_call 179;fail)
    refine(HCL.out ss1 g1 a[k].s _ (by omega) I5).mono ?_
    rintro e w6 ⟨⟨js,jc,rfl,HI6,HJ1,HJ2,HF7⟩,hb6⟩
    clear q0 q1 q2 q3 q4 q5 q6 qz
    have Q6:=Q5.call hb6
    obtain⟨⟨q0,q1,q2,q3,q4,q5,q6⟩,qz⟩:=id Q6
    simp only[j0] at q0 q1 q2 q3 q4 q5 q6
    have f6:w6.frozen? ⟨qb,6,nO⟩=false:=by rw[hb6.frozen (by simp only;exact Q5.2)];exact F5 6
    have G7:=Q6.put6 (js:=js) (jc:=jc)
    have HB7:Below wr.heap.size wr (w6.setCell ⟨qb,6,nO⟩ (U js a[k].s.length jc)):=(hbr5.trans (hb6.mono z5)).setCell (by simp only;have:=EQB.out;omega) _
    have hqq:qb < w5.heap.size:=Q5.2
    have HI7:IntsAt (w6.setCell ⟨qb,6,nO⟩ (U js a[k].s.length jc)) js a[k].s:=uw HI6 HF7 (λbb hbb=>hSe _ _ _ _ (by simp only;omega)) (by simp[j1])
    have zwd:wr.heap.size≤w5.heap.size:=z5
    go_upto_region 8 with fail
    clear q0 q1 q2 q3 q4 q5 q6 qz f6
    generalize w6.setCell ⟨qb,6,nO⟩ (U js a[k].s.length jc)=w7 at *
    have S7:=SR.call HB7
    obtain⟨⟨q0,q1,q2,q3,q4,q5,q6⟩,qz⟩:=id G7
    simp only[j0] at q0 q1 q2 q3 q4 q5 q6
    have hb8:Below w7.heap.size w7 (w7.alloc (Cc #[Bb a[k].n,Bb a[k].sp.n,I Y a[k].sp.lo,I Y a[k].sp.hi,Bb a[k].t,Bb a[k].f,U js a[k].s.length jc] 91)):=by go_grown
    have S8:=S7.call hb8
    have z17:w1.heap.size≤w7.heap.size:=lT hbr.size HB7.size
    have GX:cd (λb=>w1.heap.size≤b∧(Value.slice rs l.length rc).ownBlock≠sO b) (w7.alloc (Cc #[Bb a[k].n,Bb a[k].sp.n,I Y a[k].sp.lo,I Y a[k].sp.hi,Bb a[k].t,Bb a[k].f,U js a[k].s.length jc] 91)) ⟨a[k],js,jc⟩:=ub HI7 HJ1 HJ2 HF7 hbr.size (λe=>(bo SR.1 e).1) hb8 zwd
    go_wp2_with (at_builtin;refine cj _ rfl _ _ 25 rfl w1.heap.size 91 ti (Ag #[Bb false,Bb false,I Y 0,I Y 0,Bb false,Bb false,U nO 0 0]) 7 64 Tryz.underlying25 hi hz0 hz1 hz2 rfl (by decide) _ _ _ rfl S8.1 (sO ⟨w7.heap.size,0,nO⟩) 1 1 (bC ⟨a[k],js,jc⟩) rfl rfl (λh=>by cases h) ?qa2 (iN _) ?qa4 ?qa5 ?qa6 ?_)
    (try (case qa2=>exact Gg w7 ⟨a[k],js,jc⟩ #[Bb a[k].n,Bb a[k].sp.n,I Y a[k].sp.lo,I Y a[k].sp.hi,Bb a[k].t,Bb a[k].f,U js a[k].s.length jc] _ rfl))
    case qa4=>unfold maxLen;have:=LL.out;omega
    case qa5=>have:=LL.out;omega
    (try (case qa6=>first|omega|(rw[zA];omega)|(simp;omega)|simp))
    intro v' w9 hown hgrow hat
    have S9:=S8.grown (x:=⟨a[k],js,jc⟩) GX hown hgrow (by rw[zA];exact hat)
    have hb9:Below w1.heap.size w1 w9:=((hbr.trans (HB7.mono hbr.size)).alloc z17 _).grown hgrow (by simp;omega) (λk hk=>(bo S8.1 hk).2)
    obtain⟨rs',rc',rfl,-,-,-⟩:=S9.in
    clear hown hgrow hat S8 S7 GX q0 q1 q2 q3 q4 q5 q6 qz hb8
    go_wp2
    go_roundw
    case rel=>exact⟨k+1,rs',rc',l++[⟨a[k],js,jc⟩],by omega,by go_num,by first|rfl|(rw[j3];rfl),hb9,S9,by show _=_;rw[j4,HE.out,ny _ a b k hlt hlt'];rw[ES.out];rfl⟩
    case measure=>simp[intOf];omega
  ·have n1:¬(k:Int) < (a.length:Int):=by omega
   have et1:a.take k=a:=j5 (by omega)
   have et2:b.take k=b:=j5 (by have:=HL.out;omega)
   have HEE:Hid (l.map Gc.g=bh jn a b):=by show _=_;rw[HE.out,et1,et2]
   clear HE et1 et2
   go_wp2
   go_ret
   exact⟨⟨rs,rc,l,rfl,HEE,⟨eh SR.1 z01,λx hx=>⟨(SR.2 x hx).1.mono λb hb _=>⟨lT z01 hb.1,hb.2⟩,(SR.2 x hx).2⟩⟩⟩,LR⟩
end
end Go.Proofs.YtmapdpcfanecdabGreatDoor
