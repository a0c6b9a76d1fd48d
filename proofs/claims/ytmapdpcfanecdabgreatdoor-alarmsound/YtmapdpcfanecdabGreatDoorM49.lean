import Derived.Test.YtmapdpcfanecdabGreatDoorM48
open Go.IntKind renaming i64→Y
open Go.Obj renaming cells→Cc
open Go.Proofs.Tryz renaming prog→pG
open Go.RowKit.Below renaming heap_setCell→hSe,refl→bR
open Go.Value renaming agg→Ag,bool→Bb,int→I,pointer→Pp,slice→U
open Go.World renaming setCell→j1
open Nat renaming le_of_lt→j0,le_refl→lR,zero_le→j2
open Option renaming none→nO,some→sO
set_option linter.unusedSimpArgs false
set_option linter.unusedVariables false
set_option maxHeartbeats 16000000
set_option maxRecDepth 100000
namespace Go.Proofs.YtmapdpcfanecdabGreatDoor
section
open Go.RowKit
attribute [local go_sem ↓] Go.wp_at_zero Go.wp_at_succ
theorem ki {p:Prop}(h:p:=by
 have h:=Cells.new (w.alloc (.cells #[.bool false,.bool false,.int .i64 0,.int .i64 0,.bool false,.bool false,.slice none 0 0] 91)) 89 [.bool true,.int .i64 0,.int .i64 0]
 rw[World.size_alloc] at h
 exact h):p:=h
theorem Hj (sb:Nat)(i:Ins)(V F:Int)(s:Option Addr)(c:List Ins)(cap:Nat)(at_:Int)(x:Pic)(vs:Option Addr)(vc:Nat)(fs:Option Addr)(fc:Nat)(ev:Value)(fl:Bool)(w0 w:World)(hS:Cells w sb (aP i V F s c cap at_ x vs vc fs fc ev false fl))(hc0:CodeAt w0 s c)(hx0:PicAt w0 x vs fs)(hz0:w0.heap.size≤sb)(hB0:Below w0.heap.size w0 w)(K:SCtx V F c x vc fc i at_)(hk:i.k=1):
  Calls pG 98 #[Pp (sO ⟨sb,0,nO⟩)] w λe w'=>kJ w.heap.size sb w' e (aQ i at_ x).1 (aP i V F s c cap at_ x vs vc fs fc ev (aQ i at_ x).2 fl)∧ModS sb w w':=by
 have EGG:aQ i at_ x=(⟨false,⟨false,i.n,i.n⟩,false,false,[]⟩,false):=by unfold aQ;rw[if_pos hk]
 rw[EGG]
 clear EGG
 have hb1:Below w.heap.size w ((w.alloc (Cc #[Bb false,Bb false,I Y 0,I Y 0,Bb false,Bb false,U nO 0 0] 91)).alloc (Cc #[Bb true,I Y 0,I Y 0] 89)):=by go_grown
 have R1:Cells ((w.alloc (Cc #[Bb false,Bb false,I Y 0,I Y 0,Bb false,Bb false,U nO 0 0] 91)).alloc (Cc #[Bb true,I Y 0,I Y 0] 89)) w.heap.size [Bb false,Bb false,I Y 0,I Y 0,Bb false,Bb false,U nO 0 0]:=(Cells.new w 91 [Bb false,Bb false,I Y 0,I Y 0,Bb false,Bb false,U nO 0 0]).call (by go_grown)
 have N1:Cells ((w.alloc (Cc #[Bb false,Bb false,I Y 0,I Y 0,Bb false,Bb false,U nO 0 0] 91)).alloc (Cc #[Bb true,I Y 0,I Y 0] 89)) (w.heap.size+1) [Bb true,I Y 0,I Y 0]:=by
  exact ki
 have s0:=hS.1 0 _ rfl
 have HSB:=aa hS.2.1
 have hsb:=hS.2.1
 have C1:=hS.call hb1
 have hne:w.heap.size≠sb:=by have:=hS.2.1;omega
 have HNE:=aa hne
 clear hne
 rw[hk] at s0
 clear hS hc0 hx0 hB0 K hz0 hk
 go_enter Tryz.func98,Tryz.ntmps98
 go_upto_region 4 with fail
 clear s0
 generalize ((w.alloc (Cc #[Bb false,Bb false,I Y 0,I Y 0,Bb false,Bb false,U nO 0 0] 91)).alloc (Cc #[Bb true,I Y 0,I Y 0] 89))=w1 at *
 have hdr:Below w1.heap.size w1 w1.drew:=(bR _ _).drew
 have R2:=R1.call hdr
 have N2:=N1.call hdr
 have C2:=C1.call hdr
 have M2:=ModS.of (hb1.trans (hdr.mono hb1.size)) HSB.out
 clear R1 N1 C1 hdr hb1 hsb
 refine au (S:=(λwx=>wx.cell? ⟨sb,4,nO⟩=sO (I Y i.n))) [12] (by kernel_rfl) (C2.1 4 _ rfl) (λhHeld=> ?_)
 generalize w1.drew=w2 at *
 refine vZ 0 ?_ ?_
 refine vZ 1 ?_ ?_
 refine vZ 2 ?_ ?_
 refine vZ 3 ?_ ?_
 refine vZ 4 ?_ ?_
 refine vZ 5 ?_ ?_
 refine vZ 6 ?_ ?_
 refine vZ 7 ?_ ?_
 refine vZ 8 ?_ ?_
 refine vZ 9 ?_ ?_
 refine vZ 10 ?_ ?_
 refine vZ 11 ?_ ?_
 refine aL (i:=12) rfl (by kernel_rfl) (by kernel_rfl) (λK hK=> ?_)
 have r0:=R2.1 0 _ rfl
 have r1:=R2.1 1 _ rfl
 have r2:=R2.1 2 _ rfl
 have r3:=R2.1 3 _ rfl
 have r4:=R2.1 4 _ rfl
 have r5:=R2.1 5 _ rfl
 have r6:=R2.1 6 _ rfl
 have f0:=R2.2.2 0
 have f1:=R2.2.2 1
 have f2:=R2.2.2 2
 have f3:=R2.2.2 3
 have f4:=R2.2.2 4
 have f5:=R2.2.2 5
 have f6:=R2.2.2 6
 go_simp
 refine hK.out _ _ ?_
 clear hK K r0 f0 r1 f1 r2 f2 r3 f3 r4 f4 r5 f5 r6 f6
 refine sm ?_
 refine aq (by kernel_rfl) ?_ _
 have R3:Cells (((((((w2.setCell ⟨w.heap.size,0,nO⟩ (Bb false)).setCell ⟨w.heap.size,1,nO⟩ (Bb false)).setCell ⟨w.heap.size,2,nO⟩ (I Y i.n)).setCell ⟨w.heap.size,3,nO⟩ (I Y i.n)).setCell ⟨w.heap.size,4,nO⟩ (Bb false)).setCell ⟨w.heap.size,5,nO⟩ (Bb false)).setCell ⟨w.heap.size,6,nO⟩ (U nO 0 0)) w.heap.size [Bb false,Bb false,I Y i.n,I Y i.n,Bb false,Bb false,U nO 0 0]:=((((((R2.put 0 (by simp) _).put 1 (by simp) _).put 2 (by simp) _).put 3 (by simp) _).put 4 (by simp) _).put 5 (by simp) _).put 6 (by simp) _
 have hch:∀q,q≠w.heap.size→(((((((w2.setCell ⟨w.heap.size,0,nO⟩ (Bb false)).setCell ⟨w.heap.size,1,nO⟩ (Bb false)).setCell ⟨w.heap.size,2,nO⟩ (I Y i.n)).setCell ⟨w.heap.size,3,nO⟩ (I Y i.n)).setCell ⟨w.heap.size,4,nO⟩ (Bb false)).setCell ⟨w.heap.size,5,nO⟩ (Bb false)).setCell ⟨w.heap.size,6,nO⟩ (U nO 0 0)).heap[q]? =w2.heap[q]? :=λq hq=>by rw[hSe _ _ _ _ hq,hSe _ _ _ _ hq,hSe _ _ _ _ hq,hSe _ _ _ _ hq,hSe _ _ _ _ hq,hSe _ _ _ _ hq,hSe _ _ _ _ hq]
 have hcz:w2.heap.size≤(((((((w2.setCell ⟨w.heap.size,0,nO⟩ (Bb false)).setCell ⟨w.heap.size,1,nO⟩ (Bb false)).setCell ⟨w.heap.size,2,nO⟩ (I Y i.n)).setCell ⟨w.heap.size,3,nO⟩ (I Y i.n)).setCell ⟨w.heap.size,4,nO⟩ (Bb false)).setCell ⟨w.heap.size,5,nO⟩ (Bb false)).setCell ⟨w.heap.size,6,nO⟩ (U nO 0 0)).heap.size:=by simp[j1]
 have C3:=C2.same (hch sb (Ne.symm HNE.out)) hcz
 have M3:ModS sb w (((((((w2.setCell ⟨w.heap.size,0,nO⟩ (Bb false)).setCell ⟨w.heap.size,1,nO⟩ (Bb false)).setCell ⟨w.heap.size,2,nO⟩ (I Y i.n)).setCell ⟨w.heap.size,3,nO⟩ (I Y i.n)).setCell ⟨w.heap.size,4,nO⟩ (Bb false)).setCell ⟨w.heap.size,5,nO⟩ (Bb false)).setCell ⟨w.heap.size,6,nO⟩ (U nO 0 0)):=⟨(((((((M2.1.setCell (j0 HSB.out) _).setCell (j0 HSB.out) _).setCell (j0 HSB.out) _).setCell (j0 HSB.out) _).setCell (j0 HSB.out) _).setCell (j0 HSB.out) _).setCell (j0 HSB.out) _),λb hb hne=>by rw[hch b (by omega)];exact M2.2 b hb hne⟩
 clear hch hcz
 generalize eW:(((((((w2.setCell ⟨w.heap.size,0,nO⟩ (Bb false)).setCell ⟨w.heap.size,1,nO⟩ (Bb false)).setCell ⟨w.heap.size,2,nO⟩ (I Y i.n)).setCell ⟨w.heap.size,3,nO⟩ (I Y i.n)).setCell ⟨w.heap.size,4,nO⟩ (Bb false)).setCell ⟨w.heap.size,5,nO⟩ (Bb false)).setCell ⟨w.heap.size,6,nO⟩ (U nO 0 0))=w3 at *
 clear eW
 have d0:=R3.1 0 _ rfl
 have d1:=R3.1 1 _ rfl
 have d2:=R3.1 2 _ rfl
 have d3:=R3.1 3 _ rfl
 have d4:=R3.1 4 _ rfl
 have d5:=R3.1 5 _ rfl
 have d6:=R3.1 6 _ rfl
 (try go_wp2)
 refine bodyPost_ret (v:=Ag #[Bb false,Bb false,I Y i.n,I Y i.n,Bb false,Bb false,U nO 0 0]) (by simp[results,Tryz.results98,go_sem,d0,d1,d2,d3,d4,d5,d6]) rfl ⟨⟨⟨_,_,rfl,.inl rfl,lR _,j2 _⟩,C3⟩,M3⟩
theorem Hf (sb:Nat)(i:Ins)(V F:Int)(s:Option Addr)(c:List Ins)(cap:Nat)(at_:Int)(x:Pic)(vs:Option Addr)(vc:Nat)(fs:Option Addr)(fc:Nat)(ev:Value)(fl:Bool)(w0 w:World)(hS:Cells w sb (aP i V F s c cap at_ x vs vc fs fc ev false fl))(hc0:CodeAt w0 s c)(hx0:PicAt w0 x vs fs)(hz0:w0.heap.size≤sb)(hB0:Below w0.heap.size w0 w)(K:SCtx V F c x vc fc i at_)(hk:i.k=2):
  Calls pG 98 #[Pp (sO ⟨sb,0,nO⟩)] w λe w'=>kJ w.heap.size sb w' e (aQ i at_ x).1 (aP i V F s c cap at_ x vs vc fs fc ev (aQ i at_ x).2 fl)∧ModS sb w w':=by
 have EGG:aQ i at_ x=(⟨false,⟨true,0,0⟩,decide (i.n=1),decide (i.n=0),[]⟩,false):=by unfold aQ;rw[if_neg (by omega),if_pos hk]
 rw[EGG]
 clear EGG
 have hb1:Below w.heap.size w ((w.alloc (Cc #[Bb false,Bb false,I Y 0,I Y 0,Bb false,Bb false,U nO 0 0] 91)).alloc (Cc #[Bb true,I Y 0,I Y 0] 89)):=by go_grown
 have R1:Cells ((w.alloc (Cc #[Bb false,Bb false,I Y 0,I Y 0,Bb false,Bb false,U nO 0 0] 91)).alloc (Cc #[Bb true,I Y 0,I Y 0] 89)) w.heap.size [Bb false,Bb false,I Y 0,I Y 0,Bb false,Bb false,U nO 0 0]:=(Cells.new w 91 [Bb false,Bb false,I Y 0,I Y 0,Bb false,Bb false,U nO 0 0]).call (by go_grown)
 have N1:Cells ((w.alloc (Cc #[Bb false,Bb false,I Y 0,I Y 0,Bb false,Bb false,U nO 0 0] 91)).alloc (Cc #[Bb true,I Y 0,I Y 0] 89)) (w.heap.size+1) [Bb true,I Y 0,I Y 0]:=by
  exact ki
 have s0:=hS.1 0 _ rfl
 have HSB:=aa hS.2.1
 have hsb:=hS.2.1
 have C1:=hS.call hb1
 have hne:w.heap.size≠sb:=by have:=hS.2.1;omega
 have HNE:=aa hne
 clear hne
 rw[hk] at s0
 clear hS hc0 hx0 hB0 K hz0 hk
 go_enter Tryz.func98,Tryz.ntmps98
 go_upto_region 6 with fail
 clear s0
 generalize ((w.alloc (Cc #[Bb false,Bb false,I Y 0,I Y 0,Bb false,Bb false,U nO 0 0] 91)).alloc (Cc #[Bb true,I Y 0,I Y 0] 89))=w1 at *
 have hdr:Below w1.heap.size w1 w1.drew:=(bR _ _).drew
 have R2:=R1.call hdr
 have N2:=N1.call hdr
 have C2:=C1.call hdr
 have M2:=ModS.of (hb1.trans (hdr.mono hb1.size)) HSB.out
 clear R1 N1 C1 hdr hb1 hsb
 refine au (S:=(λwx=>wx.cell? ⟨sb,4,nO⟩=sO (I Y i.n)∧wx.cell? ⟨w.heap.size+1,0,nO⟩=sO (Bb true)∧wx.cell? ⟨w.heap.size+1,1,nO⟩=sO (I Y 0)∧wx.cell? ⟨w.heap.size+1,2,nO⟩=sO (I Y 0))) [14] (by kernel_rfl) ⟨C2.1 4 _ rfl,N2.1 0 _ rfl,N2.1 1 _ rfl,N2.1 2 _ rfl⟩ (λhHeld=> ?_)
 generalize w1.drew=w2 at *
 refine vZ 0 ?_ ?_
 refine vZ 1 ?_ ?_
 refine vZ 2 ?_ ?_
 refine vZ 3 ?_ ?_
 refine vZ 4 ?_ ?_
 refine vZ 5 ?_ ?_
 refine vZ 6 ?_ ?_
 refine vZ 7 ?_ ?_
 refine vZ 8 ?_ ?_
 refine vZ 9 ?_ ?_
 refine vZ 10 ?_ ?_
 refine vZ 11 ?_ ?_
 refine vZ 12 ?_ ?_
 refine vZ 13 ?_ ?_
 refine aL (i:=14) rfl (by kernel_rfl) (by kernel_rfl) (λK hK=> ?_)
 have r0:=R2.1 0 _ rfl
 have r1:=R2.1 1 _ rfl
 have r2:=R2.1 2 _ rfl
 have r3:=R2.1 3 _ rfl
 have r4:=R2.1 4 _ rfl
 have r5:=R2.1 5 _ rfl
 have r6:=R2.1 6 _ rfl
 have f0:=R2.2.2 0
 have f1:=R2.2.2 1
 have f2:=R2.2.2 2
 have f3:=R2.2.2 3
 have f4:=R2.2.2 4
 have f5:=R2.2.2 5
 have f6:=R2.2.2 6
 go_simp
 refine hK.out _ _ ?_
 clear hK K r0 f0 r1 f1 r2 f2 r3 f3 r4 f4 r5 f5 r6 f6
 refine sm ?_
 refine aq (by kernel_rfl) ?_ _
 have R3:Cells (((((((w2.setCell ⟨w.heap.size,0,nO⟩ (Bb false)).setCell ⟨w.heap.size,1,nO⟩ (Bb true)).setCell ⟨w.heap.size,2,nO⟩ (I Y 0)).setCell ⟨w.heap.size,3,nO⟩ (I Y 0)).setCell ⟨w.heap.size,4,nO⟩ (Bb (decide (i.n=1)))).setCell ⟨w.heap.size,5,nO⟩ (Bb (decide (i.n=0)))).setCell ⟨w.heap.size,6,nO⟩ (U nO 0 0)) w.heap.size [Bb false,Bb true,I Y 0,I Y 0,Bb (decide (i.n=1)),Bb (decide (i.n=0)),U nO 0 0]:=((((((R2.put 0 (by simp) _).put 1 (by simp) _).put 2 (by simp) _).put 3 (by simp) _).put 4 (by simp) _).put 5 (by simp) _).put 6 (by simp) _
 have hch:∀q,q≠w.heap.size→(((((((w2.setCell ⟨w.heap.size,0,nO⟩ (Bb false)).setCell ⟨w.heap.size,1,nO⟩ (Bb true)).setCell ⟨w.heap.size,2,nO⟩ (I Y 0)).setCell ⟨w.heap.size,3,nO⟩ (I Y 0)).setCell ⟨w.heap.size,4,nO⟩ (Bb (decide (i.n=1)))).setCell ⟨w.heap.size,5,nO⟩ (Bb (decide (i.n=0)))).setCell ⟨w.heap.size,6,nO⟩ (U nO 0 0)).heap[q]? =w2.heap[q]? :=λq hq=>by rw[hSe _ _ _ _ hq,hSe _ _ _ _ hq,hSe _ _ _ _ hq,hSe _ _ _ _ hq,hSe _ _ _ _ hq,hSe _ _ _ _ hq,hSe _ _ _ _ hq]
 have hcz:w2.heap.size≤(((((((w2.setCell ⟨w.heap.size,0,nO⟩ (Bb false)).setCell ⟨w.heap.size,1,nO⟩ (Bb true)).setCell ⟨w.heap.size,2,nO⟩ (I Y 0)).setCell ⟨w.heap.size,3,nO⟩ (I Y 0)).setCell ⟨w.heap.size,4,nO⟩ (Bb (decide (i.n=1)))).setCell ⟨w.heap.size,5,nO⟩ (Bb (decide (i.n=0)))).setCell ⟨w.heap.size,6,nO⟩ (U nO 0 0)).heap.size:=by simp[j1]
 have C3:=C2.same (hch sb (Ne.symm HNE.out)) hcz
 have M3:ModS sb w (((((((w2.setCell ⟨w.heap.size,0,nO⟩ (Bb false)).setCell ⟨w.heap.size,1,nO⟩ (Bb true)).setCell ⟨w.heap.size,2,nO⟩ (I Y 0)).setCell ⟨w.heap.size,3,nO⟩ (I Y 0)).setCell ⟨w.heap.size,4,nO⟩ (Bb (decide (i.n=1)))).setCell ⟨w.heap.size,5,nO⟩ (Bb (decide (i.n=0)))).setCell ⟨w.heap.size,6,nO⟩ (U nO 0 0)):=⟨(((((((M2.1.setCell (j0 HSB.out) _).setCell (j0 HSB.out) _).setCell (j0 HSB.out) _).setCell (j0 HSB.out) _).setCell (j0 HSB.out) _).setCell (j0 HSB.out) _).setCell (j0 HSB.out) _),λb hb hne=>by rw[hch b (by omega)];exact M2.2 b hb hne⟩
 clear hch hcz
 generalize eW:(((((((w2.setCell ⟨w.heap.size,0,nO⟩ (Bb false)).setCell ⟨w.heap.size,1,nO⟩ (Bb true)).setCell ⟨w.heap.size,2,nO⟩ (I Y 0)).setCell ⟨w.heap.size,3,nO⟩ (I Y 0)).setCell ⟨w.heap.size,4,nO⟩ (Bb (decide (i.n=1)))).setCell ⟨w.heap.size,5,nO⟩ (Bb (decide (i.n=0)))).setCell ⟨w.heap.size,6,nO⟩ (U nO 0 0))=w3 at *
 clear eW
 have d0:=R3.1 0 _ rfl
 have d1:=R3.1 1 _ rfl
 have d2:=R3.1 2 _ rfl
 have d3:=R3.1 3 _ rfl
 have d4:=R3.1 4 _ rfl
 have d5:=R3.1 5 _ rfl
 have d6:=R3.1 6 _ rfl
 (try go_wp2)
 refine bodyPost_ret (v:=Ag #[Bb false,Bb true,I Y 0,I Y 0,Bb (decide (i.n=1)),Bb (decide (i.n=0)),U nO 0 0]) (by simp[results,Tryz.results98,go_sem,d0,d1,d2,d3,d4,d5,d6]) rfl ⟨⟨⟨_,_,rfl,.inl rfl,lR _,j2 _⟩,C3⟩,M3⟩
theorem He (sb:Nat)(i:Ins)(V F:Int)(s:Option Addr)(c:List Ins)(cap:Nat)(at_:Int)(x:Pic)(vs:Option Addr)(vc:Nat)(fs:Option Addr)(fc:Nat)(ev:Value)(fl:Bool)(w0 w:World)(hS:Cells w sb (aP i V F s c cap at_ x vs vc fs fc ev false fl))(hc0:CodeAt w0 s c)(hx0:PicAt w0 x vs fs)(hz0:w0.heap.size≤sb)(hB0:Below w0.heap.size w0 w)(K:SCtx V F c x vc fc i at_)(hk:i.k=3):
  Calls pG 98 #[Pp (sO ⟨sb,0,nO⟩)] w λe w'=>kJ w.heap.size sb w' e (aQ i at_ x).1 (aP i V F s c cap at_ x vs vc fs fc ev (aQ i at_ x).2 fl)∧ModS sb w w':=by
 have EGG:aQ i at_ x=(iw,false):=by unfold aQ;rw[if_neg (by omega),if_neg (by omega),if_pos hk]
 rw[EGG]
 clear EGG
 have hb1:Below w.heap.size w ((w.alloc (Cc #[Bb false,Bb false,I Y 0,I Y 0,Bb false,Bb false,U nO 0 0] 91)).alloc (Cc #[Bb true,I Y 0,I Y 0] 89)):=by go_grown
 have R1:Cells ((w.alloc (Cc #[Bb false,Bb false,I Y 0,I Y 0,Bb false,Bb false,U nO 0 0] 91)).alloc (Cc #[Bb true,I Y 0,I Y 0] 89)) w.heap.size [Bb false,Bb false,I Y 0,I Y 0,Bb false,Bb false,U nO 0 0]:=(Cells.new w 91 [Bb false,Bb false,I Y 0,I Y 0,Bb false,Bb false,U nO 0 0]).call (by go_grown)
 have N1:Cells ((w.alloc (Cc #[Bb false,Bb false,I Y 0,I Y 0,Bb false,Bb false,U nO 0 0] 91)).alloc (Cc #[Bb true,I Y 0,I Y 0] 89)) (w.heap.size+1) [Bb true,I Y 0,I Y 0]:=by
  exact ki
 have s0:=hS.1 0 _ rfl
 have HSB:=aa hS.2.1
 have hsb:=hS.2.1
 have C1:=hS.call hb1
 have hne:w.heap.size≠sb:=by have:=hS.2.1;omega
 have HNE:=aa hne
 clear hne
 rw[hk] at s0
 clear hS hc0 hx0 hB0 K hz0 hk
 go_enter Tryz.func98,Tryz.ntmps98
 go_upto_region 8 with fail
 clear s0
 generalize ((w.alloc (Cc #[Bb false,Bb false,I Y 0,I Y 0,Bb false,Bb false,U nO 0 0] 91)).alloc (Cc #[Bb true,I Y 0,I Y 0] 89))=w1 at *
 have hdr:Below w1.heap.size w1 w1:=(bR _ _)
 have R2:=R1.call hdr
 have N2:=N1.call hdr
 have C2:=C1.call hdr
 have M2:=ModS.of (hb1.trans (hdr.mono hb1.size)) HSB.out
 clear R1 N1 C1 hdr hb1 hsb
 have n0:=N2.1 0 _ rfl
 have n1:=N2.1 1 _ rfl
 have n2:=N2.1 2 _ rfl
 have r0:=R2.1 0 _ rfl
 have r1:=R2.1 1 _ rfl
 have r2:=R2.1 2 _ rfl
 have r3:=R2.1 3 _ rfl
 have r4:=R2.1 4 _ rfl
 have r5:=R2.1 5 _ rfl
 have r6:=R2.1 6 _ rfl
 have f0:=R2.2.2 0
 have f1:=R2.2.2 1
 have f2:=R2.2.2 2
 have f3:=R2.2.2 3
 have f4:=R2.2.2 4
 have f5:=R2.2.2 5
 have f6:=R2.2.2 6
 go_wp2_with fail
 have R3:Cells (((((((w1.setCell ⟨w.heap.size,0,nO⟩ (Bb true)).setCell ⟨w.heap.size,1,nO⟩ (Bb true)).setCell ⟨w.heap.size,2,nO⟩ (I Y 0)).setCell ⟨w.heap.size,3,nO⟩ (I Y 0)).setCell ⟨w.heap.size,4,nO⟩ (Bb false)).setCell ⟨w.heap.size,5,nO⟩ (Bb false)).setCell ⟨w.heap.size,6,nO⟩ (U nO 0 0)) w.heap.size [Bb true,Bb true,I Y 0,I Y 0,Bb false,Bb false,U nO 0 0]:=((((((R2.put 0 (by simp) _).put 1 (by simp) _).put 2 (by simp) _).put 3 (by simp) _).put 4 (by simp) _).put 5 (by simp) _).put 6 (by simp) _
 have hch:∀q,q≠w.heap.size→(((((((w1.setCell ⟨w.heap.size,0,nO⟩ (Bb true)).setCell ⟨w.heap.size,1,nO⟩ (Bb true)).setCell ⟨w.heap.size,2,nO⟩ (I Y 0)).setCell ⟨w.heap.size,3,nO⟩ (I Y 0)).setCell ⟨w.heap.size,4,nO⟩ (Bb false)).setCell ⟨w.heap.size,5,nO⟩ (Bb false)).setCell ⟨w.heap.size,6,nO⟩ (U nO 0 0)).heap[q]? =w1.heap[q]? :=λq hq=>by rw[hSe _ _ _ _ hq,hSe _ _ _ _ hq,hSe _ _ _ _ hq,hSe _ _ _ _ hq,hSe _ _ _ _ hq,hSe _ _ _ _ hq,hSe _ _ _ _ hq]
 have hcz:w1.heap.size≤(((((((w1.setCell ⟨w.heap.size,0,nO⟩ (Bb true)).setCell ⟨w.heap.size,1,nO⟩ (Bb true)).setCell ⟨w.heap.size,2,nO⟩ (I Y 0)).setCell ⟨w.heap.size,3,nO⟩ (I Y 0)).setCell ⟨w.heap.size,4,nO⟩ (Bb false)).setCell ⟨w.heap.size,5,nO⟩ (Bb false)).setCell ⟨w.heap.size,6,nO⟩ (U nO 0 0)).heap.size:=by simp[j1]
 have C3:=C2.same (hch sb (Ne.symm HNE.out)) hcz
 have M3:ModS sb w (((((((w1.setCell ⟨w.heap.size,0,nO⟩ (Bb true)).setCell ⟨w.heap.size,1,nO⟩ (Bb true)).setCell ⟨w.heap.size,2,nO⟩ (I Y 0)).setCell ⟨w.heap.size,3,nO⟩ (I Y 0)).setCell ⟨w.heap.size,4,nO⟩ (Bb false)).setCell ⟨w.heap.size,5,nO⟩ (Bb false)).setCell ⟨w.heap.size,6,nO⟩ (U nO 0 0)):=⟨(((((((M2.1.setCell (j0 HSB.out) _).setCell (j0 HSB.out) _).setCell (j0 HSB.out) _).setCell (j0 HSB.out) _).setCell (j0 HSB.out) _).setCell (j0 HSB.out) _).setCell (j0 HSB.out) _),λb hb hne=>by rw[hch b (by omega)];exact M2.2 b hb hne⟩
 clear hch hcz
 generalize eW:(((((((w1.setCell ⟨w.heap.size,0,nO⟩ (Bb true)).setCell ⟨w.heap.size,1,nO⟩ (Bb true)).setCell ⟨w.heap.size,2,nO⟩ (I Y 0)).setCell ⟨w.heap.size,3,nO⟩ (I Y 0)).setCell ⟨w.heap.size,4,nO⟩ (Bb false)).setCell ⟨w.heap.size,5,nO⟩ (Bb false)).setCell ⟨w.heap.size,6,nO⟩ (U nO 0 0))=w3 at *
 clear eW
 have d0:=R3.1 0 _ rfl
 have d1:=R3.1 1 _ rfl
 have d2:=R3.1 2 _ rfl
 have d3:=R3.1 3 _ rfl
 have d4:=R3.1 4 _ rfl
 have d5:=R3.1 5 _ rfl
 have d6:=R3.1 6 _ rfl
 (try go_wp2)
 refine bodyPost_ret (v:=Ag #[Bb true,Bb true,I Y 0,I Y 0,Bb false,Bb false,U nO 0 0]) (by simp[results,Tryz.results98,go_sem,d0,d1,d2,d3,d4,d5,d6]) rfl ⟨⟨⟨_,_,rfl,.inl rfl,lR _,j2 _⟩,C3⟩,M3⟩
theorem Ef (sb:Nat)(i:Ins)(V F:Int)(s:Option Addr)(c:List Ins)(cap:Nat)(at_:Int)(x:Pic)(vs:Option Addr)(vc:Nat)(fs:Option Addr)(fc:Nat)(ev:Value)(fl:Bool)(w0 w:World)(hS:Cells w sb (aP i V F s c cap at_ x vs vc fs fc ev false fl))(hc0:CodeAt w0 s c)(hx0:PicAt w0 x vs fs)(hz0:w0.heap.size≤sb)(hB0:Below w0.heap.size w0 w)(K:SCtx V F c x vc fc i at_)(hk:i.k=14):
  Calls pG 98 #[Pp (sO ⟨sb,0,nO⟩)] w λe w'=>kJ w.heap.size sb w' e (aQ i at_ x).1 (aP i V F s c cap at_ x vs vc fs fc ev (aQ i at_ x).2 fl)∧ModS sb w w':=by
 have EGG:aQ i at_ x=(⟨false,⟨false,-i.n,i.n⟩,false,false,[]⟩,false):=by unfold aQ;rw[if_neg (by omega),if_neg (by omega),if_neg (by omega),if_neg (by omega),if_neg (by omega),if_pos hk]
 rw[EGG]
 clear EGG
 have hb1:Below w.heap.size w ((w.alloc (Cc #[Bb false,Bb false,I Y 0,I Y 0,Bb false,Bb false,U nO 0 0] 91)).alloc (Cc #[Bb true,I Y 0,I Y 0] 89)):=by go_grown
 have R1:Cells ((w.alloc (Cc #[Bb false,Bb false,I Y 0,I Y 0,Bb false,Bb false,U nO 0 0] 91)).alloc (Cc #[Bb true,I Y 0,I Y 0] 89)) w.heap.size [Bb false,Bb false,I Y 0,I Y 0,Bb false,Bb false,U nO 0 0]:=(Cells.new w 91 [Bb false,Bb false,I Y 0,I Y 0,Bb false,Bb false,U nO 0 0]).call (by go_grown)
 have N1:Cells ((w.alloc (Cc #[Bb false,Bb false,I Y 0,I Y 0,Bb false,Bb false,U nO 0 0] 91)).alloc (Cc #[Bb true,I Y 0,I Y 0] 89)) (w.heap.size+1) [Bb true,I Y 0,I Y 0]:=by
  exact ki
 have s0:=hS.1 0 _ rfl
 have HSB:=aa hS.2.1
 have hsb:=hS.2.1
 have C1:=hS.call hb1
 have hne:w.heap.size≠sb:=by have:=hS.2.1;omega
 have HNE:=aa hne
 clear hne
 have hn:=(bn K.one).2.2.2.2.2.2.2.2 hk
 have hwn:IntKind.i64.wrap (-i.n)= -i.n:=by rw[IntKind.wrap_i64];omega
 rw[hk] at s0
 clear hS hc0 hx0 hB0 K hz0 hk
 go_enter Tryz.func98,Tryz.ntmps98
 go_upto_region 12 with fail
 clear s0
 generalize ((w.alloc (Cc #[Bb false,Bb false,I Y 0,I Y 0,Bb false,Bb false,U nO 0 0] 91)).alloc (Cc #[Bb true,I Y 0,I Y 0] 89))=w1 at *
 have hdr:Below w1.heap.size w1 w1.drew:=(bR _ _).drew
 have R2:=R1.call hdr
 have N2:=N1.call hdr
 have C2:=C1.call hdr
 have M2:=ModS.of (hb1.trans (hdr.mono hb1.size)) HSB.out
 clear R1 N1 C1 hdr hb1 hsb
 refine au (S:=(λwx=>wx.cell? ⟨sb,4,nO⟩=sO (I Y i.n))) [13] (by kernel_rfl) (C2.1 4 _ rfl) (λhHeld=> ?_)
 generalize w1.drew=w2 at *
 refine vZ 0 ?_ ?_
 refine vZ 1 ?_ ?_
 refine vZ 2 ?_ ?_
 refine vZ 3 ?_ ?_
 refine vZ 4 ?_ ?_
 refine vZ 5 ?_ ?_
 refine vZ 6 ?_ ?_
 refine vZ 7 ?_ ?_
 refine vZ 8 ?_ ?_
 refine vZ 9 ?_ ?_
 refine vZ 10 ?_ ?_
 refine vZ 11 ?_ ?_
 refine vZ 12 ?_ ?_
 refine aL (i:=13) rfl (by kernel_rfl) (by kernel_rfl) (λK hK=> ?_)
 have r0:=R2.1 0 _ rfl
 have r1:=R2.1 1 _ rfl
 have r2:=R2.1 2 _ rfl
 have r3:=R2.1 3 _ rfl
 have r4:=R2.1 4 _ rfl
 have r5:=R2.1 5 _ rfl
 have r6:=R2.1 6 _ rfl
 have f0:=R2.2.2 0
 have f1:=R2.2.2 1
 have f2:=R2.2.2 2
 have f3:=R2.2.2 3
 have f4:=R2.2.2 4
 have f5:=R2.2.2 5
 have f6:=R2.2.2 6
 go_simp
 refine hK.out _ _ ?_
 clear hK K r0 f0 r1 f1 r2 f2 r3 f3 r4 f4 r5 f5 r6 f6
 refine sm ?_
 refine aq (by kernel_rfl) ?_ _
 have R3:Cells (((((((w2.setCell ⟨w.heap.size,0,nO⟩ (Bb false)).setCell ⟨w.heap.size,1,nO⟩ (Bb false)).setCell ⟨w.heap.size,2,nO⟩ (I Y (-i.n))).setCell ⟨w.heap.size,3,nO⟩ (I Y i.n)).setCell ⟨w.heap.size,4,nO⟩ (Bb false)).setCell ⟨w.heap.size,5,nO⟩ (Bb false)).setCell ⟨w.heap.size,6,nO⟩ (U nO 0 0)) w.heap.size [Bb false,Bb false,I Y (-i.n),I Y i.n,Bb false,Bb false,U nO 0 0]:=((((((R2.put 0 (by simp) _).put 1 (by simp) _).put 2 (by simp) _).put 3 (by simp) _).put 4 (by simp) _).put 5 (by simp) _).put 6 (by simp) _
 have hch:∀q,q≠w.heap.size→(((((((w2.setCell ⟨w.heap.size,0,nO⟩ (Bb false)).setCell ⟨w.heap.size,1,nO⟩ (Bb false)).setCell ⟨w.heap.size,2,nO⟩ (I Y (-i.n))).setCell ⟨w.heap.size,3,nO⟩ (I Y i.n)).setCell ⟨w.heap.size,4,nO⟩ (Bb false)).setCell ⟨w.heap.size,5,nO⟩ (Bb false)).setCell ⟨w.heap.size,6,nO⟩ (U nO 0 0)).heap[q]? =w2.heap[q]? :=λq hq=>by rw[hSe _ _ _ _ hq,hSe _ _ _ _ hq,hSe _ _ _ _ hq,hSe _ _ _ _ hq,hSe _ _ _ _ hq,hSe _ _ _ _ hq,hSe _ _ _ _ hq]
 have hcz:w2.heap.size≤(((((((w2.setCell ⟨w.heap.size,0,nO⟩ (Bb false)).setCell ⟨w.heap.size,1,nO⟩ (Bb false)).setCell ⟨w.heap.size,2,nO⟩ (I Y (-i.n))).setCell ⟨w.heap.size,3,nO⟩ (I Y i.n)).setCell ⟨w.heap.size,4,nO⟩ (Bb false)).setCell ⟨w.heap.size,5,nO⟩ (Bb false)).setCell ⟨w.heap.size,6,nO⟩ (U nO 0 0)).heap.size:=by simp[j1]
 have C3:=C2.same (hch sb (Ne.symm HNE.out)) hcz
 have M3:ModS sb w (((((((w2.setCell ⟨w.heap.size,0,nO⟩ (Bb false)).setCell ⟨w.heap.size,1,nO⟩ (Bb false)).setCell ⟨w.heap.size,2,nO⟩ (I Y (-i.n))).setCell ⟨w.heap.size,3,nO⟩ (I Y i.n)).setCell ⟨w.heap.size,4,nO⟩ (Bb false)).setCell ⟨w.heap.size,5,nO⟩ (Bb false)).setCell ⟨w.heap.size,6,nO⟩ (U nO 0 0)):=⟨(((((((M2.1.setCell (j0 HSB.out) _).setCell (j0 HSB.out) _).setCell (j0 HSB.out) _).setCell (j0 HSB.out) _).setCell (j0 HSB.out) _).setCell (j0 HSB.out) _).setCell (j0 HSB.out) _),λb hb hne=>by rw[hch b (by omega)];exact M2.2 b hb hne⟩
 clear hch hcz
 generalize eW:(((((((w2.setCell ⟨w.heap.size,0,nO⟩ (Bb false)).setCell ⟨w.heap.size,1,nO⟩ (Bb false)).setCell ⟨w.heap.size,2,nO⟩ (I Y (-i.n))).setCell ⟨w.heap.size,3,nO⟩ (I Y i.n)).setCell ⟨w.heap.size,4,nO⟩ (Bb false)).setCell ⟨w.heap.size,5,nO⟩ (Bb false)).setCell ⟨w.heap.size,6,nO⟩ (U nO 0 0))=w3 at *
 clear eW
 have d0:=R3.1 0 _ rfl
 have d1:=R3.1 1 _ rfl
 have d2:=R3.1 2 _ rfl
 have d3:=R3.1 3 _ rfl
 have d4:=R3.1 4 _ rfl
 have d5:=R3.1 5 _ rfl
 have d6:=R3.1 6 _ rfl
 (try go_wp2)
 refine bodyPost_ret (v:=Ag #[Bb false,Bb false,I Y (-i.n),I Y i.n,Bb false,Bb false,U nO 0 0]) (by simp[results,Tryz.results98,go_sem,d0,d1,d2,d3,d4,d5,d6]) rfl ⟨⟨⟨_,_,rfl,.inl rfl,lR _,j2 _⟩,C3⟩,M3⟩
end
end Go.Proofs.YtmapdpcfanecdabGreatDoor
