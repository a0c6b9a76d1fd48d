import Derived.Test.YtmapdpcfanecdabGreatDoorM49
open Go.Ending renaming returned→Rt
open Go.IntKind renaming i64→Y
open Go.Obj renaming cells→Cc
open Go.Proofs.Tryz renaming prog→pG
open Go.RowKit.Below renaming heap_setCell→hSe,refl→bR
open Go.Value renaming agg→Ag,bool→Bb,int→I,pointer→Pp,slice→U,tuple→Tu
open Go.World renaming setCell→j1,size_alloc→zA
open List renaming getElem_mem→gM
open Nat renaming le_of_lt→j0,le_refl→lR
open Option renaming none→nO,some→sO
set_option linter.unusedSimpArgs false
set_option linter.unusedVariables false
set_option maxHeartbeats 16000000
set_option maxRecDepth 100000
namespace Go.Proofs.YtmapdpcfanecdabGreatDoor
section
open Go.RowKit
attribute [local go_sem ↓] Go.wp_at_zero Go.wp_at_succ
theorem Ez (sb:Nat)(i:Ins)(V F:Int)(s:Option Addr)(c:List Ins)(cap:Nat)(at_:Int)(x:Pic)(vs:Option Addr)(vc:Nat)(fs:Option Addr)(fc:Nat)(ev:Value)(fl:Bool)(w0 w:World)(hS:Cells w sb (aP i V F s c cap at_ x vs vc fs fc ev false fl))(hc0:CodeAt w0 s c)(hx0:PicAt w0 x vs fs)(hz0:w0.heap.size≤sb)(hB0:Below w0.heap.size w0 w)(K:SCtx V F c x vc fc i at_)(hk:i.k=12):
  Calls pG 98 #[Pp (sO ⟨sb,0,nO⟩)] w λe w'=>kJ w.heap.size sb w' e (aQ i at_ x).1 (aP i V F s c cap at_ x vs vc fs fc ev (aQ i at_ x).2 fl)∧ModS sb w w':=by
 have EGG:aQ i at_ x=(fq x i.n (gAt x i.a).s,bI (gAt x i.a)):=by unfold aQ;rw[if_neg (by omega),if_neg (by omega),if_neg (by omega),if_neg (by omega),if_pos hk]
 rw[EGG]
 clear EGG
 have hb1:Below w.heap.size w ((w.alloc (Cc #[Bb false,Bb false,I Y 0,I Y 0,Bb false,Bb false,U nO 0 0] 91)).alloc (Cc #[Bb true,I Y 0,I Y 0] 89)):=by go_grown
 have R1:Cells ((w.alloc (Cc #[Bb false,Bb false,I Y 0,I Y 0,Bb false,Bb false,U nO 0 0] 91)).alloc (Cc #[Bb true,I Y 0,I Y 0] 89)) w.heap.size [Bb false,Bb false,I Y 0,I Y 0,Bb false,Bb false,U nO 0 0]:=(Cells.new w 91 [Bb false,Bb false,I Y 0,I Y 0,Bb false,Bb false,U nO 0 0]).call (by go_grown)
 have N1:Cells ((w.alloc (Cc #[Bb false,Bb false,I Y 0,I Y 0,Bb false,Bb false,U nO 0 0] 91)).alloc (Cc #[Bb true,I Y 0,I Y 0] 89)) (w.heap.size+1) [Bb true,I Y 0,I Y 0]:=by
  have h:=Cells.new (w.alloc (Cc #[Bb false,Bb false,I Y 0,I Y 0,Bb false,Bb false,U nO 0 0] 91)) 89 [Bb true,I Y 0,I Y 0]
  rw[zA] at h
  exact h
 have s0:=hS.1 0 _ rfl
 have HSB:=aa hS.2.1
 have hsb:=hS.2.1
 have C1:=hS.call hb1
 have hne:w.heap.size≠sb:=by have:=hS.2.1;omega
 have HNE:=aa hne
 clear hne
 have hn:=(bn K.one).2.2.2.2.1 (.inl hk)
 have hN:∃p:Nat,i.n=p∧(p:Int) < F:=by
  obtain⟨p,ep⟩:=Int.eq_ofNat_of_zero_le hn.1
  exact⟨p,ep,by omega⟩
 have HG:=aa (Hm sb i V F s c cap at_ x vs vc fs fc ev false fl w0 ((w.alloc (Cc #[Bb false,Bb false,I Y 0,I Y 0,Bb false,Bb false,U nO 0 0] 91)).alloc (Cc #[Bb true,I Y 0,I Y 0] 89)) C1 hc0 hx0 hz0 (hB0.trans (hb1.mono hB0.size)) K (by rw[hk];rfl) hN)
 rw[hk] at s0
 clear hS hc0 hx0 hB0 K hz0 hk hn hN
 generalize fq x i.n (gAt x i.a).s=G at *
 generalize bI (gAt x i.a)=nt at *
 go_enter Tryz.func98,Tryz.ntmps98
 go_wp2_with (go_at_call 163;fail)
 clear s0 hsb
 generalize ((w.alloc (Cc #[Bb false,Bb false,I Y 0,I Y 0,Bb false,Bb false,U nO 0 0] 91)).alloc (Cc #[Bb true,I Y 0,I Y 0] 89))=w1 at *
 refine HG.out.mono ?_
 rintro e w2 ⟨⟨⟨ss,gc,rfl,JI,J1,J2⟩,C2⟩,M2⟩
 have R2:=R1.same (M2.2 _ R1.2.1 HNE.out) M2.1.size
 have MM:=(ModS.of hb1 HSB.out).trans M2
 have hz1:=R1.2.1
 clear HG R1 N1 C1 M2 hb1
 have r0:=R2.1 0 _ rfl
 have r1:=R2.1 1 _ rfl
 have r2:=R2.1 2 _ rfl
 have r3:=R2.1 3 _ rfl
 have r4:=R2.1 4 _ rfl
 have r5:=R2.1 5 _ rfl
 have r6:=R2.1 6 _ rfl
 have f0:=R2.2.2 0
 have f1:=R2.2.2 1
 have f2:=R2.2.2 2
 have f3:=R2.2.2 3
 have f4:=R2.2.2 4
 have f5:=R2.2.2 5
 have f6:=R2.2.2 6
 go_wp2_with fail
 clear r0 f0 r1 f1 r2 f2 r3 f3 r4 f4 r5 f5 r6 f6
 have R3:Cells (((((((w2.setCell ⟨w.heap.size,0,nO⟩ (Bb G.n)).setCell ⟨w.heap.size,1,nO⟩ (Bb G.sp.n)).setCell ⟨w.heap.size,2,nO⟩ (I Y G.sp.lo)).setCell ⟨w.heap.size,3,nO⟩ (I Y G.sp.hi)).setCell ⟨w.heap.size,4,nO⟩ (Bb G.t)).setCell ⟨w.heap.size,5,nO⟩ (Bb G.f)).setCell ⟨w.heap.size,6,nO⟩ (U ss G.s.length gc)) w.heap.size [Bb G.n,Bb G.sp.n,I Y G.sp.lo,I Y G.sp.hi,Bb G.t,Bb G.f,U ss G.s.length gc]:=((((((R2.put 0 (by simp) _).put 1 (by simp) _).put 2 (by simp) _).put 3 (by simp) _).put 4 (by simp) _).put 5 (by simp) _).put 6 (by simp) _
 have hch:∀q,q≠w.heap.size→(((((((w2.setCell ⟨w.heap.size,0,nO⟩ (Bb G.n)).setCell ⟨w.heap.size,1,nO⟩ (Bb G.sp.n)).setCell ⟨w.heap.size,2,nO⟩ (I Y G.sp.lo)).setCell ⟨w.heap.size,3,nO⟩ (I Y G.sp.hi)).setCell ⟨w.heap.size,4,nO⟩ (Bb G.t)).setCell ⟨w.heap.size,5,nO⟩ (Bb G.f)).setCell ⟨w.heap.size,6,nO⟩ (U ss G.s.length gc)).heap[q]? =w2.heap[q]? :=λq hq=>by rw[hSe _ _ _ _ hq,hSe _ _ _ _ hq,hSe _ _ _ _ hq,hSe _ _ _ _ hq,hSe _ _ _ _ hq,hSe _ _ _ _ hq,hSe _ _ _ _ hq]
 have hcz:w2.heap.size≤(((((((w2.setCell ⟨w.heap.size,0,nO⟩ (Bb G.n)).setCell ⟨w.heap.size,1,nO⟩ (Bb G.sp.n)).setCell ⟨w.heap.size,2,nO⟩ (I Y G.sp.lo)).setCell ⟨w.heap.size,3,nO⟩ (I Y G.sp.hi)).setCell ⟨w.heap.size,4,nO⟩ (Bb G.t)).setCell ⟨w.heap.size,5,nO⟩ (Bb G.f)).setCell ⟨w.heap.size,6,nO⟩ (U ss G.s.length gc)).heap.size:=by simp[j1]
 have C3:=C2.same (hch sb (Ne.symm HNE.out)) hcz
 have M3:ModS sb w (((((((w2.setCell ⟨w.heap.size,0,nO⟩ (Bb G.n)).setCell ⟨w.heap.size,1,nO⟩ (Bb G.sp.n)).setCell ⟨w.heap.size,2,nO⟩ (I Y G.sp.lo)).setCell ⟨w.heap.size,3,nO⟩ (I Y G.sp.hi)).setCell ⟨w.heap.size,4,nO⟩ (Bb G.t)).setCell ⟨w.heap.size,5,nO⟩ (Bb G.f)).setCell ⟨w.heap.size,6,nO⟩ (U ss G.s.length gc)):=⟨(((((((MM.1.setCell (j0 HSB.out) _).setCell (j0 HSB.out) _).setCell (j0 HSB.out) _).setCell (j0 HSB.out) _).setCell (j0 HSB.out) _).setCell (j0 HSB.out) _).setCell (j0 HSB.out) _),λb hb hne=>by rw[hch b (by omega)];exact MM.2 b hb hne⟩
 have I3:IntsIn (λb=>w.heap.size≤b) (((((((w2.setCell ⟨w.heap.size,0,nO⟩ (Bb G.n)).setCell ⟨w.heap.size,1,nO⟩ (Bb G.sp.n)).setCell ⟨w.heap.size,2,nO⟩ (I Y G.sp.lo)).setCell ⟨w.heap.size,3,nO⟩ (I Y G.sp.hi)).setCell ⟨w.heap.size,4,nO⟩ (Bb G.t)).setCell ⟨w.heap.size,5,nO⟩ (Bb G.f)).setCell ⟨w.heap.size,6,nO⟩ (U ss G.s.length gc)) ss G.s:=(JI.same (λb hb _=>hch b (by omega)) hcz).mono λb hb _=>by omega
 clear hch hcz
 generalize eW:(((((((w2.setCell ⟨w.heap.size,0,nO⟩ (Bb G.n)).setCell ⟨w.heap.size,1,nO⟩ (Bb G.sp.n)).setCell ⟨w.heap.size,2,nO⟩ (I Y G.sp.lo)).setCell ⟨w.heap.size,3,nO⟩ (I Y G.sp.hi)).setCell ⟨w.heap.size,4,nO⟩ (Bb G.t)).setCell ⟨w.heap.size,5,nO⟩ (Bb G.f)).setCell ⟨w.heap.size,6,nO⟩ (U ss G.s.length gc))=w3 at *
 clear eW
 have d0:=R3.1 0 _ rfl
 have d1:=R3.1 1 _ rfl
 have d2:=R3.1 2 _ rfl
 have d3:=R3.1 3 _ rfl
 have d4:=R3.1 4 _ rfl
 have d5:=R3.1 5 _ rfl
 have d6:=R3.1 6 _ rfl
 (try go_wp2)
 refine bodyPost_ret (v:=Ag #[Bb G.n,Bb G.sp.n,I Y G.sp.lo,I Y G.sp.hi,Bb G.t,Bb G.f,U ss G.s.length gc]) (by simp[results,Tryz.results98,go_sem,d0,d1,d2,d3,d4,d5,d6]) rfl ⟨⟨⟨_,_,rfl,I3,J1,J2⟩,C3⟩,M3⟩
theorem SCtx.varB0 {V F:Int}{c:List Ins}{x:Pic}{vc fc:Nat}{i:Ins}{at_:Int}(K:SCtx V F c x vc fc i at_):∃k:Nat,i.b=k∧k < x.vars.length:=by
 cases hB:nB i.k with
 |true=>exact K.varB hB
 |false=>
  have h:=K.one
  have hv:=K.kx.vars
  have hp:=(bK K.h0).v1
  have h1:=(bn K.one)
  unfold bD at h
  split at h
  ·cases h
  split at h
  ·cases h
  split at h
  ·cases h
  split at h
  ·cases h
  ·rename_i h4
   simp only[hB,Bool.not_false,Bool.true_and,Bool.or_eq_true,decide_eq_true_eq,not_or,Bool.and_eq_true,Bool.not_eq_true'] at h4
   refine⟨0,by simpa using h4.1.1.2,by omega⟩
theorem rR {p:Prop}(h:p:=by
 refine wpAnyH_ready (rs:=[39]) (by kernel_rfl) (by simp) ?_
 refine AllReadyH.cons rfl (λK hK=> ?_) AllReadyH.nil
 have r0:=A4.1 0 _ rfl
 have r1:=A4.1 1 _ rfl
 have r2:=A4.1 2 _ rfl
 have r3:=A4.1 3 _ rfl
 have r4:=A4.1 4 _ rfl
 have r5:=A4.1 5 _ rfl
 have r6:=A4.1 6 _ rfl
 have f0:=A4.2.2 0
 have f1:=A4.2.2 1
 have f2:=A4.2.2 2
 have f3:=A4.2.2 3
 have f4:=A4.2.2 4
 have f5:=A4.2.2 5
 have f6:=A4.2.2 6
 go_simp
 have A5:Cells (((((((w4.setCell ⟨ab,0,none⟩ (.bool G.n)).setCell ⟨ab,1,none⟩ (.bool G.sp.n)).setCell ⟨ab,2,none⟩ (.int .i64 G.sp.lo)).setCell ⟨ab,3,none⟩ (.int .i64 G.sp.hi)).setCell ⟨ab,4,none⟩ (.bool G.t)).setCell ⟨ab,5,none⟩ (.bool G.f)).setCell ⟨ab,6,none⟩ (.slice js G.s.length jc)) ab [.bool G.n,.bool G.sp.n,.int .i64 G.sp.lo,.int .i64 G.sp.hi,.bool G.t,.bool G.f,.slice js G.s.length jc]:=((((((A4.put 0 (by simp) _).put 1 (by simp) _).put 2 (by simp) _).put 3 (by simp) _).put 4 (by simp) _).put 5 (by simp) _).put 6 (by simp) _
 have hch:∀q,q≠ab→(((((((w4.setCell ⟨ab,0,none⟩ (.bool G.n)).setCell ⟨ab,1,none⟩ (.bool G.sp.n)).setCell ⟨ab,2,none⟩ (.int .i64 G.sp.lo)).setCell ⟨ab,3,none⟩ (.int .i64 G.sp.hi)).setCell ⟨ab,4,none⟩ (.bool G.t)).setCell ⟨ab,5,none⟩ (.bool G.f)).setCell ⟨ab,6,none⟩ (.slice js G.s.length jc)).heap[q]? =w4.heap[q]? :=λq hq=>by rw[Below.heap_setCell _ _ _ _ hq,Below.heap_setCell _ _ _ _ hq,Below.heap_setCell _ _ _ _ hq,Below.heap_setCell _ _ _ _ hq,Below.heap_setCell _ _ _ _ hq,Below.heap_setCell _ _ _ _ hq,Below.heap_setCell _ _ _ _ hq]
 have hcz:w4.heap.size≤(((((((w4.setCell ⟨ab,0,none⟩ (.bool G.n)).setCell ⟨ab,1,none⟩ (.bool G.sp.n)).setCell ⟨ab,2,none⟩ (.int .i64 G.sp.lo)).setCell ⟨ab,3,none⟩ (.int .i64 G.sp.hi)).setCell ⟨ab,4,none⟩ (.bool G.t)).setCell ⟨ab,5,none⟩ (.bool G.f)).setCell ⟨ab,6,none⟩ (.slice js G.s.length jc)).heap.size:=by simp[World.setCell]
 have B5:Below w1.heap.size w1 (((((((w4.setCell ⟨ab,0,none⟩ (.bool G.n)).setCell ⟨ab,1,none⟩ (.bool G.sp.n)).setCell ⟨ab,2,none⟩ (.int .i64 G.sp.lo)).setCell ⟨ab,3,none⟩ (.int .i64 G.sp.hi)).setCell ⟨ab,4,none⟩ (.bool G.t)).setCell ⟨ab,5,none⟩ (.bool G.f)).setCell ⟨ab,6,none⟩ (.slice js G.s.length jc)):=((((((B4.setCell zab _).setCell zab _).setCell zab _).setCell zab _).setCell zab _).setCell zab _).setCell zab _
 have I5:=I4.same (λb hb _=>hch b hb.2) hcz
 refine hK.out _ _ (HKZ.out _ B5) (λhHeld5=> ?_)
 clear hK K r0 f0 r1 f1 r2 f2 r3 f3 r4 f4 r5 f5 r6 f6 A4 B4 I4 hch hcz
 refine sm ?_
 generalize (((((((w4.setCell ⟨ab,0,none⟩ (.bool G.n)).setCell ⟨ab,1,none⟩ (.bool G.sp.n)).setCell ⟨ab,2,none⟩ (.int .i64 G.sp.lo)).setCell ⟨ab,3,none⟩ (.int .i64 G.sp.hi)).setCell ⟨ab,4,none⟩ (.bool G.t)).setCell ⟨ab,5,none⟩ (.bool G.f)).setCell ⟨ab,6,none⟩ (.slice js G.s.length jc))=w5 at *
 refine vH 40 ?_ ?_
 refine vH 41 ?_ ?_
 refine wpAnyH_done (by kernel_rfl) ?_ _
 have C6:=HCC.out w5 B5
 have R6:=HRR.out w5 B5
 have s14:=C6.1 14 _ rfl
 have f14:=C6.2.2 14
 go_upto_region 15 with fail
 clear s14 f14
 have C7:Cells (w5.setCell ⟨sb,14,none⟩ (.bool wr)) sb (aP i V F s c cap at_ x vs vc fs fc ev wr fl):=C6.put 14 (by simp[aP]) _
 have R7:=R6.far (a:=⟨sb,14,none⟩) HNE.out (.bool wr)
 have A7:=A5.far (a:=⟨sb,14,none⟩) (by have:=HSB.out;have:=HZ1.out;simp only;omega) (.bool wr)
 have M7:ModS sb w (w5.setCell ⟨sb,14,none⟩ (.bool wr)):=(ModS.of (HB1.out.trans (B5.mono HB1.out.size)) HSB.out).put 14 _
 have I7:=I5.same (w':=w5.setCell ⟨sb,14,none⟩ (.bool wr)) (λb hb _=>Below.heap_setCell _ _ _ _ (by have:=HSB.out;have:=HZ1.out;simp only;omega)) (by simp[World.setCell])
 clear C6 R6 A5 I5 B5
 generalize w5.setCell ⟨sb,14,none⟩ (.bool wr)=w7 at *
 have r0:=R7.1 0 _ rfl
 have r1:=R7.1 1 _ rfl
 have r2:=R7.1 2 _ rfl
 have r3:=R7.1 3 _ rfl
 have r4:=R7.1 4 _ rfl
 have r5:=R7.1 5 _ rfl
 have r6:=R7.1 6 _ rfl
 have f0:=R7.2.2 0
 have f1:=R7.2.2 1
 have f2:=R7.2.2 2
 have f3:=R7.2.2 3
 have f4:=R7.2.2 4
 have f5:=R7.2.2 5
 have f6:=R7.2.2 6
 have a0:=A7.1 0 _ rfl
 have a1:=A7.1 1 _ rfl
 have a2:=A7.1 2 _ rfl
 have a3:=A7.1 3 _ rfl
 have a4:=A7.1 4 _ rfl
 have a5:=A7.1 5 _ rfl
 have a6:=A7.1 6 _ rfl
 go_wp2_with fail
 clear r0 f0 a0 r1 f1 a1 r2 f2 a2 r3 f3 a3 r4 f4 a4 r5 f5 a5 r6 f6 a6
 have R3:Cells (((((((w7.setCell ⟨w.heap.size,0,none⟩ (.bool G.n)).setCell ⟨w.heap.size,1,none⟩ (.bool G.sp.n)).setCell ⟨w.heap.size,2,none⟩ (.int .i64 G.sp.lo)).setCell ⟨w.heap.size,3,none⟩ (.int .i64 G.sp.hi)).setCell ⟨w.heap.size,4,none⟩ (.bool G.t)).setCell ⟨w.heap.size,5,none⟩ (.bool G.f)).setCell ⟨w.heap.size,6,none⟩ (.slice js G.s.length jc)) w.heap.size [.bool G.n,.bool G.sp.n,.int .i64 G.sp.lo,.int .i64 G.sp.hi,.bool G.t,.bool G.f,.slice js G.s.length jc]:=((((((R7.put 0 (by simp) _).put 1 (by simp) _).put 2 (by simp) _).put 3 (by simp) _).put 4 (by simp) _).put 5 (by simp) _).put 6 (by simp) _
 have hch:∀q,q≠w.heap.size→(((((((w7.setCell ⟨w.heap.size,0,none⟩ (.bool G.n)).setCell ⟨w.heap.size,1,none⟩ (.bool G.sp.n)).setCell ⟨w.heap.size,2,none⟩ (.int .i64 G.sp.lo)).setCell ⟨w.heap.size,3,none⟩ (.int .i64 G.sp.hi)).setCell ⟨w.heap.size,4,none⟩ (.bool G.t)).setCell ⟨w.heap.size,5,none⟩ (.bool G.f)).setCell ⟨w.heap.size,6,none⟩ (.slice js G.s.length jc)).heap[q]? =w7.heap[q]? :=λq hq=>by rw[Below.heap_setCell _ _ _ _ hq,Below.heap_setCell _ _ _ _ hq,Below.heap_setCell _ _ _ _ hq,Below.heap_setCell _ _ _ _ hq,Below.heap_setCell _ _ _ _ hq,Below.heap_setCell _ _ _ _ hq,Below.heap_setCell _ _ _ _ hq]
 have hcz:w7.heap.size≤(((((((w7.setCell ⟨w.heap.size,0,none⟩ (.bool G.n)).setCell ⟨w.heap.size,1,none⟩ (.bool G.sp.n)).setCell ⟨w.heap.size,2,none⟩ (.int .i64 G.sp.lo)).setCell ⟨w.heap.size,3,none⟩ (.int .i64 G.sp.hi)).setCell ⟨w.heap.size,4,none⟩ (.bool G.t)).setCell ⟨w.heap.size,5,none⟩ (.bool G.f)).setCell ⟨w.heap.size,6,none⟩ (.slice js G.s.length jc)).heap.size:=by simp[World.setCell]
 have C3:=C7.same (hch sb (Ne.symm HNE.out)) hcz
 have M3:ModS sb w (((((((w7.setCell ⟨w.heap.size,0,none⟩ (.bool G.n)).setCell ⟨w.heap.size,1,none⟩ (.bool G.sp.n)).setCell ⟨w.heap.size,2,none⟩ (.int .i64 G.sp.lo)).setCell ⟨w.heap.size,3,none⟩ (.int .i64 G.sp.hi)).setCell ⟨w.heap.size,4,none⟩ (.bool G.t)).setCell ⟨w.heap.size,5,none⟩ (.bool G.f)).setCell ⟨w.heap.size,6,none⟩ (.slice js G.s.length jc)):=⟨(((((((M7.1.setCell (Nat.le_of_lt HSB.out) _).setCell (Nat.le_of_lt HSB.out) _).setCell (Nat.le_of_lt HSB.out) _).setCell (Nat.le_of_lt HSB.out) _).setCell (Nat.le_of_lt HSB.out) _).setCell (Nat.le_of_lt HSB.out) _).setCell (Nat.le_of_lt HSB.out) _),λb hb hne=>by rw[hch b (by omega)];exact M7.2 b hb hne⟩
 have I3:IntsIn (λb=>w.heap.size≤b) (((((((w7.setCell ⟨w.heap.size,0,none⟩ (.bool G.n)).setCell ⟨w.heap.size,1,none⟩ (.bool G.sp.n)).setCell ⟨w.heap.size,2,none⟩ (.int .i64 G.sp.lo)).setCell ⟨w.heap.size,3,none⟩ (.int .i64 G.sp.hi)).setCell ⟨w.heap.size,4,none⟩ (.bool G.t)).setCell ⟨w.heap.size,5,none⟩ (.bool G.f)).setCell ⟨w.heap.size,6,none⟩ (.slice js G.s.length jc)) js G.s:=(I7.same (λb hb _=>hch b (by have:=HZ1.out;omega)) hcz).mono λb hb _=>by have:=HZ1.out;omega
 clear hch hcz
 generalize eW:(((((((w7.setCell ⟨w.heap.size,0,none⟩ (.bool G.n)).setCell ⟨w.heap.size,1,none⟩ (.bool G.sp.n)).setCell ⟨w.heap.size,2,none⟩ (.int .i64 G.sp.lo)).setCell ⟨w.heap.size,3,none⟩ (.int .i64 G.sp.hi)).setCell ⟨w.heap.size,4,none⟩ (.bool G.t)).setCell ⟨w.heap.size,5,none⟩ (.bool G.f)).setCell ⟨w.heap.size,6,none⟩ (.slice js G.s.length jc))=w3 at *
 clear eW
 have d0:=R3.1 0 _ rfl
 have d1:=R3.1 1 _ rfl
 have d2:=R3.1 2 _ rfl
 have d3:=R3.1 3 _ rfl
 have d4:=R3.1 4 _ rfl
 have d5:=R3.1 5 _ rfl
 have d6:=R3.1 6 _ rfl
 (try go_wp2)
 refine bodyPost_ret (v:=.agg #[.bool G.n,.bool G.sp.n,.int .i64 G.sp.lo,.int .i64 G.sp.hi,.bool G.t,.bool G.f,.slice js G.s.length jc]) (by simp[results,Tryz.results98,go_sem,d0,d1,d2,d3,d4,d5,d6]) rfl ⟨⟨⟨_,_,rfl,I3,J1,J2⟩,C3⟩,M3⟩):p:=h
theorem Eo (sb:Nat)(i:Ins)(V F:Int)(s:Option Addr)(c:List Ins)(cap:Nat)(at_:Int)(x:Pic)(vs:Option Addr)(vc:Nat)(fs:Option Addr)(fc:Nat)(ev:Value)(fl:Bool)(w0 w:World)(hS:Cells w sb (aP i V F s c cap at_ x vs vc fs fc ev false fl))(hc0:CodeAt w0 s c)(hx0:PicAt w0 x vs fs)(hz0:w0.heap.size≤sb)(hB0:Below w0.heap.size w0 w)(K:SCtx V F c x vc fc i at_)(hk1:4≤i.k)(hk2:i.k≤10):
  Calls pG 98 #[Pp (sO ⟨sb,0,nO⟩)] w λe w'=>kJ w.heap.size sb w' e (aQ i at_ x).1 (aP i V F s c cap at_ x vs vc fs fc ev (aQ i at_ x).2 fl)∧ModS sb w w':=by
 have EGG:aQ i at_ x=cQ i.k (gAt x i.a) (gAt x i.b):=by unfold aQ;rw[if_neg (by omega),if_neg (by omega),if_neg (by omega),if_neg (by omega),if_neg (by omega),if_neg (by omega)]
 rw[EGG]
 clear EGG
 have hb1:Below w.heap.size w ((w.alloc (Cc #[Bb false,Bb false,I Y 0,I Y 0,Bb false,Bb false,U nO 0 0] 91)).alloc (Cc #[Bb true,I Y 0,I Y 0] 89)):=by go_grown
 have R1:Cells ((w.alloc (Cc #[Bb false,Bb false,I Y 0,I Y 0,Bb false,Bb false,U nO 0 0] 91)).alloc (Cc #[Bb true,I Y 0,I Y 0] 89)) w.heap.size [Bb false,Bb false,I Y 0,I Y 0,Bb false,Bb false,U nO 0 0]:=(Cells.new w 91 [Bb false,Bb false,I Y 0,I Y 0,Bb false,Bb false,U nO 0 0]).call (by go_grown)
 have N1:Cells ((w.alloc (Cc #[Bb false,Bb false,I Y 0,I Y 0,Bb false,Bb false,U nO 0 0] 91)).alloc (Cc #[Bb true,I Y 0,I Y 0] 89)) (w.heap.size+1) [Bb true,I Y 0,I Y 0]:=by
  have h:=Cells.new (w.alloc (Cc #[Bb false,Bb false,I Y 0,I Y 0,Bb false,Bb false,U nO 0 0] 91)) 89 [Bb true,I Y 0,I Y 0]
  rw[zA] at h
  exact h
 have s0:=hS.1 0 _ rfl
 have HSB:=aa hS.2.1
 have hsb:=hS.2.1
 have C1:=hS.call hb1
 have hne:w.heap.size≠sb:=by have:=hS.2.1;omega
 have HNE:=aa hne
 clear hne
 obtain⟨ka,eka,hka⟩:=K.varA (by unfold nA btw;simp;omega)
 obtain⟨kb,ekb,hkb⟩:=K.varB0
 have ega:gAt x i.a=x.vars[ka]:=by rw[eka,kL hka]
 have egb:gAt x i.b=x.vars[kb]:=by rw[ekb,kL hkb]
 rw[ega,egb]
 obtain⟨b1,o1,e1,ssa,gca,G1,I1,k1,m1⟩:=hx0.1 ka hka
 obtain⟨b2,o2,e2,ssb,gcb,G2,I2,k2,m2⟩:=hx0.1 kb hkb
 have e12:=e1.symm.trans e2
 cases e12
 have HD:Hid (∀wx,Below (((w.alloc (Cc #[Bb false,Bb false,I Y 0,I Y 0,Bb false,Bb false,U nO 0 0] 91)).alloc (Cc #[Bb true,I Y 0,I Y 0] 89))).heap.size ((w.alloc (Cc #[Bb false,Bb false,I Y 0,I Y 0,Bb false,Bb false,U nO 0 0] 91)).alloc (Cc #[Bb true,I Y 0,I Y 0] 89)) wx→Calls pG 164 #[pv V F s c cap,I Y i.k,gv x.vars[ka] ssa gca,gv x.vars[kb] ssb gcb] wx λe w'=>(∃js jc,e=Rt (Tu #[Ag #[Bb (cQ i.k x.vars[ka] x.vars[kb]).1.n,Bb (cQ i.k x.vars[ka] x.vars[kb]).1.sp.n,I Y (cQ i.k x.vars[ka] x.vars[kb]).1.sp.lo,I Y (cQ i.k x.vars[ka] x.vars[kb]).1.sp.hi,Bb (cQ i.k x.vars[ka] x.vars[kb]).1.t,Bb (cQ i.k x.vars[ka] x.vars[kb]).1.f,U js (cQ i.k x.vars[ka] x.vars[kb]).1.s.length jc],Bb (cQ i.k x.vars[ka] x.vars[kb]).2,I Y 0])∧IntsAt w' js (cQ i.k x.vars[ka] x.vars[kb]).1.s∧(cQ i.k x.vars[ka] x.vars[kb]).1.s.length≤jc∧jc≤maxLen∧∀a,js=sO a→wx.heap.size≤a.block)∧Below wx.heap.size wx w'):=λwx hb=>by
  have hbb:=(hB0.trans (hb1.mono hB0.size)).trans (hb.mono (hB0.trans (hb1.mono hB0.size)).size)
  have hcka:=K.kx.gv _ (gM hka)
  have hckb:=K.kx.gv _ (gM hkb)
  have hck:aX V F c [x.vars[ka],x.vars[kb]]=0:=K.duo hcka hckb
  have hde:doE (aX V F c [x.vars[ka],x.vars[kb]]) i.k=0:=by unfold doE;rw[if_pos hck,if_neg (by omega)]
  refine(doU V F s c cap x.vars[ka] ssa gca x.vars[kb] ssb gcb i.k wx (hc0.below hbb (lR _)) (I1.below hbb (lR _)) k1 m1 (I2.below hbb (lR _)) k2 m2).mono ?_
  rintro e w' ⟨J,js,jc,wr,h1,h2,h3,h4,h5,h6,h7,h8⟩
  rw[hde,if_pos rfl] at h2
  rw[hde] at h1
  rw[←h2]
  exact⟨⟨js,jc,h1,h3,h4,h5,h6⟩,h8⟩
 have HKZ:Hid (∀wx,Below (((w.alloc (Cc #[Bb false,Bb false,I Y 0,I Y 0,Bb false,Bb false,U nO 0 0] 91)).alloc (Cc #[Bb true,I Y 0,I Y 0] 89))).heap.size ((w.alloc (Cc #[Bb false,Bb false,I Y 0,I Y 0,Bb false,Bb false,U nO 0 0] 91)).alloc (Cc #[Bb true,I Y 0,I Y 0] 89)) wx→(wx.cell? ⟨sb,6,nO⟩=sO (I Y V)∧wx.cell? ⟨sb,7,nO⟩=sO (I Y F)∧wx.cell? ⟨sb,8,nO⟩=sO (U s c.length cap))∧wx.cell? ⟨sb,0,nO⟩=sO (I Y i.k)∧(wx.cell? ⟨sb,2,nO⟩=sO (I Y (ka:Int))∧wx.cell? ⟨sb,3,nO⟩=sO (I Y (kb:Int))∧wx.cell? ⟨sb,11,nO⟩=sO (U (sO ⟨b1,o1,nO⟩) x.vars.length vc))∧(wx.cell? ⟨b1,o1+ka * 7,nO⟩=sO (Bb x.vars[ka].n)∧wx.cell? ⟨b1,o1+ka * 7+1,nO⟩=sO (Bb x.vars[ka].sp.n)∧wx.cell? ⟨b1,o1+ka * 7+2,nO⟩=sO (I Y x.vars[ka].sp.lo)∧wx.cell? ⟨b1,o1+ka * 7+3,nO⟩=sO (I Y x.vars[ka].sp.hi)∧wx.cell? ⟨b1,o1+ka * 7+4,nO⟩=sO (Bb x.vars[ka].t)∧wx.cell? ⟨b1,o1+ka * 7+5,nO⟩=sO (Bb x.vars[ka].f)∧wx.cell? ⟨b1,o1+ka * 7+6,nO⟩=sO (U ssa x.vars[ka].s.length gca))∧(wx.cell? ⟨b1,o1+kb * 7,nO⟩=sO (Bb x.vars[kb].n)∧wx.cell? ⟨b1,o1+kb * 7+1,nO⟩=sO (Bb x.vars[kb].sp.n)∧wx.cell? ⟨b1,o1+kb * 7+2,nO⟩=sO (I Y x.vars[kb].sp.lo)∧wx.cell? ⟨b1,o1+kb * 7+3,nO⟩=sO (I Y x.vars[kb].sp.hi)∧wx.cell? ⟨b1,o1+kb * 7+4,nO⟩=sO (Bb x.vars[kb].t)∧wx.cell? ⟨b1,o1+kb * 7+5,nO⟩=sO (Bb x.vars[kb].f)∧wx.cell? ⟨b1,o1+kb * 7+6,nO⟩=sO (U ssb x.vars[kb].s.length gcb))):=λwx hb=>by
  have hbb:=(hB0.trans (hb1.mono hB0.size)).trans (hb.mono (hB0.trans (hb1.mono hB0.size)).size)
  have h:=C1.call hb
  refine⟨⟨h.1 6 _ rfl,h.1 7 _ rfl,h.1 8 _ rfl⟩,h.1 0 _ rfl,⟨by rw[←eka];exact h.1 2 _ rfl,by rw[←ekb];exact h.1 3 _ rfl,?_⟩,(G1.below hbb (lR _)).1,(G2.below hbb (lR _)).1⟩
  have:=h.1 11 _ rfl
  rw[e1] at this
  exact this
 have HCC:Hid (∀wx,Below (((w.alloc (Cc #[Bb false,Bb false,I Y 0,I Y 0,Bb false,Bb false,U nO 0 0] 91)).alloc (Cc #[Bb true,I Y 0,I Y 0] 89))).heap.size ((w.alloc (Cc #[Bb false,Bb false,I Y 0,I Y 0,Bb false,Bb false,U nO 0 0] 91)).alloc (Cc #[Bb true,I Y 0,I Y 0] 89)) wx→Cells wx sb (aP i V F s c cap at_ x vs vc fs fc ev false fl)):=λwx hb=>C1.call hb
 have HRR:Hid (∀wx,Below (((w.alloc (Cc #[Bb false,Bb false,I Y 0,I Y 0,Bb false,Bb false,U nO 0 0] 91)).alloc (Cc #[Bb true,I Y 0,I Y 0] 89))).heap.size ((w.alloc (Cc #[Bb false,Bb false,I Y 0,I Y 0,Bb false,Bb false,U nO 0 0] 91)).alloc (Cc #[Bb true,I Y 0,I Y 0] 89)) wx→Cells wx w.heap.size [Bb false,Bb false,I Y 0,I Y 0,Bb false,Bb false,U nO 0 0]):=λwx hb=>R1.call hb
 have HZ1:Hid (w.heap.size < (((w.alloc (Cc #[Bb false,Bb false,I Y 0,I Y 0,Bb false,Bb false,U nO 0 0] 91)).alloc (Cc #[Bb true,I Y 0,I Y 0] 89))).heap.size):=R1.2.1
 have HB1:=aa hb1
 have q1:(i.k==1)=false:=by simp;omega
 have q2:(i.k==2)=false:=by simp;omega
 have q3:(i.k==3)=false:=by simp;omega
 have q12:(i.k==12)=false:=by simp;omega
 have q14:(i.k==14)=false:=by simp;omega
 have n0:(0:Int)≤(ka:Int):=by omega
 have n1:(ka:Int) < (x.vars.length:Int):=by omega
 have n2:(0:Int)≤(kb:Int):=by omega
 have n3:(kb:Int) < (x.vars.length:Int):=by omega
 clear hS hc0 hx0 hB0 K hz0 ega egb G1 G2 I1 I2 eka ekb e1 e2
 obtain⟨⟨G,wr⟩,hG⟩:∃q,q=cQ i.k x.vars[ka] x.vars[kb]:=⟨_,rfl⟩
 rw[←hG] at HD ⊢
 clear hG
 go_enter Tryz.func98,Tryz.ntmps98
 go_upto_region 13 with fail
 clear s0 q1 q2 q3 q12 q14
 generalize ((w.alloc (Cc #[Bb false,Bb false,I Y 0,I Y 0,Bb false,Bb false,U nO 0 0] 91)).alloc (Cc #[Bb true,I Y 0,I Y 0] 89))=w1 at *
 have B1:Below w1.heap.size w1 w1.drew:=(bR _ _).drew
 clear hb1 hsb R1 N1 C1
 refine wp_region_held_drew (S:=(λwx=>(wx.cell? ⟨sb,6,nO⟩=sO (I Y V)∧wx.cell? ⟨sb,7,nO⟩=sO (I Y F)∧wx.cell? ⟨sb,8,nO⟩=sO (U s c.length cap))∧wx.cell? ⟨sb,0,nO⟩=sO (I Y i.k)∧(wx.cell? ⟨sb,2,nO⟩=sO (I Y (ka:Int))∧wx.cell? ⟨sb,3,nO⟩=sO (I Y (kb:Int))∧wx.cell? ⟨sb,11,nO⟩=sO (U (sO ⟨b1,o1,nO⟩) x.vars.length vc))∧(wx.cell? ⟨b1,o1+ka * 7,nO⟩=sO (Bb x.vars[ka].n)∧wx.cell? ⟨b1,o1+ka * 7+1,nO⟩=sO (Bb x.vars[ka].sp.n)∧wx.cell? ⟨b1,o1+ka * 7+2,nO⟩=sO (I Y x.vars[ka].sp.lo)∧wx.cell? ⟨b1,o1+ka * 7+3,nO⟩=sO (I Y x.vars[ka].sp.hi)∧wx.cell? ⟨b1,o1+ka * 7+4,nO⟩=sO (Bb x.vars[ka].t)∧wx.cell? ⟨b1,o1+ka * 7+5,nO⟩=sO (Bb x.vars[ka].f)∧wx.cell? ⟨b1,o1+ka * 7+6,nO⟩=sO (U ssa x.vars[ka].s.length gca))∧(wx.cell? ⟨b1,o1+kb * 7,nO⟩=sO (Bb x.vars[kb].n)∧wx.cell? ⟨b1,o1+kb * 7+1,nO⟩=sO (Bb x.vars[kb].sp.n)∧wx.cell? ⟨b1,o1+kb * 7+2,nO⟩=sO (I Y x.vars[kb].sp.lo)∧wx.cell? ⟨b1,o1+kb * 7+3,nO⟩=sO (I Y x.vars[kb].sp.hi)∧wx.cell? ⟨b1,o1+kb * 7+4,nO⟩=sO (Bb x.vars[kb].t)∧wx.cell? ⟨b1,o1+kb * 7+5,nO⟩=sO (Bb x.vars[kb].f)∧wx.cell? ⟨b1,o1+kb * 7+6,nO⟩=sO (U ssb x.vars[kb].s.length gcb)))) (by kernel_rfl) (HKZ.out _ B1) (λhHeld=> ?_)
 generalize w1.drew=w2 at *
 have B2:=B1
 clear B1
 refine vH 0 ?_ ?_
 refine vH 1 ?_ ?_
 refine vH 2 ?_ ?_
 refine vH 3 ?_ ?_
 refine vH 4 ?_ ?_
 refine vH 5 ?_ ?_
 refine vH 6 ?_ ?_
 refine vH 7 ?_ ?_
 refine vH 8 ?_ ?_
 refine vH 9 ?_ ?_
 refine vH 10 ?_ ?_
 refine vH 11 ?_ ?_
 refine vH 12 ?_ ?_
 refine vH 13 ?_ ?_
 refine vH 14 ?_ ?_
 refine vH 15 ?_ ?_
 refine vH 16 ?_ ?_
 refine vH 17 ?_ ?_
 refine vH 18 ?_ ?_
 refine vH 19 ?_ ?_
 refine vH 20 ?_ ?_
 refine vH 21 ?_ ?_
 refine vH 22 ?_ ?_
 refine vH 23 ?_ ?_
 refine vH 24 ?_ ?_
 refine vH 25 ?_ ?_
 refine vH 26 ?_ ?_
 refine vH 27 ?_ ?_
 refine vH 28 ?_ ?_
 refine vH 29 ?_ ?_
 refine vH 30 ?_ ?_
 refine vH 31 ?_ ?_
 refine vH 32 ?_ ?_
 refine wpAnyH_ready (rs:=[33,38]) (by kernel_rfl) (by simp) ?_
 refine AllReadyH.cons rfl (λK hK=> ?_) (AllReadyH.cons rfl (λK hK=> ?_) AllReadyH.nil)
 ·go_simp
  refine(HD.out w2 B2).mono ?_
  rintro e w3 ⟨⟨js,jc,rfl,JI,J1,J2,JF⟩,hb3⟩
  have B3:=B2.trans (hb3.mono (B2.size))
  have I3:IntsIn (λb=>w1.heap.size≤b) w3 js G.s:=by
   rcases JI with h|⟨b,off,e,hb,hc⟩
   ·exact .inl h
   ·have hz:=JF _ e
    simp only at hz
    exact .inr ⟨b,off,e,by have:=B2.size;omega,hb,hc⟩
  clear JI JF
  refine hK.out _ _ (HKZ.out _ B3) (λhHeld3=> ?_)
  clear hK K hb3 B2
  refine sm ?_
  refine vH 34 ?_ ?_
  refine vH 35 ?_ ?_
  refine vH 36 ?_ ?_
  refine vH 37 ?_ ?_
  refine wpAnyH_ready (rs:=[38]) (by kernel_rfl) (by simp) ?_
  refine AllReadyH.cons rfl (λK hK=> ?_) AllReadyH.nil
  go_simp
  have hb4:Below w3.heap.size w3 (w3.alloc (Cc #[Bb false,Bb false,I Y 0,I Y 0,Bb false,Bb false,U nO 0 0] 91)):=by go_grown
  have B4:=B3.trans (hb4.mono (B3.size))
  have A4:Cells (w3.alloc (Cc #[Bb false,Bb false,I Y 0,I Y 0,Bb false,Bb false,U nO 0 0] 91)) w3.heap.size [Bb false,Bb false,I Y 0,I Y 0,Bb false,Bb false,U nO 0 0]:=Cells.new w3 91 [Bb false,Bb false,I Y 0,I Y 0,Bb false,Bb false,U nO 0 0]
  have zab:w1.heap.size≤w3.heap.size:=B3.size
  have I4:IntsIn (λb=>w1.heap.size≤b∧b≠w3.heap.size) (w3.alloc (Cc #[Bb false,Bb false,I Y 0,I Y 0,Bb false,Bb false,U nO 0 0] 91)) js G.s:=(I3.mono λb hb hlt=>⟨hb,Nat.ne_of_lt hlt⟩).call hb4
  clear I3
  clear B3
  refine hK.out _ _ (HKZ.out _ B4) (λhHeld4=> ?_)
  clear hK K hb4
  refine sm ?_
  generalize w3.alloc (Cc #[Bb false,Bb false,I Y 0,I Y 0,Bb false,Bb false,U nO 0 0] 91)=w4 at *
  generalize w3.heap.size=ab at *
  exact rR
 ·go_simp
  have hb3:Below w2.heap.size w2 (w2.alloc (Cc #[Bb false,Bb false,I Y 0,I Y 0,Bb false,Bb false,U nO 0 0] 91)):=by go_grown
  have B3:=B2.trans (hb3.mono (B2.size))
  have A3:Cells (w2.alloc (Cc #[Bb false,Bb false,I Y 0,I Y 0,Bb false,Bb false,U nO 0 0] 91)) w2.heap.size [Bb false,Bb false,I Y 0,I Y 0,Bb false,Bb false,U nO 0 0]:=Cells.new w2 91 [Bb false,Bb false,I Y 0,I Y 0,Bb false,Bb false,U nO 0 0]
  have zab:w1.heap.size≤w2.heap.size:=B2.size
  clear B2
  refine hK.out _ _ (HKZ.out _ B3) (λhHeld3=> ?_)
  clear hK K hb3
  refine sm ?_
  generalize w2.alloc (Cc #[Bb false,Bb false,I Y 0,I Y 0,Bb false,Bb false,U nO 0 0] 91)=w3 at *
  generalize w2.heap.size=ab at *
  refine wpAnyH_ready (rs:=[33]) (by kernel_rfl) (by simp) ?_
  refine AllReadyH.cons rfl (λK hK=> ?_) AllReadyH.nil
  go_simp
  refine(HD.out w3 B3).mono ?_
  rintro e w4 ⟨⟨js,jc,rfl,JI,J1,J2,JF⟩,hb4⟩
  have A4:=A3.call hb4
  have B4:=B3.trans (hb4.mono (B3.size))
  have I4:IntsIn (λb=>w1.heap.size≤b∧b≠ab) w4 js G.s:=by
   rcases JI with h|⟨b,off,e,hb,hc⟩
   ·exact .inl h
   ·have hz:=JF _ e
    simp only at hz
    exact .inr ⟨b,off,e,⟨by have:=B3.size;omega,by have:=A3.2.1;omega⟩,hb,hc⟩
  clear JI JF
  refine hK.out _ _ (HKZ.out _ B4) (λhHeld4=> ?_)
  clear hK K hb4 A3 B3
  refine sm ?_
  refine vH 34 ?_ ?_
  refine vH 35 ?_ ?_
  refine vH 36 ?_ ?_
  refine vH 37 ?_ ?_
  exact rR
end
end Go.Proofs.YtmapdpcfanecdabGreatDoor
