/- For every program and list of pictures that the law SolveSolves is handed, it returns true and leaves them as they were: Solve and Fits of package solve answer just what the document's own words ask, errors too. No condition. -/
import Derived.Test.YtmapdpcfanecdabGreatS54
import Derived.Test.YtmapdpcfanecdabGreatS51
import Derived.Test.YtmapdpcfanecdabGreatS52
import Derived.Test.YtmapdpcfanecdabGreatRows
import Derived.Test.YtmapdpcfanecdabGreatS53
import Derived.OpenShut
import Derived.Carry
import Derived.Deep.DeepHandedRow
import Derived.Deep.DeepWitnessRowRef
open Go.Ending renaming returned→Rt
open Go.IntKind renaming i64→Y
open Go.Obj renaming cells→Cc
open Go.Proofs.Tryz renaming prog→pG
open Go.RowKit.Below renaming refl→bR
open Go.Value renaming agg→Ag,bool→Bb,int→I,slice→U,tuple→Tu
open Go.World renaming block_lt_of_cell?→j3,settled→j2
open Int renaming eq_ofNat_of_zero_le→j0
open List renaming getElem_mem→gM
open Nat renaming le_refl→lR,le_trans→lT,zero_le→j1
open Option renaming none→nO,some→sO
set_option linter.unusedSimpArgs false
set_option linter.unusedVariables false
set_option maxHeartbeats 80000000
set_option maxRecDepth 100000
namespace Go.Proofs.YtmapdpcfanecdabGreat
section
open Go.RowKit
attribute [local go_sem ↓] Go.wp_at_zero Go.wp_at_succ
theorem wO {S:Nat->Prop}(V F:Int)(s:oA)(c:List Ins)(cap:Nat)(at_:Int)(i:Ins)(x:Pic)(vs:oA)(vc:Nat)(fs:oA)(fc:Nat)(w:World)(hn:x.none=true):
  Calls pG 7 #[pv V F s c cap,I Y at_,xv x vs vc fs fc] w λe w'=>bE S w' e (ah i at_ x)/\Below w.heap.size w w':=by
 have e:ah i at_ x=([],false,false):=by unfold ah;rw[if_pos hn]
 have exv:xv x vs vc fs fc=Ag #[Bb true,U vs x.vars.length vc,U fs x.flds.length fc]:=by unfold xv;rw[hn]
 rw[e,exv];clear e exv hn;go_enter Tryz.func7,Tryz.ntmps7;go_wp2;refine bodyPost_ret (v:=Tu #[U nO 0 0,Bb false,Bb false]) (by simp[results,Tryz.results7,go_sem]) rfl ⟨⟨nO,0,rfl,EdsOn.nil⟩,by go_grown⟩
theorem CI {T:Nat->Prop}{V F:Int}{s:oA}{c:List Ins}{cap m:Nat}{i:Ins}{x:Pic}{vs:oA}{vc:Nat}{fs:oA}{fc:Nat}{w:World}(hc:CodeAt w s c)(hx:PicOn T w x vs fs)(K:SCtx V F c x vc fc i (m:Int)):
  Calls pG 7 #[pv V F s c cap,I Y (m:Int),xv x vs vc fs fc] w λe w'=>bE (λb=>T b\/w.heap.size<=b) w' e (ah i (m:Int) x)/\Below w.heap.size w w':=by
 have hk:=(bN K.one).1;unfold btw at hk;simp only[Bool.and_eq_true,decide_eq_true_eq] at hk;by_cases h1:i.k=1
 ·exact dU hc hx K (by rw[h1];rfl) (by rw[h1];rfl) (λ_ _ _ _ _ _ _ _ _ SP=>Cs hx K h1 SP)
 by_cases h2:i.k=2
 ·exact dU hc hx K (by rw[h2];rfl) (by rw[h2];rfl) (λ_ _ _ _ _ _ _ _ _ SP=>Cu hx K h2 SP)
 by_cases h3:i.k=3
 ·exact dU hc hx K (by rw[h3];rfl) (by rw[h3];rfl) (λ_ _ _ _ _ _ _ _ _ SP=>CN hx K h3 SP)
 by_cases h11:i.k=11
 ·exact dU hc hx K (by rw[h11];rfl) (by rw[h11];rfl) (λ_ _ _ _ _ _ _ _ _ SP=>Bu hx K h11 SP)
 by_cases h12:i.k=12
 ·exact fE hc hx K (by rw[h12];rfl) (by rw[h12];rfl) (λ_ _ _ _ _ _ _ _ _ _ _ _ ha ea SP=>AU hx K h12 ha ea SP)
 by_cases h13:i.k=13
 ·exact oI hc hx K (by rw[h13];rfl) (by rw[h13];rfl) (λ_ _ _ _ _ _ _ _ _ _ _ _ ha ea _ _ _ hb eb SP=>Cb hx K h13 ha ea hb eb SP)
 by_cases h14:i.k=14
 ·exact dU hc hx K (by rw[h14];rfl) (by rw[h14];rfl) (λ_ _ _ _ _ _ _ _ _ SP=>AI hx K h14 SP)
 by_cases h15:i.k=15
 ·exact fE hc hx K (by rw[h15];rfl) (by rw[h15];rfl) (λ_ _ _ _ _ _ _ _ _ _ _ _ ha ea SP=>Ba hx K h15 ha ea SP)
 by_cases h16:i.k=16
 ·exact dU hc hx K (by rw[h16];rfl) (by rw[h16];rfl) (λ_ _ _ _ _ _ _ _ _ SP=>Br hx K h16 SP)
 by_cases h17:i.k=17
 ·exact fE hc hx K (by rw[h17];rfl) (by rw[h17];rfl) (λ_ _ _ _ _ _ _ _ _ _ _ _ ha ea SP=>BE hx K h17 ha ea SP)
 by_cases h18:i.k=18
 ·exact fE hc hx K (by rw[h18];rfl) (by rw[h18];rfl) (λ_ _ _ _ _ _ _ _ _ _ _ _ ha ea SP=>Bj hx K h18 ha ea SP)
 by_cases h19:i.k=19
 ·exact dU hc hx K (by rw[h19];rfl) (by rw[h19];rfl) (λ_ _ _ _ _ _ _ _ _ SP=>Cd hx K h19 SP)
 have hr:4<=i.k/\i.k<=10:=by omega
 have hA:nA i.k=true:=by unfold nA btw;simp;omega
 rcases Bool.eq_false_or_eq_true (nB i.k) with hB|hB
 ·exact oI hc hx K hA hB (λ_ _ _ _ _ _ _ _ _ _ _ _ ha ea _ _ _ hb eb SP=>yB hx K hr ha ea hb eb SP)
 ·exact fE hc hx K hA hB (λ_ _ _ _ _ _ _ _ _ _ _ _ ha ea SP=>Au hx K hr hB ha ea SP)
theorem yV (T:Nat->Prop)(V F:Int)(s:oA)(c:List Ins)(cap:Nat)(at_:Int)(x:Pic)(vs:oA)(vc:Nat)(fs:oA)(fc:Nat)(w:World)(hc:CodeAt w s c)(hx:PicOn T w x vs fs)(h0:ag V F c=0)(hck:an V F c x=0)(a0:0<=at_)(a1:at_ < c.length)(h1:x.vars.length<=vc/\vc<=maxLen)(h2:x.flds.length<=fc/\fc<=maxLen):
  Calls pG 7 #[pv V F s c cap,I Y at_,xv x vs vc fs fc] w λe w'=>bE (λb=>T b\/w.heap.size<=b) w' e (ah (bM c at_) at_ x)/\Below w.heap.size w w':=by
 rcases Bool.eq_false_or_eq_true x.none with hn|hn
 ·exact wO V F s c cap at_ (bM c at_) x vs vc fs fc w hn
 ·obtain⟨m,rfl⟩:=j0 a0
  exact CI hc hx ⟨h0,bQ hck hn,rfl,a0,a1,h1,h2⟩
theorem sL:s8:=by
 intro V F s c cap w h0;obtain⟨⟨hV1,hV8⟩,⟨hF0,hF3⟩,h60⟩:=bq h0;obtain⟨v,rfl⟩:=j0 (show 0<=V by omega);obtain⟨f,rfl⟩:=j0 hF0;refine(uA v f s c cap w (by omega) (by omega) h60).mono ?_;rintro e w' ⟨⟨vs,vc,fs,fc,h1,h2,h3⟩,hb⟩;exact⟨⟨vs,vc,fs,fc,h1,h2.at,h3⟩,hb⟩
theorem uZ:uP:=λT V F s c cap at_ x vs vc fs fc w hc hx h0 hck a0 a1 h1 h2=>yV T V F s c cap at_ x vs vc fs fc w hc hx h0 hck a0 a1 h1 h2
theorem Dm:uX:=λS V F c wide x y vs1 vc1 fs1 fc1 vs2 vc2 fs2 fc2 w hx hy p1 p2 q1 q2 h0 h1 h2=>by
 cases wide with
 |false=>
  have h:=it false _ (mY h0) x y vs1 vc1 fs1 fc1 vs2 vc2 fs2 fc2 w S hx hy p1 p2 q1 q2 h0 h1 h2;rw[(fX h0 h1 h2).1] at h;exact h
 |true=>
  have h:=it true _ (AS h0) x y vs1 vc1 fs1 fc1 vs2 vc2 fs2 fc2 w S hx hy p1 p2 q1 q2 h0 h1 h2;rw[(fX h0 h1 h2).2] at h;exact h
theorem uh (V F:Int)(s:oA)(c:List Ins)(cap:Nat)(w:World)(hc:CodeAt w s c)(h0:ag V F c=0):
  Calls pG 13 #[pv V F s c cap] w λe w'=>tj V F c e w'/\Below w.heap.size w w':=vV sL uZ Dm V F s c cap w hc h0
theorem Dc {V F:Int}{c:List Ins}{L:List Pic}{k:Nat}(hk:k < c.length){e:Edg}(he:e∈bG c k (aI L k))(h:aH e.pic (aI L e.tgt)=false):dP V F c L=false:=by
 cases hf:dP V F c L with
 |false=>rfl
 |true=>have:=(fitsX_iff.1 hf).2 k hk e he;rw[h] at this;cases this
theorem vN (V F:Int)(s:oA)(c:List Ins)(cap:Nat)(ls:oA)(L:List Pic)(lc:Nat)(w:World)(hc:CodeAt w s c)(hX:XsAt w ls L)(hxs:XsOk V F c L)(h0:ag V F c=0):
  Calls pG 14 #[pv V F s c cap,U ls L.length lc] w λe w'=>e=Rt (Bb (dP V F c L))/\Below w.heap.size w w':=by
 obtain⟨⟨hV1,hV8⟩,⟨hF0,hF3⟩,h60⟩:=bq h0;have hL1:=hxs.len;have P0:=PrAt.new w V F s c cap;have B0:Below w.heap.size w (w.alloc (Cc #[I Y V,I Y F,U s c.length cap] 24)):=by go_grown
 have z0:w.heap.size < (w.alloc (Cc #[I Y V,I Y F,U s c.length cap] 24)).heap.size:=by simp
 have hk0:0 < L.length:=by omega
 obtain⟨lb,lo,els,zl,vs0,vc0,fs0,fc0,⟨c0,c1,c2⟩,hPx,hvx,hfx⟩:=hX.below B0 (lR _) 0 hk0;simp only[Nat.zero_mul,Nat.add_zero] at c0 c1 c2;obtain⟨x0,ex⟩:∃x,x=L[0]:=⟨_,rfl⟩;have hckx:an V F c x0=0:=by rw[ex];exact hxs.ck _ (gM hk0)
 have exa:aI L 0=x0:=by rw[ex];exact dm (k:=0) hk0
 rw[<-ex] at c0 c1 c2 hPx hvx hfx;clear ex;have HC:=aa hc;have HZ:=aa h0;have HX:=aa hX;have HXS:=aa hxs;have HLL:=aa hL1;have HFO:=aa (λwx=>sL V F s c cap wx h0);have HPI:Hid (∀wx vs vc fs fc,Below (w.alloc (Cc #[I Y V,I Y F,U s c.length cap] 24)).heap.size (w.alloc (Cc #[I Y V,I Y F,U s c.length cap] 24)) wx->PicAt wx (aQ V F c) vs fs->Calls pG 42 #[xv (aQ V F c) vs vc fs fc,xv x0 vs0 vc0 fs0 fc0] wx λe w'=>e=Rt (Bb (aH (aQ V F c) x0))/\Below wx.heap.size wx w'):=λwx vs vc fs fc hb hp=>kM (aQ V F c) x0 vs vc fs fc vs0 vc0 fs0 fc0 wx hp (hPx.call hb) h0 (iH h0).ck hckx;have HKZ:Hid (∀wx,Below (w.alloc (Cc #[I Y V,I Y F,U s c.length cap] 24)).heap.size (w.alloc (Cc #[I Y V,I Y F,U s c.length cap] 24)) wx->(wx.cell? ⟨w.heap.size,0,nO⟩=sO (I Y V)/\wx.cell? ⟨w.heap.size,1,nO⟩=sO (I Y F)/\wx.cell? ⟨w.heap.size,2,nO⟩=sO (U s c.length cap))/\(wx.cell? ⟨lb,lo,nO⟩=sO (Bb x0.none)/\wx.cell? ⟨lb,lo+1,nO⟩=sO (U vs0 x0.vars.length vc0)/\wx.cell? ⟨lb,lo+2,nO⟩=sO (U fs0 x0.flds.length fc0))):=λwx hb=>by
  have q:=λj=>hb.cell (p:=⟨lb,j,nO⟩) (by simp only;exact zl);exact⟨(P0.call hb).1,(q _).trans c0,(q _).trans c1,(q _).trans c2⟩
 have HNO:Hid (aH (aQ V F c) x0=false->dP V F c L=false):=λh=>by
  cases hf:dP V F c L with
  |false=>rfl
  |true=>have:=(fitsX_iff.1 hf).1;rw[exa,h] at this;cases this
 have HYES:Hid (aH (aQ V F c) x0=true->(∀i,i < c.length->dd c L i)->dP V F c L=true):=λh k=>fitsX_iff.2 ⟨by rw[exa];exact h,k⟩;obtain⟨fp,efp⟩:∃f,f=aQ V F c:=⟨_,rfl⟩;rw[<-efp] at HFO HPI HNO HYES;have i0:(0:Int) < (L.length:Int):=by omega
 clear efp hc h0 hX hxs hPx hvx hfx c0 c1 c2 hckx exa hL1;subst els;go_enter Tryz.func14,Tryz.ntmps14
 go_upto_region 1 with fail
 generalize w.alloc (Cc #[I Y V,I Y F,U s c.length cap] 24)=w0 at *;have B34:Below w0.heap.size w0 w0.drew:=(bR _ _).drew;refine am (S:=(λwx=>(wx.cell? ⟨w.heap.size,0,nO⟩=sO (I Y V)/\wx.cell? ⟨w.heap.size,1,nO⟩=sO (I Y F)/\wx.cell? ⟨w.heap.size,2,nO⟩=sO (U s c.length cap))/\(wx.cell? ⟨lb,lo,nO⟩=sO (Bb x0.none)/\wx.cell? ⟨lb,lo+1,nO⟩=sO (U vs0 x0.vars.length vc0)/\wx.cell? ⟨lb,lo+2,nO⟩=sO (U fs0 x0.flds.length fc0)))) [] (by kernel_rfl) (HKZ.out _ B34) (λhHeld=> ?_);generalize w0.drew=w4 at *;refine vZ 0 ?_ ?_;refine vZ 2 ?_ ?_;refine vZ 3 ?_ ?_;refine vZ 4 ?_ ?_;refine ai (i:=1) rfl (by kernel_rfl) (λK hK=> ?_);go_simp;go_at_call 40;refine(HFO.out w4).mono ?_;rintro e w5 ⟨⟨vs,vc,fs,fc,rfl,hPF,-⟩,hb5⟩;have HPF:=aa hPF;have B5:=B34.trans (hb5.mono B34.size);clear hPF hb5;go_wp2_with fail;refine hK.out _ _ (HKZ.out _ B5) (λhHeld=> ?_);clear hK K;refine sm ?_;refine ai (i:=5) rfl (by kernel_rfl) (λK hK=> ?_);go_simp;go_at_call 42;refine(HPI.out w5 vs vc fs fc B5 HPF.out).mono ?_;rintro e w6 ⟨rfl,hb6⟩;have B6:=B5.trans (hb6.mono B5.size);go_wp2_with fail;refine hK.out _ _ (HKZ.out _ B6) (λhHeld=> ?_);clear hK K;refine sm ?_;refine vZ 6 ?_ ?_;refine aj (by kernel_rfl) ?_ _;have B7:=B0.trans (B6.mono B0.size);have HP7:=aa (λwx (hb:Below w.heap.size w wx)=>hb);have P7:=P0.call B6;clear hHeld HKZ HFO HPI B34 B5 B6 hb6 HPF P0 B0 HP7 z0;cases hin:aH fp x0 with
 |false=>
  have HF:=aa (HNO.out hin);clear hin P7;go_wp2;go_ret;exact⟨by rw[HF.out];rfl,B7⟩
 |true=>
  have HT:=aa (HYES.out hin);clear hin HNO HYES;go_wp2;go_loopw [5] (λi wr=>∃k:Nat,k<=c.length/\i=I Y k/\Below w.heap.size w wr/\PrAt wr w.heap.size V F s c cap/\Hid (∀i,i < k->dd c L i)) (λi _=>c.length - (intOf i).toNat)
  case atStart=>exact⟨0,j1 _,rfl,B7,P7,λi h=>absurd h (by omega)⟩
  case round=>
   clear B7 P7;obtain⟨k,hk1,rfl,BR,PR,HS⟩:=hrel;obtain⟨⟨p0,p1,p2⟩,pz⟩:=id PR;by_cases hlt:k < c.length;rotate_left
   ·have n1:¬(k:Int) < (c.length:Int):=by omega
    have HF:Hid (dP V F c L=true):=HT.out λi hi=>HS.out i (by omega);clear HT HS PR;go_wp2;go_ret;exact⟨by rw[HF.out];rfl,BR⟩
   have hkL:k < L.length:=by have:=HLL.out;omega
   obtain⟨_,_,els,_,vs3,vc3,fs3,fc3,⟨q0,q1,q2⟩,hPx,hvx,hfx⟩:=HX.out.below BR (lR _) k hkL;cases els;have zl:lb < wr.heap.size:=j3 wr _ q0;obtain⟨x3,ex⟩:∃x,x=L[k]:=⟨_,rfl⟩;have hckx:an V F c x3=0:=by rw[ex];exact HXS.out.ck _ (gM hkL)
   have exa:aI L (k:Int)=x3:=by rw[ex];exact dm hkL
   rw[<-ex] at q0 q1 q2 hPx hvx hfx;have hEd:=e8 HZ.out hckx hlt;have hEl:=iz (bM c (k:Int)) (k:Int) x3;obtain⟨⟨E,f1,f2⟩,er⟩:∃r,r=ah (bM c (k:Int)) (k:Int) x3:=⟨_,rfl⟩;have HEE:Hid (bG c k (aI L k)=E):=by show _=_;rw[exa];unfold bG;rw[<-er]
   have HE:Hid ((∀e∈E,en V F c e)/\E.length<=10):=by
    unfold bG at hEd;rw[<-er] at hEd hEl;exact⟨hEd,lT hEl (by decide)⟩
   have HST:Hid (∀wx,Below wr.heap.size wr wx->Calls pG 7 #[pv V F s c cap,I Y (k:Int),xv x3 vs3 vc3 fs3 fc3] wx λe w'=>(∃es ec,e=Rt (Tu #[U es E.length ec,Bb f1,Bb f2])/\EdsOn (λ_=>True) w' es E)/\Below wx.heap.size wx w'):=λwx hb=>by
    have h:=uZ (λ_=>True) V F s c cap (k:Int) x3 vs3 vc3 fs3 fc3 wx (HC.out.below (BR.trans (hb.mono BR.size)) (lR _)) (λw2 h2 hz=>(hPx.call hb).same (λb hb=>h2 b trivial hb) hz) HZ.out hckx (by omega) (by omega) hvx hfx;rw[<-er] at h;refine h.mono ?_;rintro e w' ⟨⟨es,ec,rfl,hE⟩,hb'⟩;exact⟨⟨es,ec,rfl,hE.mono λ_ _ _=>trivial⟩,hb'⟩
   have HKZ:Hid (∀wx,Below wr.heap.size wr wx->(wx.cell? ⟨w.heap.size,0,nO⟩=sO (I Y V)/\wx.cell? ⟨w.heap.size,1,nO⟩=sO (I Y F)/\wx.cell? ⟨w.heap.size,2,nO⟩=sO (U s c.length cap))/\(wx.cell? ⟨lb,lo+k * 3,nO⟩=sO (Bb x3.none)/\wx.cell? ⟨lb,lo+k * 3+1,nO⟩=sO (U vs3 x3.vars.length vc3)/\wx.cell? ⟨lb,lo+k * 3+2,nO⟩=sO (U fs3 x3.flds.length fc3))):=λwx hb=>by
    have q:=λj=>hb.cell (p:=⟨lb,j,nO⟩) (by simp only;exact zl);exact⟨(PR.call hb).1,(q _).trans q0,(q _).trans q1,(q _).trans q2⟩
   have B34:Below wr.heap.size wr wr.drew:=(bR _ _).drew;have n0:(0:Int)<=(k:Int):=by omega
   have n1:(k:Int) < (c.length:Int):=by omega
   have n2:(k:Int) < (L.length:Int):=by omega
   clear er exa hckx hPx hvx hfx q0 q1 q2 hEd hEl ex
   go_upto_region 6 with fail
   refine am (S:=(λwx=>(wx.cell? ⟨w.heap.size,0,nO⟩=sO (I Y V)/\wx.cell? ⟨w.heap.size,1,nO⟩=sO (I Y F)/\wx.cell? ⟨w.heap.size,2,nO⟩=sO (U s c.length cap))/\(wx.cell? ⟨lb,lo+k * 3,nO⟩=sO (Bb x3.none)/\wx.cell? ⟨lb,lo+k * 3+1,nO⟩=sO (U vs3 x3.vars.length vc3)/\wx.cell? ⟨lb,lo+k * 3+2,nO⟩=sO (U fs3 x3.flds.length fc3)))) [] (by kernel_rfl) (HKZ.out _ B34) (λhHeld=> ?_);generalize wr.drew=w4 at *;refine vZ 0 ?_ ?_;refine vZ 1 ?_ ?_;refine vZ 2 ?_ ?_;refine vZ 3 ?_ ?_;refine vZ 4 ?_ ?_;refine vZ 5 ?_ ?_;refine ai (i:=6) rfl (by kernel_rfl) (λK hK=> ?_);go_simp;go_at_call 7;refine(HST.out w4 B34).mono ?_;rintro e w5 ⟨⟨es,ec,rfl,hE5⟩,hb5⟩;have HE5:=aa hE5;clear hE5;have B5:=B34.trans (hb5.mono B34.size);clear hb5;go_wp2_with fail;refine hK.out _ _ (HKZ.out _ B5) (λhHeld=> ?_);clear hK K;refine sm ?_;refine vZ 7 ?_ ?_;refine vZ 8 ?_ ?_;refine vZ 9 ?_ ?_;refine vZ 10 ?_ ?_;refine vZ 11 ?_ ?_;refine vZ 12 ?_ ?_;refine vZ 13 ?_ ?_;refine aj (by kernel_rfl) ?_ _;have HB5:=aa (BR.trans (B5.mono BR.size));have HP5:=aa (PR.call B5);clear hHeld HKZ HST B34 B5 BR PR p0 p1 p2 pz;go_wp2;generalize w5=wA at *;clear w5;go_loopw [9] (λj wr=>∃q:Nat,q<=E.length/\j=I Y q/\Below w.heap.size w wr/\Hid (PrAt wr w.heap.size V F s c cap)/\Hid (EdsOn (λ_=>True) wr es E)/\Hid (∀e∈E.take q,aH e.pic (aI L e.tgt)=true)) (λj _=>E.length - (intOf j).toNat)
   case atStart=>exact⟨0,j1 _,rfl,HB5.out,HP5.out,HE5.out,λe he=>by simp at he⟩
   case round=>
    clear HB5 HP5 HE5;obtain⟨q,hq1,rfl,BR,HPR,HER,HQ⟩:=hrel;have hEl:=HE.out.2;by_cases hlq:q < E.length;rotate_left
    ·have n3:¬(q:Int) < (E.length:Int):=by omega
     have HSN:Hid (∀i,i < k+1->dd c L i):=λi hi=>by
      by_cases e:i=k
      ·subst e
       intro e he;rw[HEE.out] at he;exact HQ.out e (by rw[List.take_of_length_le (by omega)];exact he)
      ·exact HS.out i (by omega)
     clear HQ HER HS;go_wp2;go_roundw
     case rel=>exact⟨k+1,by omega,by go_num,HPR.out,HSN.out⟩
     case measure=>simp[intOf];omega
    have m0:(0:Int)<=(q:Int):=by omega
    have m1:(q:Int) < (E.length:Int):=by omega
    obtain⟨b2,o2,rfl,-,hz2,us,uc,gs,gc,⟨d0,d1,d2,d3⟩,hPe,hve,hfe⟩:=HER.out q hlq;have heo:=HE.out.1 _ (gM hlq);have HMM:Hid (E[q]∈bG c k (aI L k)):=by show _∈_;rw[HEE.out];exact gM hlq
    have HNX:Hid (aH E[q].pic (aI L E[q].tgt)=true->∀e∈E.take (q+1),aH e.pic (aI L e.tgt)=true):=λh e he=>by
     rw[List.take_succ_eq_append_getElem hlq] at he;rcases List.mem_append.1 he with he|he
     ·exact HQ.out e he
     ·rw[List.mem_singleton.1 he];exact h
    obtain⟨⟨tq,y⟩,ee⟩:∃e,e=E[q]:=⟨_,rfl⟩;rw[<-ee] at d0 d1 d2 d3 hPe hve hfe heo HNX HMM;clear ee;obtain⟨hcy,t0,t1⟩:=heo;simp only at d0 d1 d2 d3 hPe hve hfe hcy t0 t1 HNX;obtain⟨t,rfl⟩:=j0 t0;have htL:t < L.length:=by have:=HLL.out;omega
    obtain⟨_,_,els,_,vs4,vc4,fs4,fc4,⟨r0,r1,r2⟩,hPz,hvz,hfz⟩:=HX.out.below BR (lR _) t htL;cases els;have zl4:lb < wr.heap.size:=j3 wr _ r0;obtain⟨z,ez⟩:∃z,z=L[t]:=⟨_,rfl⟩;have hcz:an V F c z=0:=by rw[ez];exact HXS.out.ck _ (gM htL)
    have HZA:Hid (aI L (t:Int)=z):=by show _=_;rw[ez];exact dm htL
    rw[<-ez] at r0 r1 r2 hPz hvz hfz;clear ez;have HPI:Hid (∀wx,Below wr.heap.size wr wx->Calls pG 42 #[xv y us uc gs gc,xv z vs4 vc4 fs4 fc4] wx λe w'=>e=Rt (Bb (aH y z))/\Below wx.heap.size wx w'):=λwx hb=>kM y z us uc gs gc vs4 vc4 fs4 fc4 wx (hPe.call hb).at (hPz.call hb) HZ.out hcy hcz;have HKZ:Hid (∀wx,Below wr.heap.size wr wx->(wx.cell? ⟨lb,lo+t * 3,nO⟩=sO (Bb z.none)/\wx.cell? ⟨lb,lo+t * 3+1,nO⟩=sO (U vs4 z.vars.length vc4)/\wx.cell? ⟨lb,lo+t * 3+2,nO⟩=sO (U fs4 z.flds.length fc4))/\(wx.cell? ⟨b2,o2+q * 4,nO⟩=sO (I Y (t:Int))/\wx.cell? ⟨b2,o2+q * 4+1,nO⟩=sO (Bb y.none)/\wx.cell? ⟨b2,o2+q * 4+2,nO⟩=sO (U us y.vars.length uc)/\wx.cell? ⟨b2,o2+q * 4+3,nO⟩=sO (U gs y.flds.length gc))):=λwx hb=>by
     have c1:=λj=>hb.cell (p:=⟨lb,j,nO⟩) (by simp only;exact zl4);have c2:=λj=>hb.cell (p:=⟨b2,j,nO⟩) (by simp only;exact hz2);exact⟨⟨(c1 _).trans r0,(c1 _).trans r1,(c1 _).trans r2⟩,(c2 _).trans d0,(c2 _).trans d1,(c2 _).trans d2,(c2 _).trans d3⟩
    have m2:(0:Int)<=(t:Int):=by omega
    have m3:(t:Int) < (L.length:Int):=by omega
    have B34:Below wr.heap.size wr wr.drew:=(bR _ _).drew;clear hPe hve hfe hcy hcz hPz hvz hfz d0 d1 d2 d3 t0 t1 r0 r1 r2
    go_upto_region 10 with fail
    refine am (S:=(λwx=>(wx.cell? ⟨lb,lo+t * 3,nO⟩=sO (Bb z.none)/\wx.cell? ⟨lb,lo+t * 3+1,nO⟩=sO (U vs4 z.vars.length vc4)/\wx.cell? ⟨lb,lo+t * 3+2,nO⟩=sO (U fs4 z.flds.length fc4))/\(wx.cell? ⟨b2,o2+q * 4,nO⟩=sO (I Y (t:Int))/\wx.cell? ⟨b2,o2+q * 4+1,nO⟩=sO (Bb y.none)/\wx.cell? ⟨b2,o2+q * 4+2,nO⟩=sO (U us y.vars.length uc)/\wx.cell? ⟨b2,o2+q * 4+3,nO⟩=sO (U gs y.flds.length gc)))) [] (by kernel_rfl) (HKZ.out _ B34) (λhHeld=> ?_);generalize wr.drew=w4 at *;refine vZ 0 ?_ ?_;refine vZ 1 ?_ ?_;refine vZ 2 ?_ ?_;refine vZ 3 ?_ ?_;refine vZ 4 ?_ ?_;refine vZ 5 ?_ ?_;refine vZ 6 ?_ ?_;refine vZ 7 ?_ ?_;refine vZ 8 ?_ ?_;refine vZ 9 ?_ ?_;refine vZ 10 ?_ ?_;refine vZ 11 ?_ ?_;refine vZ 12 ?_ ?_;refine ai (i:=13) rfl (by kernel_rfl) (λK hK=> ?_);go_simp;go_at_call 42;refine(HPI.out w4 B34).mono ?_;rintro e w5 ⟨rfl,hb5⟩;have B5:=B34.trans (hb5.mono B34.size);clear hb5;go_wp2_with fail;refine hK.out _ _ (HKZ.out _ B5) (λhHeld=> ?_);clear hK K;refine sm ?_;refine vZ 14 ?_ ?_;refine aj (by kernel_rfl) ?_ _;have BN:=BR.trans (B5.mono BR.size);have HPN:=aa (HPR.out.call B5);have HEN:=aa (HER.out.call B5);clear hHeld HKZ HPI B34 B5 BR HPR HER;cases hin:aH y z with
    |false=>
     have HF:Hid (dP V F c L=false):=Dc hlt HMM.out (by simp only;rw[HZA.out];exact hin);clear hin HNX HMM;go_wp2;go_ret;exact⟨by rw[HF.out];rfl,BN⟩
    |true=>
     have HG:=aa (HNX.out (by rw[HZA.out];exact hin));clear hin HNX HMM HQ;go_wp2;go_roundw
     case rel=>exact⟨q+1,by omega,by go_num,BN,HPN.out,HEN.out,HG.out⟩
     case measure=>simp[intOf];omega
theorem XsAt.call {w w':World}{ls:oA}{L:List Pic}(h:XsAt w ls L)(hb:Below w.heap.size w w'):XsAt w' ls L:=h.below hb (lR _)
theorem iC {V F:Int}{c:List Ins}(h0:ag V F c=0):∀L:List Pic,di V F c L=aq V F c L
 |[]=>by unfold aq;rw[if_pos h0];rfl
 |x::L=>by
  have e:aq V F c [x]=an V F c x:=by
   unfold aq;rw[if_pos h0];unfold bx;split
   ·rename_i h;rw[h];rfl
   ·rfl
  have ih:=iC h0 L;unfold di;rw[e,ih];unfold aq;rw[if_pos h0,if_pos h0];conv=>rhs;unfold bx
theorem ir (a:List Pic)(s1:oA)(c1:Nat)(s2:oA)(c2:Nat)(w:World)(ha:a.length<=maxLen)(h1:XsAt w s1 a)(h2:XsAt w s2 a):Calls pG 16 #[U s1 a.length c1,U s2 a.length c2] w λe w'=>e=Rt (Bb true)/\Below w.heap.size w w':=by
 refine(nc a a s1 c1 s2 c2 w ha h1 h2).mono ?_;rintro e w' ⟨⟨b,rfl,h⟩,hb⟩;rw[h.2 rfl];exact⟨rfl,hb⟩
theorem BM (s1:oA)(c1:Nat)(s2:oA)(c2:Nat)(w:World):Calls pG 16 #[U s1 0 c1,U s2 0 c2] w λe w'=>e=Rt (Bb true)/\Below w.heap.size w w':=ir [] s1 c1 s2 c2 w (j1 _) (λi h=>absurd h (by simp)) (λi h=>absurd h (by simp))
theorem nJ (V F:Int)(s:oA)(c:List Ins)(cap:Nat)(ls:oA)(L:List Pic)(lc:Nat)(w:World)(hc:CodeAt w s c)(hX:XsAt w ls L)(hl:L.length<=maxLen):
  Calls pG 4 #[pv V F s c cap,U ls L.length lc] w λe w'=>e=Rt (Bb true)/\Below w.heap.size w w':=by
 have B0:Below w.heap.size w (w.alloc (Cc #[I Y V,I Y F,U s c.length cap] 24)):=by go_grown
 have P0:Cells (w.alloc (Cc #[I Y V,I Y F,U s c.length cap] 24)) w.heap.size [I Y V,I Y F,U s c.length cap]:=Cells.new w _ [_,_,_];have HCK:=aa (λwx (hb:Below w.heap.size w wx)=>gV V F s cap c wx (hc.below hb (lR _)));have HCP:=aa (λwx (hb:Below w.heap.size w wx)=>mg V F s c cap ls L lc wx (hc.below hb (lR _)) (hX.below hb (lR _)) (lT hl (by decide)));have HFI:=aa (λwx (hb:Below w.heap.size w wx)=>rA V F s c cap ls L lc wx (hc.below hb (lR _)) (hX.below hb (lR _)) hl);have HSO:=aa (λwx (hb:Below w.heap.size w wx)=>pH V F s c cap wx (hc.below hb (lR _)));have HDO:=aa (λ(h0:ag V F c=0) wx (hb:Below w.heap.size w wx)=>uh V F s c cap wx (hc.below hb (lR _)) h0);have HFO:=aa (λ(h0:ag V F c=0) (hxs:XsOk V F c L) wx (hb:Below w.heap.size w wx)=>vN V F s c cap ls L lc wx (hc.below hb (lR _)) (hX.below hb (lR _)) hxs h0);have hm:maxLen<=9223372036854775807:=by decide
 clear hc hX;go_enter Tryz.func4,Tryz.ntmps4
 go_upto_region 1 with fail
 generalize w.alloc (Cc #[I Y V,I Y F,U s c.length cap] 24)=w0 at *;have p0:=P0.1 0 _ rfl;have p1:=P0.1 1 _ rfl;have p2:=P0.1 2 _ rfl;go_wp2_with (go_at_call 10;fail);refine(HSO.out w0 B0).mono ?_;rintro e w1 ⟨hS,hb1⟩;have B1:=B0.trans (hb1.mono B0.size);have P1:=P0.call hb1;clear B0 hb1 P0 p0 p1 p2;rcases hS with⟨hne,rfl⟩|⟨h0,m,pb,pc,hsv,hmm,rfl,hx⟩
 ·have HE:Hid (c8 V F c L=false/\dN V F c L=ag V F c):=by
   have e:dN V F c L=ag V F c:=by unfold dN;rw[if_neg hne]
   refine⟨?_,e⟩;unfold c8;rw[e,decide_eq_false hne];rfl
  rw[HE.out.1,HE.out.2] at HFI;clear HE HCP HSO HDO HFO;generalize ag V F c=u at *;have f1:(u==0)=false:=by simpa using hne
  clear hne;have p0:=P1.1 0 _ rfl;have p1:=P1.1 1 _ rfl;have p2:=P1.1 2 _ rfl;go_wp2_with (go_at_call 11;fail);refine(HFI.out w1 B1).mono ?_;rintro e w2 ⟨rfl,hb2⟩;have B2:=B1.trans (hb2.mono B1.size);have P2:=P1.call hb2;clear B1 hb2 P1 p0 p1 p2;have p0:=P2.1 0 _ rfl;have p1:=P2.1 1 _ rfl;have p2:=P2.1 2 _ rfl;go_wp2_with (go_at_call 12;fail);refine(HCK.out w2 B2).mono ?_;rintro e w3 ⟨rfl,hb3⟩;have B3:=B2.trans (hb3.mono B2.size);have P3:=P2.call hb3;clear B2 hb3 P2 p0 p1 p2;clear HFI HCK
  go_upto_region 5 with fail
  have hb4:Below w3.heap.size w3 (w3.alloc (Cc #[] 28)):=by go_grown
  have B4:=B3.trans (hb4.mono B3.size);have P4:=P3.call hb4;clear B3 hb4 P3;generalize w3.alloc (Cc #[] 28)=w4 at *;go_wp2_with (go_at_call 15;fail);refine(eJ _).mono ?_;rintro e w5 ⟨rfl,hb5⟩;have B5:=B4.trans (hb5.mono B4.size);go_wp2_with (go_at_call 16;fail);refine(BM _ _ _ _ w5).mono ?_;rintro e w6 ⟨rfl,hb6⟩;have B6:=B5.trans (hb6.mono B5.size);go_wp2;go_ret;exact⟨rfl,B6⟩
 have HSV:=aa hsv;have HX1:Hid (XsAt w1 (sO ⟨pb,0,nO⟩) (aK V F c m)):=hx;have HRL:=aa (cV h0 m).len;have h60:=(bq h0).2.2;have HLR:Hid ((aK V F c m).length<=maxLen):=by show _<=_;rw[HRL.out];unfold maxLen;omega
 have HDO1:Hid (∀wx,Below w.heap.size w wx->Calls pG 13 #[pv V F s c cap] wx λe w'=>(∃pb2 pc2:Nat,e=Rt (Tu #[U (sO ⟨pb2,0,nO⟩) (aK V F c m).length pc2,I Y ((m+1:Nat):Int)])/\XsAt w' (sO ⟨pb2,0,nO⟩) (aK V F c m))/\Below wx.heap.size wx w'):=λwx hb=>by
  refine(HDO.out h0 wx hb).mono ?_;rintro e w' ⟨⟨m',pb2,pc2,hs',_,rfl,hx'⟩,hb'⟩;obtain rfl:=hs'.one hsv;exact⟨⟨pb2,pc2,by rw[HRL.out],hx'⟩,hb'⟩
 have HFE:Hid (dN V F c L=if L.length=c.length+1 then aq V F c L else 1):=by show _=_;unfold dN;rw[if_pos h0];split;exact iC h0 L;rfl
 have HFB:Hid (c8 V F c L=(decide (dN V F c L=0)&&dP V F c L)):=rfl;have HXO:Hid (L.length=c.length+1->aq V F c L=0->XsOk V F c L):=λh1 h2=>uS h0 (by rw[if_pos h1,iC h0 L];exact h2);have HFO1:=aa (HFO.out h0);rw[<-HRL.out];rw[h0] at HCK;obtain⟨RR,eRR⟩:∃R,R=aK V F c m:=⟨_,rfl⟩;rw[<-eRR] at HX1 HLR HDO1 HRL |-;clear eRR hx hsv HSV HSO HDO HFO;obtain⟨fb,efb⟩:∃b,b=c8 V F c L:=⟨_,rfl⟩;obtain⟨fe,efe⟩:∃b,b=dN V F c L:=⟨_,rfl⟩;rw[<-efb,<-efe] at HFI HFB;rw[<-efe] at HFE;clear efb efe h0;generalize dP V F c L=fx at *;generalize aq V F c L=u at *;have p0:=P1.1 0 _ rfl;have p1:=P1.1 1 _ rfl;have p2:=P1.1 2 _ rfl;go_wp2_with (go_at_call 11;fail);refine(HFI.out w1 B1).mono ?_;rintro e w2 ⟨rfl,hb2⟩;have HX2:=aa (HX1.out.call hb2);clear HX1;have B2:=B1.trans (hb2.mono B1.size);have P2:=P1.call hb2;clear B1 hb2 P1 p0 p1 p2;have p0:=P2.1 0 _ rfl;have p1:=P2.1 1 _ rfl;have p2:=P2.1 2 _ rfl;go_wp2_with (go_at_call 12;fail);refine(HCK.out w2 B2).mono ?_;rintro e w3 ⟨rfl,hb3⟩;have HX3:=aa (HX2.out.call hb3);clear HX2;have B3:=B2.trans (hb3.mono B2.size);have P3:=P2.call hb3;clear B2 hb3 P2 p0 p1 p2;clear HFI HCK
 go_upto_region 5 with fail
 have hb4:Below w3.heap.size w3 (w3.alloc (Cc #[] 28)):=by go_grown
 have HX4:=aa (HX3.out.call hb4);clear HX3;have B4:=B3.trans (hb4.mono B3.size);have P4:=P3.call hb4;clear B3 hb4 P3;generalize w3.alloc (Cc #[] 28)=w4 at *;have p0:=P4.1 0 _ rfl;have p1:=P4.1 1 _ rfl;have p2:=P4.1 2 _ rfl;go_wp2_with (go_at_call 13;fail);refine(HDO1.out w4 B4).mono ?_;rintro e w5 ⟨⟨pb2,pc2,rfl,hd5⟩,hb5⟩;have HD5:=aa hd5;clear hd5;have HX5:=aa (HX4.out.call hb5);clear HX4;have B5:=B4.trans (hb5.mono B4.size);have P5:=P4.call hb5;clear B4 hb5 P4 p0 p1 p2;clear HDO1;have p0:=P5.1 0 _ rfl;have p1:=P5.1 1 _ rfl;have p2:=P5.1 2 _ rfl;by_cases hlen:L.length=c.length+1;rotate_left
 ·have e1:((L.length:Int)!=(c.length:Int)+1)=true:=by simpa using λh=>hlen (by omega)
  have HV:Hid (fe=1/\fb=false):=by
   have h1:fe=1:=by rw[HFE.out,if_neg hlen]
   exact⟨h1,by rw[HFB.out,h1];rfl⟩
  obtain⟨rfl,rfl⟩:=HV.out;clear HV HFE HFB HXO HFO1 HCP hlen;go_wp2_with (go_at_call 15;fail);refine(eJ _).mono ?_;rintro e w6 ⟨rfl,hb6⟩;have B6:=B5.trans (hb6.mono B5.size);have X6:=HX5.out.call hb6;have D6:=HD5.out.call hb6;go_wp2_with (go_at_call 16;fail);refine(ir RR (sO ⟨pb,0,nO⟩) pc (sO ⟨pb2,0,nO⟩) pc2 w6 HLR.out X6 D6).mono ?_;rintro e w7 ⟨rfl,hb7⟩;have B7:=B6.trans (hb7.mono B6.size);go_wp2;go_ret;exact⟨rfl,B7⟩
 have e1:((L.length:Int)!=(c.length:Int)+1)=false:=by simp;omega
 have HV:Hid (fe=u):=by show _=_;rw[HFE.out,if_pos hlen]
 have HX2:=aa (HXO.out hlen);clear HFE HXO hlen;obtain rfl:=HV.out;clear HV;go_wp2_with (go_at_call 6;fail);refine(HCP.out w5 B5).mono ?_;rintro e w6 ⟨rfl,hb6⟩;have HX6:=aa (HX5.out.call hb6);have HD6:=aa (HD5.out.call hb6);clear HX5 HD5;have B6:=B5.trans (hb6.mono B5.size);have P6:=P5.call hb6;clear B5 hb6 P5 p0 p1 p2;by_cases hu:fe=0;rotate_left
 ·have f1:(fe==0)=false:=by simpa using hu
  have HV:Hid (fb=false):=by show _=_;rw[HFB.out,decide_eq_false hu];rfl
  obtain rfl:=HV.out;clear HV HFB HFO1 HCP HX2 hu;go_wp2_with (go_at_call 15;fail);refine(eJ _).mono ?_;rintro e w7 ⟨rfl,hb7⟩;have B7:=B6.trans (hb7.mono B6.size);have X7:=HX6.out.call hb7;have D7:=HD6.out.call hb7;go_wp2_with (go_at_call 16;fail);refine(ir RR (sO ⟨pb,0,nO⟩) pc (sO ⟨pb2,0,nO⟩) pc2 w7 HLR.out X7 D7).mono ?_;rintro e w8 ⟨rfl,hb8⟩;have B8:=B7.trans (hb8.mono B7.size);go_wp2;go_ret;exact⟨rfl,B8⟩
 have HFO2:=aa (HFO1.out (HX2.out hu));subst hu;have HV:Hid (fb=fx):=by show _=_;rw[HFB.out,decide_eq_true rfl];rfl
 obtain rfl:=HV.out;clear HV HFB HFO1 HCP HX2;have p0:=P6.1 0 _ rfl;have p1:=P6.1 1 _ rfl;have p2:=P6.1 2 _ rfl;go_wp2_with (go_at_call 14;fail);refine(HFO2.out w6 B6).mono ?_;rintro e w7 ⟨rfl,hb7⟩;have HX7:=aa (HX6.out.call hb7);have HD7:=aa (HD6.out.call hb7);clear HX6 HD6;have B7:=B6.trans (hb7.mono B6.size);have P7:=P6.call hb7;clear B6 hb7 P6 p0 p1 p2;go_wp2_with (go_at_call 15;fail);refine(eJ _).mono ?_;rintro e w8 ⟨rfl,hb8⟩;have B8:=B7.trans (hb8.mono B7.size);have X8:=HX7.out.call hb8;have D8:=HD7.out.call hb8;go_wp2_with (go_at_call 16;fail);refine(ir RR (sO ⟨pb,0,nO⟩) pc (sO ⟨pb2,0,nO⟩) pc2 w8 HLR.out X8 D8).mono ?_;rintro e w9 ⟨rfl,hb9⟩;have B9:=B8.trans (hb9.mono B8.size);go_wp2;go_ret;exact⟨rfl,B9⟩
end
section
open Go.ChangeShapes Go.WideShapes Go.ChangeAt Go.RowKit
namespace solveSolves
theorem ownS:ownKnob Tryz.prog.godebug=none:=by kernel_rfl
theorem contract (H:Type)(enc:TypeId×Value->H)(W:World)(base:Nat)(args:Array Value)(ds gs:List (DataW H))(before:List MemPlace)
  (hval:∀(j:Nat) t v,Tryz.f4.params[j]? =sO t->args[j]? =sO v->Value.okWide pG W .any base t v)
  (hW:DataW.Whole enc pG Tryz.f4.params.toList Rows.solveSolvesSpec.vars false W args.toList ds gs before):
  Calls pG 4 args W λe W'=>∃v,e=Rt v/\Rows.solveSolvesSpec.post enc pG Tryz.f4 false true false false W args v W':=by
 have hlt:=hW.lt;have hW':=hW;obtain⟨p,q,hA0,hV,rfl,hfz,hnd⟩:=hW;have hA:DataW.TrodAll enc pG W 0 (λ_=>true) true Tryz.f4.params.toList args.toList ds p:=hA0;rw[Tryz.params4] at hA hval;obtain⟨v0,vs0,d0,ds0,p0,q0,e0,rfl,rfl,h0,hr0⟩:=trodAll_cons hA;obtain⟨v1,vs1,d1,ds1,p1,q1,e1,rfl,rfl,h1,hr1⟩:=trodAll_cons hr0;obtain⟨rfl,rfl,rfl⟩:=trodAll_nil hr1;subst e1;have ea:args=#[v0,v1]:=by cases args;simp_all
 subst ea;obtain⟨rfl,rfl⟩:=trodVars_none hV;obtain⟨V,F,s,cap,c,rfl,hl,hm,hcd,_⟩:=sH (hval 0 24 v0 rfl rfl) h0;obtain⟨ls,lc,L,rfl,hlc,hlm,hX⟩:=yp (hval 1 34 v1 rfl rfl) h1;refine(nJ V F s c cap ls L lc W hcd hX (by omega)).mono λe W' ⟨he,hb⟩=> ?_;subst he;refine⟨_,rfl,_,_,_,[],p0++(p1++[]),[],hW',?_,?_,?_,hb.frame _,λh=>by cases h⟩
 ·exact trodAll_mk1 (shut_bool Tryz.underlying4 _)
 ·rw[Tryz.params4]
  exact trodAll_cons_mk (Below.trod (by kernel_rfl) (by kernel_rfl) (of_decide_eq_true (by kernel_rfl)) h0 hb (λx hx=>hlt x (by simp[hx]))) (trodAll_cons_mk (Below.trod (by kernel_rfl) (by kernel_rfl) (of_decide_eq_true (by kernel_rfl)) h1 hb (λx hx=>hlt x (by simp[hx]))) (rfl))
 ·rfl

theorem witness_row (os:Os){H:Type}(enc:TypeId×Value->H):
  (OpenSpec.ofChange Rows.solveSolvesSpec).preRow enc pG Tryz.f4 Rows.solveSolvesRow.domain false Rows.solveSolvesRow.laid ((j2 pG os).forCall (λ_ _=>0) ⟨#[],#[Ag #[I Y 0,I Y 0,U nO 0 0],U nO 0 0],[]⟩).memory #[Ag #[I Y 0,I Y 0,U nO 0 0],U nO 0 0]:=by
 have hw:(DataW.whole enc pG ((j2 pG os).forCall (λ_ _=>0) ⟨#[],#[Ag #[I Y 0,I Y 0,U nO 0 0],U nO 0 0],[]⟩).memory Tryz.f4.params.toList Rows.solveSolvesSpec.vars false #[Value.agg #[I Y 0,I Y 0,U nO 0 0],U nO 0 0].toList 8).isSome=true:=by kernel_rfl
 obtain⟨x,hx⟩:=Option.isSome_iff_exists.1 hw;exact OpenSpec.preRow_of_cond 8 hx rfl (λk hk=>by cases hk) (by kernel_rfl) ⟨[],rfl,List.nodup_nil,λb off h=>by cases h⟩

theorem lifted (os:Os)(started:os.Started)(H:Type)(enc:TypeId×Value->H)(F:Stop.Interp):
  ReturnsInHanded {} Tryz.checked os 4 .any ((OpenSpec.ofChange Rows.solveSolvesSpec).preRow enc pG Tryz.f4 Rows.solveSolvesRow.domain false Rows.solveSolvesRow.laid) (((OpenSpec.ofChange Rows.solveSolvesSpec).at F).post enc pG Tryz.f4 false true false false):=by
 refine returnsInHanded_of_row (C:=Tryz.checked) (s:=OpenSpec.ofChange Rows.solveSolvesSpec) ownS started (by kernel_rfl) Tryz.func4
  (witness_row_atRef (enc:=enc) (C:=Tryz.checked) false (j2 pG os) #[Ag #[I Y 0,I Y 0,U nO 0 0],U nO 0 0] rfl (by kernel_rfl) (by kernel_rfl) (by kernel_rfl) (witness_row os enc)) ?_
 intro W base args ds gs before hval hW _ _ _ hL hS _;exact contract H enc W base args ds gs before hval hW
end solveSolves

theorem and_t {a b:Bool}(h:a=true)(k:b=true):(a&&b)=true:=by rw[h,k];rfl
theorem closed:joinedFacts pG 4 Tryz.f4 (OpenSpec.ofChange Rows.solveSolvesSpec).bare Rows.solveSolvesRow=true:=by
 unfold joinedFacts
 repeat' (with_reducible refine and_t ?_ ?_)
 all_goals (as_aux_lemma=>kernel_rfl)

theorem solveSolves_holds:Rows.SolveSolvesSaid:=
 OpenClaim.holds_of_cond 4 Tryz.f4 rfl rfl rfl rfl rfl rfl rfl ⟨rfl,rfl,rfl,rfl,rfl⟩ rfl rfl rfl rfl rfl (by kernel_rfl) Tryz.func4 closed
  (of_decide_eq_true (by kernel_rfl)) (by unfold Func.isWrapper;first|(rw[if_pos (by decide+kernel)];kernel_rfl)|(rw[if_neg (by decide+kernel)];exact⟨rfl,rfl⟩))
  (λos started H enc _ F=>by rw[OpenClaim.pre_eq_preRow];exact solveSolves.lifted os started H enc F)
end
end Go.Proofs.YtmapdpcfanecdabGreat
