import Derived.Test.YtmapdpcfanecdabGreatDoorL36
open Go.Ending renaming returned→Rt
open Go.IntKind renaming i64→Y
open Go.Obj renaming cells→Cc
open Go.Proofs.Tryz renaming prog→pG
open Go.RowKit.Below renaming refl→bR
open Go.Value renaming agg→Ag,bool→Bb,int→I,slice→U,tuple→Tu
open Go.World renaming size_alloc→zA
open List renaming drop_eq_nil_of_le→j1,flatten_cons→j2,getElem_mem→gM,length_append→j3,mem_append→j4,mem_flatten→j5
open Nat renaming le_refl→lR,le_trans→lT,lt_of_lt_of_le→lL,zero_le→j0
open Option renaming none→nO,some→sO
set_option linter.unusedSimpArgs false
set_option linter.unusedVariables false
set_option maxHeartbeats 16000000
set_option maxRecDepth 20000
namespace Go.Proofs.YtmapdpcfanecdabGreatDoor
section
open Go.RowKit
attribute [local go_sem ↓] Go.wp_at_zero Go.wp_at_succ
theorem XsAt.new1 (w:World)(x:Pic)(vs:Option Addr)(vc:Nat)(fs:Option Addr)(fc:Nat)(hP:PicAt w x vs fs)(h1:x.vars.length≤vc∧vc≤maxLen)(h2:x.flds.length≤fc∧fc≤maxLen):
  XsAt (w.alloc (Cc #[Bb x.none,U vs x.vars.length vc,U fs x.flds.length fc] 28)) (sO ⟨w.heap.size,0,nO⟩) [x]:=by
 intro i hi
 obtain rfl:i=0:=by simp at hi;omega
 exact⟨w.heap.size,0,rfl,by simp,vs,vc,fs,fc,by simp[go_sem],hP.call (by go_grown),h1,h2⟩
theorem XsAt.new2 (w:World)(x:Pic)(vs:Option Addr)(vc:Nat)(fs:Option Addr)(fc:Nat)(y:Pic)(us:Option Addr)(uc:Nat)(gs:Option Addr)(gc:Nat)(hP:PicAt w x vs fs)(h1:x.vars.length≤vc∧vc≤maxLen)(h2:x.flds.length≤fc∧fc≤maxLen)(hQ:PicAt w y us gs)(h3:y.vars.length≤uc∧uc≤maxLen)(h4:y.flds.length≤gc∧gc≤maxLen):
  XsAt (w.alloc (Cc #[Bb x.none,U vs x.vars.length vc,U fs x.flds.length fc,Bb y.none,U us y.vars.length uc,U gs y.flds.length gc] 28)) (sO ⟨w.heap.size,0,nO⟩) [x,y]:=by
 intro i hi
 by_cases e:i=0
 ·subst e;exact⟨w.heap.size,0,rfl,by simp,vs,vc,fs,fc,by simp[go_sem],hP.call (by go_grown),h1,h2⟩
 ·obtain rfl:i=1:=by simp at hi;omega
  exact⟨w.heap.size,0,rfl,by simp,us,uc,gs,gc,by simp[go_sem],hQ.call (by go_grown),h3,h4⟩
theorem cQ (V F:Int)(s:Option Addr)(c:List Ins)(cap:Nat)(ls:Option Addr)(L:List Pic)(lc:Nat)(w:World)(hc:CodeAt w s c)(hL:XsAt w ls L)(hl:L.length≤9223372036854775807):
  Calls pG 43 #[pv V F s c cap,U ls L.length lc] w λe w'=>e=Rt (I Y (aq V F c L))∧Below w.heap.size w w':=by
 have P0:=PrAt.new w V F s c cap
 have B0:Below w.heap.size w (w.alloc (Cc #[I Y V,I Y F,U s c.length cap] 24)):=by go_grown
 have C0:=hc.below B0 (lR _)
 have L0:=hL.below B0 (lR _)
 have HC:=aa (dM V F s cap c _ C0)
 clear hc hL
 by_cases h0:ag V F c=0
 ·have er:aq V F c L=bW V F c L:=by unfold aq;rw[if_pos h0]
  obtain⟨res,HR,hres⟩:∃r,Hid (r=bW V F c L)∧aq V F c L=r:=⟨_,rfl,er⟩
  rw[hres]
  rw[h0] at HC
  have H0:=aa h0
  clear er hres h0
  go_enter Tryz.func43,Tryz.ntmps43
  go_wp2_with (go_at_call 76;fail)
  refine HC.out.mono ?_
  rintro e w1 ⟨rfl,hb1⟩
  have P1:=P0.call hb1
  have C1:=C0.call hb1
  have L1:=L0.below hb1 (lR _)
  have B1:=B0.trans (hb1.mono B0.size)
  clear hb1 P0 C0 L0 B0 HC
  go_wp2
  go_loopw [16] (λi wr=>∃k:Nat,k≤L.length∧i=I Y k∧Below w1.heap.size w1 wr∧Hid (res=bW V F c (L.drop k))) (λi _=>L.length - (intOf i).toNat)
  case atStart=>exact⟨0,j0 _,rfl,bR _ _,HR⟩
  case round=>
   obtain⟨k,hk,rfl,hbr,HK⟩:=hrel
   by_cases hlt:k < L.length
   ·have n0:(0:Int)≤(k:Int):=by omega
    have n1:(k:Int) < (L.length:Int):=by omega
    have HS:=aa (wn V F c L k hlt)
    obtain⟨b,off,rfl,zb,vs,vc,fs,fc,⟨g0,g1,g2⟩,hP,hv,hf⟩:=(L1.below hbr (lR _)) k hlt
    have X2:=XAt.new wr L[k] vs vc fs fc
    have hb2:Below wr.heap.size wr (wr.alloc (Cc #[Bb L[k].none,U vs L[k].vars.length vc,U fs L[k].flds.length fc] 28)):=by go_grown
    have hb12:=hbr.trans (hb2.mono hbr.size)
    have P2:=P1.call hb12
    have hP2:=hP.call hb2
    go_upto_region 7 with fail
    generalize wr.alloc (Cc #[Bb L[k].none,U vs L[k].vars.length vc,U fs L[k].flds.length fc] 28)=w2 at *
    clear g0 g1 g2
    obtain⟨⟨p0,p1,p2⟩,pz⟩:=id P2
    obtain⟨⟨x0,x1,x2⟩,xz,-⟩:=id X2
    go_wp2_with (go_at_call 80;fail)
    refine(oU V F s c cap L[k] vs vc fs fc _ (C1.call hb12) hP2 hv.1 hv.2 H0.out).mono ?_
    rintro e w3 ⟨rfl,hb3⟩
    have hb13:=hb12.trans (hb3.mono hb12.size)
    clear p0 p1 p2 pz x0 x1 x2 xz
    generalize aE V F c L[k]=ce at *
    by_cases hz:ce=0
    ·have e1:(ce !=0)=false:=by simpa using hz
     go_wp2
     go_roundw
     case rel=>exact⟨k+1,by omega,by go_num,hb13,by show _=_;rw[HK.out,HS.out,if_pos hz]⟩
     case measure=>simp[intOf];omega
    ·have e1:(ce !=0)=true:=by simpa using hz
     go_wp2
     go_ret
     exact⟨bn (by rw[HK.out,HS.out,if_neg hz]),B1.trans (hb13.mono B1.size)⟩
   ·have n1:¬(k:Int) < (L.length:Int):=by omega
    go_wp2
    go_ret
    refine⟨bn ?_,B1.trans (hbr.mono B1.size)⟩
    rw[HK.out,j1 (by omega)]
    rfl
 ·have er:aq V F c L=ag V F c:=by unfold aq;rw[if_neg h0]
  rw[er]
  have e1:(ag V F c !=0)=true:=by simpa using h0
  generalize ag V F c=ce at *
  clear er h0
  go_enter Tryz.func43,Tryz.ntmps43
  go_wp2_with (go_at_call 76;fail)
  refine HC.out.mono ?_
  rintro e w1 ⟨rfl,hb1⟩
  go_wp2
  go_ret
  exact⟨rfl,B0.trans (hb1.mono B0.size)⟩

theorem fS (V F:Int)(s:Option Addr)(c:List Ins)(cap:Nat)(x:Pic)(vs:Option Addr)(vc:Nat)(fs:Option Addr)(fc:Nat)(w:World)(hc:CodeAt w s c)(hP:PicAt w x vs fs)(h1:x.vars.length≤vc∧vc≤maxLen)(h2:x.flds.length≤fc∧fc≤maxLen):
  Calls pG 41 #[pv V F s c cap,xv x vs vc fs fc] w λe w'=>e=Rt (I Y (aq V F c [x]))∧Below w.heap.size w w':=by
 have B1:Below w.heap.size w (((w.alloc (Cc #[I Y V,I Y F,U s c.length cap] 24)).alloc (Cc #[Bb x.none,U vs x.vars.length vc,U fs x.flds.length fc] 28)).alloc (Cc #[Bb x.none,U vs x.vars.length vc,U fs x.flds.length fc] 28)):=by go_grown
 have HC:=aa (cQ V F s c cap (sO ⟨((w.alloc (Cc #[I Y V,I Y F,U s c.length cap] 24)).alloc (Cc #[Bb x.none,U vs x.vars.length vc,U fs x.flds.length fc] 28)).heap.size,0,nO⟩) [x] 1 (((w.alloc (Cc #[I Y V,I Y F,U s c.length cap] 24)).alloc (Cc #[Bb x.none,U vs x.vars.length vc,U fs x.flds.length fc] 28)).alloc (Cc #[Bb x.none,U vs x.vars.length vc,U fs x.flds.length fc] 28)) (hc.below B1 (lR _)) (XsAt.new1 ((w.alloc (Cc #[I Y V,I Y F,U s c.length cap] 24)).alloc (Cc #[Bb x.none,U vs x.vars.length vc,U fs x.flds.length fc] 28)) x vs vc fs fc (hP.below (B:=w.heap.size) (by go_grown) (lR _)) h1 h2) (by simp))
 simp only[zA] at HC
 go_enter Tryz.func41,Tryz.ntmps41
 go_wp2_with (go_at_call 43;fail)
 refine HC.out.mono ?_
 rintro e w1 ⟨rfl,hb1⟩
 go_wp2
 go_ret
 exact⟨rfl,B1.trans (hb1.mono (by first|omega|exact B1.size))⟩
theorem CK {c:List Ins}{g:Gs}(h:aw c g=0):cB g g=true:=by
 have hs:dg g.sp=0:=by
  unfold aw at h
  split at h
  ·exact h
  ·rename_i h1;simpa using h1
 have hok:=ckSp_ok.1 hs
 obtain⟨n,⟨sn,lo,hi⟩,t,f,s⟩:=g
 have h4:=hok.2.2.2
 simp only at h4
 unfold cB eC Sp.has
 cases n<;>cases t<;>cases f<;>cases sn<;>simp<;>omega
theorem mR {a b x y:List Gs}(h:a.length=b.length):fg (a++x) (b++y)=(fg a b&&fg x y):=by
 unfold fg
 rw[List.zipWith_append h,List.all_append]
theorem n8:∀{a b:List (List Gs)},a.length=b.length→(∀i (h:i < a.length) (h':i < b.length),a[i].length=b[i].length)→fg a.flatten b.flatten=FB a b
 |[],[],_,_=>rfl
 |[],_::_,h,_=>by simp at h
 |_::_,[],h,_=>by simp at h
 |r::a,q::b,h,hr=>by
  have h0:=hr 0 (by simp) (by simp)
  rw[j2,j2,mR (by simpa using h0),n8 (by simpa using h) λi h1 h2=>by
   have:=hr (i+1) (by simpa using h1) (by simpa using h2)
   simpa using this]
  rfl
theorem AL {V F:Int}{c:List Ins}{x y:Pic}(h1:aE V F c x=0)(h2:aE V F c y=0)(hn:x.none=false)(hm:y.none=false):fg (bL x) (bL y)=aT x y∧(bL x).length=(bL y).length∧(∀g∈bL x,aw c g=0)∧∀g∈bL y,aw c g=0:=by
 obtain⟨a1,a2,a3,a4,a5⟩:=iS h1 hn
 obtain⟨b1,b2,b3,b4,b5⟩:=iS h2 hm
 have hv:x.vars.length=y.vars.length:=by omega
 have hl:x.flds.length=y.flds.length:=by omega
 have hr:∀i (h:i < x.flds.length) (h':i < y.flds.length),x.flds[i].length=y.flds[i].length:=λi h h'=>by have:=a3 _ (gM h);have:=b3 _ (gM h');omega
 refine⟨?_,?_,λg hg=> ?_,λg hg=> ?_⟩
 ·unfold bL aT
  rw[mR hv,n8 hl hr,hn,hm]
  rfl
 ·unfold bL
  rw[j3,j3,hv]
  congr 1
  have e1:∀r∈x.flds,r.length=F.toNat:=λr hr=>by have:=a3 r hr;omega
  have e2:∀r∈y.flds,r.length=F.toNat:=λr hr=>by have:=b3 r hr;omega
  rw[lO e1,lO e2,hl]
 ·unfold bL at hg
  rcases j4.1 hg with hg|hg
  ·exact a4 g hg
  ·obtain⟨r,hr,hg⟩:=j5.1 hg
   exact a5 r hr g hg
 ·unfold bL at hg
  rcases j4.1 hg with hg|hg
  ·exact b4 g hg
  ·obtain⟨r,hr,hg⟩:=j5.1 hg
   exact b5 r hr g hg
theorem uY (V F:Int)(s:Option Addr)(c:List Ins)(cap:Nat)(g:Gs)(ss:Option Addr)(gc:Nat)(h:Gs)(st:Option Addr)(hc:Nat)(w:World)(hcd:CodeAt w s c)(hs:IntsAt w ss g.s)(h1:g.s.length≤gc)(h2:gc≤maxLen)(ht:IntsAt w st h.s)(h3:h.s.length≤hc)(h4:hc≤maxLen)(h0:ag V F c=0)(hg:aw c g=0)(hh:aw c h=0):
  Calls pG 166 #[pv V F s c cap,gv g ss gc,gv h st hc] w λe w'=>e=Rt (Bb (cB g h))∧Below w.heap.size w w':=by
 have B0:Below w.heap.size w (((w.alloc (Cc #[I Y V,I Y F,U s c.length cap] 24)).alloc (Cc #[Bb g.n,Bb g.sp.n,I Y g.sp.lo,I Y g.sp.hi,Bb g.t,Bb g.f,U ss g.s.length gc] 91)).alloc (Cc #[Bb h.n,Bb h.sp.n,I Y h.sp.lo,I Y h.sp.hi,Bb h.t,Bb h.f,U st h.s.length hc] 91)):=by go_grown
 have P0:=(PrAt.new w V F s c cap).call (w':=(((w.alloc (Cc #[I Y V,I Y F,U s c.length cap] 24)).alloc (Cc #[Bb g.n,Bb g.sp.n,I Y g.sp.lo,I Y g.sp.hi,Bb g.t,Bb g.f,U ss g.s.length gc] 91)).alloc (Cc #[Bb h.n,Bb h.sp.n,I Y h.sp.lo,I Y h.sp.hi,Bb h.t,Bb h.f,U st h.s.length hc] 91))) (by go_grown)
 have G0:=(GuAt.new (w.alloc (Cc #[I Y V,I Y F,U s c.length cap] 24)) g ss gc).call (w':=(((w.alloc (Cc #[I Y V,I Y F,U s c.length cap] 24)).alloc (Cc #[Bb g.n,Bb g.sp.n,I Y g.sp.lo,I Y g.sp.hi,Bb g.t,Bb g.f,U ss g.s.length gc] 91)).alloc (Cc #[Bb h.n,Bb h.sp.n,I Y h.sp.lo,I Y h.sp.hi,Bb h.t,Bb h.f,U st h.s.length hc] 91))) (by go_grown)
 have H0:=GuAt.new ((w.alloc (Cc #[I Y V,I Y F,U s c.length cap] 24)).alloc (Cc #[Bb g.n,Bb g.sp.n,I Y g.sp.lo,I Y g.sp.hi,Bb g.t,Bb g.f,U ss g.s.length gc] 91)) h st hc
 rw[zA] at G0
 rw[zA,zA] at H0
 have C0:=hcd.below B0 (lR _)
 have I0:=hs.below B0 (lR _)
 have J0:=ht.below B0 (lR _)
 have HS:=aa (mg g ss gc h st hc (((w.alloc (Cc #[I Y V,I Y F,U s c.length cap] 24)).alloc (Cc #[Bb g.n,Bb g.sp.n,I Y g.sp.lo,I Y g.sp.hi,Bb g.t,Bb g.f,U ss g.s.length gc] 91)).alloc (Cc #[Bb h.n,Bb h.sp.n,I Y h.sp.lo,I Y h.sp.hi,Bb h.t,Bb h.f,U st h.s.length hc] 91)) I0 J0 (lT h1 h2) (lT h3 h4))
 have HW:Hid (∀wx,CodeAt wx s c→IntsAt wx ss g.s→IntsAt wx st h.s→Calls pG 161 #[pv V F s c cap,gv g ss gc,gv h st hc] wx λe w'=>e=Rt (Tu #[Bb (cB g h),I Y 0])∧Below wx.heap.size wx w'):=λwx x1 x2 x3=>by
  have hk:=kM h0 hg hh
  have:=Fr V F s c cap g ss gc h st hc wx x1 x2 h1 h2 x3 h3 h4
  rw[hk,if_pos rfl] at this
  exact this
 have HQ:Hid (dA g h=true→cB g h=true):=λe=>by rw[←sameGs_iff.1 e];exact CK hg
 clear hcd hs ht
 go_enter Tryz.func166,Tryz.ntmps166
 go_wp2_with (go_at_call 178;fail)
 generalize (((w.alloc (Cc #[I Y V,I Y F,U s c.length cap] 24)).alloc (Cc #[Bb g.n,Bb g.sp.n,I Y g.sp.lo,I Y g.sp.hi,Bb g.t,Bb g.f,U ss g.s.length gc] 91)).alloc (Cc #[Bb h.n,Bb h.sp.n,I Y h.sp.lo,I Y h.sp.hi,Bb h.t,Bb h.f,U st h.s.length hc] 91))=w1 at *
 refine HS.out.mono ?_
 rintro e w2 ⟨rfl,hb2⟩
 rcases (show dA g h=false∨dA g h=true by cases dA g h<;>simp) with hq|hq<;>have HSG:=aa hq<;>rw[hq]<;>clear hq
 ·obtain⟨⟨p0,p1,p2⟩,pz⟩:=id (P0.call hb2)
  obtain⟨⟨q0,q1,q2,q3,q4,q5,q6⟩,qz⟩:=id (G0.call hb2)
  obtain⟨⟨r0,r1,r2,r3,r4,r5,r6⟩,rz⟩:=id (H0.call hb2)
  simp only[Nat.zero_add] at q0 q1 q2 q3 q4 q5 q6 r0 r1 r2 r3 r4 r5 r6
  go_wp2_with (go_at_call 161;fail)
  refine(HW.out _ (C0.call hb2) (I0.call hb2) (J0.call hb2)).mono ?_
  rintro e w3 ⟨rfl,hb3⟩
  go_wp2
  go_ret
  exact⟨rfl,B0.trans ((hb2.trans (hb3.mono hb2.size)).mono B0.size)⟩
 ·go_wp2
  go_ret
  exact⟨aI (HQ.out HSG.out).symm,B0.trans (hb2.mono B0.size)⟩

theorem wO (V F:Int)(s:Option Addr)(c:List Ins)(cap:Nat)(x:Pic)(vs1:Option Addr)(vc1:Nat)(fs1:Option Addr)(fc1:Nat)(y:Pic)(vs2:Option Addr)(vc2:Nat)(fs2:Option Addr)(fc2:Nat)(w:World)(hcd:CodeAt w s c)(hx:PicAt w x vs1 fs1)(h1:x.vars.length≤vc1∧vc1≤maxLen)(h2:x.flds.length≤fc1∧fc1≤maxLen)(hy:PicAt w y vs2 fs2)(h3:y.vars.length≤vc2∧vc2≤maxLen)(h4:y.flds.length≤fc2∧fc2≤maxLen)(h:aq V F c [x,y]≠0):
  Calls pG 102 #[pv V F s c cap,xv x vs1 vc1 fs1 fc1,xv y vs2 vc2 fs2 fc2] w λe w'=>e=Rt (Tu #[Bb false,I Y (aq V F c [x,y])])∧Below w.heap.size w w':=by
 have B0:Below w.heap.size w (((w.alloc (Cc #[I Y V,I Y F,U s c.length cap] 24)).alloc (Cc #[Bb x.none,U vs1 x.vars.length vc1,U fs1 x.flds.length fc1] 28)).alloc (Cc #[Bb y.none,U vs2 y.vars.length vc2,U fs2 y.flds.length fc2] 28)):=by go_grown
 have P0:=(PrAt.new w V F s c cap).call (w':=(((w.alloc (Cc #[I Y V,I Y F,U s c.length cap] 24)).alloc (Cc #[Bb x.none,U vs1 x.vars.length vc1,U fs1 x.flds.length fc1] 28)).alloc (Cc #[Bb y.none,U vs2 y.vars.length vc2,U fs2 y.flds.length fc2] 28))) (by go_grown)
 have X0:=(XAt.new (w.alloc (Cc #[I Y V,I Y F,U s c.length cap] 24)) x vs1 vc1 fs1 fc1).call (w':=(((w.alloc (Cc #[I Y V,I Y F,U s c.length cap] 24)).alloc (Cc #[Bb x.none,U vs1 x.vars.length vc1,U fs1 x.flds.length fc1] 28)).alloc (Cc #[Bb y.none,U vs2 y.vars.length vc2,U fs2 y.flds.length fc2] 28))) (by go_grown)
 have Y0:=XAt.new ((w.alloc (Cc #[I Y V,I Y F,U s c.length cap] 24)).alloc (Cc #[Bb x.none,U vs1 x.vars.length vc1,U fs1 x.flds.length fc1] 28)) y vs2 vc2 fs2 fc2
 rw[zA] at X0
 rw[zA,zA] at Y0
 have C0:=hcd.below B0 (lR _)
 have PX:=hx.below B0 (lR _)
 have PY:=hy.below B0 (lR _)
 have HC:=aa (cQ V F s c cap (sO ⟨(((w.alloc (Cc #[I Y V,I Y F,U s c.length cap] 24)).alloc (Cc #[Bb x.none,U vs1 x.vars.length vc1,U fs1 x.flds.length fc1] 28)).alloc (Cc #[Bb y.none,U vs2 y.vars.length vc2,U fs2 y.flds.length fc2] 28)).heap.size,0,nO⟩) [x,y] 2 ((((w.alloc (Cc #[I Y V,I Y F,U s c.length cap] 24)).alloc (Cc #[Bb x.none,U vs1 x.vars.length vc1,U fs1 x.flds.length fc1] 28)).alloc (Cc #[Bb y.none,U vs2 y.vars.length vc2,U fs2 y.flds.length fc2] 28)).alloc (Cc #[Bb x.none,U vs1 x.vars.length vc1,U fs1 x.flds.length fc1,Bb y.none,U vs2 y.vars.length vc2,U fs2 y.flds.length fc2] 28)) (C0.call (by go_grown)) (XsAt.new2 (((w.alloc (Cc #[I Y V,I Y F,U s c.length cap] 24)).alloc (Cc #[Bb x.none,U vs1 x.vars.length vc1,U fs1 x.flds.length fc1] 28)).alloc (Cc #[Bb y.none,U vs2 y.vars.length vc2,U fs2 y.flds.length fc2] 28)) x vs1 vc1 fs1 fc1 y vs2 vc2 fs2 fc2 PX h1 h2 PY h3 h4) (by simp))
 have hbz:Below (((w.alloc (Cc #[I Y V,I Y F,U s c.length cap] 24)).alloc (Cc #[Bb x.none,U vs1 x.vars.length vc1,U fs1 x.flds.length fc1] 28)).alloc (Cc #[Bb y.none,U vs2 y.vars.length vc2,U fs2 y.flds.length fc2] 28)).heap.size (((w.alloc (Cc #[I Y V,I Y F,U s c.length cap] 24)).alloc (Cc #[Bb x.none,U vs1 x.vars.length vc1,U fs1 x.flds.length fc1] 28)).alloc (Cc #[Bb y.none,U vs2 y.vars.length vc2,U fs2 y.flds.length fc2] 28)) ((((w.alloc (Cc #[I Y V,I Y F,U s c.length cap] 24)).alloc (Cc #[Bb x.none,U vs1 x.vars.length vc1,U fs1 x.flds.length fc1] 28)).alloc (Cc #[Bb y.none,U vs2 y.vars.length vc2,U fs2 y.flds.length fc2] 28)).alloc (Cc #[Bb x.none,U vs1 x.vars.length vc1,U fs1 x.flds.length fc1,Bb y.none,U vs2 y.vars.length vc2,U fs2 y.flds.length fc2] 28)):=by go_grown
 have e3:(((w.alloc (Cc #[I Y V,I Y F,U s c.length cap] 24)).alloc (Cc #[Bb x.none,U vs1 x.vars.length vc1,U fs1 x.flds.length fc1] 28)).alloc (Cc #[Bb y.none,U vs2 y.vars.length vc2,U fs2 y.flds.length fc2] 28)).heap.size=w.heap.size+1+1+1:=by simp
 have d1:(aq V F c [x,y]!=0)=true:=by simpa using h
 have HB:Hid (Below w.heap.size w ((((w.alloc (Cc #[I Y V,I Y F,U s c.length cap] 24)).alloc (Cc #[Bb x.none,U vs1 x.vars.length vc1,U fs1 x.flds.length fc1] 28)).alloc (Cc #[Bb y.none,U vs2 y.vars.length vc2,U fs2 y.flds.length fc2] 28)).alloc (Cc #[Bb x.none,U vs1 x.vars.length vc1,U fs1 x.flds.length fc1,Bb y.none,U vs2 y.vars.length vc2,U fs2 y.flds.length fc2] 28))):=B0.trans (hbz.mono B0.size)
 generalize aq V F c [x,y]=ce at *
 clear h hx hy hcd PX PY P0 X0 Y0 C0 hbz
 rw[e3] at HC
 clear e3
 go_enter Tryz.func102,Tryz.ntmps102
 go_wp2_with (go_at_call 43;fail)
 refine HC.out.mono ?_
 rintro e w1 ⟨rfl,hb1⟩
 go_wp2
 refine bodyPost_ret (v:=Tu #[Bb false,I Y ce]) (by simp[results,Tryz.results102,go_sem]) rfl ⟨rfl,HB.out.trans (hb1.mono (by first|omega|exact HB.out.size))⟩

theorem uK (V F:Int)(s:Option Addr)(c:List Ins)(cap:Nat)(x:Pic)(vs1:Option Addr)(vc1:Nat)(fs1:Option Addr)(fc1:Nat)(y:Pic)(vs2:Option Addr)(vc2:Nat)(fs2:Option Addr)(fc2:Nat)(w:World)(hcd:CodeAt w s c)(hx:PicAt w x vs1 fs1)(h1:x.vars.length≤vc1∧vc1≤maxLen)(h2:x.flds.length≤fc1∧fc1≤maxLen)(hy:PicAt w y vs2 fs2)(h3:y.vars.length≤vc2∧vc2≤maxLen)(h4:y.flds.length≤fc2∧fc2≤maxLen)(h:aq V F c [x,y]=0)(hn:x.none=true∨y.none=true):
  Calls pG 102 #[pv V F s c cap,xv x vs1 vc1 fs1 fc1,xv y vs2 vc2 fs2 fc2] w λe w'=>e=Rt (Tu #[Bb (aT x y),I Y 0])∧Below w.heap.size w w':=by
 have B0:Below w.heap.size w (((w.alloc (Cc #[I Y V,I Y F,U s c.length cap] 24)).alloc (Cc #[Bb x.none,U vs1 x.vars.length vc1,U fs1 x.flds.length fc1] 28)).alloc (Cc #[Bb y.none,U vs2 y.vars.length vc2,U fs2 y.flds.length fc2] 28)):=by go_grown
 have P0:=(PrAt.new w V F s c cap).call (w':=(((w.alloc (Cc #[I Y V,I Y F,U s c.length cap] 24)).alloc (Cc #[Bb x.none,U vs1 x.vars.length vc1,U fs1 x.flds.length fc1] 28)).alloc (Cc #[Bb y.none,U vs2 y.vars.length vc2,U fs2 y.flds.length fc2] 28))) (by go_grown)
 have X0:=(XAt.new (w.alloc (Cc #[I Y V,I Y F,U s c.length cap] 24)) x vs1 vc1 fs1 fc1).call (w':=(((w.alloc (Cc #[I Y V,I Y F,U s c.length cap] 24)).alloc (Cc #[Bb x.none,U vs1 x.vars.length vc1,U fs1 x.flds.length fc1] 28)).alloc (Cc #[Bb y.none,U vs2 y.vars.length vc2,U fs2 y.flds.length fc2] 28))) (by go_grown)
 have Y0:=XAt.new ((w.alloc (Cc #[I Y V,I Y F,U s c.length cap] 24)).alloc (Cc #[Bb x.none,U vs1 x.vars.length vc1,U fs1 x.flds.length fc1] 28)) y vs2 vc2 fs2 fc2
 rw[zA] at X0
 rw[zA,zA] at Y0
 have C0:=hcd.below B0 (lR _)
 have PX:=hx.below B0 (lR _)
 have PY:=hy.below B0 (lR _)
 have HC:=aa (cQ V F s c cap (sO ⟨(((w.alloc (Cc #[I Y V,I Y F,U s c.length cap] 24)).alloc (Cc #[Bb x.none,U vs1 x.vars.length vc1,U fs1 x.flds.length fc1] 28)).alloc (Cc #[Bb y.none,U vs2 y.vars.length vc2,U fs2 y.flds.length fc2] 28)).heap.size,0,nO⟩) [x,y] 2 ((((w.alloc (Cc #[I Y V,I Y F,U s c.length cap] 24)).alloc (Cc #[Bb x.none,U vs1 x.vars.length vc1,U fs1 x.flds.length fc1] 28)).alloc (Cc #[Bb y.none,U vs2 y.vars.length vc2,U fs2 y.flds.length fc2] 28)).alloc (Cc #[Bb x.none,U vs1 x.vars.length vc1,U fs1 x.flds.length fc1,Bb y.none,U vs2 y.vars.length vc2,U fs2 y.flds.length fc2] 28)) (C0.call (by go_grown)) (XsAt.new2 (((w.alloc (Cc #[I Y V,I Y F,U s c.length cap] 24)).alloc (Cc #[Bb x.none,U vs1 x.vars.length vc1,U fs1 x.flds.length fc1] 28)).alloc (Cc #[Bb y.none,U vs2 y.vars.length vc2,U fs2 y.flds.length fc2] 28)) x vs1 vc1 fs1 fc1 y vs2 vc2 fs2 fc2 PX h1 h2 PY h3 h4) (by simp))
 have hbz:Below (((w.alloc (Cc #[I Y V,I Y F,U s c.length cap] 24)).alloc (Cc #[Bb x.none,U vs1 x.vars.length vc1,U fs1 x.flds.length fc1] 28)).alloc (Cc #[Bb y.none,U vs2 y.vars.length vc2,U fs2 y.flds.length fc2] 28)).heap.size (((w.alloc (Cc #[I Y V,I Y F,U s c.length cap] 24)).alloc (Cc #[Bb x.none,U vs1 x.vars.length vc1,U fs1 x.flds.length fc1] 28)).alloc (Cc #[Bb y.none,U vs2 y.vars.length vc2,U fs2 y.flds.length fc2] 28)) ((((w.alloc (Cc #[I Y V,I Y F,U s c.length cap] 24)).alloc (Cc #[Bb x.none,U vs1 x.vars.length vc1,U fs1 x.flds.length fc1] 28)).alloc (Cc #[Bb y.none,U vs2 y.vars.length vc2,U fs2 y.flds.length fc2] 28)).alloc (Cc #[Bb x.none,U vs1 x.vars.length vc1,U fs1 x.flds.length fc1,Bb y.none,U vs2 y.vars.length vc2,U fs2 y.flds.length fc2] 28)):=by go_grown
 have e3:(((w.alloc (Cc #[I Y V,I Y F,U s c.length cap] 24)).alloc (Cc #[Bb x.none,U vs1 x.vars.length vc1,U fs1 x.flds.length fc1] 28)).alloc (Cc #[Bb y.none,U vs2 y.vars.length vc2,U fs2 y.flds.length fc2] 28)).heap.size=w.heap.size+1+1+1:=by simp
 have HB:=aa hbz
 have er:aT x y=x.none:=by
  unfold aT
  rcases hn with hn|hn
  ·rw[hn];rfl
  ·rw[hn];cases x.none<;>rfl
 rw[er]
 rw[h,e3] at HC
 clear er h hx hy hcd PX PY P0 C0 hbz e3
 go_enter Tryz.func102,Tryz.ntmps102
 go_wp2_with (go_at_call 43;fail)
 refine HC.out.mono ?_
 rintro e w1 ⟨rfl,hb1⟩
 have hb01:Below (((w.alloc (Cc #[I Y V,I Y F,U s c.length cap] 24)).alloc (Cc #[Bb x.none,U vs1 x.vars.length vc1,U fs1 x.flds.length fc1] 28)).alloc (Cc #[Bb y.none,U vs2 y.vars.length vc2,U fs2 y.flds.length fc2] 28)).heap.size (((w.alloc (Cc #[I Y V,I Y F,U s c.length cap] 24)).alloc (Cc #[Bb x.none,U vs1 x.vars.length vc1,U fs1 x.flds.length fc1] 28)).alloc (Cc #[Bb y.none,U vs2 y.vars.length vc2,U fs2 y.flds.length fc2] 28)) w1:=HB.out.trans (hb1.mono (by first|exact HB.out.size|(simp;omega)|omega))
 obtain⟨⟨a0,a1,a2⟩,az,-⟩:=id (X0.call hb01)
 obtain⟨⟨b0,b1,b2⟩,bz,-⟩:=id (Y0.call hb01)
 have B1:=B0.trans (hb01.mono B0.size)
 clear X0 Y0 HB hb1 hb01 B0
 obtain⟨xn,vx,fx⟩:=x
 obtain⟨yn,vy,fy⟩:=y
 simp only at a0 a1 a2 b0 b1 b2 hn
 cases xn with
 |true=>
  go_wp2
  refine bodyPost_ret (v:=Tu #[Bb true,I Y 0]) (by simp[results,Tryz.results102,go_sem]) rfl ⟨rfl,B1⟩
 |false=>
  have hy:yn=true:=by simpa using hn
  subst hy
  go_wp2
  refine bodyPost_ret (v:=Tu #[Bb false,I Y 0]) (by simp[results,Tryz.results102,go_sem]) rfl ⟨rfl,B1⟩
theorem uB (V F:Int)(s:Option Addr)(c:List Ins)(cap:Nat)(x:Pic)(vs1:Option Addr)(vc1:Nat)(fs1:Option Addr)(fc1:Nat)(y:Pic)(vs2:Option Addr)(vc2:Nat)(fs2:Option Addr)(fc2:Nat)(w:World)(hcd:CodeAt w s c)(hx:PicAt w x vs1 fs1)(h1:x.vars.length≤vc1∧vc1≤maxLen)(h2:x.flds.length≤fc1∧fc1≤maxLen)(hy:PicAt w y vs2 fs2)(h3:y.vars.length≤vc2∧vc2≤maxLen)(h4:y.flds.length≤fc2∧fc2≤maxLen)(h:aq V F c [x,y]=0)(h0:ag V F c=0)(hcx:aE V F c x=0)(hcy:aE V F c y=0)(hn:x.none=false)(hm:y.none=false):
  Calls pG 102 #[pv V F s c cap,xv x vs1 vc1 fs1 fc1,xv y vs2 vc2 fs2 fc2] w λe w'=>e=Rt (Tu #[Bb (aT x y),I Y 0])∧Below w.heap.size w w':=by
 have B0:Below w.heap.size w (((w.alloc (Cc #[I Y V,I Y F,U s c.length cap] 24)).alloc (Cc #[Bb x.none,U vs1 x.vars.length vc1,U fs1 x.flds.length fc1] 28)).alloc (Cc #[Bb y.none,U vs2 y.vars.length vc2,U fs2 y.flds.length fc2] 28)):=by go_grown
 have P0:=(PrAt.new w V F s c cap).call (w':=(((w.alloc (Cc #[I Y V,I Y F,U s c.length cap] 24)).alloc (Cc #[Bb x.none,U vs1 x.vars.length vc1,U fs1 x.flds.length fc1] 28)).alloc (Cc #[Bb y.none,U vs2 y.vars.length vc2,U fs2 y.flds.length fc2] 28))) (by go_grown)
 have X0:=(XAt.new (w.alloc (Cc #[I Y V,I Y F,U s c.length cap] 24)) x vs1 vc1 fs1 fc1).call (w':=(((w.alloc (Cc #[I Y V,I Y F,U s c.length cap] 24)).alloc (Cc #[Bb x.none,U vs1 x.vars.length vc1,U fs1 x.flds.length fc1] 28)).alloc (Cc #[Bb y.none,U vs2 y.vars.length vc2,U fs2 y.flds.length fc2] 28))) (by go_grown)
 have Y0:=XAt.new ((w.alloc (Cc #[I Y V,I Y F,U s c.length cap] 24)).alloc (Cc #[Bb x.none,U vs1 x.vars.length vc1,U fs1 x.flds.length fc1] 28)) y vs2 vc2 fs2 fc2
 rw[zA] at X0
 rw[zA,zA] at Y0
 have C0:=hcd.below B0 (lR _)
 have PX:=hx.below B0 (lR _)
 have PY:=hy.below B0 (lR _)
 have HC:=aa (cQ V F s c cap (sO ⟨(((w.alloc (Cc #[I Y V,I Y F,U s c.length cap] 24)).alloc (Cc #[Bb x.none,U vs1 x.vars.length vc1,U fs1 x.flds.length fc1] 28)).alloc (Cc #[Bb y.none,U vs2 y.vars.length vc2,U fs2 y.flds.length fc2] 28)).heap.size,0,nO⟩) [x,y] 2 ((((w.alloc (Cc #[I Y V,I Y F,U s c.length cap] 24)).alloc (Cc #[Bb x.none,U vs1 x.vars.length vc1,U fs1 x.flds.length fc1] 28)).alloc (Cc #[Bb y.none,U vs2 y.vars.length vc2,U fs2 y.flds.length fc2] 28)).alloc (Cc #[Bb x.none,U vs1 x.vars.length vc1,U fs1 x.flds.length fc1,Bb y.none,U vs2 y.vars.length vc2,U fs2 y.flds.length fc2] 28)) (C0.call (by go_grown)) (XsAt.new2 (((w.alloc (Cc #[I Y V,I Y F,U s c.length cap] 24)).alloc (Cc #[Bb x.none,U vs1 x.vars.length vc1,U fs1 x.flds.length fc1] 28)).alloc (Cc #[Bb y.none,U vs2 y.vars.length vc2,U fs2 y.flds.length fc2] 28)) x vs1 vc1 fs1 fc1 y vs2 vc2 fs2 fc2 PX h1 h2 PY h3 h4) (by simp))
 have hbz:Below (((w.alloc (Cc #[I Y V,I Y F,U s c.length cap] 24)).alloc (Cc #[Bb x.none,U vs1 x.vars.length vc1,U fs1 x.flds.length fc1] 28)).alloc (Cc #[Bb y.none,U vs2 y.vars.length vc2,U fs2 y.flds.length fc2] 28)).heap.size (((w.alloc (Cc #[I Y V,I Y F,U s c.length cap] 24)).alloc (Cc #[Bb x.none,U vs1 x.vars.length vc1,U fs1 x.flds.length fc1] 28)).alloc (Cc #[Bb y.none,U vs2 y.vars.length vc2,U fs2 y.flds.length fc2] 28)) ((((w.alloc (Cc #[I Y V,I Y F,U s c.length cap] 24)).alloc (Cc #[Bb x.none,U vs1 x.vars.length vc1,U fs1 x.flds.length fc1] 28)).alloc (Cc #[Bb y.none,U vs2 y.vars.length vc2,U fs2 y.flds.length fc2] 28)).alloc (Cc #[Bb x.none,U vs1 x.vars.length vc1,U fs1 x.flds.length fc1,Bb y.none,U vs2 y.vars.length vc2,U fs2 y.flds.length fc2] 28)):=by go_grown
 have e3:(((w.alloc (Cc #[I Y V,I Y F,U s c.length cap] 24)).alloc (Cc #[Bb x.none,U vs1 x.vars.length vc1,U fs1 x.flds.length fc1] 28)).alloc (Cc #[Bb y.none,U vs2 y.vars.length vc2,U fs2 y.flds.length fc2] 28)).heap.size=w.heap.size+1+1+1:=by simp
 have HB:=aa hbz
 obtain⟨ei,el,rx,ry⟩:=AL hcx hcy hn hm
 have hfx:bF V F c x=true:=by
  unfold aE at hcx
  split at hcx
  ·cases hcx
  ·rename_i hq;simpa using hq
 have hfy:bF V F c y=true:=by
  unfold aE at hcy
  split at hcy
  ·cases hcy
  ·rename_i hq;simpa using hq
 obtain⟨lx,lx'⟩:=iK h0 hfx
 obtain⟨ly,ly'⟩:=iK h0 hfy
 obtain⟨-,-,h60⟩:=bQ h0
 have HAX:Hid (∀wx,PicAt wx x vs1 fs1→Calls pG 138 #[xv x vs1 vc1 fs1 fc1] wx λe w'=>oG w' e (bL x)∧Below wx.heap.size wx w'):=λwx hx=>oN x vs1 vc1 fs1 fc1 wx hx h1.1 h1.2 (by omega) lx
 have HAY:Hid (∀wx,PicAt wx y vs2 fs2→Calls pG 138 #[xv y vs2 vc2 fs2 fc2] wx λe w'=>oG w' e (bL y)∧Below wx.heap.size wx w'):=λwx hx=>oN y vs2 vc2 fs2 fc2 wx hx h3.1 h3.2 (by omega) ly
 have HW:Hid (∀(g:Gs) (ss:Option Addr) (gc:Nat) (h:Gs) (st:Option Addr) (hc:Nat) (wx:World),CodeAt wx s c→IntsAt wx ss g.s→g.s.length≤gc→gc≤maxLen→IntsAt wx st h.s→h.s.length≤hc→hc≤maxLen→aw c g=0→aw c h=0→Calls pG 166 #[pv V F s c cap,gv g ss gc,gv h st hc] wx λe w'=>e=Rt (Bb (cB g h))∧Below wx.heap.size wx w'):=λg ss gc h st hc wx a1 a2 a3 a4 a5 a6 a7 a8 a9=>uY V F s c cap g ss gc h st hc wx a1 a2 a3 a4 a5 a6 a7 h0 a8 a9
 rw[←ei]
 obtain⟨ax,eax⟩:∃ax,ax=bL x:=⟨_,rfl⟩
 obtain⟨ay,eay⟩:∃ay,ay=bL y:=⟨_,rfl⟩
 rw[←eax] at HAX rx el lx ⊢
 rw[←eay] at HAY ry el ly ⊢
 obtain⟨res,HR,hres⟩:∃r,Hid (r=fg ax ay)∧fg ax ay=r:=⟨_,rfl,rfl⟩
 rw[hres]
 have HNN:=aa hn
 have HMM:=aa hm
 have EL:=aa el
 have RX:=aa rx
 have RY:=aa ry
 rw[h,e3] at HC
 clear hn hm h ei el rx ry eax eay hres hcx hcy hfx hfy lx' ly' h0 hx hy hcd hbz e3
 go_enter Tryz.func102,Tryz.ntmps102
 go_wp2_with (go_at_call 43;fail)
 refine HC.out.mono ?_
 rintro e w1 ⟨rfl,hb1⟩
 have hb01:Below (((w.alloc (Cc #[I Y V,I Y F,U s c.length cap] 24)).alloc (Cc #[Bb x.none,U vs1 x.vars.length vc1,U fs1 x.flds.length fc1] 28)).alloc (Cc #[Bb y.none,U vs2 y.vars.length vc2,U fs2 y.flds.length fc2] 28)).heap.size (((w.alloc (Cc #[I Y V,I Y F,U s c.length cap] 24)).alloc (Cc #[Bb x.none,U vs1 x.vars.length vc1,U fs1 x.flds.length fc1] 28)).alloc (Cc #[Bb y.none,U vs2 y.vars.length vc2,U fs2 y.flds.length fc2] 28)) w1:=HB.out.trans (hb1.mono (by first|exact HB.out.size|(simp;omega)|omega))
 have X1:=X0.call hb01
 have Y1:=Y0.call hb01
 have P1:=P0.call hb01
 have C1:=C0.call hb01
 have QX:=PX.call hb01
 have QY:=PY.call hb01
 have B1:=B0.trans (hb01.mono B0.size)
 clear X0 Y0 P0 C0 PX PY HB hb1 hb01 B0 HC
 have hn:=HNN.out
 have hm:=HMM.out
 clear HNN HMM
 obtain⟨xn,vx,fx⟩:=x
 obtain⟨yn,vy,fy⟩:=y
 simp only at hn hm
 subst hn hm
 obtain⟨⟨a0,a1,a2⟩,az,-⟩:=id X1
 obtain⟨⟨b0,b1,b2⟩,bz,-⟩:=id Y1
 go_wp2_with (go_at_call 138;fail)
 refine(HAY.out _ QY).mono ?_
 rintro e w2 ⟨⟨rs2,rc2,rfl,GY,ky1,ky2⟩,hb2⟩
 clear a0 a1 a2 az b0 b1 b2 bz
 obtain⟨⟨a0,a1,a2⟩,az,-⟩:=id (X1.call hb2)
 go_wp2_with (go_at_call 138;fail)
 refine(HAX.out _ (QX.call hb2)).mono ?_
 rintro e w3 ⟨⟨rs1,rc1,rfl,GX,kx1,kx2⟩,hb3⟩
 clear a0 a1 a2 az HAX HAY
 have hb13:=hb2.trans (hb3.mono hb2.size)
 have P3:=P1.call hb13
 have C4:=C1.call hb13
 have GY3:=GY.call hb3
 have B3:=B1.trans (hb13.mono B1.size)
 clear P1 C1 X1 Y1 QX QY GY hb2 hb3 hb13 B1
 go_wp2
 go_loopw [33] (λi wr=>∃k:Nat,k≤ax.length∧i=I Y k∧Below w3.heap.size w3 wr∧Hid (res=fg (ax.drop k) (ay.drop k))) (λi _=>ax.length - (intOf i).toNat)
 case atStart=>exact⟨0,j0 _,rfl,bR _ _,HR⟩
 case round=>
  obtain⟨k,hk,rfl,hbr,HK⟩:=hrel
  by_cases hlt:k < ax.length
  ·have n0:(0:Int)≤(k:Int):=by omega
   have n1:(k:Int) < (ax.length:Int):=by omega
   have hlt':k < ay.length:=by have:=EL.out;omega
   have n2:(k:Int) < (ay.length:Int):=by omega
   obtain⟨b1,o1,e1,ss1,g1,G1,I1,k1,m1⟩:=(GX.below hbr (lR _)) k hlt
   obtain⟨b2,o2,e2,ss2,g2,G2,J1,k2,m2⟩:=(GY3.below hbr (lR _)) k hlt'
   subst e1 e2
   have hRx:=RX.out _ (gM hlt)
   have hRy:=RY.out _ (gM hlt')
   have HS:=aa (yT ax ay k hlt hlt')
   obtain⟨⟨q0,q1,q2,q3,q4,q5,q6⟩,qz⟩:=id G1
   have Q4:=GuAt.new wr ax[k] ss1 g1
   have hb4:Below wr.heap.size wr (wr.alloc (Cc #[Bb ax[k].n,Bb ax[k].sp.n,I Y ax[k].sp.lo,I Y ax[k].sp.hi,Bb ax[k].t,Bb ax[k].f,U ss1 ax[k].s.length g1] 91)):=by go_grown
   have I4:=I1.call hb4
   have J4:=J1.call hb4
   have G4:=G2.call hb4
   have hb34:=hbr.trans (hb4.mono hbr.size)
   go_upto_region 10 with fail
   generalize wr.alloc (Cc #[Bb ax[k].n,Bb ax[k].sp.n,I Y ax[k].sp.lo,I Y ax[k].sp.hi,Bb ax[k].t,Bb ax[k].f,U ss1 ax[k].s.length g1] 91)=w4 at *
   generalize wr.heap.size=qb at *
   clear q0 q1 q2 q3 q4 q5 q6 qz G1 G2 I1 J1
   have HKZ:Hid (∀wx,Below w4.heap.size w4 wx→(wx.cell? ⟨w.heap.size,0,nO⟩=sO (I Y V)∧wx.cell? ⟨w.heap.size,1,nO⟩=sO (I Y F)∧wx.cell? ⟨w.heap.size,2,nO⟩=sO (U s c.length cap))∧(wx.cell? ⟨qb,0,nO⟩=sO (Bb ax[k].n)∧wx.cell? ⟨qb,0+1,nO⟩=sO (Bb ax[k].sp.n)∧wx.cell? ⟨qb,0+2,nO⟩=sO (I Y ax[k].sp.lo)∧wx.cell? ⟨qb,0+3,nO⟩=sO (I Y ax[k].sp.hi)∧wx.cell? ⟨qb,0+4,nO⟩=sO (Bb ax[k].t)∧wx.cell? ⟨qb,0+5,nO⟩=sO (Bb ax[k].f)∧wx.cell? ⟨qb,0+6,nO⟩=sO (U ss1 ax[k].s.length g1))∧(wx.cell? ⟨b2,o2+k * 7,nO⟩=sO (Bb ay[k].n)∧wx.cell? ⟨b2,o2+k * 7+1,nO⟩=sO (Bb ay[k].sp.n)∧wx.cell? ⟨b2,o2+k * 7+2,nO⟩=sO (I Y ay[k].sp.lo)∧wx.cell? ⟨b2,o2+k * 7+3,nO⟩=sO (I Y ay[k].sp.hi)∧wx.cell? ⟨b2,o2+k * 7+4,nO⟩=sO (Bb ay[k].t)∧wx.cell? ⟨b2,o2+k * 7+5,nO⟩=sO (Bb ay[k].f)∧wx.cell? ⟨b2,o2+k * 7+6,nO⟩=sO (U ss2 ay[k].s.length g2))):=λwx hx=>⟨((P3.call hb34).call hx).1,(Q4.call hx).1,(G4.call hx).1⟩
   have HD:Below w4.heap.size w4 w4.drew:=(bR _ _).drew
   refine an (S:=(λwx=>(wx.cell? ⟨w.heap.size,0,nO⟩=sO (I Y V)∧wx.cell? ⟨w.heap.size,1,nO⟩=sO (I Y F)∧wx.cell? ⟨w.heap.size,2,nO⟩=sO (U s c.length cap))∧(wx.cell? ⟨qb,0,nO⟩=sO (Bb ax[k].n)∧wx.cell? ⟨qb,0+1,nO⟩=sO (Bb ax[k].sp.n)∧wx.cell? ⟨qb,0+2,nO⟩=sO (I Y ax[k].sp.lo)∧wx.cell? ⟨qb,0+3,nO⟩=sO (I Y ax[k].sp.hi)∧wx.cell? ⟨qb,0+4,nO⟩=sO (Bb ax[k].t)∧wx.cell? ⟨qb,0+5,nO⟩=sO (Bb ax[k].f)∧wx.cell? ⟨qb,0+6,nO⟩=sO (U ss1 ax[k].s.length g1))∧(wx.cell? ⟨b2,o2+k * 7,nO⟩=sO (Bb ay[k].n)∧wx.cell? ⟨b2,o2+k * 7+1,nO⟩=sO (Bb ay[k].sp.n)∧wx.cell? ⟨b2,o2+k * 7+2,nO⟩=sO (I Y ay[k].sp.lo)∧wx.cell? ⟨b2,o2+k * 7+3,nO⟩=sO (I Y ay[k].sp.hi)∧wx.cell? ⟨b2,o2+k * 7+4,nO⟩=sO (Bb ay[k].t)∧wx.cell? ⟨b2,o2+k * 7+5,nO⟩=sO (Bb ay[k].f)∧wx.cell? ⟨b2,o2+k * 7+6,nO⟩=sO (U ss2 ay[k].s.length g2)))) [] (by kernel_rfl) (HKZ.out _ HD) (λhHeld=> ?_)
   refine vZ 0 ?_ ?_
   refine vZ 1 ?_ ?_
   refine vZ 2 ?_ ?_
   refine vZ 3 ?_ ?_
   refine vZ 4 ?_ ?_
   refine vZ 5 ?_ ?_
   refine ai (i:=6) rfl (by kernel_rfl) (λK hK=> ?_)
   go_simp
   go_at_call 166
   refine(HW.out ax[k] ss1 g1 ay[k] ss2 g2 _ (C4.call (hb34.trans (HD.mono hb34.size))) (I4.call HD) k1 m1 (J4.call HD) k2 m2 hRx hRy).mono ?_
   rintro e w5 ⟨rfl,hb5⟩
   have HB5:Below w4.heap.size w4 w5:=HD.trans (hb5.mono HD.size)
   go_wp2_with fail
   refine hK.out _ _ (HKZ.out _ HB5) (λhHeld=> ?_)
   clear hK K
   refine sm ?_
   refine vZ 7 ?_ ?_
   refine aj (by kernel_rfl) ?_ _
   have hb35:=hb34.trans (HB5.mono hb34.size)
   rcases (show cB ax[k] ay[k]=false∨cB ax[k] ay[k]=true by cases cB ax[k] ay[k]<;>simp) with hs|hs<;>have HSG:=aa hs<;>rw[hs]<;>clear hs
   ·go_wp2
    refine bodyPost_ret (v:=Tu #[Bb false,I Y 0]) (by simp[results,Tryz.results102,go_sem]) rfl ⟨?_,B3.trans (hb35.mono B3.size)⟩
    rw[HK.out,HS.out,HSG.out]
    rfl
   ·go_wp2
    go_roundw
    case rel=>exact⟨k+1,by omega,by go_num,hb35,by show _=_;rw[HK.out,HS.out,HSG.out];rfl⟩
    case measure=>simp[intOf];omega
  ·have n1:¬(k:Int) < (ax.length:Int):=by omega
   go_wp2
   refine bodyPost_ret (v:=Tu #[Bb true,I Y 0]) (by simp[results,Tryz.results102,go_sem]) rfl ⟨?_,B3.trans (hbr.mono B3.size)⟩
   rw[HK.out,j1 (by omega)]
   rfl

theorem Dg (V F:Int)(s:Option Addr)(c:List Ins)(cap:Nat)(x:Pic)(vs1:Option Addr)(vc1:Nat)(fs1:Option Addr)(fc1:Nat)(y:Pic)(vs2:Option Addr)(vc2:Nat)(fs2:Option Addr)(fc2:Nat)(w:World)(hcd:CodeAt w s c)(hx:PicAt w x vs1 fs1)(h1:x.vars.length≤vc1∧vc1≤maxLen)(h2:x.flds.length≤fc1∧fc1≤maxLen)(hy:PicAt w y vs2 fs2)(h3:y.vars.length≤vc2∧vc2≤maxLen)(h4:y.flds.length≤fc2∧fc2≤maxLen):
  Calls pG 102 #[pv V F s c cap,xv x vs1 vc1 fs1 fc1,xv y vs2 vc2 fs2 fc2] w λe w'=>e=Rt (Tu #[Bb (if aq V F c [x,y]=0 then aT x y else false),I Y (aq V F c [x,y])])∧Below w.heap.size w w':=by
 by_cases h:aq V F c [x,y]=0
 ·rw[h,if_pos rfl]
  have h0:ag V F c=0:=by
   unfold aq at h
   split at h
   ·assumption
   ·exact h
  have hl:bW V F c [x,y]=0:=by
   unfold aq at h
   rw[if_pos h0] at h
   exact h
  have hcx:aE V F c x=0:=by
   unfold bW at hl
   split at hl
   ·assumption
   ·exact hl
  have hcy:aE V F c y=0:=by
   unfold bW at hl
   rw[if_pos hcx] at hl
   unfold bW at hl
   split at hl
   ·assumption
   ·exact hl
  by_cases hn:x.none=true∨y.none=true
  ·exact uK V F s c cap x vs1 vc1 fs1 fc1 y vs2 vc2 fs2 fc2 w hcd hx h1 h2 hy h3 h4 h hn
  ·exact uB V F s c cap x vs1 vc1 fs1 fc1 y vs2 vc2 fs2 fc2 w hcd hx h1 h2 hy h3 h4 h h0 hcx hcy (by cases hq:x.none<;>simp_all) (by cases hq:y.none<;>simp_all)
 ·rw[if_neg h]
  exact wO V F s c cap x vs1 vc1 fs1 fc1 y vs2 vc2 fs2 fc2 w hcd hx h1 h2 hy h3 h4 h
theorem wf (V F:Int)(s:Option Addr)(c:List Ins)(cap:Nat)(x:Pic)(vs1:Option Addr)(vc1:Nat)(fs1:Option Addr)(fc1:Nat)(r:St)(rv:Option Addr)(rvc:Nat)(rt:Option Addr)(rtc:Nat)(rl:Option Addr)(rlc:Nat)(w:World)(hcd:CodeAt w s c)(hx:PicAt w x vs1 fs1)(h1:x.vars.length≤vc1∧vc1≤maxLen)(h2:x.flds.length≤fc1∧fc1≤maxLen)(hl:fA r)(hr:RunAt w r rv rt rl)(h:aq V F c [x]≠0):
  Calls pG 13 #[pv V F s c cap,xv x vs1 vc1 fs1 fc1,eY r rv rvc rt rtc rl rlc] w λe w'=>e=Rt (Tu #[Bb false,I Y (aq V F c [x])])∧Below w.heap.size w w':=by
 have B0:Below w.heap.size w (((w.alloc (Cc #[I Y V,I Y F,U s c.length cap] 24)).alloc (Cc #[Bb x.none,U vs1 x.vars.length vc1,U fs1 x.flds.length fc1] 28)).alloc (Cc #[I Y r.at_,U rv r.vars.length rvc,U rt r.things.length rtc,I Y r.taken,U rl r.lines.length rlc,I Y r.fin] 33)):=by go_grown
 have P0:=(PrAt.new w V F s c cap).call (w':=(((w.alloc (Cc #[I Y V,I Y F,U s c.length cap] 24)).alloc (Cc #[Bb x.none,U vs1 x.vars.length vc1,U fs1 x.flds.length fc1] 28)).alloc (Cc #[I Y r.at_,U rv r.vars.length rvc,U rt r.things.length rtc,I Y r.taken,U rl r.lines.length rlc,I Y r.fin] 33))) (by go_grown)
 have X0:=(XAt.new (w.alloc (Cc #[I Y V,I Y F,U s c.length cap] 24)) x vs1 vc1 fs1 fc1).call (w':=(((w.alloc (Cc #[I Y V,I Y F,U s c.length cap] 24)).alloc (Cc #[Bb x.none,U vs1 x.vars.length vc1,U fs1 x.flds.length fc1] 28)).alloc (Cc #[I Y r.at_,U rv r.vars.length rvc,U rt r.things.length rtc,I Y r.taken,U rl r.lines.length rlc,I Y r.fin] 33))) (by go_grown)
 have R0:=R6.new ((w.alloc (Cc #[I Y V,I Y F,U s c.length cap] 24)).alloc (Cc #[Bb x.none,U vs1 x.vars.length vc1,U fs1 x.flds.length fc1] 28)) 33 (I Y r.at_) (U rv r.vars.length rvc) (U rt r.things.length rtc) (I Y r.taken) (U rl r.lines.length rlc) (I Y r.fin)
 rw[zA] at X0
 rw[zA,zA] at R0
 have C0:=hcd.below B0 (lR _)
 have PX:=hx.below B0 (lR _)
 have HC:=aa (cQ V F s c cap (sO ⟨(((w.alloc (Cc #[I Y V,I Y F,U s c.length cap] 24)).alloc (Cc #[Bb x.none,U vs1 x.vars.length vc1,U fs1 x.flds.length fc1] 28)).alloc (Cc #[I Y r.at_,U rv r.vars.length rvc,U rt r.things.length rtc,I Y r.taken,U rl r.lines.length rlc,I Y r.fin] 33)).heap.size,0,nO⟩) [x] 1 ((((w.alloc (Cc #[I Y V,I Y F,U s c.length cap] 24)).alloc (Cc #[Bb x.none,U vs1 x.vars.length vc1,U fs1 x.flds.length fc1] 28)).alloc (Cc #[I Y r.at_,U rv r.vars.length rvc,U rt r.things.length rtc,I Y r.taken,U rl r.lines.length rlc,I Y r.fin] 33)).alloc (Cc #[Bb x.none,U vs1 x.vars.length vc1,U fs1 x.flds.length fc1] 28)) (C0.call (by go_grown)) (XsAt.new1 (((w.alloc (Cc #[I Y V,I Y F,U s c.length cap] 24)).alloc (Cc #[Bb x.none,U vs1 x.vars.length vc1,U fs1 x.flds.length fc1] 28)).alloc (Cc #[I Y r.at_,U rv r.vars.length rvc,U rt r.things.length rtc,I Y r.taken,U rl r.lines.length rlc,I Y r.fin] 33)) x vs1 vc1 fs1 fc1 PX h1 h2) (by simp))
 have hbz:Below (((w.alloc (Cc #[I Y V,I Y F,U s c.length cap] 24)).alloc (Cc #[Bb x.none,U vs1 x.vars.length vc1,U fs1 x.flds.length fc1] 28)).alloc (Cc #[I Y r.at_,U rv r.vars.length rvc,U rt r.things.length rtc,I Y r.taken,U rl r.lines.length rlc,I Y r.fin] 33)).heap.size (((w.alloc (Cc #[I Y V,I Y F,U s c.length cap] 24)).alloc (Cc #[Bb x.none,U vs1 x.vars.length vc1,U fs1 x.flds.length fc1] 28)).alloc (Cc #[I Y r.at_,U rv r.vars.length rvc,U rt r.things.length rtc,I Y r.taken,U rl r.lines.length rlc,I Y r.fin] 33)) ((((w.alloc (Cc #[I Y V,I Y F,U s c.length cap] 24)).alloc (Cc #[Bb x.none,U vs1 x.vars.length vc1,U fs1 x.flds.length fc1] 28)).alloc (Cc #[I Y r.at_,U rv r.vars.length rvc,U rt r.things.length rtc,I Y r.taken,U rl r.lines.length rlc,I Y r.fin] 33)).alloc (Cc #[Bb x.none,U vs1 x.vars.length vc1,U fs1 x.flds.length fc1] 28)):=by go_grown
 have e3:(((w.alloc (Cc #[I Y V,I Y F,U s c.length cap] 24)).alloc (Cc #[Bb x.none,U vs1 x.vars.length vc1,U fs1 x.flds.length fc1] 28)).alloc (Cc #[I Y r.at_,U rv r.vars.length rvc,U rt r.things.length rtc,I Y r.taken,U rl r.lines.length rlc,I Y r.fin] 33)).heap.size=w.heap.size+1+1+1:=by simp
 have HB:=aa hbz
 rw[e3] at HC
 unfold eY
 have d1:(aq V F c [x]!=0)=true:=by simpa using h
 generalize aq V F c [x]=ce at *
 clear h hcd hx hr PX P0 X0 R0 C0 hbz
 go_enter Tryz.func13,Tryz.ntmps13
 go_wp2_with (go_at_call 43;fail)
 refine HC.out.mono ?_
 rintro e w1 ⟨rfl,hb1⟩
 have hb01:Below (((w.alloc (Cc #[I Y V,I Y F,U s c.length cap] 24)).alloc (Cc #[Bb x.none,U vs1 x.vars.length vc1,U fs1 x.flds.length fc1] 28)).alloc (Cc #[I Y r.at_,U rv r.vars.length rvc,U rt r.things.length rtc,I Y r.taken,U rl r.lines.length rlc,I Y r.fin] 33)).heap.size (((w.alloc (Cc #[I Y V,I Y F,U s c.length cap] 24)).alloc (Cc #[Bb x.none,U vs1 x.vars.length vc1,U fs1 x.flds.length fc1] 28)).alloc (Cc #[I Y r.at_,U rv r.vars.length rvc,U rt r.things.length rtc,I Y r.taken,U rl r.lines.length rlc,I Y r.fin] 33)) w1:=HB.out.trans (hb1.mono (by first|exact HB.out.size|(simp;omega)|omega))
 have B1:=B0.trans (hb01.mono B0.size)
 clear HB hb1 hb01 B0 HC e3
 go_wp2
 refine bodyPost_ret (v:=Tu #[Bb false,I Y ce]) (by simp[results,Tryz.results13,go_sem]) rfl ⟨rfl,B1⟩
theorem vR (V F:Int)(s:Option Addr)(c:List Ins)(cap:Nat)(x:Pic)(vs1:Option Addr)(vc1:Nat)(fs1:Option Addr)(fc1:Nat)(r:St)(rv:Option Addr)(rvc:Nat)(rt:Option Addr)(rtc:Nat)(rl:Option Addr)(rlc:Nat)(w:World)(hcd:CodeAt w s c)(hx:PicAt w x vs1 fs1)(h1:x.vars.length≤vc1∧vc1≤maxLen)(h2:x.flds.length≤fc1∧fc1≤maxLen)(hl:fA r)(hr:RunAt w r rv rt rl)(h:aq V F c [x]=0)(h':b9 V F c r≠0):
  Calls pG 13 #[pv V F s c cap,xv x vs1 vc1 fs1 fc1,eY r rv rvc rt rtc rl rlc] w λe w'=>e=Rt (Tu #[Bb false,I Y (b9 V F c r)])∧Below w.heap.size w w':=by
 have B0:Below w.heap.size w (((w.alloc (Cc #[I Y V,I Y F,U s c.length cap] 24)).alloc (Cc #[Bb x.none,U vs1 x.vars.length vc1,U fs1 x.flds.length fc1] 28)).alloc (Cc #[I Y r.at_,U rv r.vars.length rvc,U rt r.things.length rtc,I Y r.taken,U rl r.lines.length rlc,I Y r.fin] 33)):=by go_grown
 have P0:=(PrAt.new w V F s c cap).call (w':=(((w.alloc (Cc #[I Y V,I Y F,U s c.length cap] 24)).alloc (Cc #[Bb x.none,U vs1 x.vars.length vc1,U fs1 x.flds.length fc1] 28)).alloc (Cc #[I Y r.at_,U rv r.vars.length rvc,U rt r.things.length rtc,I Y r.taken,U rl r.lines.length rlc,I Y r.fin] 33))) (by go_grown)
 have X0:=(XAt.new (w.alloc (Cc #[I Y V,I Y F,U s c.length cap] 24)) x vs1 vc1 fs1 fc1).call (w':=(((w.alloc (Cc #[I Y V,I Y F,U s c.length cap] 24)).alloc (Cc #[Bb x.none,U vs1 x.vars.length vc1,U fs1 x.flds.length fc1] 28)).alloc (Cc #[I Y r.at_,U rv r.vars.length rvc,U rt r.things.length rtc,I Y r.taken,U rl r.lines.length rlc,I Y r.fin] 33))) (by go_grown)
 have R0:=R6.new ((w.alloc (Cc #[I Y V,I Y F,U s c.length cap] 24)).alloc (Cc #[Bb x.none,U vs1 x.vars.length vc1,U fs1 x.flds.length fc1] 28)) 33 (I Y r.at_) (U rv r.vars.length rvc) (U rt r.things.length rtc) (I Y r.taken) (U rl r.lines.length rlc) (I Y r.fin)
 rw[zA] at X0
 rw[zA,zA] at R0
 have C0:=hcd.below B0 (lR _)
 have PX:=hx.below B0 (lR _)
 have HC:=aa (cQ V F s c cap (sO ⟨(((w.alloc (Cc #[I Y V,I Y F,U s c.length cap] 24)).alloc (Cc #[Bb x.none,U vs1 x.vars.length vc1,U fs1 x.flds.length fc1] 28)).alloc (Cc #[I Y r.at_,U rv r.vars.length rvc,U rt r.things.length rtc,I Y r.taken,U rl r.lines.length rlc,I Y r.fin] 33)).heap.size,0,nO⟩) [x] 1 ((((w.alloc (Cc #[I Y V,I Y F,U s c.length cap] 24)).alloc (Cc #[Bb x.none,U vs1 x.vars.length vc1,U fs1 x.flds.length fc1] 28)).alloc (Cc #[I Y r.at_,U rv r.vars.length rvc,U rt r.things.length rtc,I Y r.taken,U rl r.lines.length rlc,I Y r.fin] 33)).alloc (Cc #[Bb x.none,U vs1 x.vars.length vc1,U fs1 x.flds.length fc1] 28)) (C0.call (by go_grown)) (XsAt.new1 (((w.alloc (Cc #[I Y V,I Y F,U s c.length cap] 24)).alloc (Cc #[Bb x.none,U vs1 x.vars.length vc1,U fs1 x.flds.length fc1] 28)).alloc (Cc #[I Y r.at_,U rv r.vars.length rvc,U rt r.things.length rtc,I Y r.taken,U rl r.lines.length rlc,I Y r.fin] 33)) x vs1 vc1 fs1 fc1 PX h1 h2) (by simp))
 have hbz:Below (((w.alloc (Cc #[I Y V,I Y F,U s c.length cap] 24)).alloc (Cc #[Bb x.none,U vs1 x.vars.length vc1,U fs1 x.flds.length fc1] 28)).alloc (Cc #[I Y r.at_,U rv r.vars.length rvc,U rt r.things.length rtc,I Y r.taken,U rl r.lines.length rlc,I Y r.fin] 33)).heap.size (((w.alloc (Cc #[I Y V,I Y F,U s c.length cap] 24)).alloc (Cc #[Bb x.none,U vs1 x.vars.length vc1,U fs1 x.flds.length fc1] 28)).alloc (Cc #[I Y r.at_,U rv r.vars.length rvc,U rt r.things.length rtc,I Y r.taken,U rl r.lines.length rlc,I Y r.fin] 33)) ((((w.alloc (Cc #[I Y V,I Y F,U s c.length cap] 24)).alloc (Cc #[Bb x.none,U vs1 x.vars.length vc1,U fs1 x.flds.length fc1] 28)).alloc (Cc #[I Y r.at_,U rv r.vars.length rvc,U rt r.things.length rtc,I Y r.taken,U rl r.lines.length rlc,I Y r.fin] 33)).alloc (Cc #[Bb x.none,U vs1 x.vars.length vc1,U fs1 x.flds.length fc1] 28)):=by go_grown
 have e3:(((w.alloc (Cc #[I Y V,I Y F,U s c.length cap] 24)).alloc (Cc #[Bb x.none,U vs1 x.vars.length vc1,U fs1 x.flds.length fc1] 28)).alloc (Cc #[I Y r.at_,U rv r.vars.length rvc,U rt r.things.length rtc,I Y r.taken,U rl r.lines.length rlc,I Y r.fin] 33)).heap.size=w.heap.size+1+1+1:=by simp
 have HB:=aa hbz
 rw[e3] at HC
 unfold eY
 have HRC:Hid (∀wx,Below w.heap.size w wx→Calls pG 42 #[Ag #[I Y V,I Y F,U s c.length cap],Ag #[I Y r.at_,U rv r.vars.length rvc,U rt r.things.length rtc,I Y r.taken,U rl r.lines.length rlc,I Y r.fin]] wx λe w'=>e=Rt (I Y (b9 V F c r))∧Below wx.heap.size wx w'):=λwx hx=>fR V F s c cap r rv rvc rt rtc rl rlc wx (hcd.below hx (lR _)) hl (hr.below hx (lR _))
 have d1:(b9 V F c r !=0)=true:=by simpa using h'
 rw[h] at HC
 generalize b9 V F c r=ce at *
 clear h h' hcd hx hr PX C0 hbz
 go_enter Tryz.func13,Tryz.ntmps13
 go_wp2_with (go_at_call 43;fail)
 refine HC.out.mono ?_
 rintro e w1 ⟨rfl,hb1⟩
 have hb01:Below (((w.alloc (Cc #[I Y V,I Y F,U s c.length cap] 24)).alloc (Cc #[Bb x.none,U vs1 x.vars.length vc1,U fs1 x.flds.length fc1] 28)).alloc (Cc #[I Y r.at_,U rv r.vars.length rvc,U rt r.things.length rtc,I Y r.taken,U rl r.lines.length rlc,I Y r.fin] 33)).heap.size (((w.alloc (Cc #[I Y V,I Y F,U s c.length cap] 24)).alloc (Cc #[Bb x.none,U vs1 x.vars.length vc1,U fs1 x.flds.length fc1] 28)).alloc (Cc #[I Y r.at_,U rv r.vars.length rvc,U rt r.things.length rtc,I Y r.taken,U rl r.lines.length rlc,I Y r.fin] 33)) w1:=HB.out.trans (hb1.mono (by first|exact HB.out.size|(simp;omega)|omega))
 have B1:=B0.trans (hb01.mono B0.size)
 have R1:=R0.call hb01
 have X1:=X0.call hb01
 have P1:=P0.call hb01
 have z1:w.heap.size+1+1+1≤w1.heap.size:=by have:=hb01.size;omega
 clear HB hb1 hb01 R0 X0 P0 HC e3
 obtain⟨⟨p0,p1,p2⟩,pz⟩:=id P1
 obtain⟨⟨r0,r1,r2,r3,r4,r5⟩,rz,rf⟩:=id R1
 go_wp2_with (go_at_call 42;fail)
 refine(HRC.out w1 B1).mono ?_
 rintro e w2 ⟨rfl,hb2⟩
 have R2:=R1.call hb2
 have X2:=X1.call hb2
 have P2:=P1.call hb2
 have B2:=B1.trans (hb2.mono B1.size)
 have z2:w.heap.size+1+1+1≤w2.heap.size:=lT z1 hb2.size
 clear hb2 R1 X1 P1 B1 z1 p0 p1 p2 pz r0 r1 r2 r3 r4 r5 rz rf HRC
 go_wp2
 refine bodyPost_ret (v:=Tu #[Bb false,I Y ce]) (by simp[results,Tryz.results13,go_sem]) rfl ⟨rfl,B2⟩
theorem wP (V F:Int)(s:Option Addr)(c:List Ins)(cap:Nat)(x:Pic)(vs1:Option Addr)(vc1:Nat)(fs1:Option Addr)(fc1:Nat)(r:St)(rv:Option Addr)(rvc:Nat)(rt:Option Addr)(rtc:Nat)(rl:Option Addr)(rlc:Nat)(w:World)(hcd:CodeAt w s c)(hx:PicAt w x vs1 fs1)(h1:x.vars.length≤vc1∧vc1≤maxLen)(h2:x.flds.length≤fc1∧fc1≤maxLen)(hl:fA r)(hr:RunAt w r rv rt rl)(h:aq V F c [x]=0)(h':b9 V F c r=0)(hn:x.none=true):
  Calls pG 13 #[pv V F s c cap,xv x vs1 vc1 fs1 fc1,eY r rv rvc rt rtc rl rlc] w λe w'=>e=Rt (Tu #[Bb false,I Y 0])∧Below w.heap.size w w':=by
 have B0:Below w.heap.size w (((w.alloc (Cc #[I Y V,I Y F,U s c.length cap] 24)).alloc (Cc #[Bb x.none,U vs1 x.vars.length vc1,U fs1 x.flds.length fc1] 28)).alloc (Cc #[I Y r.at_,U rv r.vars.length rvc,U rt r.things.length rtc,I Y r.taken,U rl r.lines.length rlc,I Y r.fin] 33)):=by go_grown
 have P0:=(PrAt.new w V F s c cap).call (w':=(((w.alloc (Cc #[I Y V,I Y F,U s c.length cap] 24)).alloc (Cc #[Bb x.none,U vs1 x.vars.length vc1,U fs1 x.flds.length fc1] 28)).alloc (Cc #[I Y r.at_,U rv r.vars.length rvc,U rt r.things.length rtc,I Y r.taken,U rl r.lines.length rlc,I Y r.fin] 33))) (by go_grown)
 have X0:=(XAt.new (w.alloc (Cc #[I Y V,I Y F,U s c.length cap] 24)) x vs1 vc1 fs1 fc1).call (w':=(((w.alloc (Cc #[I Y V,I Y F,U s c.length cap] 24)).alloc (Cc #[Bb x.none,U vs1 x.vars.length vc1,U fs1 x.flds.length fc1] 28)).alloc (Cc #[I Y r.at_,U rv r.vars.length rvc,U rt r.things.length rtc,I Y r.taken,U rl r.lines.length rlc,I Y r.fin] 33))) (by go_grown)
 have R0:=R6.new ((w.alloc (Cc #[I Y V,I Y F,U s c.length cap] 24)).alloc (Cc #[Bb x.none,U vs1 x.vars.length vc1,U fs1 x.flds.length fc1] 28)) 33 (I Y r.at_) (U rv r.vars.length rvc) (U rt r.things.length rtc) (I Y r.taken) (U rl r.lines.length rlc) (I Y r.fin)
 rw[zA] at X0
 rw[zA,zA] at R0
 have C0:=hcd.below B0 (lR _)
 have PX:=hx.below B0 (lR _)
 have HC:=aa (cQ V F s c cap (sO ⟨(((w.alloc (Cc #[I Y V,I Y F,U s c.length cap] 24)).alloc (Cc #[Bb x.none,U vs1 x.vars.length vc1,U fs1 x.flds.length fc1] 28)).alloc (Cc #[I Y r.at_,U rv r.vars.length rvc,U rt r.things.length rtc,I Y r.taken,U rl r.lines.length rlc,I Y r.fin] 33)).heap.size,0,nO⟩) [x] 1 ((((w.alloc (Cc #[I Y V,I Y F,U s c.length cap] 24)).alloc (Cc #[Bb x.none,U vs1 x.vars.length vc1,U fs1 x.flds.length fc1] 28)).alloc (Cc #[I Y r.at_,U rv r.vars.length rvc,U rt r.things.length rtc,I Y r.taken,U rl r.lines.length rlc,I Y r.fin] 33)).alloc (Cc #[Bb x.none,U vs1 x.vars.length vc1,U fs1 x.flds.length fc1] 28)) (C0.call (by go_grown)) (XsAt.new1 (((w.alloc (Cc #[I Y V,I Y F,U s c.length cap] 24)).alloc (Cc #[Bb x.none,U vs1 x.vars.length vc1,U fs1 x.flds.length fc1] 28)).alloc (Cc #[I Y r.at_,U rv r.vars.length rvc,U rt r.things.length rtc,I Y r.taken,U rl r.lines.length rlc,I Y r.fin] 33)) x vs1 vc1 fs1 fc1 PX h1 h2) (by simp))
 have hbz:Below (((w.alloc (Cc #[I Y V,I Y F,U s c.length cap] 24)).alloc (Cc #[Bb x.none,U vs1 x.vars.length vc1,U fs1 x.flds.length fc1] 28)).alloc (Cc #[I Y r.at_,U rv r.vars.length rvc,U rt r.things.length rtc,I Y r.taken,U rl r.lines.length rlc,I Y r.fin] 33)).heap.size (((w.alloc (Cc #[I Y V,I Y F,U s c.length cap] 24)).alloc (Cc #[Bb x.none,U vs1 x.vars.length vc1,U fs1 x.flds.length fc1] 28)).alloc (Cc #[I Y r.at_,U rv r.vars.length rvc,U rt r.things.length rtc,I Y r.taken,U rl r.lines.length rlc,I Y r.fin] 33)) ((((w.alloc (Cc #[I Y V,I Y F,U s c.length cap] 24)).alloc (Cc #[Bb x.none,U vs1 x.vars.length vc1,U fs1 x.flds.length fc1] 28)).alloc (Cc #[I Y r.at_,U rv r.vars.length rvc,U rt r.things.length rtc,I Y r.taken,U rl r.lines.length rlc,I Y r.fin] 33)).alloc (Cc #[Bb x.none,U vs1 x.vars.length vc1,U fs1 x.flds.length fc1] 28)):=by go_grown
 have e3:(((w.alloc (Cc #[I Y V,I Y F,U s c.length cap] 24)).alloc (Cc #[Bb x.none,U vs1 x.vars.length vc1,U fs1 x.flds.length fc1] 28)).alloc (Cc #[I Y r.at_,U rv r.vars.length rvc,U rt r.things.length rtc,I Y r.taken,U rl r.lines.length rlc,I Y r.fin] 33)).heap.size=w.heap.size+1+1+1:=by simp
 have HB:=aa hbz
 rw[e3] at HC
 unfold eY
 have HRC:Hid (∀wx,Below w.heap.size w wx→Calls pG 42 #[Ag #[I Y V,I Y F,U s c.length cap],Ag #[I Y r.at_,U rv r.vars.length rvc,U rt r.things.length rtc,I Y r.taken,U rl r.lines.length rlc,I Y r.fin]] wx λe w'=>e=Rt (I Y (b9 V F c r))∧Below wx.heap.size wx w'):=λwx hx=>fR V F s c cap r rv rvc rt rtc rl rlc wx (hcd.below hx (lR _)) hl (hr.below hx (lR _))
 rw[h] at HC
 rw[h'] at HRC
 have HNN:=aa hn
 clear h h' hcd hx hr PX C0 hbz hn
 go_enter Tryz.func13,Tryz.ntmps13
 go_wp2_with (go_at_call 43;fail)
 refine HC.out.mono ?_
 rintro e w1 ⟨rfl,hb1⟩
 have hb01:Below (((w.alloc (Cc #[I Y V,I Y F,U s c.length cap] 24)).alloc (Cc #[Bb x.none,U vs1 x.vars.length vc1,U fs1 x.flds.length fc1] 28)).alloc (Cc #[I Y r.at_,U rv r.vars.length rvc,U rt r.things.length rtc,I Y r.taken,U rl r.lines.length rlc,I Y r.fin] 33)).heap.size (((w.alloc (Cc #[I Y V,I Y F,U s c.length cap] 24)).alloc (Cc #[Bb x.none,U vs1 x.vars.length vc1,U fs1 x.flds.length fc1] 28)).alloc (Cc #[I Y r.at_,U rv r.vars.length rvc,U rt r.things.length rtc,I Y r.taken,U rl r.lines.length rlc,I Y r.fin] 33)) w1:=HB.out.trans (hb1.mono (by first|exact HB.out.size|(simp;omega)|omega))
 have B1:=B0.trans (hb01.mono B0.size)
 have R1:=R0.call hb01
 have X1:=X0.call hb01
 have P1:=P0.call hb01
 have z1:w.heap.size+1+1+1≤w1.heap.size:=by have:=hb01.size;omega
 clear HB hb1 hb01 R0 X0 P0 HC e3
 obtain⟨⟨p0,p1,p2⟩,pz⟩:=id P1
 obtain⟨⟨r0,r1,r2,r3,r4,r5⟩,rz,rf⟩:=id R1
 go_wp2_with (go_at_call 42;fail)
 refine(HRC.out w1 B1).mono ?_
 rintro e w2 ⟨rfl,hb2⟩
 have R2:=R1.call hb2
 have X2:=X1.call hb2
 have P2:=P1.call hb2
 have B2:=B1.trans (hb2.mono B1.size)
 have z2:w.heap.size+1+1+1≤w2.heap.size:=lT z1 hb2.size
 clear hb2 R1 X1 P1 B1 z1 p0 p1 p2 pz r0 r1 r2 r3 r4 r5 rz rf HRC
 obtain⟨⟨a0,a1,a2⟩,az,-⟩:=id X2
 rw[HNN.out] at a0
 go_wp2
 refine bodyPost_ret (v:=Tu #[Bb false,I Y 0]) (by simp[results,Tryz.results13,go_sem]) rfl ⟨rfl,B2⟩
theorem v7 (V F:Int)(s:Option Addr)(c:List Ins)(cap:Nat)(x:Pic)(vs1:Option Addr)(vc1:Nat)(fs1:Option Addr)(fc1:Nat)(r:St)(rv:Option Addr)(rvc:Nat)(rt:Option Addr)(rtc:Nat)(rl:Option Addr)(rlc:Nat)(w:World)(hcd:CodeAt w s c)(hx:PicAt w x vs1 fs1)(h1:x.vars.length≤vc1∧vc1≤maxLen)(h2:x.flds.length≤fc1∧fc1≤maxLen)(hl:fA r)(hr:RunAt w r rv rt rl)(h:aq V F c [x]=0)(h0:ag V F c=0)(hck:aE V F c x=0)(h':b9 V F c r=0)(hn:x.none=false)(hok:RunOk V F c r):
  Calls pG 13 #[pv V F s c cap,xv x vs1 vc1 fs1 fc1,eY r rv rvc rt rtc rl rlc] w λe w'=>e=Rt (Tu #[Bb (bD x r),I Y 0])∧Below w.heap.size w w':=by
 have kx:=bZ hck hn
 obtain⟨⟨_,hV8⟩,⟨hF0,hF3⟩,h60⟩:=bQ h0
 have lv1:=kx.vars
 have lv2:=hok.vars
 have lf:=kx.flds
 have lt100:=hok.things
 have ESP:Hid (bD x r=(bq r x.vars r.vars&&r.things.all λt=>bq r (x.flds.getD t.site.toNat []) t.fs)):=by show _=_;unfold bD;rw[hn];rfl
 obtain⟨res,HRES,hres⟩:∃q,Hid (q=(bq r x.vars r.vars&&r.things.all λt=>bq r (x.flds.getD t.site.toNat []) t.fs))∧bD x r=q:=⟨_,rfl,ESP.out⟩
 rw[hres]
 clear hres ESP
 have HROW:Hid (∀(L:List Gs) (gs:Option Addr) (gc:Nat) (vl:List Val) (vs:Option Addr) (vc:Nat) (wx:World),Below w.heap.size w wx→GsAt wx gs L→ValsAt wx vs vl→(∀g∈L,aw c g=0)→(∀v∈vl,bH r.things.length v)→L.length=vl.length→vl.length≤1000→Calls pG 44 #[pv V F s c cap,U gs L.length gc,U vs vl.length vc,U rt r.things.length rtc] wx λe w'=>e=Rt (Bb (bq r L vl))∧Below wx.heap.size wx w'):=λL gs gc vl vs vc wx hb k1 k2 k3 k4 k5 k6=>tM V F s c cap r L gs gc vl vs vc rt rtc wx (hcd.below hb (lR _)) k1 k2 (hr.2.1.below hb (lR _)) h0 k3 k4 k5 k6
 have HVR:Hid (∀wx,Below w.heap.size w wx→Calls pG 44 #[pv V F s c cap,U vs1 x.vars.length vc1,U rv r.vars.length rvc,U rt r.things.length rtc] wx λe w'=>e=Rt (Bb (bq r x.vars r.vars))∧Below wx.heap.size wx w'):=λwx hb=>HROW.out x.vars vs1 vc1 r.vars rv rvc wx hb (hx.1.below hb (lR _)) (hr.1.below hb (lR _)) kx.gv hok.vals (by omega) (by omega)
 have B0:Below w.heap.size w (((w.alloc (Cc #[I Y V,I Y F,U s c.length cap] 24)).alloc (Cc #[Bb x.none,U vs1 x.vars.length vc1,U fs1 x.flds.length fc1] 28)).alloc (Cc #[I Y r.at_,U rv r.vars.length rvc,U rt r.things.length rtc,I Y r.taken,U rl r.lines.length rlc,I Y r.fin] 33)):=by go_grown
 have P0:=(PrAt.new w V F s c cap).call (w':=(((w.alloc (Cc #[I Y V,I Y F,U s c.length cap] 24)).alloc (Cc #[Bb x.none,U vs1 x.vars.length vc1,U fs1 x.flds.length fc1] 28)).alloc (Cc #[I Y r.at_,U rv r.vars.length rvc,U rt r.things.length rtc,I Y r.taken,U rl r.lines.length rlc,I Y r.fin] 33))) (by go_grown)
 have X0:=(XAt.new (w.alloc (Cc #[I Y V,I Y F,U s c.length cap] 24)) x vs1 vc1 fs1 fc1).call (w':=(((w.alloc (Cc #[I Y V,I Y F,U s c.length cap] 24)).alloc (Cc #[Bb x.none,U vs1 x.vars.length vc1,U fs1 x.flds.length fc1] 28)).alloc (Cc #[I Y r.at_,U rv r.vars.length rvc,U rt r.things.length rtc,I Y r.taken,U rl r.lines.length rlc,I Y r.fin] 33))) (by go_grown)
 have R0:=R6.new ((w.alloc (Cc #[I Y V,I Y F,U s c.length cap] 24)).alloc (Cc #[Bb x.none,U vs1 x.vars.length vc1,U fs1 x.flds.length fc1] 28)) 33 (I Y r.at_) (U rv r.vars.length rvc) (U rt r.things.length rtc) (I Y r.taken) (U rl r.lines.length rlc) (I Y r.fin)
 rw[zA] at X0
 rw[zA,zA] at R0
 have C0:=hcd.below B0 (lR _)
 have PX:=hx.below B0 (lR _)
 have HC:=aa (cQ V F s c cap (sO ⟨(((w.alloc (Cc #[I Y V,I Y F,U s c.length cap] 24)).alloc (Cc #[Bb x.none,U vs1 x.vars.length vc1,U fs1 x.flds.length fc1] 28)).alloc (Cc #[I Y r.at_,U rv r.vars.length rvc,U rt r.things.length rtc,I Y r.taken,U rl r.lines.length rlc,I Y r.fin] 33)).heap.size,0,nO⟩) [x] 1 ((((w.alloc (Cc #[I Y V,I Y F,U s c.length cap] 24)).alloc (Cc #[Bb x.none,U vs1 x.vars.length vc1,U fs1 x.flds.length fc1] 28)).alloc (Cc #[I Y r.at_,U rv r.vars.length rvc,U rt r.things.length rtc,I Y r.taken,U rl r.lines.length rlc,I Y r.fin] 33)).alloc (Cc #[Bb x.none,U vs1 x.vars.length vc1,U fs1 x.flds.length fc1] 28)) (C0.call (by go_grown)) (XsAt.new1 (((w.alloc (Cc #[I Y V,I Y F,U s c.length cap] 24)).alloc (Cc #[Bb x.none,U vs1 x.vars.length vc1,U fs1 x.flds.length fc1] 28)).alloc (Cc #[I Y r.at_,U rv r.vars.length rvc,U rt r.things.length rtc,I Y r.taken,U rl r.lines.length rlc,I Y r.fin] 33)) x vs1 vc1 fs1 fc1 PX h1 h2) (by simp))
 have hbz:Below (((w.alloc (Cc #[I Y V,I Y F,U s c.length cap] 24)).alloc (Cc #[Bb x.none,U vs1 x.vars.length vc1,U fs1 x.flds.length fc1] 28)).alloc (Cc #[I Y r.at_,U rv r.vars.length rvc,U rt r.things.length rtc,I Y r.taken,U rl r.lines.length rlc,I Y r.fin] 33)).heap.size (((w.alloc (Cc #[I Y V,I Y F,U s c.length cap] 24)).alloc (Cc #[Bb x.none,U vs1 x.vars.length vc1,U fs1 x.flds.length fc1] 28)).alloc (Cc #[I Y r.at_,U rv r.vars.length rvc,U rt r.things.length rtc,I Y r.taken,U rl r.lines.length rlc,I Y r.fin] 33)) ((((w.alloc (Cc #[I Y V,I Y F,U s c.length cap] 24)).alloc (Cc #[Bb x.none,U vs1 x.vars.length vc1,U fs1 x.flds.length fc1] 28)).alloc (Cc #[I Y r.at_,U rv r.vars.length rvc,U rt r.things.length rtc,I Y r.taken,U rl r.lines.length rlc,I Y r.fin] 33)).alloc (Cc #[Bb x.none,U vs1 x.vars.length vc1,U fs1 x.flds.length fc1] 28)):=by go_grown
 have e3:(((w.alloc (Cc #[I Y V,I Y F,U s c.length cap] 24)).alloc (Cc #[Bb x.none,U vs1 x.vars.length vc1,U fs1 x.flds.length fc1] 28)).alloc (Cc #[I Y r.at_,U rv r.vars.length rvc,U rt r.things.length rtc,I Y r.taken,U rl r.lines.length rlc,I Y r.fin] 33)).heap.size=w.heap.size+1+1+1:=by simp
 have HB:=aa hbz
 rw[e3] at HC
 unfold eY
 have HRC:Hid (∀wx,Below w.heap.size w wx→Calls pG 42 #[Ag #[I Y V,I Y F,U s c.length cap],Ag #[I Y r.at_,U rv r.vars.length rvc,U rt r.things.length rtc,I Y r.taken,U rl r.lines.length rlc,I Y r.fin]] wx λe w'=>e=Rt (I Y (b9 V F c r))∧Below wx.heap.size wx w'):=λwx hx=>fR V F s c cap r rv rvc rt rtc rl rlc wx (hcd.below hx (lR _)) hl (hr.below hx (lR _))
 rw[h] at HC
 rw[h'] at HRC
 have HXR:=aa hx.2
 have HTH:=aa hr.2.1
 have HKX:=aa kx
 have HOK:=aa hok
 have HNN:=aa hn
 have HLF:=aa lf
 clear h h' hcd hx hr PX C0 hbz hl hck kx hok lv1 lv2 lf hn
 go_enter Tryz.func13,Tryz.ntmps13
 go_wp2_with (go_at_call 43;fail)
 refine HC.out.mono ?_
 rintro e w1 ⟨rfl,hb1⟩
 have hb01:Below (((w.alloc (Cc #[I Y V,I Y F,U s c.length cap] 24)).alloc (Cc #[Bb x.none,U vs1 x.vars.length vc1,U fs1 x.flds.length fc1] 28)).alloc (Cc #[I Y r.at_,U rv r.vars.length rvc,U rt r.things.length rtc,I Y r.taken,U rl r.lines.length rlc,I Y r.fin] 33)).heap.size (((w.alloc (Cc #[I Y V,I Y F,U s c.length cap] 24)).alloc (Cc #[Bb x.none,U vs1 x.vars.length vc1,U fs1 x.flds.length fc1] 28)).alloc (Cc #[I Y r.at_,U rv r.vars.length rvc,U rt r.things.length rtc,I Y r.taken,U rl r.lines.length rlc,I Y r.fin] 33)) w1:=HB.out.trans (hb1.mono (by first|exact HB.out.size|(simp;omega)|omega))
 have B1:=B0.trans (hb01.mono B0.size)
 have R1:=R0.call hb01
 have X1:=X0.call hb01
 have P1:=P0.call hb01
 have z1:w.heap.size+1+1+1≤w1.heap.size:=by have:=hb01.size;omega
 clear HB hb1 hb01 R0 X0 P0 HC e3
 obtain⟨⟨p0,p1,p2⟩,pz⟩:=id P1
 obtain⟨⟨r0,r1,r2,r3,r4,r5⟩,rz,rf⟩:=id R1
 go_wp2_with (go_at_call 42;fail)
 refine(HRC.out w1 B1).mono ?_
 rintro e w2 ⟨rfl,hb2⟩
 have R2:=R1.call hb2
 have X2:=X1.call hb2
 have P2:=P1.call hb2
 have B2:=B1.trans (hb2.mono B1.size)
 have z2:w.heap.size+1+1+1≤w2.heap.size:=lT z1 hb2.size
 clear hb2 R1 X1 P1 B1 z1 p0 p1 p2 pz r0 r1 r2 r3 r4 r5 rz rf HRC
 obtain⟨⟨a0,a1,a2⟩,az,-⟩:=id X2
 obtain⟨⟨p0,p1,p2⟩,pz⟩:=id P2
 obtain⟨⟨r0,r1,r2,r3,r4,r5⟩,rz,rf⟩:=id R2
 rw[HNN.out] at a0
 go_wp2_with (go_at_call 44;fail)
 refine(HVR.out w2 B2).mono ?_
 rintro e w3 ⟨rfl,hb3⟩
 have R3:=R2.call hb3
 have X3':=X2.call hb3
 have P3':=P2.call hb3
 have B3:=B2.trans (hb3.mono B2.size)
 have z3:w.heap.size+1+1+1≤w3.heap.size:=lT z2 hb3.size
 clear hb3 R2 X2 P2 B2 z2 p0 p1 p2 pz r0 r1 r2 r3 r4 r5 rz rf a0 a1 a2 az HVR
 obtain⟨⟨p0,p1,p2⟩,pz⟩:=id P3'
 obtain⟨⟨r0,r1,r2,r3,r4,r5⟩,rz,rf⟩:=id R3
 obtain⟨⟨a0,a1,a2⟩,az,-⟩:=id X3'
 rw[HNN.out] at a0
 rcases (show bq r x.vars r.vars=false∨bq r x.vars r.vars=true by cases bq r x.vars r.vars<;>simp) with hs|hs<;>rw[hs] at HRES<;>rw[hs]<;>clear hs
 ·go_wp2
  refine bodyPost_ret (v:=Tu #[Bb false,I Y 0]) (by simp[results,Tryz.results13,go_sem]) rfl ⟨?_,B3⟩
  rw[HRES.out]
  rfl
 rw[Bool.true_and] at HRES
 go_wp2
 clear p0 p1 p2 pz r0 r1 r2 r3 r4 r5 rz rf a0 a1 a2 az
 go_loopw [41] (λi wr=>∃k:Nat,k≤r.things.length∧i=I Y k∧Below w3.heap.size w3 wr∧Hid (res=(r.things.drop k).all λt=>bq r (x.flds.getD t.site.toNat []) t.fs)) (λi _=>r.things.length - (intOf i).toNat)
 case atStart=>exact⟨0,j0 _,rfl,bR _ _,HRES⟩
 case round=>
  obtain⟨k,hk,rfl,hbr,HK⟩:=hrel
  have LR:=B3.trans (hbr.mono B3.size)
  by_cases hlt:k < r.things.length
  ·have n0:(0:Int)≤(k:Int):=by omega
   have n1:(k:Int) < (r.things.length:Int):=by omega
   obtain⟨b2,o2,e2,zb2,HCE⟩:=(HTH.out.below LR (lR _)).get k hlt
   obtain⟨T1,tf,tfc,T2,TV⟩:=HCE k hlt
   subst e2
   have hst:=HOK.out.sites _ (gM hlt)
   have hfl:=HOK.out.fields _ (gM hlt)
   have hvl:=HOK.out.fvals _ (gM hlt)
   have hq:0≤r.things[k].site∧r.things[k].site < c.length:=by unfold fj btw at hst;simp only[Bool.and_eq_true,decide_eq_true_eq] at hst;omega
   obtain⟨q,eq⟩:=Int.eq_ofNat_of_zero_le hq.1
   have hqx:q < x.flds.length:=by have:=HLF.out;omega
   have nq0:(0:Int)≤(q:Int):=by omega
   have nq1:(q:Int) < (x.flds.length:Int):=by omega
   obtain⟨pb,po,e1,zp,rs,rc,C1,k1,m1,J1⟩:=(HXR.out.below LR (lR _)) q hqx
   subst e1
   have hrow:=HKX.out.row q hqx
   have hgf:=HKX.out.gf q hqx
   have HS:Hid ((r.things.drop k).all (λt=>bq r (x.flds.getD t.site.toNat []) t.fs)=(bq r x.flds[q] r.things[k].fs&&(r.things.drop (k+1)).all λt=>bq r (x.flds.getD t.site.toNat []) t.fs)):=by
    show _=_
    rw[List.drop_eq_getElem_cons hlt,List.all_cons,eq]
    simp[List.getD,List.getElem?_eq_getElem hqx]
   have HEQ:=aa eq
   clear eq hq
   have hb4:Below wr.heap.size wr (wr.alloc (Cc #[I Y r.things[k].site,U tf r.things[k].fs.length tfc] 84)):=by go_grown
   have Q4:(wr.alloc (Cc #[I Y r.things[k].site,U tf r.things[k].fs.length tfc] 84)).cell? ⟨wr.heap.size,0,nO⟩=sO (I Y r.things[k].site)∧(wr.alloc (Cc #[I Y r.things[k].site,U tf r.things[k].fs.length tfc] 84)).cell? ⟨wr.heap.size,1,nO⟩=sO (U tf r.things[k].fs.length tfc):=by simp[go_sem]
   have q4:wr.heap.size < (wr.alloc (Cc #[I Y r.things[k].site,U tf r.things[k].fs.length tfc] 84)).heap.size:=by simp
   have hb34:=hbr.trans (hb4.mono hbr.size)
   have LR4:=LR.trans (hb4.mono LR.size)
   have C4:(wr.alloc (Cc #[I Y r.things[k].site,U tf r.things[k].fs.length tfc] 84)).cell? ⟨pb,po+q,nO⟩=sO (U rs x.flds[q].length rc):=by rw[hb4.cell (by simp only;exact zp)];exact C1
   have J4:=J1.call hb4
   have TV4:=TV.call hb4
   have zp4:pb < (wr.alloc (Cc #[I Y r.things[k].site,U tf r.things[k].fs.length tfc] 84)).heap.size:=lL zp hb4.size
   have P4:=P3'.call hb34
   have X4:=X3'.call hb34
   have R4:=R3.call hb34
   obtain⟨⟨r0,r1,r2,r3,r4,r5⟩,rz,rf⟩:=id (R3.call hbr)
   go_upto_region 12 with fail
   clear r0 r1 r2 r3 r4 r5 rz rf T1 T2 TV HCE C1 J1 zp zb2 hb4
   generalize wr.alloc (Cc #[I Y r.things[k].site,U tf r.things[k].fs.length tfc] 84)=w4 at *
   generalize wr.heap.size=tb at *
   rw[HEQ.out] at Q4
   have HKZ:Hid (∀wx,Below w4.heap.size w4 wx→(wx.cell? ⟨w.heap.size,0,nO⟩=sO (I Y V)∧wx.cell? ⟨w.heap.size,1,nO⟩=sO (I Y F)∧wx.cell? ⟨w.heap.size,2,nO⟩=sO (U s c.length cap))∧(wx.cell? ⟨w.heap.size+1,2,nO⟩=sO (U (sO ⟨pb,po,nO⟩) x.flds.length fc1)∧wx.cell? ⟨pb,po+q,nO⟩=sO (U rs x.flds[q].length rc))∧(wx.cell? ⟨tb,0,nO⟩=sO (I Y (q:Int))∧wx.cell? ⟨tb,1,nO⟩=sO (U tf r.things[k].fs.length tfc))∧wx.cell? ⟨w.heap.size+1+1,2,nO⟩=sO (U (sO ⟨b2,o2,nO⟩) r.things.length rtc)):=λwx hx=>⟨(P4.call hx).1,⟨(X4.call hx).1.2.2,by rw[hx.cell (by simp only;exact zp4)];exact C4⟩,⟨by rw[hx.cell (by simp only;exact q4)];exact Q4.1,by rw[hx.cell (by simp only;exact q4)];exact Q4.2⟩,(R4.call hx).1.2.2.1⟩
   have HD:Below w4.heap.size w4 w4.drew:=(bR _ _).drew
   have HRK:Hid (∀wx,Below w4.heap.size w4 wx→Calls pG 44 #[pv V F s c cap,U rs x.flds[q].length rc,U tf r.things[k].fs.length tfc,U (sO ⟨b2,o2,nO⟩) r.things.length rtc] wx λe w'=>e=Rt (Bb (bq r x.flds[q] r.things[k].fs))∧Below wx.heap.size wx w'):=λwx hx=>HROW.out x.flds[q] rs rc r.things[k].fs tf tfc wx (LR4.trans (hx.mono LR4.size)) (J4.call hx) (TV4.call hx) hgf hvl (by omega) (by omega)
   clear Q4 C4 J4 TV4
   refine an (S:=(λwx=>(wx.cell? ⟨w.heap.size,0,nO⟩=sO (I Y V)∧wx.cell? ⟨w.heap.size,1,nO⟩=sO (I Y F)∧wx.cell? ⟨w.heap.size,2,nO⟩=sO (U s c.length cap))∧(wx.cell? ⟨w.heap.size+1,2,nO⟩=sO (U (sO ⟨pb,po,nO⟩) x.flds.length fc1)∧wx.cell? ⟨pb,po+q,nO⟩=sO (U rs x.flds[q].length rc))∧(wx.cell? ⟨tb,0,nO⟩=sO (I Y (q:Int))∧wx.cell? ⟨tb,1,nO⟩=sO (U tf r.things[k].fs.length tfc))∧wx.cell? ⟨w.heap.size+1+1,2,nO⟩=sO (U (sO ⟨b2,o2,nO⟩) r.things.length rtc))) [] (by kernel_rfl) (HKZ.out _ HD) (λhHeld=> ?_)
   refine vZ 0 ?_ ?_
   refine vZ 1 ?_ ?_
   refine vZ 2 ?_ ?_
   refine vZ 3 ?_ ?_
   refine vZ 4 ?_ ?_
   refine vZ 5 ?_ ?_
   refine vZ 6 ?_ ?_
   refine vZ 7 ?_ ?_
   refine vZ 8 ?_ ?_
   refine vZ 9 ?_ ?_
   refine vZ 10 ?_ ?_
   refine ai (i:=11) rfl (by kernel_rfl) (λK hK=> ?_)
   go_simp
   go_at_call 44
   refine(HRK.out _ HD).mono ?_
   rintro e w5 ⟨rfl,hb5⟩
   have HB5:Below w4.heap.size w4 w5:=HD.trans (hb5.mono HD.size)
   go_wp2_with fail
   refine hK.out _ _ (HKZ.out _ HB5) (λhHeld=> ?_)
   clear hK K
   refine sm ?_
   refine vZ 12 ?_ ?_
   refine aj (by kernel_rfl) ?_ _
   have hb35:=hb34.trans (HB5.mono hb34.size)
   rcases (show bq r x.flds[q] r.things[k].fs=false∨bq r x.flds[q] r.things[k].fs=true by cases bq r x.flds[q] r.things[k].fs<;>simp) with hs|hs<;>have HSG:=aa hs<;>rw[hs]<;>clear hs
   ·go_wp2
    refine bodyPost_ret (v:=Tu #[Bb false,I Y 0]) (by simp[results,Tryz.results13,go_sem]) rfl ⟨?_,B3.trans (hb35.mono B3.size)⟩
    rw[HK.out,HS.out,HSG.out]
    rfl
   ·go_wp2
    go_roundw
    case rel=>exact⟨k+1,by omega,by go_num,hb35,by show _=_;rw[HK.out,HS.out,HSG.out];rfl⟩
    case measure=>simp[intOf];omega
  ·have n1:¬(k:Int) < (r.things.length:Int):=by omega
   go_wp2
   refine bodyPost_ret (v:=Tu #[Bb true,I Y 0]) (by simp[results,Tryz.results13,go_sem]) rfl ⟨?_,LR⟩
   rw[HK.out,j1 (by omega)]
   rfl
def lg (V F:Int)(c:List Ins)(x:Pic)(r:St):Int:=if aq V F c [x]=0 then fL V F c r else aq V F c [x]
theorem Av {V F:Int}{c:List Ins}{x:Pic}(h:aq V F c [x]=0):ag V F c=0∧aE V F c x=0:=by
 have h0:ag V F c=0:=by
  unfold aq at h
  split at h
  ·assumption
  ·exact h
 refine⟨h0,?_⟩
 unfold aq at h
 rw[if_pos h0] at h
 unfold bW at h
 split at h
 ·assumption
 ·exact h
theorem yp (V F:Int)(s:Option Addr)(c:List Ins)(cap:Nat)(x:Pic)(vs1:Option Addr)(vc1:Nat)(fs1:Option Addr)(fc1:Nat)(r:St)(rv:Option Addr)(rvc:Nat)(rt:Option Addr)(rtc:Nat)(rl:Option Addr)(rlc:Nat)(w:World)(hcd:CodeAt w s c)(hx:PicAt w x vs1 fs1)(h1:x.vars.length≤vc1∧vc1≤maxLen)(h2:x.flds.length≤fc1∧fc1≤maxLen)(hl:fA r)(hr:RunAt w r rv rt rl):
  Calls pG 13 #[pv V F s c cap,xv x vs1 vc1 fs1 fc1,eY r rv rvc rt rtc rl rlc] w λe w'=>e=Rt (Tu #[Bb (if lg V F c x r=0 then bD x r else false),I Y (lg V F c x r)])∧Below w.heap.size w w':=by
 unfold lg
 by_cases h:aq V F c [x]=0
 ·obtain⟨h0,hck⟩:=Av h
  have hb:b9 V F c r=fL V F c r:=by unfold b9;rw[if_pos h0]
  rw[if_pos h]
  by_cases h':fL V F c r=0
  ·rw[if_pos h',h']
   rw[h'] at hb
   cases hn:x.none with
   |true=>
    have e:bD x r=false:=by unfold bD;rw[hn];rfl
    rw[e]
    exact wP V F s c cap x vs1 vc1 fs1 fc1 r rv rvc rt rtc rl rlc w hcd hx h1 h2 hl hr h hb hn
   |false=>exact v7 V F s c cap x vs1 vc1 fs1 fc1 r rv rvc rt rtc rl rlc w hcd hx h1 h2 hl hr h h0 hck hb hn (uv h')
  ·rw[if_neg h',←hb]
   exact vR V F s c cap x vs1 vc1 fs1 fc1 r rv rvc rt rtc rl rlc w hcd hx h1 h2 hl hr h (by rw[hb];exact h')
 ·rw[if_neg h,if_neg h]
  exact wf V F s c cap x vs1 vc1 fs1 fc1 r rv rvc rt rtc rl rlc w hcd hx h1 h2 hl hr h
end
end Go.Proofs.YtmapdpcfanecdabGreatDoor
