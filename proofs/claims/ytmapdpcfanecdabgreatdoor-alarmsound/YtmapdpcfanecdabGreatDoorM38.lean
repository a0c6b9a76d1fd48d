import Derived.Test.YtmapdpcfanecdabGreatDoorM37
open Go.Ending renaming returned→Rt
open Go.IntKind renaming i64→Y
open Go.Obj renaming cells→Cc
open Go.Proofs.Tryz renaming prog→pG
open Go.RowKit.Below renaming refl→bR
open Go.Value renaming bool→Bb,int→I,slice→U,tuple→Tu
open Go.World renaming size_alloc→zA
open List renaming drop_eq_nil_of_le→j0,flatten_cons→j1,getElem_mem→gM,length_append→j2,mem_append→j3,mem_flatten→j4
open Nat renaming le_refl→lR,le_trans→lT
open Option renaming none→nO,some→sO
set_option linter.unusedSimpArgs false
set_option linter.unusedVariables false
set_option maxHeartbeats 16000000
set_option maxRecDepth 20000
namespace Go.Proofs.YtmapdpcfanecdabGreatDoor
section
open Go.RowKit
attribute [local go_sem ↓] Go.wp_at_zero Go.wp_at_succ
theorem XsAt.new1 (w:World)(x:Pic)(vs:Option Addr)(vc:Nat)(fs:Option Addr)(fc:Nat)(hP:PicAt w x vs fs)(h1:x.vars.length≤vc∧vc≤maxLen)(h2:x.flds.length≤fc∧fc≤maxLen):
  XsAt (w.alloc (Cc #[Bb x.none,U vs x.vars.length vc,U fs x.flds.length fc] 28)) (sO ⟨w.heap.size,0,nO⟩) [x]:=by
 intro i hi
 obtain rfl:i=0:=by simp at hi;omega
 exact⟨w.heap.size,0,rfl,by simp,vs,vc,fs,fc,by simp[go_sem],hP.call (by go_grown),h1,h2⟩
theorem XsAt.new2 (w:World)(x:Pic)(vs:Option Addr)(vc:Nat)(fs:Option Addr)(fc:Nat)(y:Pic)(us:Option Addr)(uc:Nat)(gs:Option Addr)(gc:Nat)(hP:PicAt w x vs fs)(h1:x.vars.length≤vc∧vc≤maxLen)(h2:x.flds.length≤fc∧fc≤maxLen)(hQ:PicAt w y us gs)(h3:y.vars.length≤uc∧uc≤maxLen)(h4:y.flds.length≤gc∧gc≤maxLen):
  XsAt (w.alloc (Cc #[Bb x.none,U vs x.vars.length vc,U fs x.flds.length fc,Bb y.none,U us y.vars.length uc,U gs y.flds.length gc] 28)) (sO ⟨w.heap.size,0,nO⟩) [x,y]:=by
 intro i hi
 by_cases e:i=0
 ·subst e;exact⟨w.heap.size,0,rfl,by simp,vs,vc,fs,fc,by simp[go_sem],hP.call (by go_grown),h1,h2⟩
 ·obtain rfl:i=1:=by simp at hi;omega
  exact⟨w.heap.size,0,rfl,by simp,us,uc,gs,gc,by simp[go_sem],hQ.call (by go_grown),h3,h4⟩
theorem eS (V F:Int)(s:Option Addr)(c:List Ins)(cap:Nat)(ls:Option Addr)(L:List Pic)(lc:Nat)(w:World)(hc:CodeAt w s c)(hL:XsAt w ls L)(hl:L.length≤9223372036854775807):
  Calls pG 43 #[pv V F s c cap,U ls L.length lc] w λe w'=>e=Rt (I Y (aJ V F c L))∧Below w.heap.size w w':=by
 have P0:=PrAt.new w V F s c cap
 have B0:Below w.heap.size w (w.alloc (Cc #[I Y V,I Y F,U s c.length cap] 24)):=by go_grown
 have C0:=hc.below B0 (lR _)
 have L0:=hL.below B0 (lR _)
 have HC:=aa (di V F s cap c _ C0)
 clear hc hL
 by_cases h0:ai V F c=0
 ·have er:aJ V F c L=cy V F c L:=by unfold aJ;rw[if_pos h0]
  obtain⟨res,HR,hres⟩:∃r,Hid (r=cy V F c L)∧aJ V F c L=r:=⟨_,rfl,er⟩
  rw[hres]
  rw[h0] at HC
  have H0:=aa h0
  clear er hres h0
  go_enter Tryz.func43,Tryz.ntmps43
  go_wp2_with (go_at_call 76;fail)
  refine HC.out.mono ?_
  rintro e w1 ⟨rfl,hb1⟩
  have P1:=P0.call hb1
  have C1:=C0.call hb1
  have L1:=L0.below hb1 (lR _)
  have B1:=B0.trans (hb1.mono B0.size)
  clear hb1 P0 C0 L0 B0 HC
  go_wp2
  go_loopw [16] (λi wr=>∃k:Nat,k≤L.length∧i=I Y k∧Below w1.heap.size w1 wr∧Hid (res=cy V F c (L.drop k))) (λi _=>L.length - (intOf i).toNat)
  case atStart=>exact⟨0,Nat.zero_le _,rfl,bR _ _,HR⟩
  case round=>
   obtain⟨k,hk,rfl,hbr,HK⟩:=hrel
   by_cases hlt:k < L.length
   ·have n0:(0:Int)≤(k:Int):=by omega
    have n1:(k:Int) < (L.length:Int):=by omega
    have HS:=aa (yM V F c L k hlt)
    obtain⟨b,off,rfl,zb,vs,vc,fs,fc,⟨g0,g1,g2⟩,hP,hv,hf⟩:=(L1.below hbr (lR _)) k hlt
    have X2:=XAt.new wr L[k] vs vc fs fc
    have hb2:Below wr.heap.size wr (wr.alloc (Cc #[Bb L[k].none,U vs L[k].vars.length vc,U fs L[k].flds.length fc] 28)):=by go_grown
    have hb12:=hbr.trans (hb2.mono hbr.size)
    have P2:=P1.call hb12
    have hP2:=hP.call hb2
    go_upto_region 7 with fail
    generalize wr.alloc (Cc #[Bb L[k].none,U vs L[k].vars.length vc,U fs L[k].flds.length fc] 28)=w2 at *
    clear g0 g1 g2
    obtain⟨⟨p0,p1,p2⟩,pz⟩:=id P2
    obtain⟨⟨x0,x1,x2⟩,xz,-⟩:=id X2
    go_wp2_with (go_at_call 80;fail)
    refine(sY V F s c cap L[k] vs vc fs fc _ (C1.call hb12) hP2 hv.1 hv.2 H0.out).mono ?_
    rintro e w3 ⟨rfl,hb3⟩
    have hb13:=hb12.trans (hb3.mono hb12.size)
    clear p0 p1 p2 pz x0 x1 x2 xz
    generalize aK V F c L[k]=ce at *
    by_cases hz:ce=0
    ·have e1:(ce !=0)=false:=by simpa using hz
     go_wp2
     go_roundw
     case rel=>exact⟨k+1,by omega,by go_num,hb13,by show _=_;rw[HK.out,HS.out,if_pos hz]⟩
     case measure=>simp[intOf];omega
    ·have e1:(ce !=0)=true:=by simpa using hz
     go_wp2
     go_ret
     exact⟨bu (by rw[HK.out,HS.out,if_neg hz]),B1.trans (hb13.mono B1.size)⟩
   ·have n1:¬(k:Int) < (L.length:Int):=by omega
    go_wp2
    go_ret
    refine⟨bu ?_,B1.trans (hbr.mono B1.size)⟩
    rw[HK.out,j0 (by omega)]
    rfl
 ·have er:aJ V F c L=ai V F c:=by unfold aJ;rw[if_neg h0]
  rw[er]
  have e1:(ai V F c !=0)=true:=by simpa using h0
  generalize ai V F c=ce at *
  clear er h0
  go_enter Tryz.func43,Tryz.ntmps43
  go_wp2_with (go_at_call 76;fail)
  refine HC.out.mono ?_
  rintro e w1 ⟨rfl,hb1⟩
  go_wp2
  go_ret
  exact⟨rfl,B0.trans (hb1.mono B0.size)⟩

theorem kw (V F:Int)(s:Option Addr)(c:List Ins)(cap:Nat)(x:Pic)(vs:Option Addr)(vc:Nat)(fs:Option Addr)(fc:Nat)(w:World)(hc:CodeAt w s c)(hP:PicAt w x vs fs)(h1:x.vars.length≤vc∧vc≤maxLen)(h2:x.flds.length≤fc∧fc≤maxLen):
  Calls pG 41 #[pv V F s c cap,xv x vs vc fs fc] w λe w'=>e=Rt (I Y (aJ V F c [x]))∧Below w.heap.size w w':=by
 have B1:Below w.heap.size w (((w.alloc (Cc #[I Y V,I Y F,U s c.length cap] 24)).alloc (Cc #[Bb x.none,U vs x.vars.length vc,U fs x.flds.length fc] 28)).alloc (Cc #[Bb x.none,U vs x.vars.length vc,U fs x.flds.length fc] 28)):=by go_grown
 have HC:=aa (eS V F s c cap (sO ⟨((w.alloc (Cc #[I Y V,I Y F,U s c.length cap] 24)).alloc (Cc #[Bb x.none,U vs x.vars.length vc,U fs x.flds.length fc] 28)).heap.size,0,nO⟩) [x] 1 (((w.alloc (Cc #[I Y V,I Y F,U s c.length cap] 24)).alloc (Cc #[Bb x.none,U vs x.vars.length vc,U fs x.flds.length fc] 28)).alloc (Cc #[Bb x.none,U vs x.vars.length vc,U fs x.flds.length fc] 28)) (hc.below B1 (lR _)) (XsAt.new1 ((w.alloc (Cc #[I Y V,I Y F,U s c.length cap] 24)).alloc (Cc #[Bb x.none,U vs x.vars.length vc,U fs x.flds.length fc] 28)) x vs vc fs fc (hP.below (B:=w.heap.size) (by go_grown) (lR _)) h1 h2) (by simp))
 simp only[zA] at HC
 go_enter Tryz.func41,Tryz.ntmps41
 go_wp2_with (go_at_call 43;fail)
 refine HC.out.mono ?_
 rintro e w1 ⟨rfl,hb1⟩
 go_wp2
 go_ret
 exact⟨rfl,B1.trans (hb1.mono (by first|omega|exact B1.size))⟩
theorem CN {c:List Ins}{g:Gs}(h:aC c g=0):cB g g=true:=by
 have hs:dd g.sp=0:=by
  unfold aC at h
  split at h
  ·exact h
  ·rename_i h1;simpa using h1
 have hok:=ckSp_ok.1 hs
 obtain⟨n,⟨sn,lo,hi⟩,t,f,s⟩:=g
 have h4:=hok.2.2.2
 simp only at h4
 unfold cB eK Sp.has
 cases n<;>cases t<;>cases f<;>cases sn<;>simp<;>omega
theorem nX {a b x y:List Gs}(h:a.length=b.length):fr (a++x) (b++y)=(fr a b&&fr x y):=by
 unfold fr
 rw[List.zipWith_append h,List.all_append]
theorem o5:∀{a b:List (List Gs)},a.length=b.length→(∀i (h:i < a.length) (h':i < b.length),a[i].length=b[i].length)→fr a.flatten b.flatten=Ie a b
 |[],[],_,_=>rfl
 |[],_::_,h,_=>by simp at h
 |_::_,[],h,_=>by simp at h
 |r::a,q::b,h,hr=>by
  have h0:=hr 0 (by simp) (by simp)
  rw[j1,j1,nX (by simpa using h0),o5 (by simpa using h) λi h1 h2=>by
   have:=hr (i+1) (by simpa using h1) (by simpa using h2)
   simpa using this]
  rfl
theorem AW {V F:Int}{c:List Ins}{x y:Pic}(h1:aK V F c x=0)(h2:aK V F c y=0)(hn:x.none=false)(hm:y.none=false):fr (bJ x) (bJ y)=bw x y∧(bJ x).length=(bJ y).length∧(∀g∈bJ x,aC c g=0)∧∀g∈bJ y,aC c g=0:=by
 obtain⟨a1,a2,a3,a4,a5⟩:=kI h1 hn
 obtain⟨b1,b2,b3,b4,b5⟩:=kI h2 hm
 have hv:x.vars.length=y.vars.length:=by omega
 have hl:x.flds.length=y.flds.length:=by omega
 have hr:∀i (h:i < x.flds.length) (h':i < y.flds.length),x.flds[i].length=y.flds[i].length:=λi h h'=>by have:=a3 _ (gM h);have:=b3 _ (gM h');omega
 refine⟨?_,?_,λg hg=> ?_,λg hg=> ?_⟩
 ·unfold bJ bw
  rw[nX hv,o5 hl hr,hn,hm]
  rfl
 ·unfold bJ
  rw[j2,j2,hv]
  congr 1
  have e1:∀r∈x.flds,r.length=F.toNat:=λr hr=>by have:=a3 r hr;omega
  have e2:∀r∈y.flds,r.length=F.toNat:=λr hr=>by have:=b3 r hr;omega
  rw[mw e1,mw e2,hl]
 ·unfold bJ at hg
  rcases j3.1 hg with hg|hg
  ·exact a4 g hg
  ·obtain⟨r,hr,hg⟩:=j4.1 hg
   exact a5 r hr g hg
 ·unfold bJ at hg
  rcases j3.1 hg with hg|hg
  ·exact b4 g hg
  ·obtain⟨r,hr,hg⟩:=j4.1 hg
   exact b5 r hr g hg
theorem vL (V F:Int)(s:Option Addr)(c:List Ins)(cap:Nat)(g:Gs)(ss:Option Addr)(gc:Nat)(h:Gs)(st:Option Addr)(hc:Nat)(w:World)(hcd:CodeAt w s c)(hs:IntsAt w ss g.s)(h1:g.s.length≤gc)(h2:gc≤maxLen)(ht:IntsAt w st h.s)(h3:h.s.length≤hc)(h4:hc≤maxLen)(h0:ai V F c=0)(hg:aC c g=0)(hh:aC c h=0):
  Calls pG 166 #[pv V F s c cap,gv g ss gc,gv h st hc] w λe w'=>e=Rt (Bb (cB g h))∧Below w.heap.size w w':=by
 have B0:Below w.heap.size w (((w.alloc (Cc #[I Y V,I Y F,U s c.length cap] 24)).alloc (Cc #[Bb g.n,Bb g.sp.n,I Y g.sp.lo,I Y g.sp.hi,Bb g.t,Bb g.f,U ss g.s.length gc] 91)).alloc (Cc #[Bb h.n,Bb h.sp.n,I Y h.sp.lo,I Y h.sp.hi,Bb h.t,Bb h.f,U st h.s.length hc] 91)):=by go_grown
 have P0:=(PrAt.new w V F s c cap).call (w':=(((w.alloc (Cc #[I Y V,I Y F,U s c.length cap] 24)).alloc (Cc #[Bb g.n,Bb g.sp.n,I Y g.sp.lo,I Y g.sp.hi,Bb g.t,Bb g.f,U ss g.s.length gc] 91)).alloc (Cc #[Bb h.n,Bb h.sp.n,I Y h.sp.lo,I Y h.sp.hi,Bb h.t,Bb h.f,U st h.s.length hc] 91))) (by go_grown)
 have G0:=(GuAt.new (w.alloc (Cc #[I Y V,I Y F,U s c.length cap] 24)) g ss gc).call (w':=(((w.alloc (Cc #[I Y V,I Y F,U s c.length cap] 24)).alloc (Cc #[Bb g.n,Bb g.sp.n,I Y g.sp.lo,I Y g.sp.hi,Bb g.t,Bb g.f,U ss g.s.length gc] 91)).alloc (Cc #[Bb h.n,Bb h.sp.n,I Y h.sp.lo,I Y h.sp.hi,Bb h.t,Bb h.f,U st h.s.length hc] 91))) (by go_grown)
 have H0:=GuAt.new ((w.alloc (Cc #[I Y V,I Y F,U s c.length cap] 24)).alloc (Cc #[Bb g.n,Bb g.sp.n,I Y g.sp.lo,I Y g.sp.hi,Bb g.t,Bb g.f,U ss g.s.length gc] 91)) h st hc
 rw[zA] at G0
 rw[zA,zA] at H0
 have C0:=hcd.below B0 (lR _)
 have I0:=hs.below B0 (lR _)
 have J0:=ht.below B0 (lR _)
 have HS:=aa (mB g ss gc h st hc (((w.alloc (Cc #[I Y V,I Y F,U s c.length cap] 24)).alloc (Cc #[Bb g.n,Bb g.sp.n,I Y g.sp.lo,I Y g.sp.hi,Bb g.t,Bb g.f,U ss g.s.length gc] 91)).alloc (Cc #[Bb h.n,Bb h.sp.n,I Y h.sp.lo,I Y h.sp.hi,Bb h.t,Bb h.f,U st h.s.length hc] 91)) I0 J0 (lT h1 h2) (lT h3 h4))
 have HW:Hid (∀wx,CodeAt wx s c→IntsAt wx ss g.s→IntsAt wx st h.s→Calls pG 161 #[pv V F s c cap,gv g ss gc,gv h st hc] wx λe w'=>e=Rt (Tu #[Bb (cB g h),I Y 0])∧Below wx.heap.size wx w'):=λwx x1 x2 x3=>by
  have hk:=lF h0 hg hh
  have:=GL V F s c cap g ss gc h st hc wx x1 x2 h1 h2 x3 h3 h4
  rw[hk,if_pos rfl] at this
  exact this
 have HQ:Hid (dC g h=true→cB g h=true):=λe=>by rw[←sameGs_iff.1 e];exact CN hg
 clear hcd hs ht
 go_enter Tryz.func166,Tryz.ntmps166
 go_wp2_with (go_at_call 178;fail)
 generalize (((w.alloc (Cc #[I Y V,I Y F,U s c.length cap] 24)).alloc (Cc #[Bb g.n,Bb g.sp.n,I Y g.sp.lo,I Y g.sp.hi,Bb g.t,Bb g.f,U ss g.s.length gc] 91)).alloc (Cc #[Bb h.n,Bb h.sp.n,I Y h.sp.lo,I Y h.sp.hi,Bb h.t,Bb h.f,U st h.s.length hc] 91))=w1 at *
 refine HS.out.mono ?_
 rintro e w2 ⟨rfl,hb2⟩
 rcases (show dC g h=false∨dC g h=true by cases dC g h<;>simp) with hq|hq<;>have HSG:=aa hq<;>rw[hq]<;>clear hq
 ·obtain⟨⟨p0,p1,p2⟩,pz⟩:=id (P0.call hb2)
  obtain⟨⟨q0,q1,q2,q3,q4,q5,q6⟩,qz⟩:=id (G0.call hb2)
  obtain⟨⟨r0,r1,r2,r3,r4,r5,r6⟩,rz⟩:=id (H0.call hb2)
  simp only[Nat.zero_add] at q0 q1 q2 q3 q4 q5 q6 r0 r1 r2 r3 r4 r5 r6
  go_wp2_with (go_at_call 161;fail)
  refine(HW.out _ (C0.call hb2) (I0.call hb2) (J0.call hb2)).mono ?_
  rintro e w3 ⟨rfl,hb3⟩
  go_wp2
  go_ret
  exact⟨rfl,B0.trans ((hb2.trans (hb3.mono hb2.size)).mono B0.size)⟩
 ·go_wp2
  go_ret
  exact⟨aI (HQ.out HSG.out).symm,B0.trans (hb2.mono B0.size)⟩

theorem yS (V F:Int)(s:Option Addr)(c:List Ins)(cap:Nat)(x:Pic)(vs1:Option Addr)(vc1:Nat)(fs1:Option Addr)(fc1:Nat)(y:Pic)(vs2:Option Addr)(vc2:Nat)(fs2:Option Addr)(fc2:Nat)(w:World)(hcd:CodeAt w s c)(hx:PicAt w x vs1 fs1)(h1:x.vars.length≤vc1∧vc1≤maxLen)(h2:x.flds.length≤fc1∧fc1≤maxLen)(hy:PicAt w y vs2 fs2)(h3:y.vars.length≤vc2∧vc2≤maxLen)(h4:y.flds.length≤fc2∧fc2≤maxLen)(h:aJ V F c [x,y]≠0):
  Calls pG 102 #[pv V F s c cap,xv x vs1 vc1 fs1 fc1,xv y vs2 vc2 fs2 fc2] w λe w'=>e=Rt (Tu #[Bb false,I Y (aJ V F c [x,y])])∧Below w.heap.size w w':=by
 have B0:Below w.heap.size w (((w.alloc (Cc #[I Y V,I Y F,U s c.length cap] 24)).alloc (Cc #[Bb x.none,U vs1 x.vars.length vc1,U fs1 x.flds.length fc1] 28)).alloc (Cc #[Bb y.none,U vs2 y.vars.length vc2,U fs2 y.flds.length fc2] 28)):=by go_grown
 have P0:=(PrAt.new w V F s c cap).call (w':=(((w.alloc (Cc #[I Y V,I Y F,U s c.length cap] 24)).alloc (Cc #[Bb x.none,U vs1 x.vars.length vc1,U fs1 x.flds.length fc1] 28)).alloc (Cc #[Bb y.none,U vs2 y.vars.length vc2,U fs2 y.flds.length fc2] 28))) (by go_grown)
 have X0:=(XAt.new (w.alloc (Cc #[I Y V,I Y F,U s c.length cap] 24)) x vs1 vc1 fs1 fc1).call (w':=(((w.alloc (Cc #[I Y V,I Y F,U s c.length cap] 24)).alloc (Cc #[Bb x.none,U vs1 x.vars.length vc1,U fs1 x.flds.length fc1] 28)).alloc (Cc #[Bb y.none,U vs2 y.vars.length vc2,U fs2 y.flds.length fc2] 28))) (by go_grown)
 have Y0:=XAt.new ((w.alloc (Cc #[I Y V,I Y F,U s c.length cap] 24)).alloc (Cc #[Bb x.none,U vs1 x.vars.length vc1,U fs1 x.flds.length fc1] 28)) y vs2 vc2 fs2 fc2
 rw[zA] at X0
 rw[zA,zA] at Y0
 have C0:=hcd.below B0 (lR _)
 have PX:=hx.below B0 (lR _)
 have PY:=hy.below B0 (lR _)
 have HC:=aa (eS V F s c cap (sO ⟨(((w.alloc (Cc #[I Y V,I Y F,U s c.length cap] 24)).alloc (Cc #[Bb x.none,U vs1 x.vars.length vc1,U fs1 x.flds.length fc1] 28)).alloc (Cc #[Bb y.none,U vs2 y.vars.length vc2,U fs2 y.flds.length fc2] 28)).heap.size,0,nO⟩) [x,y] 2 ((((w.alloc (Cc #[I Y V,I Y F,U s c.length cap] 24)).alloc (Cc #[Bb x.none,U vs1 x.vars.length vc1,U fs1 x.flds.length fc1] 28)).alloc (Cc #[Bb y.none,U vs2 y.vars.length vc2,U fs2 y.flds.length fc2] 28)).alloc (Cc #[Bb x.none,U vs1 x.vars.length vc1,U fs1 x.flds.length fc1,Bb y.none,U vs2 y.vars.length vc2,U fs2 y.flds.length fc2] 28)) (C0.call (by go_grown)) (XsAt.new2 (((w.alloc (Cc #[I Y V,I Y F,U s c.length cap] 24)).alloc (Cc #[Bb x.none,U vs1 x.vars.length vc1,U fs1 x.flds.length fc1] 28)).alloc (Cc #[Bb y.none,U vs2 y.vars.length vc2,U fs2 y.flds.length fc2] 28)) x vs1 vc1 fs1 fc1 y vs2 vc2 fs2 fc2 PX h1 h2 PY h3 h4) (by simp))
 have hbz:Below (((w.alloc (Cc #[I Y V,I Y F,U s c.length cap] 24)).alloc (Cc #[Bb x.none,U vs1 x.vars.length vc1,U fs1 x.flds.length fc1] 28)).alloc (Cc #[Bb y.none,U vs2 y.vars.length vc2,U fs2 y.flds.length fc2] 28)).heap.size (((w.alloc (Cc #[I Y V,I Y F,U s c.length cap] 24)).alloc (Cc #[Bb x.none,U vs1 x.vars.length vc1,U fs1 x.flds.length fc1] 28)).alloc (Cc #[Bb y.none,U vs2 y.vars.length vc2,U fs2 y.flds.length fc2] 28)) ((((w.alloc (Cc #[I Y V,I Y F,U s c.length cap] 24)).alloc (Cc #[Bb x.none,U vs1 x.vars.length vc1,U fs1 x.flds.length fc1] 28)).alloc (Cc #[Bb y.none,U vs2 y.vars.length vc2,U fs2 y.flds.length fc2] 28)).alloc (Cc #[Bb x.none,U vs1 x.vars.length vc1,U fs1 x.flds.length fc1,Bb y.none,U vs2 y.vars.length vc2,U fs2 y.flds.length fc2] 28)):=by go_grown
 have e3:(((w.alloc (Cc #[I Y V,I Y F,U s c.length cap] 24)).alloc (Cc #[Bb x.none,U vs1 x.vars.length vc1,U fs1 x.flds.length fc1] 28)).alloc (Cc #[Bb y.none,U vs2 y.vars.length vc2,U fs2 y.flds.length fc2] 28)).heap.size=w.heap.size+1+1+1:=by simp
 have d1:(aJ V F c [x,y]!=0)=true:=by simpa using h
 have HB:Hid (Below w.heap.size w ((((w.alloc (Cc #[I Y V,I Y F,U s c.length cap] 24)).alloc (Cc #[Bb x.none,U vs1 x.vars.length vc1,U fs1 x.flds.length fc1] 28)).alloc (Cc #[Bb y.none,U vs2 y.vars.length vc2,U fs2 y.flds.length fc2] 28)).alloc (Cc #[Bb x.none,U vs1 x.vars.length vc1,U fs1 x.flds.length fc1,Bb y.none,U vs2 y.vars.length vc2,U fs2 y.flds.length fc2] 28))):=B0.trans (hbz.mono B0.size)
 generalize aJ V F c [x,y]=ce at *
 clear h hx hy hcd PX PY P0 X0 Y0 C0 hbz
 rw[e3] at HC
 clear e3
 go_enter Tryz.func102,Tryz.ntmps102
 go_wp2_with (go_at_call 43;fail)
 refine HC.out.mono ?_
 rintro e w1 ⟨rfl,hb1⟩
 go_wp2
 refine bodyPost_ret (v:=Tu #[Bb false,I Y ce]) (by simp[results,Tryz.results102,go_sem]) rfl ⟨rfl,HB.out.trans (hb1.mono (by first|omega|exact HB.out.size))⟩

theorem wV (V F:Int)(s:Option Addr)(c:List Ins)(cap:Nat)(x:Pic)(vs1:Option Addr)(vc1:Nat)(fs1:Option Addr)(fc1:Nat)(y:Pic)(vs2:Option Addr)(vc2:Nat)(fs2:Option Addr)(fc2:Nat)(w:World)(hcd:CodeAt w s c)(hx:PicAt w x vs1 fs1)(h1:x.vars.length≤vc1∧vc1≤maxLen)(h2:x.flds.length≤fc1∧fc1≤maxLen)(hy:PicAt w y vs2 fs2)(h3:y.vars.length≤vc2∧vc2≤maxLen)(h4:y.flds.length≤fc2∧fc2≤maxLen)(h:aJ V F c [x,y]=0)(hn:x.none=true∨y.none=true):
  Calls pG 102 #[pv V F s c cap,xv x vs1 vc1 fs1 fc1,xv y vs2 vc2 fs2 fc2] w λe w'=>e=Rt (Tu #[Bb (bw x y),I Y 0])∧Below w.heap.size w w':=by
 have B0:Below w.heap.size w (((w.alloc (Cc #[I Y V,I Y F,U s c.length cap] 24)).alloc (Cc #[Bb x.none,U vs1 x.vars.length vc1,U fs1 x.flds.length fc1] 28)).alloc (Cc #[Bb y.none,U vs2 y.vars.length vc2,U fs2 y.flds.length fc2] 28)):=by go_grown
 have P0:=(PrAt.new w V F s c cap).call (w':=(((w.alloc (Cc #[I Y V,I Y F,U s c.length cap] 24)).alloc (Cc #[Bb x.none,U vs1 x.vars.length vc1,U fs1 x.flds.length fc1] 28)).alloc (Cc #[Bb y.none,U vs2 y.vars.length vc2,U fs2 y.flds.length fc2] 28))) (by go_grown)
 have X0:=(XAt.new (w.alloc (Cc #[I Y V,I Y F,U s c.length cap] 24)) x vs1 vc1 fs1 fc1).call (w':=(((w.alloc (Cc #[I Y V,I Y F,U s c.length cap] 24)).alloc (Cc #[Bb x.none,U vs1 x.vars.length vc1,U fs1 x.flds.length fc1] 28)).alloc (Cc #[Bb y.none,U vs2 y.vars.length vc2,U fs2 y.flds.length fc2] 28))) (by go_grown)
 have Y0:=XAt.new ((w.alloc (Cc #[I Y V,I Y F,U s c.length cap] 24)).alloc (Cc #[Bb x.none,U vs1 x.vars.length vc1,U fs1 x.flds.length fc1] 28)) y vs2 vc2 fs2 fc2
 rw[zA] at X0
 rw[zA,zA] at Y0
 have C0:=hcd.below B0 (lR _)
 have PX:=hx.below B0 (lR _)
 have PY:=hy.below B0 (lR _)
 have HC:=aa (eS V F s c cap (sO ⟨(((w.alloc (Cc #[I Y V,I Y F,U s c.length cap] 24)).alloc (Cc #[Bb x.none,U vs1 x.vars.length vc1,U fs1 x.flds.length fc1] 28)).alloc (Cc #[Bb y.none,U vs2 y.vars.length vc2,U fs2 y.flds.length fc2] 28)).heap.size,0,nO⟩) [x,y] 2 ((((w.alloc (Cc #[I Y V,I Y F,U s c.length cap] 24)).alloc (Cc #[Bb x.none,U vs1 x.vars.length vc1,U fs1 x.flds.length fc1] 28)).alloc (Cc #[Bb y.none,U vs2 y.vars.length vc2,U fs2 y.flds.length fc2] 28)).alloc (Cc #[Bb x.none,U vs1 x.vars.length vc1,U fs1 x.flds.length fc1,Bb y.none,U vs2 y.vars.length vc2,U fs2 y.flds.length fc2] 28)) (C0.call (by go_grown)) (XsAt.new2 (((w.alloc (Cc #[I Y V,I Y F,U s c.length cap] 24)).alloc (Cc #[Bb x.none,U vs1 x.vars.length vc1,U fs1 x.flds.length fc1] 28)).alloc (Cc #[Bb y.none,U vs2 y.vars.length vc2,U fs2 y.flds.length fc2] 28)) x vs1 vc1 fs1 fc1 y vs2 vc2 fs2 fc2 PX h1 h2 PY h3 h4) (by simp))
 have hbz:Below (((w.alloc (Cc #[I Y V,I Y F,U s c.length cap] 24)).alloc (Cc #[Bb x.none,U vs1 x.vars.length vc1,U fs1 x.flds.length fc1] 28)).alloc (Cc #[Bb y.none,U vs2 y.vars.length vc2,U fs2 y.flds.length fc2] 28)).heap.size (((w.alloc (Cc #[I Y V,I Y F,U s c.length cap] 24)).alloc (Cc #[Bb x.none,U vs1 x.vars.length vc1,U fs1 x.flds.length fc1] 28)).alloc (Cc #[Bb y.none,U vs2 y.vars.length vc2,U fs2 y.flds.length fc2] 28)) ((((w.alloc (Cc #[I Y V,I Y F,U s c.length cap] 24)).alloc (Cc #[Bb x.none,U vs1 x.vars.length vc1,U fs1 x.flds.length fc1] 28)).alloc (Cc #[Bb y.none,U vs2 y.vars.length vc2,U fs2 y.flds.length fc2] 28)).alloc (Cc #[Bb x.none,U vs1 x.vars.length vc1,U fs1 x.flds.length fc1,Bb y.none,U vs2 y.vars.length vc2,U fs2 y.flds.length fc2] 28)):=by go_grown
 have e3:(((w.alloc (Cc #[I Y V,I Y F,U s c.length cap] 24)).alloc (Cc #[Bb x.none,U vs1 x.vars.length vc1,U fs1 x.flds.length fc1] 28)).alloc (Cc #[Bb y.none,U vs2 y.vars.length vc2,U fs2 y.flds.length fc2] 28)).heap.size=w.heap.size+1+1+1:=by simp
 have HB:=aa hbz
 have er:bw x y=x.none:=by
  unfold bw
  rcases hn with hn|hn
  ·rw[hn];rfl
  ·rw[hn];cases x.none<;>rfl
 rw[er]
 rw[h,e3] at HC
 clear er h hx hy hcd PX PY P0 C0 hbz e3
 go_enter Tryz.func102,Tryz.ntmps102
 go_wp2_with (go_at_call 43;fail)
 refine HC.out.mono ?_
 rintro e w1 ⟨rfl,hb1⟩
 have hb01:Below (((w.alloc (Cc #[I Y V,I Y F,U s c.length cap] 24)).alloc (Cc #[Bb x.none,U vs1 x.vars.length vc1,U fs1 x.flds.length fc1] 28)).alloc (Cc #[Bb y.none,U vs2 y.vars.length vc2,U fs2 y.flds.length fc2] 28)).heap.size (((w.alloc (Cc #[I Y V,I Y F,U s c.length cap] 24)).alloc (Cc #[Bb x.none,U vs1 x.vars.length vc1,U fs1 x.flds.length fc1] 28)).alloc (Cc #[Bb y.none,U vs2 y.vars.length vc2,U fs2 y.flds.length fc2] 28)) w1:=HB.out.trans (hb1.mono (by first|exact HB.out.size|(simp;omega)|omega))
 obtain⟨⟨a0,a1,a2⟩,az,-⟩:=id (X0.call hb01)
 obtain⟨⟨b0,b1,b2⟩,bz,-⟩:=id (Y0.call hb01)
 have B1:=B0.trans (hb01.mono B0.size)
 clear X0 Y0 HB hb1 hb01 B0
 obtain⟨xn,vx,fx⟩:=x
 obtain⟨yn,vy,fy⟩:=y
 simp only at a0 a1 a2 b0 b1 b2 hn
 cases xn with
 |true=>
  go_wp2
  refine bodyPost_ret (v:=Tu #[Bb true,I Y 0]) (by simp[results,Tryz.results102,go_sem]) rfl ⟨rfl,B1⟩
 |false=>
  have hy:yn=true:=by simpa using hn
  subst hy
  go_wp2
  refine bodyPost_ret (v:=Tu #[Bb false,I Y 0]) (by simp[results,Tryz.results102,go_sem]) rfl ⟨rfl,B1⟩
theorem yb (V F:Int)(s:Option Addr)(c:List Ins)(cap:Nat)(x:Pic)(vs1:Option Addr)(vc1:Nat)(fs1:Option Addr)(fc1:Nat)(y:Pic)(vs2:Option Addr)(vc2:Nat)(fs2:Option Addr)(fc2:Nat)(w:World)(hcd:CodeAt w s c)(hx:PicAt w x vs1 fs1)(h1:x.vars.length≤vc1∧vc1≤maxLen)(h2:x.flds.length≤fc1∧fc1≤maxLen)(hy:PicAt w y vs2 fs2)(h3:y.vars.length≤vc2∧vc2≤maxLen)(h4:y.flds.length≤fc2∧fc2≤maxLen)(h:aJ V F c [x,y]=0)(h0:ai V F c=0)(hcx:aK V F c x=0)(hcy:aK V F c y=0)(hn:x.none=false)(hm:y.none=false):
  Calls pG 102 #[pv V F s c cap,xv x vs1 vc1 fs1 fc1,xv y vs2 vc2 fs2 fc2] w λe w'=>e=Rt (Tu #[Bb (bw x y),I Y 0])∧Below w.heap.size w w':=by
 have B0:Below w.heap.size w (((w.alloc (Cc #[I Y V,I Y F,U s c.length cap] 24)).alloc (Cc #[Bb x.none,U vs1 x.vars.length vc1,U fs1 x.flds.length fc1] 28)).alloc (Cc #[Bb y.none,U vs2 y.vars.length vc2,U fs2 y.flds.length fc2] 28)):=by go_grown
 have P0:=(PrAt.new w V F s c cap).call (w':=(((w.alloc (Cc #[I Y V,I Y F,U s c.length cap] 24)).alloc (Cc #[Bb x.none,U vs1 x.vars.length vc1,U fs1 x.flds.length fc1] 28)).alloc (Cc #[Bb y.none,U vs2 y.vars.length vc2,U fs2 y.flds.length fc2] 28))) (by go_grown)
 have X0:=(XAt.new (w.alloc (Cc #[I Y V,I Y F,U s c.length cap] 24)) x vs1 vc1 fs1 fc1).call (w':=(((w.alloc (Cc #[I Y V,I Y F,U s c.length cap] 24)).alloc (Cc #[Bb x.none,U vs1 x.vars.length vc1,U fs1 x.flds.length fc1] 28)).alloc (Cc #[Bb y.none,U vs2 y.vars.length vc2,U fs2 y.flds.length fc2] 28))) (by go_grown)
 have Y0:=XAt.new ((w.alloc (Cc #[I Y V,I Y F,U s c.length cap] 24)).alloc (Cc #[Bb x.none,U vs1 x.vars.length vc1,U fs1 x.flds.length fc1] 28)) y vs2 vc2 fs2 fc2
 rw[zA] at X0
 rw[zA,zA] at Y0
 have C0:=hcd.below B0 (lR _)
 have PX:=hx.below B0 (lR _)
 have PY:=hy.below B0 (lR _)
 have HC:=aa (eS V F s c cap (sO ⟨(((w.alloc (Cc #[I Y V,I Y F,U s c.length cap] 24)).alloc (Cc #[Bb x.none,U vs1 x.vars.length vc1,U fs1 x.flds.length fc1] 28)).alloc (Cc #[Bb y.none,U vs2 y.vars.length vc2,U fs2 y.flds.length fc2] 28)).heap.size,0,nO⟩) [x,y] 2 ((((w.alloc (Cc #[I Y V,I Y F,U s c.length cap] 24)).alloc (Cc #[Bb x.none,U vs1 x.vars.length vc1,U fs1 x.flds.length fc1] 28)).alloc (Cc #[Bb y.none,U vs2 y.vars.length vc2,U fs2 y.flds.length fc2] 28)).alloc (Cc #[Bb x.none,U vs1 x.vars.length vc1,U fs1 x.flds.length fc1,Bb y.none,U vs2 y.vars.length vc2,U fs2 y.flds.length fc2] 28)) (C0.call (by go_grown)) (XsAt.new2 (((w.alloc (Cc #[I Y V,I Y F,U s c.length cap] 24)).alloc (Cc #[Bb x.none,U vs1 x.vars.length vc1,U fs1 x.flds.length fc1] 28)).alloc (Cc #[Bb y.none,U vs2 y.vars.length vc2,U fs2 y.flds.length fc2] 28)) x vs1 vc1 fs1 fc1 y vs2 vc2 fs2 fc2 PX h1 h2 PY h3 h4) (by simp))
 have hbz:Below (((w.alloc (Cc #[I Y V,I Y F,U s c.length cap] 24)).alloc (Cc #[Bb x.none,U vs1 x.vars.length vc1,U fs1 x.flds.length fc1] 28)).alloc (Cc #[Bb y.none,U vs2 y.vars.length vc2,U fs2 y.flds.length fc2] 28)).heap.size (((w.alloc (Cc #[I Y V,I Y F,U s c.length cap] 24)).alloc (Cc #[Bb x.none,U vs1 x.vars.length vc1,U fs1 x.flds.length fc1] 28)).alloc (Cc #[Bb y.none,U vs2 y.vars.length vc2,U fs2 y.flds.length fc2] 28)) ((((w.alloc (Cc #[I Y V,I Y F,U s c.length cap] 24)).alloc (Cc #[Bb x.none,U vs1 x.vars.length vc1,U fs1 x.flds.length fc1] 28)).alloc (Cc #[Bb y.none,U vs2 y.vars.length vc2,U fs2 y.flds.length fc2] 28)).alloc (Cc #[Bb x.none,U vs1 x.vars.length vc1,U fs1 x.flds.length fc1,Bb y.none,U vs2 y.vars.length vc2,U fs2 y.flds.length fc2] 28)):=by go_grown
 have e3:(((w.alloc (Cc #[I Y V,I Y F,U s c.length cap] 24)).alloc (Cc #[Bb x.none,U vs1 x.vars.length vc1,U fs1 x.flds.length fc1] 28)).alloc (Cc #[Bb y.none,U vs2 y.vars.length vc2,U fs2 y.flds.length fc2] 28)).heap.size=w.heap.size+1+1+1:=by simp
 have HB:=aa hbz
 obtain⟨ei,el,rx,ry⟩:=AW hcx hcy hn hm
 have hfx:bG V F c x=true:=by
  unfold aK at hcx
  split at hcx
  ·cases hcx
  ·rename_i hq;simpa using hq
 have hfy:bG V F c y=true:=by
  unfold aK at hcy
  split at hcy
  ·cases hcy
  ·rename_i hq;simpa using hq
 obtain⟨lx,lx'⟩:=i8 h0 hfx
 obtain⟨ly,ly'⟩:=i8 h0 hfy
 obtain⟨-,-,h60⟩:=bM h0
 have HAX:Hid (∀wx,PicAt wx x vs1 fs1→Calls pG 138 #[xv x vs1 vc1 fs1 fc1] wx λe w'=>pI w' e (bJ x)∧Below wx.heap.size wx w'):=λwx hx=>pE x vs1 vc1 fs1 fc1 wx hx h1.1 h1.2 (by omega) lx
 have HAY:Hid (∀wx,PicAt wx y vs2 fs2→Calls pG 138 #[xv y vs2 vc2 fs2 fc2] wx λe w'=>pI w' e (bJ y)∧Below wx.heap.size wx w'):=λwx hx=>pE y vs2 vc2 fs2 fc2 wx hx h3.1 h3.2 (by omega) ly
 have HW:Hid (∀(g:Gs) (ss:Option Addr) (gc:Nat) (h:Gs) (st:Option Addr) (hc:Nat) (wx:World),CodeAt wx s c→IntsAt wx ss g.s→g.s.length≤gc→gc≤maxLen→IntsAt wx st h.s→h.s.length≤hc→hc≤maxLen→aC c g=0→aC c h=0→Calls pG 166 #[pv V F s c cap,gv g ss gc,gv h st hc] wx λe w'=>e=Rt (Bb (cB g h))∧Below wx.heap.size wx w'):=λg ss gc h st hc wx a1 a2 a3 a4 a5 a6 a7 a8 a9=>vL V F s c cap g ss gc h st hc wx a1 a2 a3 a4 a5 a6 a7 h0 a8 a9
 rw[←ei]
 obtain⟨ax,eax⟩:∃ax,ax=bJ x:=⟨_,rfl⟩
 obtain⟨ay,eay⟩:∃ay,ay=bJ y:=⟨_,rfl⟩
 rw[←eax] at HAX rx el lx ⊢
 rw[←eay] at HAY ry el ly ⊢
 obtain⟨res,HR,hres⟩:∃r,Hid (r=fr ax ay)∧fr ax ay=r:=⟨_,rfl,rfl⟩
 rw[hres]
 have HNN:=aa hn
 have HMM:=aa hm
 have EL:=aa el
 have RX:=aa rx
 have RY:=aa ry
 rw[h,e3] at HC
 clear hn hm h ei el rx ry eax eay hres hcx hcy hfx hfy lx' ly' h0 hx hy hcd hbz e3
 go_enter Tryz.func102,Tryz.ntmps102
 go_wp2_with (go_at_call 43;fail)
 refine HC.out.mono ?_
 rintro e w1 ⟨rfl,hb1⟩
 have hb01:Below (((w.alloc (Cc #[I Y V,I Y F,U s c.length cap] 24)).alloc (Cc #[Bb x.none,U vs1 x.vars.length vc1,U fs1 x.flds.length fc1] 28)).alloc (Cc #[Bb y.none,U vs2 y.vars.length vc2,U fs2 y.flds.length fc2] 28)).heap.size (((w.alloc (Cc #[I Y V,I Y F,U s c.length cap] 24)).alloc (Cc #[Bb x.none,U vs1 x.vars.length vc1,U fs1 x.flds.length fc1] 28)).alloc (Cc #[Bb y.none,U vs2 y.vars.length vc2,U fs2 y.flds.length fc2] 28)) w1:=HB.out.trans (hb1.mono (by first|exact HB.out.size|(simp;omega)|omega))
 have X1:=X0.call hb01
 have Y1:=Y0.call hb01
 have P1:=P0.call hb01
 have C1:=C0.call hb01
 have QX:=PX.call hb01
 have QY:=PY.call hb01
 have B1:=B0.trans (hb01.mono B0.size)
 clear X0 Y0 P0 C0 PX PY HB hb1 hb01 B0 HC
 have hn:=HNN.out
 have hm:=HMM.out
 clear HNN HMM
 obtain⟨xn,vx,fx⟩:=x
 obtain⟨yn,vy,fy⟩:=y
 simp only at hn hm
 subst hn hm
 obtain⟨⟨a0,a1,a2⟩,az,-⟩:=id X1
 obtain⟨⟨b0,b1,b2⟩,bz,-⟩:=id Y1
 go_wp2_with (go_at_call 138;fail)
 refine(HAY.out _ QY).mono ?_
 rintro e w2 ⟨⟨rs2,rc2,rfl,GY,ky1,ky2⟩,hb2⟩
 clear a0 a1 a2 az b0 b1 b2 bz
 obtain⟨⟨a0,a1,a2⟩,az,-⟩:=id (X1.call hb2)
 go_wp2_with (go_at_call 138;fail)
 refine(HAX.out _ (QX.call hb2)).mono ?_
 rintro e w3 ⟨⟨rs1,rc1,rfl,GX,kx1,kx2⟩,hb3⟩
 clear a0 a1 a2 az HAX HAY
 have hb13:=hb2.trans (hb3.mono hb2.size)
 have P3:=P1.call hb13
 have C4:=C1.call hb13
 have GY3:=GY.call hb3
 have B3:=B1.trans (hb13.mono B1.size)
 clear P1 C1 X1 Y1 QX QY GY hb2 hb3 hb13 B1
 go_wp2
 go_loopw [33] (λi wr=>∃k:Nat,k≤ax.length∧i=I Y k∧Below w3.heap.size w3 wr∧Hid (res=fr (ax.drop k) (ay.drop k))) (λi _=>ax.length - (intOf i).toNat)
 case atStart=>exact⟨0,Nat.zero_le _,rfl,bR _ _,HR⟩
 case round=>
  obtain⟨k,hk,rfl,hbr,HK⟩:=hrel
  by_cases hlt:k < ax.length
  ·have n0:(0:Int)≤(k:Int):=by omega
   have n1:(k:Int) < (ax.length:Int):=by omega
   have hlt':k < ay.length:=by have:=EL.out;omega
   have n2:(k:Int) < (ay.length:Int):=by omega
   obtain⟨b1,o1,e1,ss1,g1,G1,I1,k1,m1⟩:=(GX.below hbr (lR _)) k hlt
   obtain⟨b2,o2,e2,ss2,g2,G2,J1,k2,m2⟩:=(GY3.below hbr (lR _)) k hlt'
   subst e1 e2
   have hRx:=RX.out _ (gM hlt)
   have hRy:=RY.out _ (gM hlt')
   have HS:=aa (AU ax ay k hlt hlt')
   obtain⟨⟨q0,q1,q2,q3,q4,q5,q6⟩,qz⟩:=id G1
   have Q4:=GuAt.new wr ax[k] ss1 g1
   have hb4:Below wr.heap.size wr (wr.alloc (Cc #[Bb ax[k].n,Bb ax[k].sp.n,I Y ax[k].sp.lo,I Y ax[k].sp.hi,Bb ax[k].t,Bb ax[k].f,U ss1 ax[k].s.length g1] 91)):=by go_grown
   have I4:=I1.call hb4
   have J4:=J1.call hb4
   have G4:=G2.call hb4
   have hb34:=hbr.trans (hb4.mono hbr.size)
   go_upto_region 10 with fail
   generalize wr.alloc (Cc #[Bb ax[k].n,Bb ax[k].sp.n,I Y ax[k].sp.lo,I Y ax[k].sp.hi,Bb ax[k].t,Bb ax[k].f,U ss1 ax[k].s.length g1] 91)=w4 at *
   generalize wr.heap.size=qb at *
   clear q0 q1 q2 q3 q4 q5 q6 qz G1 G2 I1 J1
   have HKZ:Hid (∀wx,Below w4.heap.size w4 wx→(wx.cell? ⟨w.heap.size,0,nO⟩=sO (I Y V)∧wx.cell? ⟨w.heap.size,1,nO⟩=sO (I Y F)∧wx.cell? ⟨w.heap.size,2,nO⟩=sO (U s c.length cap))∧(wx.cell? ⟨qb,0,nO⟩=sO (Bb ax[k].n)∧wx.cell? ⟨qb,0+1,nO⟩=sO (Bb ax[k].sp.n)∧wx.cell? ⟨qb,0+2,nO⟩=sO (I Y ax[k].sp.lo)∧wx.cell? ⟨qb,0+3,nO⟩=sO (I Y ax[k].sp.hi)∧wx.cell? ⟨qb,0+4,nO⟩=sO (Bb ax[k].t)∧wx.cell? ⟨qb,0+5,nO⟩=sO (Bb ax[k].f)∧wx.cell? ⟨qb,0+6,nO⟩=sO (U ss1 ax[k].s.length g1))∧(wx.cell? ⟨b2,o2+k * 7,nO⟩=sO (Bb ay[k].n)∧wx.cell? ⟨b2,o2+k * 7+1,nO⟩=sO (Bb ay[k].sp.n)∧wx.cell? ⟨b2,o2+k * 7+2,nO⟩=sO (I Y ay[k].sp.lo)∧wx.cell? ⟨b2,o2+k * 7+3,nO⟩=sO (I Y ay[k].sp.hi)∧wx.cell? ⟨b2,o2+k * 7+4,nO⟩=sO (Bb ay[k].t)∧wx.cell? ⟨b2,o2+k * 7+5,nO⟩=sO (Bb ay[k].f)∧wx.cell? ⟨b2,o2+k * 7+6,nO⟩=sO (U ss2 ay[k].s.length g2))):=λwx hx=>⟨((P3.call hb34).call hx).1,(Q4.call hx).1,(G4.call hx).1⟩
   have HD:Below w4.heap.size w4 w4.drew:=(bR _ _).drew
   refine au (S:=(λwx=>(wx.cell? ⟨w.heap.size,0,nO⟩=sO (I Y V)∧wx.cell? ⟨w.heap.size,1,nO⟩=sO (I Y F)∧wx.cell? ⟨w.heap.size,2,nO⟩=sO (U s c.length cap))∧(wx.cell? ⟨qb,0,nO⟩=sO (Bb ax[k].n)∧wx.cell? ⟨qb,0+1,nO⟩=sO (Bb ax[k].sp.n)∧wx.cell? ⟨qb,0+2,nO⟩=sO (I Y ax[k].sp.lo)∧wx.cell? ⟨qb,0+3,nO⟩=sO (I Y ax[k].sp.hi)∧wx.cell? ⟨qb,0+4,nO⟩=sO (Bb ax[k].t)∧wx.cell? ⟨qb,0+5,nO⟩=sO (Bb ax[k].f)∧wx.cell? ⟨qb,0+6,nO⟩=sO (U ss1 ax[k].s.length g1))∧(wx.cell? ⟨b2,o2+k * 7,nO⟩=sO (Bb ay[k].n)∧wx.cell? ⟨b2,o2+k * 7+1,nO⟩=sO (Bb ay[k].sp.n)∧wx.cell? ⟨b2,o2+k * 7+2,nO⟩=sO (I Y ay[k].sp.lo)∧wx.cell? ⟨b2,o2+k * 7+3,nO⟩=sO (I Y ay[k].sp.hi)∧wx.cell? ⟨b2,o2+k * 7+4,nO⟩=sO (Bb ay[k].t)∧wx.cell? ⟨b2,o2+k * 7+5,nO⟩=sO (Bb ay[k].f)∧wx.cell? ⟨b2,o2+k * 7+6,nO⟩=sO (U ss2 ay[k].s.length g2)))) [] (by kernel_rfl) (HKZ.out _ HD) (λhHeld=> ?_)
   refine vZ 0 ?_ ?_
   refine vZ 1 ?_ ?_
   refine vZ 2 ?_ ?_
   refine vZ 3 ?_ ?_
   refine vZ 4 ?_ ?_
   refine vZ 5 ?_ ?_
   refine an (i:=6) rfl (by kernel_rfl) (λK hK=> ?_)
   go_simp
   go_at_call 166
   refine(HW.out ax[k] ss1 g1 ay[k] ss2 g2 _ (C4.call (hb34.trans (HD.mono hb34.size))) (I4.call HD) k1 m1 (J4.call HD) k2 m2 hRx hRy).mono ?_
   rintro e w5 ⟨rfl,hb5⟩
   have HB5:Below w4.heap.size w4 w5:=HD.trans (hb5.mono HD.size)
   go_wp2_with fail
   refine hK.out _ _ (HKZ.out _ HB5) (λhHeld=> ?_)
   clear hK K
   refine sm ?_
   refine vZ 7 ?_ ?_
   refine aq (by kernel_rfl) ?_ _
   have hb35:=hb34.trans (HB5.mono hb34.size)
   rcases (show cB ax[k] ay[k]=false∨cB ax[k] ay[k]=true by cases cB ax[k] ay[k]<;>simp) with hs|hs<;>have HSG:=aa hs<;>rw[hs]<;>clear hs
   ·go_wp2
    refine bodyPost_ret (v:=Tu #[Bb false,I Y 0]) (by simp[results,Tryz.results102,go_sem]) rfl ⟨?_,B3.trans (hb35.mono B3.size)⟩
    rw[HK.out,HS.out,HSG.out]
    rfl
   ·go_wp2
    go_roundw
    case rel=>exact⟨k+1,by omega,by go_num,hb35,by show _=_;rw[HK.out,HS.out,HSG.out];rfl⟩
    case measure=>simp[intOf];omega
  ·have n1:¬(k:Int) < (ax.length:Int):=by omega
   go_wp2
   refine bodyPost_ret (v:=Tu #[Bb true,I Y 0]) (by simp[results,Tryz.results102,go_sem]) rfl ⟨?_,B3.trans (hbr.mono B3.size)⟩
   rw[HK.out,j0 (by omega)]
   rfl

theorem Fe (V F:Int)(s:Option Addr)(c:List Ins)(cap:Nat)(x:Pic)(vs1:Option Addr)(vc1:Nat)(fs1:Option Addr)(fc1:Nat)(y:Pic)(vs2:Option Addr)(vc2:Nat)(fs2:Option Addr)(fc2:Nat)(w:World)(hcd:CodeAt w s c)(hx:PicAt w x vs1 fs1)(h1:x.vars.length≤vc1∧vc1≤maxLen)(h2:x.flds.length≤fc1∧fc1≤maxLen)(hy:PicAt w y vs2 fs2)(h3:y.vars.length≤vc2∧vc2≤maxLen)(h4:y.flds.length≤fc2∧fc2≤maxLen):
  Calls pG 102 #[pv V F s c cap,xv x vs1 vc1 fs1 fc1,xv y vs2 vc2 fs2 fc2] w λe w'=>e=Rt (Tu #[Bb (if aJ V F c [x,y]=0 then bw x y else false),I Y (aJ V F c [x,y])])∧Below w.heap.size w w':=by
 by_cases h:aJ V F c [x,y]=0
 ·rw[h,if_pos rfl]
  have h0:ai V F c=0:=by
   unfold aJ at h
   split at h
   ·assumption
   ·exact h
  have hl:cy V F c [x,y]=0:=by
   unfold aJ at h
   rw[if_pos h0] at h
   exact h
  have hcx:aK V F c x=0:=by
   unfold cy at hl
   split at hl
   ·assumption
   ·exact hl
  have hcy:aK V F c y=0:=by
   unfold cy at hl
   rw[if_pos hcx] at hl
   unfold cy at hl
   split at hl
   ·assumption
   ·exact hl
  by_cases hn:x.none=true∨y.none=true
  ·exact wV V F s c cap x vs1 vc1 fs1 fc1 y vs2 vc2 fs2 fc2 w hcd hx h1 h2 hy h3 h4 h hn
  ·exact yb V F s c cap x vs1 vc1 fs1 fc1 y vs2 vc2 fs2 fc2 w hcd hx h1 h2 hy h3 h4 h h0 hcx hcy (by cases hq:x.none<;>simp_all) (by cases hq:y.none<;>simp_all)
 ·rw[if_neg h]
  exact yS V F s c cap x vs1 vc1 fs1 fc1 y vs2 vc2 fs2 fc2 w hcd hx h1 h2 hy h3 h4 h
end
end Go.Proofs.YtmapdpcfanecdabGreatDoor
