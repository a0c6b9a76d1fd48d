import Derived.Test.YtmapdpcfanecdabGreatDoorM36
import Derived.Test.YtmapdpcfanecdabGreatDoorM35
open Go.Ending renaming returned→Rt
open Go.IntKind renaming i64→Y
open Go.Obj renaming cells→Cc
open Go.Proofs.Tryz renaming prog→pG
open Go.RowKit.Below renaming refl→bR
open Go.Value renaming bool→Bb,int→I,pointer→Pp,slice→U,tuple→Tu
open Go.World renaming size_alloc→zA
open List renaming drop_eq_nil_of_le→j1,eq_nil_of_length_eq_zero→j2
open Nat renaming le_refl→lR,le_trans→lT,zero_le→j0
open Option renaming none→nO,some→sO
set_option linter.unusedSimpArgs false
set_option linter.unusedVariables false
set_option maxHeartbeats 16000000
set_option maxRecDepth 20000
namespace Go.Proofs.YtmapdpcfanecdabGreatDoor
section
open Go.RowKit
attribute [local go_sem ↓] Go.wp_at_zero Go.wp_at_succ
theorem yK (l:List Gs)(rs:Option Addr)(rc q:Nat)(V F:Int)(s:Option Addr)(c:List Ins)(cap:Nat)(w:World)(hp:PrAt w q V F s c cap):
  Calls pG 190 #[U rs l.length rc,Pp (sO ⟨q,0,nO⟩)] w λe w'=>e=Rt (Bb ((λr:List Gs=> !decide ((r.length:Int)=F)) l))∧Below w.heap.size w w':=by
 obtain⟨⟨p0,p1,p2⟩,pz⟩:=id hp
 by_cases h:(l.length:Int)=F
 ·have e1:((l.length:Int)!=F)=false:=by simpa using h
  have er:(λr:List Gs=> !decide ((r.length:Int)=F)) l=false:=by simp[h]
  rw[er]
  clear er h
  go_enter Tryz.func190,Tryz.ntmps190
  go_wp2
  go_ret
  exact⟨rfl,by go_grown⟩
 ·have e1:((l.length:Int)!=F)=true:=by simpa using h
  have er:(λr:List Gs=> !decide ((r.length:Int)=F)) l=true:=by simp[h]
  rw[er]
  clear er h
  go_enter Tryz.func190,Tryz.ntmps190
  go_wp2
  go_ret
  exact⟨rfl,by go_grown⟩
theorem uI (q:Nat)(V F:Int)(s:Option Addr)(c:List Ins)(cap:Nat)(fs:Option Addr)(fc:Nat)(L:List (List Gs))(w:World)(hl:L.length≤9223372036854775807)(h:RowsAt w fs L)(hp:PrAt w q V F s c cap):
  Calls pG 222 #[U fs L.length fc,.func (.func 190) #[] #[Pp (sO ⟨q,0,nO⟩)]] w λe w'=>∃n:Int,e=Rt (I Y n)∧decide (0≤n)=L.any (λr:List Gs=> !decide ((r.length:Int)=F))∧Below w.heap.size w w':=by
 have HF:Hid (∀(l:List Gs) (rs:Option Addr) (rc:Nat) (wx:World),PrAt wx q V F s c cap→Calls pG 190 #[U rs l.length rc,Pp (sO ⟨q,0,nO⟩)] wx λe w'=>e=Rt (Bb ((λr:List Gs=> !decide ((r.length:Int)=F)) l))∧Below wx.heap.size wx w'):=λl rs rc wx hx=>yK l rs rc q V F s c cap wx hx
 generalize hpp:(λr:List Gs=> !decide ((r.length:Int)=F))=pp at *
 clear hpp
 go_enter Tryz.func222,Tryz.ntmps222
 go_wp2
 go_loopw [8] (λi wr=>∃k:Nat,k≤L.length∧i=I Y k∧Below w.heap.size w wr∧Hid (L.any pp=(L.drop k).any pp)) (λi _=>L.length - (intOf i).toNat)
 case atStart=>exact⟨0,j0 _,rfl,bR _ _,rfl⟩
 case round=>
  obtain⟨k,hk,rfl,hbr,HA⟩:=hrel
  by_cases hlt:k < L.length
  ·obtain⟨b,off,rfl,zb,rs,rc,C1,k1,m1,-⟩:=h k hlt
   have n0:(0:Int)≤(k:Int):=by omega
   have n1:(k:Int) < (L.length:Int):=by omega
   have s0:=hbr.size
   have c0:wr.cell? ⟨b,off+k,nO⟩=sO (U rs L[k].length rc):=by rw[hbr.cell (by simp only;exact zb)];exact C1
   have HN:Hid ((L.drop k).any pp=(pp L[k]||(L.drop (k+1)).any pp)):=lP L pp k hlt
   clear C1 h
   go_wp2_with (go_at_call 190;fail)
   refine(HF.out L[k] _ _ _ (hp.call hbr)).mono ?_
   rintro e w1 ⟨rfl,hb1⟩
   cases hpk:pp L[k] with
   |true=>
    have HT:Hid (L.any pp=true):=by show _=_;rw[HA.out,HN.out,hpk];rfl
    clear HN HA
    go_wp2
    go_ret
    exact⟨_,rfl,by rw[HT.out];simp,hbr.trans (hb1.mono s0)⟩
   |false=>
    have HT:Hid (L.any pp=(L.drop (k+1)).any pp):=by show _=_;rw[HA.out,HN.out,hpk];rfl
    clear HN HA
    go_wp2
    go_roundw
    case rel=>exact⟨k+1,by omega,by go_num,hbr.trans (hb1.mono s0),HT⟩
    case measure=>simp[intOf];omega
  ·go_wp2
   go_ret
   exact⟨_,rfl,by rw[HA.out,j1 (by omega)];rfl,hbr⟩
theorem rd (q:Nat)(V F:Int)(s:Option Addr)(c:List Ins)(cap:Nat)(fs:Option Addr)(fc:Nat)(L:List (List Gs))(w:World)(hl:L.length≤9223372036854775807)(h:RowsAt w fs L)(hp:PrAt w q V F s c cap):
  Calls pG 191 #[U fs L.length fc,.func (.func 190) #[] #[Pp (sO ⟨q,0,nO⟩)]] w λe w'=>e=Rt (Bb (L.any (λr:List Gs=> !decide ((r.length:Int)=F))))∧Below w.heap.size w w':=by
 have HI:=aa (uI q V F s c cap fs fc L w hl h hp)
 generalize L.any (λr:List Gs=> !decide ((r.length:Int)=F))=res at *
 go_enter Tryz.func191,Tryz.ntmps191
 go_wp2_with (go_at_call 222;fail)
 refine HI.out.mono ?_
 rintro e w1 ⟨n,rfl,hn,hb1⟩
 subst hn
 go_wp2
 go_ret
 exact⟨rfl,hb1⟩
theorem uJ (V F:Int)(s:Option Addr)(c:List Ins)(cap:Nat)(vars:List Gs)(flds:List (List Gs))(vs:Option Addr)(vc:Nat)(fs:Option Addr)(fc:Nat)(w:World):
  Calls pG 137 #[pv V F s c cap,xv ⟨true,vars,flds⟩ vs vc fs fc] w λe w'=>e=Rt (Bb (decide (vars.length=0)&&decide (flds.length=0)))∧Below w.heap.size w w':=by
 cases vars with
 |nil=>
  cases flds with
  |nil=>
   go_enter Tryz.func137,Tryz.ntmps137
   go_wp2
   go_ret
   exact⟨rfl,by go_grown⟩
  |cons r flds=>
   go_enter Tryz.func137,Tryz.ntmps137
   go_wp2
   go_ret
   exact⟨rfl,by go_grown⟩
 |cons g vars=>
  go_enter Tryz.func137,Tryz.ntmps137
  go_wp2
  go_ret
  exact⟨rfl,by go_grown⟩
theorem uZ (V F:Int)(s:Option Addr)(c:List Ins)(cap:Nat)(vars:List Gs)(flds:List (List Gs))(vs:Option Addr)(vc:Nat)(fs:Option Addr)(fc:Nat)(w:World)(h:¬(vars.length:Int)=V):
  Calls pG 137 #[pv V F s c cap,xv ⟨false,vars,flds⟩ vs vc fs fc] w λe w'=>e=Rt (Bb false)∧Below w.heap.size w w':=by
 have hmf:∀(fn:Fn) (first cp:Array Value) (w:World),(Instr.makeFunc fn first cp).run pG w=.ok (.func fn first cp) w:=λ_ _ _ _=>rfl
 have n1:((vars.length:Int)==V)=false:=by simpa using h
 clear h
 go_enter Tryz.func137,Tryz.ntmps137
 go_wp2
 go_ret
 exact⟨rfl,by go_grown⟩
theorem uU (V F:Int)(s:Option Addr)(c:List Ins)(cap:Nat)(vars:List Gs)(flds:List (List Gs))(vs:Option Addr)(vc:Nat)(fs:Option Addr)(fc:Nat)(w:World)(h:¬flds.length=c.length):
  Calls pG 137 #[pv (vars.length:Int) F s c cap,xv ⟨false,vars,flds⟩ vs vc fs fc] w λe w'=>e=Rt (Bb false)∧Below w.heap.size w w':=by
 have hmf:∀(fn:Fn) (first cp:Array Value) (w:World),(Instr.makeFunc fn first cp).run pG w=.ok (.func fn first cp) w:=λ_ _ _ _=>rfl
 have n1:((flds.length:Int)==(c.length:Int))=false:=by simp;omega
 clear h
 go_enter Tryz.func137,Tryz.ntmps137
 go_wp2
 go_ret
 exact⟨rfl,by go_grown⟩
theorem uH (V F:Int)(s:Option Addr)(c:List Ins)(cap:Nat)(vars:List Gs)(flds:List (List Gs))(vs:Option Addr)(vc:Nat)(fs:Option Addr)(fc:Nat)(w:World)(hR:RowsAt w fs flds)(h:flds.length=c.length)(h60:c.length≤60):
  Calls pG 137 #[pv (vars.length:Int) F s c cap,xv ⟨false,vars,flds⟩ vs vc fs fc] w λe w'=>e=Rt (Bb (!(flds.any (λr:List Gs=> !decide ((r.length:Int)=F)))))∧Below w.heap.size w w':=by
 have hmf:∀(fn:Fn) (first cp:Array Value) (w:World),(Instr.makeFunc fn first cp).run pG w=.ok (.func fn first cp) w:=λ_ _ _ _=>rfl
 have n1:((flds.length:Int)==(c.length:Int))=true:=by simp;omega
 have hl:flds.length≤9223372036854775807:=by omega
 have B0:Below w.heap.size w ((w.alloc (Cc #[I Y (vars.length:Int),I Y F,U s c.length cap] 24)).alloc (Cc #[Bb false,U vs vars.length vc,U fs flds.length fc] 28)):=by go_grown
 have P0:=(PrAt.new w (vars.length:Int) F s c cap).call (w':=((w.alloc (Cc #[I Y (vars.length:Int),I Y F,U s c.length cap] 24)).alloc (Cc #[Bb false,U vs vars.length vc,U fs flds.length fc] 28))) (by go_grown)
 have HC:=aa (rd w.heap.size (vars.length:Int) F s c cap fs fc flds ((w.alloc (Cc #[I Y (vars.length:Int),I Y F,U s c.length cap] 24)).alloc (Cc #[Bb false,U vs vars.length vc,U fs flds.length fc] 28)) hl (hR.below B0 (lR _)) P0)
 generalize flds.any (λr:List Gs=> !decide ((r.length:Int)=F))=q at *
 clear hR h P0
 go_enter Tryz.func137,Tryz.ntmps137
 go_wp2_with (go_at_call 191;fail)
 refine HC.out.mono ?_
 rintro e w1 ⟨rfl,hb1⟩
 go_wp2
 go_ret
 exact⟨rfl,B0.trans (hb1.mono B0.size)⟩

theorem nl (V F:Int)(s:Option Addr)(c:List Ins)(cap:Nat)(x:Pic)(vs:Option Addr)(vc:Nat)(fs:Option Addr)(fc:Nat)(w:World)(hP:PicAt w x vs fs)(h60:c.length≤60):
  Calls pG 137 #[pv V F s c cap,xv x vs vc fs fc] w λe w'=>e=Rt (Bb (bG V F c x))∧Below w.heap.size w w':=by
 obtain⟨n,vars,flds⟩:=x
 cases n with
 |true=>exact uJ V F s c cap vars flds vs vc fs fc w
 |false=>
  by_cases h1:(vars.length:Int)=V
  ·by_cases h2:flds.length=c.length
   ·have e1:bG V F c ⟨false,vars,flds⟩= !(flds.any (λr:List Gs=> !decide ((r.length:Int)=F))):=by
     unfold bG
     simp[h1,h2]
    rw[e1]
    have h:=uH V F s c cap vars flds vs vc fs fc w hP.2 h2 h60
    rw[h1] at h
    exact h
   ·have e1:bG V F c ⟨false,vars,flds⟩=false:=by
     unfold bG
     simp[h2]
    rw[e1]
    have h:=uU V F s c cap vars flds vs vc fs fc w h2
    rw[h1] at h
    exact h
  ·have e1:bG V F c ⟨false,vars,flds⟩=false:=by
    unfold bG
    simp[h1]
   rw[e1]
   exact uZ V F s c cap vars flds vs vc fs fc w h1
theorem vB (ls:Option Addr)(L:List Gs)(lc:Nat)(w:World)(hl:L.length≤9223372036854775807)(hL:GsAt w ls L):
  Calls pG 193 #[U ls L.length lc,.func (.func 139) #[] #[]] w λe w'=>∃n:Int,e=Rt (I Y n)∧decide (0≤n)=L.any cM∧Below w.heap.size w w':=by
 have HF:=aa li
 generalize cM=p at *
 go_enter Tryz.func193,Tryz.ntmps193
 go_wp2
 go_loopw [8] (λi wr=>∃k:Nat,k≤L.length∧i=I Y k∧GsAt wr ls L∧Below w.heap.size w wr∧Hid (L.any p=(L.drop k).any p)) (λi _=>L.length - (intOf i).toNat)
 case atStart=>exact⟨0,j0 _,rfl,hL,bR _ _,rfl⟩
 case round=>
  obtain⟨k,hk,rfl,hR,hbr,HA⟩:=hrel
  by_cases hlt:k < L.length
  ·obtain⟨b,off,rfl,ss,gc,hG,hI,l1,l2⟩:=hR k hlt
   obtain⟨⟨g0,g1,g2,g3,g4,g5,g6⟩,gz⟩:=id hG
   have n0:(0:Int)≤(k:Int):=by omega
   have n1:(k:Int) < (L.length:Int):=by omega
   have s0:=hbr.size
   have HN:Hid ((L.drop k).any p=(p L[k]||(L.drop (k+1)).any p)):=lP L p k hlt
   go_wp2_with (go_at_call 139;fail)
   refine(HF.out L[k] ss gc _ hI (lT l1 l2)).mono ?_
   rintro e w1 ⟨rfl,hb1⟩
   cases hp:p L[k] with
   |true=>
    have HT:Hid (L.any p=true):=by show _=_;rw[HA.out,HN.out,hp];rfl
    clear HN HA
    go_wp2
    go_ret
    exact⟨_,rfl,by rw[HT.out];simp,hbr.trans (hb1.mono s0)⟩
   |false=>
    have HT:Hid (L.any p=(L.drop (k+1)).any p):=by show _=_;rw[HA.out,HN.out,hp];rfl
    have hR':=hR.call hb1
    clear HN HA
    go_wp2
    go_roundw
    case rel=>exact⟨k+1,by omega,by go_num,hR',hbr.trans (hb1.mono s0),HT⟩
    case measure=>simp[intOf];omega
  ·go_wp2
   go_ret
   exact⟨_,rfl,by rw[HA.out,j1 (by omega)];rfl,hbr⟩
theorem pW (ls:Option Addr)(L:List Gs)(lc:Nat)(w:World)(hl:L.length≤9223372036854775807)(hL:GsAt w ls L):
  Calls pG 141 #[U ls L.length lc,.func (.func 139) #[] #[]] w λe w'=>e=Rt (Bb (L.any cM))∧Below w.heap.size w w':=by
 have HI:=aa (vB ls L lc w hl hL)
 generalize L.any cM=res at *
 go_enter Tryz.func141,Tryz.ntmps141
 go_wp2_with (go_at_call 193;fail)
 refine HI.out.mono ?_
 rintro e w1 ⟨n,rfl,hn,hb1⟩
 subst hn
 go_wp2
 go_ret
 exact⟨rfl,hb1⟩
theorem i8 {V F:Int}{c:List Ins}{x:Pic}(h0:ai V F c=0)(h:bG V F c x=true):(bJ x).length≤1000∧x.flds.length≤c.length:=by
 obtain⟨⟨hV1,hV8⟩,⟨hF0,hF3⟩,h60⟩:=bM h0
 unfold bG at h
 unfold bJ
 cases hn:x.none with
 |true=>
  rw[hn] at h
  simp only[if_true,Bool.and_eq_true,decide_eq_true_eq] at h
  have e1:x.vars=[]:=j2 h.1
  have e2:x.flds=[]:=j2 h.2
  rw[e1,e2]
  simp
 |false=>
  rw[hn] at h
  simp only[Bool.false_eq_true,if_false,Bool.and_eq_true,decide_eq_true_eq,Bool.not_eq_true',List.any_eq_false] at h
  obtain⟨f,rfl⟩:=Int.eq_ofNat_of_zero_le hF0
  have hr:∀r∈x.flds,r.length=f:=λr hr=>by have:=h.2.2 r hr;simp at this;omega
  rw[List.length_append,mw hr]
  have h2:=h.2.1
  have:x.flds.length * f≤60 * 3:=Nat.mul_le_mul (by omega) (by omega)
  omega
theorem Bs {V F:Int}{c:List Ins}{g:Gs}(h0:ai V F c=0):aX V F c [g]=aC c g:=by
 unfold aX
 rw[if_pos h0]
 unfold bW
 split
 ·rename_i h;rw[h];rfl
 ·rfl
theorem Ds {c:List Ins}{k:Nat}(h:k < c.length):bQ c (k:Int)=decide (c[k].k=11):=by
 unfold bQ
 simp[h,List.getD]
theorem rp (V F:Int)(s:Option Addr)(c:List Ins)(cap:Nat)(x:Pic)(vs:Option Addr)(vc:Nat)(fs:Option Addr)(fc:Nat)(w:World)(hc:CodeAt w s c)(hP:PicAt w x vs fs)(hvc:x.vars.length≤vc)(hvm:vc≤maxLen)(h0:ai V F c=0)(hf:bG V F c x=false):
  Calls pG 80 #[pv V F s c cap,xv x vs vc fs fc] w λe w'=>e=Rt (I Y (aK V F c x))∧Below w.heap.size w w':=by
 obtain⟨-,-,h60⟩:=bM h0
 have B0:Below w.heap.size w ((w.alloc (Cc #[I Y V,I Y F,U s c.length cap] 24)).alloc (Cc #[Bb x.none,U vs x.vars.length vc,U fs x.flds.length fc] 28)):=by go_grown
 have HI:=aa (nl V F s c cap x vs vc fs fc ((w.alloc (Cc #[I Y V,I Y F,U s c.length cap] 24)).alloc (Cc #[Bb x.none,U vs x.vars.length vc,U fs x.flds.length fc] 28)) (hP.below B0 (lR _)) h60)
 have er:aK V F c x=1:=by unfold aK;rw[if_pos hf]
 rw[er]
 rw[hf] at HI
 clear hP hc er hf
 go_enter Tryz.func80,Tryz.ntmps80
 go_wp2_with (go_at_call 137;fail)
 refine HI.out.mono ?_
 rintro e w1 ⟨rfl,hb1⟩
 go_wp2
 go_ret
 exact⟨rfl,B0.trans (hb1.mono B0.size)⟩

theorem tJ (V F:Int)(s:Option Addr)(c:List Ins)(cap:Nat)(x:Pic)(vs:Option Addr)(vc:Nat)(fs:Option Addr)(fc:Nat)(w:World)(hc:CodeAt w s c)(hP:PicAt w x vs fs)(hvc:x.vars.length≤vc)(hvm:vc≤maxLen)(h0:ai V F c=0)(hf:bG V F c x=true):
  Calls pG 80 #[pv V F s c cap,xv x vs vc fs fc] w λe w'=>e=Rt (I Y (aK V F c x))∧Below w.heap.size w w':=by
 obtain⟨-,-,h60⟩:=bM h0
 obtain⟨hal,hfl⟩:=i8 h0 hf
 have B0:Below w.heap.size w ((w.alloc (Cc #[I Y V,I Y F,U s c.length cap] 24)).alloc (Cc #[Bb x.none,U vs x.vars.length vc,U fs x.flds.length fc] 28)):=by go_grown
 have P0:=(PrAt.new w V F s c cap).call (w':=((w.alloc (Cc #[I Y V,I Y F,U s c.length cap] 24)).alloc (Cc #[Bb x.none,U vs x.vars.length vc,U fs x.flds.length fc] 28))) (by go_grown)
 have A0:=XAt.new (w.alloc (Cc #[I Y V,I Y F,U s c.length cap] 24)) x vs vc fs fc
 rw[zA] at A0
 have PX:=hP.below B0 (lR _)
 have HI:=aa (nl V F s c cap x vs vc fs fc ((w.alloc (Cc #[I Y V,I Y F,U s c.length cap] 24)).alloc (Cc #[Bb x.none,U vs x.vars.length vc,U fs x.flds.length fc] 28)) PX h60)
 rw[hf] at HI
 have HA:Hid (∀wx,PicAt wx x vs fs→Calls pG 138 #[xv x vs vc fs fc] wx λe w'=>pI w' e (bJ x)∧Below wx.heap.size wx w'):=λwx hx=>pE x vs vc fs fc wx hx hvc hvm (by omega) hal
 have HS:=aa li
 have HG:Hid (∀g ss gc wx,CodeAt wx s c→IntsAt wx ss g.s→g.s.length≤gc→gc≤maxLen→Calls pG 140 #[pv V F s c cap,gv g ss gc] wx λe w'=>e=Rt (I Y (aC c g))∧Below wx.heap.size wx w'):=λg ss gc wx h1 h2 h3 h4=>by rw[←Bs (V:=V) (F:=F) h0];exact BH V F s c cap g ss gc wx h1 h2 h3 h4
 have HCS:=aa pW
 obtain⟨res,HR,hres⟩:∃r,Hid (r=if bW c (bJ x)≠0 then bW c (bJ x) else if dG c cM 0 x.flds then 4 else 0)∧aK V F c x=r:=⟨_,rfl,by rw[BW,hf];rfl⟩
 rw[hres]
 have HC:=aa (hc.below B0 (lR _))
 clear hres hP hc hf hvc hvm
 obtain⟨all,eall⟩:∃all,all=bJ x:=⟨_,rfl⟩
 rw[←eall] at HR HA hal
 clear eall
 go_enter Tryz.func80,Tryz.ntmps80
 go_wp2_with (go_at_call 137;fail)
 generalize ((w.alloc (Cc #[I Y V,I Y F,U s c.length cap] 24)).alloc (Cc #[Bb x.none,U vs x.vars.length vc,U fs x.flds.length fc] 28))=w1 at *
 refine HI.out.mono ?_
 rintro e w2 ⟨rfl,hb2⟩
 clear HI
 obtain⟨⟨a0,a1,a2⟩,az,-⟩:=id (A0.call hb2)
 go_wp2_with (go_at_call 138;fail)
 refine(HA.out _ (PX.call hb2)).mono ?_
 rintro e w3 ⟨⟨rs,rc,rfl,GA,k1,k2⟩,hb3⟩
 clear HA a0 a1 a2 az
 have hb13:=hb2.trans (hb3.mono hb2.size)
 have P3:=P0.call hb13
 have A3:=A0.call hb13
 have C3:=HC.out.call hb13
 have R3:=PX.2.below hb13 (lR _)
 have B3:=B0.trans (hb13.mono B0.size)
 clear P0 A0 PX HC hb13 hb2 hb3 B0
 go_wp2
 go_loopw [17] (λi wr=>∃k:Nat,k≤all.length∧i=I Y k∧Below w3.heap.size w3 wr∧Hid (bW c all=bW c (all.drop k))) (λi _=>all.length - (intOf i).toNat)
 case atStart=>exact⟨0,j0 _,rfl,bR _ _,rfl⟩
 case round=>
  obtain⟨k,hk,rfl,hbr,HK⟩:=hrel
  by_cases hlt:k < all.length
  ·have n0:(0:Int)≤(k:Int):=by omega
   have n1:(k:Int) < (all.length:Int):=by omega
   obtain⟨b,off,rfl,ss,gc,GR,IR,g1,g2⟩:=GA.below hbr (lR _) k hlt
   have HD:=aa (rM c all k hlt)
   obtain⟨⟨q0,q1,q2,q3,q4,q5,q6⟩,qz⟩:=id GR
   have G4:=GuAt.new wr all[k] ss gc
   have hb4:Below wr.heap.size wr (wr.alloc (Cc #[Bb all[k].n,Bb all[k].sp.n,I Y all[k].sp.lo,I Y all[k].sp.hi,Bb all[k].t,Bb all[k].f,U ss all[k].s.length gc] 91)):=by go_grown
   have I4:=IR.call hb4
   go_wp2_with (go_at_call 139;fail)
   generalize wr.alloc (Cc #[Bb all[k].n,Bb all[k].sp.n,I Y all[k].sp.lo,I Y all[k].sp.hi,Bb all[k].t,Bb all[k].f,U ss all[k].s.length gc] 91)=w4 at *
   refine(HS.out all[k] ss gc _ I4 (lT g1 g2)).mono ?_
   rintro e w5 ⟨rfl,hb5⟩
   clear q0 q1 q2 q3 q4 q5 q6 qz GR IR
   have G5:=G4.call hb5
   have I5:=I4.call hb5
   have hb45:Below wr.heap.size wr w5:=hb4.trans (hb5.mono hb4.size)
   have hb35:=hbr.trans (hb45.mono hbr.size)
   clear hb4 hb5 G4 I4
   rcases (show cM all[k]=false∨cM all[k]=true by cases cM all[k]<;>simp) with hs|hs<;>have HSG:=aa hs<;>rw[hs]<;>clear hs
   ·have HZ:Hid (aC c all[k]=0):=by
     show _=_
     have h1:=HSG.out
     unfold cM at h1
     have h2:dC all[k] bX=true:=by simpa using h1
     rw[sameGs_iff.1 h2]
     rfl
    go_wp2
    go_roundw
    case rel=>exact⟨k+1,by omega,by go_num,hb35,by show _=_;rw[HK.out,HD.out,if_pos HZ.out]⟩
    case measure=>simp[intOf];omega
   ·obtain⟨⟨p0,p1,p2⟩,pz⟩:=id (P3.call hb35)
    obtain⟨⟨q0,q1,q2,q3,q4,q5,q6⟩,qz⟩:=id G5
    simp only[Nat.zero_add] at q0 q1 q2 q3 q4 q5 q6
    go_wp2_with (go_at_call 140;fail)
    refine(HG.out all[k] ss gc _ (C3.call hb35) I5 g1 g2).mono ?_
    rintro e w6 ⟨rfl,hb6⟩
    have hb36:=hb35.trans (hb6.mono hb35.size)
    clear p0 p1 p2 pz q0 q1 q2 q3 q4 q5 q6 qz
    generalize aC c all[k]=ce at *
    by_cases hz:ce=0
    ·have e1:(ce !=0)=false:=by simpa using hz
     go_wp2
     go_roundw
     case rel=>exact⟨k+1,by omega,by go_num,hb36,by show _=_;rw[HK.out,HD.out,if_pos hz]⟩
     case measure=>simp[intOf];omega
    ·have e1:(ce !=0)=true:=by simpa using hz
     go_wp2
     go_ret
     refine⟨bu ?_,B3.trans (hb36.mono B3.size)⟩
     rw[HR.out,HK.out,HD.out,if_neg hz,if_pos hz]
  ·have n1:¬(k:Int) < (all.length:Int):=by omega
   have HZ:Hid (bW c all=0):=by show _=_;rw[HK.out,j1 (by omega)];rfl
   have HR2:Hid (res=if dG c cM 0 x.flds then 4 else 0):=by show _=_;rw[HR.out,HZ.out];rfl
   have P4:=P3.call hbr
   have A4:=A3.call hbr
   have C4:=C3.call hbr
   have R4:=R3.below hbr (lR _)
   have B4:=B3.trans (hbr.mono B3.size)
   generalize wr=w4 at *
   clear wr P3 A3 C3 R3 B3 HK HR HZ GA hbr
   obtain⟨⟨a0,a1,a2⟩,az,-⟩:=id A4
   go_wp2
   clear a0 a1 a2 az
   go_loopw [34] (λi wr=>∃k:Nat,k≤x.flds.length∧i=I Y k∧Below w4.heap.size w4 wr∧Hid (dG c cM 0 x.flds=dG c cM k (x.flds.drop k))) (λi _=>x.flds.length - (intOf i).toNat)
   case atStart=>exact⟨0,j0 _,rfl,bR _ _,rfl⟩
   case round=>
    obtain⟨k2,hk2,rfl,hbq,HT⟩:=hrel
    by_cases hlt2:k2 < x.flds.length
    ·have n0:(0:Int)≤(k2:Int):=by omega
     have n2:(k2:Int) < (x.flds.length:Int):=by omega
     have hkc:k2 < c.length:=by omega
     have n3:(k2:Int) < (c.length:Int):=by omega
     have HU:=aa (wo c cM x.flds k2 hlt2)
     obtain⟨⟨p0,p1',p2⟩,pz⟩:=id (P4.call hbq)
     obtain⟨p1,q1,e1,zp1,r1,rc1,D1,l1,l2,J1⟩:=(R4.below hbq (lR _)) k2 hlt2
     obtain⟨cb,co,e2,zc,hcc⟩:=(C4.call hbq).get k2 hkc
     subst e1 e2
     obtain⟨i0,-⟩:=hcc k2 hkc
     have HST:=aa (Ds hkc)
     have hrl:x.flds[k2].length≤9223372036854775807:=by unfold maxLen at l2;omega
     clear hcc
     by_cases h11:c[k2].k=11
     ·have e11:(c[k2].k !=11)=false:=by simpa using h11
      go_wp2
      go_roundw
      case rel=>exact⟨k2+1,by omega,by go_num,hbq,by show _=_;rw[HT.out,HU.out,HST.out,decide_eq_true h11];rfl⟩
      case measure=>simp[intOf];omega
     ·have e11:(c[k2].k !=11)=true:=by simpa using h11
      go_wp2_with (go_at_call 141;fail)
      refine(HCS.out r1 x.flds[k2] rc1 _ hrl J1).mono ?_
      rintro e w5 ⟨rfl,hb5⟩
      have hb45:=hbq.trans (hb5.mono hbq.size)
      rcases (show x.flds[k2].any cM=false∨x.flds[k2].any cM=true by cases x.flds[k2].any cM<;>simp) with hs|hs<;>have HSG:=aa hs<;>rw[hs]<;>clear hs
      ·go_wp2
       go_roundw
       case rel=>exact⟨k2+1,by omega,by go_num,hb45,by show _=_;rw[HT.out,HU.out,HSG.out];simp⟩
       case measure=>simp[intOf];omega
      ·go_wp2
       go_ret
       refine⟨bu ?_,B4.trans (hb45.mono B4.size)⟩
       rw[HR2.out,HT.out,HU.out,HSG.out,HST.out,decide_eq_false h11]
       rfl
    ·have n2:¬(k2:Int) < (x.flds.length:Int):=by omega
     go_wp2
     go_ret
     refine⟨bu ?_,B4.trans (hbq.mono B4.size)⟩
     rw[HR2.out,HT.out,j1 (by omega)]
     rfl

theorem sY (V F:Int)(s:Option Addr)(c:List Ins)(cap:Nat)(x:Pic)(vs:Option Addr)(vc:Nat)(fs:Option Addr)(fc:Nat)(w:World)(hc:CodeAt w s c)(hP:PicAt w x vs fs)(hvc:x.vars.length≤vc)(hvm:vc≤maxLen)(h0:ai V F c=0):
  Calls pG 80 #[pv V F s c cap,xv x vs vc fs fc] w λe w'=>e=Rt (I Y (aK V F c x))∧Below w.heap.size w w':=by
 rcases (show bG V F c x=false∨bG V F c x=true by cases bG V F c x<;>simp) with hf|hf
 ·exact rp V F s c cap x vs vc fs fc w hc hP hvc hvm h0 hf
 ·exact tJ V F s c cap x vs vc fs fc w hc hP hvc hvm h0 hf
end
section
open Go.RowKit
def doE (u k:Int):Int:=if u=0 then(if k < 4∨10 < k then 6 else 0) else u

theorem KJ (g h:Gs):cQ 4 g h=(g,false):=by simp[cQ]
theorem Kd (g h:Gs):cQ 10 g h=(⟨false,⟨true,0,0⟩,cT g,ca g,[]⟩,false):=by simp[cQ]
theorem tu {k:Int}{g h:Gs}(hk:k=5∨k=6∨k=7∨k=8∨k=9)(hn:(aB g||aB h)=true):cQ k g h=(bX,false):=by
 unfold cQ
 rw[if_neg (by omega),if_neg (by omega),if_pos hn]
theorem IJ {k:Int}{g h:Gs}(hk:k=5∨k=6∨k=7)(hn:(aB g||aB h)=false):cQ k g h=(⟨false,cK k g.sp h.sp,false,false,[]⟩,aW g||aW h):=by
 unfold cQ
 rw[if_neg (by omega),if_neg (by omega),if_neg (by rw[hn];simp),if_neg (by omega),if_neg (by omega)]
theorem KR {g h:Gs}(hn:(aB g||aB h)=false):cQ 8 g h=(⟨false,⟨true,0,0⟩,!(g.sp.n||h.sp.n)&&decide (g.sp.lo < h.sp.hi),!(g.sp.n||h.sp.n)&&decide (h.sp.lo≤g.sp.hi),[]⟩,aW g||aW h):=by
 unfold cQ
 rw[if_neg (by omega),if_neg (by omega),if_neg (by rw[hn];simp),if_neg (by omega),if_pos rfl]
theorem KM {g h:Gs}(hn:(aB g||aB h)=false):cQ 9 g h=(⟨false,⟨true,0,0⟩,(g.n&&h.n)||(!(aR g.sp h.sp).n||((g.t&&h.t)||((g.f&&h.f)||g.s.any λx=>h.s.contains x))),!fA g h,[]⟩,false):=by
 unfold cQ
 rw[if_neg (by omega),if_neg (by omega),if_neg (by rw[hn];simp),if_pos rfl]
theorem t8 {g:Gs}(h:aB g=true):g.sp.n=true:=by
 unfold aB at h
 cases e:g.sp.n
 ·rw[e] at h;simp at h
 ·rfl
theorem rj {g h:Gs}(hn:(aB g||aB h)=true):(g.sp.n||h.sp.n)=true:=by
 cases e:aB g
 ·rw[e] at hn
  rw[t8 (g:=h) (by simpa using hn)];simp
 ·rw[t8 e];rfl
theorem kQ (f:Gs→Bool)(g h:Gs):[g,h].any f=(f g||f h):=by simp
theorem tD {k:Int}{g h:Gs}(hk:k=5∨k=6∨k=7):cQ k g h=(⟨false,cK k g.sp h.sp,false,false,[]⟩,[g,h].any aW&& ![g,h].any aB):=by
 rw[kQ,kQ]
 cases hn:(aB g||aB h)
 ·rw[IJ hk hn];simp
 ·rw[tu (by omega) hn]
  have e:cK k g.sp h.sp=⟨true,0,0⟩:=by unfold cK;rw[if_pos (rj hn)]
  rw[e];simp[bX]
theorem KB {g h:Gs}:cQ 8 g h=(⟨false,⟨true,0,0⟩,!(g.sp.n||h.sp.n)&&decide (g.sp.lo < h.sp.hi),!(g.sp.n||h.sp.n)&&decide (h.sp.lo≤g.sp.hi),[]⟩,[g,h].any aW&& ![g,h].any aB):=by
 rw[kQ,kQ]
 cases hn:(aB g||aB h)
 ·rw[KR hn];simp
 ·rw[tu (by omega) hn,rj hn];simp[bX]
theorem doU (V F:Int)(s:Option Addr)(c:List Ins)(cap:Nat)(g:Gs)(ss:Option Addr)(gc:Nat)(h:Gs)(st:Option Addr)(hc:Nat)(k:Int)(w:World)(hcd:CodeAt w s c)(hs:IntsAt w ss g.s)(h1:g.s.length≤gc)(h2:gc≤maxLen)(ht:IntsAt w st h.s)(h3:h.s.length≤hc)(h4:hc≤maxLen):
  Calls pG 164 #[pv V F s c cap,I Y k,gv g ss gc,gv h st hc] w λe w'=>∃J js jc wr,e=Rt (Tu #[gv J js jc,Bb wr,I Y (doE (aX V F c [g,h]) k)])∧(J,wr)=(if doE (aX V F c [g,h]) k=0 then cQ k g h else(dK,false))∧IntsAt w' js J.s∧J.s.length≤jc∧jc≤maxLen∧(∀a,js=sO a→w.heap.size≤a.block)∧(doE (aX V F c [g,h]) k≠0→js=nO∧jc=0)∧Below w.heap.size w w':=by
 by_cases hck:aX V F c [g,h]=0
 ·obtain⟨-,hg,hh⟩:=sI hck
  have ok1:=ckSp_ok.mp (oI hg)
  have ok2:=ckSp_ok.mp (oI hh)
  by_cases hk:k < 4∨10 < k
  ·have he:doE (aX V F c [g,h]) k=6:=by unfold doE;rw[if_pos hck,if_pos hk]
   rw[he]
   have hb0:∀j:Int,4≤j→j≤10→(k==j)=false:=λj a b=>by simp;omega
   refine(Fw V F s c cap g ss gc h st hc k w hcd hs h1 h2 ht h3 h4 hck (hb0 4 (by omega) (by omega)) (hb0 5 (by omega) (by omega)) (hb0 6 (by omega) (by omega)) (hb0 7 (by omega) (by omega)) (hb0 8 (by omega) (by omega)) (hb0 9 (by omega) (by omega)) (hb0 10 (by omega) (by omega))).mono ?_
   rintro e w' ⟨rfl,hb⟩
   exact⟨dK,nO,0,false,rfl,by rw[if_neg (by omega)],.inl rfl,j0 _,j0 _,(λa ha=>by cases ha),λ_=>⟨rfl,rfl⟩,hb⟩
  ·have he:doE (aX V F c [g,h]) k=0:=by unfold doE;rw[if_pos hck,if_neg hk]
   rw[he]
   have h7:k=4∨k=5∨k=6∨k=7∨k=8∨k=9∨k=10:=by omega
   rcases h7 with rfl|rfl|rfl|rfl|rfl|rfl|rfl
   ·have hl:=(ld hck).1
    have l1:=eY hl.2 hl.1
    refine(Ky V F s c cap g ss gc h st hc w hcd hs h1 h2 ht h3 h4 hck (by omega)).mono ?_
    rintro e w' ⟨v,rfl,hown,hb⟩
    obtain⟨js,jc,rfl,hi,hjl,hm,hfa⟩:=IntsAt.own hown
    exact⟨g,js,jc,false,rfl,by rw[if_pos rfl,KJ],hi,hjl,hm,hfa,λhn=>absurd rfl hn,hb⟩
   ·refine(Kv V F s c cap g ss gc h st hc w hcd hs h1 h2 ht h3 h4 hck).mono ?_
    rintro e w' ⟨rfl,hb⟩
    exact⟨_,nO,0,_,rfl,by rw[if_pos rfl,tD (by omega)],.inl rfl,j0 _,j0 _,(λa ha=>by cases ha),λhn=>absurd rfl hn,hb⟩
   ·refine(Kh V F s c cap g ss gc h st hc w hcd hs h1 h2 ht h3 h4 hck).mono ?_
    rintro e w' ⟨rfl,hb⟩
    exact⟨_,nO,0,_,rfl,by rw[if_pos rfl,tD (by omega)],.inl rfl,j0 _,j0 _,(λa ha=>by cases ha),λhn=>absurd rfl hn,hb⟩
   ·refine(I8 V F s c cap g ss gc h st hc w hcd hs h1 h2 ht h3 h4 hck).mono ?_
    rintro e w' ⟨rfl,hb⟩
    exact⟨_,nO,0,_,rfl,by rw[if_pos rfl,tD (by omega)],.inl rfl,j0 _,j0 _,(λa ha=>by cases ha),λhn=>absurd rfl hn,hb⟩
   ·refine(Kj V F s c cap g ss gc h st hc w hcd hs h1 h2 ht h3 h4 hck).mono ?_
    rintro e w' ⟨rfl,hb⟩
    exact⟨_,nO,0,_,rfl,by rw[if_pos rfl,KB],.inl rfl,j0 _,j0 _,(λa ha=>by cases ha),λhn=>absurd rfl hn,hb⟩
   ·have mx:maxLen≤9223372036854775807:=by decide
    cases hn:(aB g||aB h)
    ·refine(FZ V F s c cap g ss gc h st hc w hcd hs h1 h2 ht h3 h4 hck _ _ (λwx hbx=>Dn g ss gc h st hc wx (hs.below hbx (lR _)) (by omega) (ht.below hbx (lR _)) (by omega) (ckSps_ok.mpr ⟨ok1,ok2⟩) (by rw[kQ];exact hn))).mono ?_
     rintro e w' ⟨rfl,hb⟩
     exact⟨_,nO,0,_,rfl,by rw[if_pos rfl,KM hn],.inl rfl,j0 _,j0 _,(λa ha=>by cases ha),λhn=>absurd rfl hn,hb⟩
    ·refine(FZ V F s c cap g ss gc h st hc w hcd hs h1 h2 ht h3 h4 hck _ _ (λwx hbx=>Cy g ss gc h st hc wx (by rw[kQ];exact hn))).mono ?_
     rintro e w' ⟨rfl,hb⟩
     exact⟨_,nO,0,_,rfl,by rw[if_pos rfl,tu (by omega) hn];rfl,.inl rfl,j0 _,j0 _,(λa ha=>by cases ha),λhn=>absurd rfl hn,hb⟩
   ·refine(IS V F s c cap g ss gc h st hc w hcd hs h1 h2 ht h3 h4 hck (oI hg)).mono ?_
    rintro e w' ⟨rfl,hb⟩
    exact⟨_,nO,0,_,rfl,by rw[if_pos rfl,Kd],.inl rfl,j0 _,j0 _,(λa ha=>by cases ha),λhn=>absurd rfl hn,hb⟩
 ·have he:doE (aX V F c [g,h]) k=aX V F c [g,h]:=by unfold doE;rw[if_neg hck]
  rw[he]
  refine(GT V F s c cap g ss gc h st hc k w hcd hs h1 h2 ht h3 h4 hck).mono ?_
  rintro e w' ⟨rfl,hb⟩
  exact⟨dK,nO,0,false,rfl,by rw[if_neg hck],.inl rfl,j0 _,j0 _,(λa ha=>by cases ha),λ_=>⟨rfl,rfl⟩,hb⟩
end
end Go.Proofs.YtmapdpcfanecdabGreatDoor
