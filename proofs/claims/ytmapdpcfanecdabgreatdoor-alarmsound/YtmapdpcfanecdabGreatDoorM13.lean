import Derived.Test.YtmapdpcfanecdabGreatDoorM12
import Derived.Lib.MinMax
import Derived.Test.YtmapdpcfanecdabGreatDoorM07
import Derived.Deep.DeepCutAuto
open Go.Ending renaming returned→Rt
open Go.IntKind renaming i64→Y
open Go.Obj renaming cells→Cc
open Go.Proofs.Tryz renaming prog→pG
open Go.Value renaming bool→Bb,int→I,pointer→Pp,tuple→Tu
open Go.World renaming size_alloc→zA
open Nat renaming le_refl→lR
open Option renaming none→nO,some→sO
set_option linter.unusedSimpArgs false
set_option linter.unusedVariables false
set_option maxHeartbeats 4000000
set_option maxRecDepth 100000
namespace Go.Proofs.YtmapdpcfanecdabGreatDoor
section
open Go.RowKit
abbrev eP (e:Int)(r:Sp):Sp:=if e=0 then r else bA

theorem Fr (s t:Sp)(w:World):
  Calls pG 181 #[sv s,sv t,.func (.func 182) #[] #[]] w λe w'=>e=Rt (Tu #[sv (eP (br s t) (bq s t)),I Y (br s t)])∧Below w.heap.size w w':=by
 by_cases h:br s t=0
 ·rw[h];exact uV s t w h
 ·unfold eP;rw[if_neg h];exact kY _ s t w h

theorem CJ (s t:Sp)(w:World):
  Calls pG 124 #[sv s,sv t] w λe w'=>e=Rt (Tu #[sv (eP (br s t) (bq s t)),I Y (br s t)])∧Below w.heap.size w w':=by
 have hT:=Fr s t
 generalize eP (br s t) (bq s t)=r at hT ⊢
 generalize br s t=c at hT ⊢
 obtain⟨n,lo,hi⟩:=s
 obtain⟨n',lo',hi'⟩:=t
 obtain⟨rn,rlo,rhi⟩:=r
 go_enter Tryz.func124,Tryz.ntmps124
 go_wp2_with (go_at_call 181;fail)
 refine(hT _).mono ?_
 rintro e w1 ⟨rfl,hb1⟩
 obtain⟨-,-,⟨r0,r1,r2⟩,⟨f0,f1,f2⟩,z0,z1,z2⟩:=eE (s:=⟨n,lo,hi⟩) (t:=⟨n',lo',hi'⟩) (r:=bA) hb1 (by simp)
 have H1:Below w.heap.size w w1:=(eF ⟨n,lo,hi⟩ ⟨n',lo',hi'⟩ bA w).trans (hb1.mono (by simp;omega))
 simp only[bA] at r0 r1 r2
 clear hb1 hT
 go_wp2
 refine bodyPost_ret (v:=Tu #[sv ⟨rn,rlo,rhi⟩,I Y c]) (by simp[results,Tryz.results124,go_sem,r0,r1,r2]) rfl ⟨rfl,?_⟩
 exact((H1.setCell (by simp;omega) _).setCell (by simp;omega) _).setCell (by simp;omega) _

theorem FN (s t:Sp)(w:World):
  Calls pG 181 #[sv s,sv t,.func (.func 197) #[] #[]] w λe w'=>e=Rt (Tu #[sv (eP (br s t) (aR s t)),I Y (br s t)])∧Below w.heap.size w w':=by
 by_cases h:br s t=0
 ·rw[h];exact vg s t w h
 ·unfold eP;rw[if_neg h];exact kY _ s t w h

theorem iV (s t:Sp)(w:World):
  Calls pG 159 #[sv s,sv t] w λe w'=>e=Rt (Tu #[sv (eP (br s t) (aR s t)),I Y (br s t)])∧Below w.heap.size w w':=by
 have hT:=FN s t
 generalize eP (br s t) (aR s t)=r at hT ⊢
 generalize br s t=c at hT ⊢
 obtain⟨n,lo,hi⟩:=s
 obtain⟨n',lo',hi'⟩:=t
 obtain⟨rn,rlo,rhi⟩:=r
 go_enter Tryz.func159,Tryz.ntmps159
 go_wp2_with (go_at_call 181;fail)
 refine(hT _).mono ?_
 rintro e w1 ⟨rfl,hb1⟩
 obtain⟨-,-,⟨r0,r1,r2⟩,⟨f0,f1,f2⟩,z0,z1,z2⟩:=eE (s:=⟨n,lo,hi⟩) (t:=⟨n',lo',hi'⟩) (r:=bA) hb1 (by simp)
 have H1:Below w.heap.size w w1:=(eF ⟨n,lo,hi⟩ ⟨n',lo',hi'⟩ bA w).trans (hb1.mono (by simp;omega))
 simp only[bA] at r0 r1 r2
 clear hb1 hT
 go_wp2
 refine bodyPost_ret (v:=Tu #[sv ⟨rn,rlo,rhi⟩,I Y c]) (by simp[results,Tryz.results159,go_sem,r0,r1,r2]) rfl ⟨rfl,?_⟩
 exact((H1.setCell (by simp;omega) _).setCell (by simp;omega) _).setCell (by simp;omega) _

theorem DE (s t:Sp)(w:World):
  Calls pG 181 #[sv s,sv t,.func (.func 183) #[] #[]] w λe w'=>e=Rt (Tu #[sv (eP (br s t) (bB s t)),I Y (br s t)])∧Below w.heap.size w w':=by
 by_cases h:br s t=0
 ·rw[h];exact tq s t w h
 ·unfold eP;rw[if_neg h];exact kY _ s t w h

theorem AP (s t:Sp)(w:World):
  Calls pG 125 #[sv s,sv t] w λe w'=>e=Rt (Tu #[sv (eP (br s t) (bB s t)),I Y (br s t)])∧Below w.heap.size w w':=by
 have hT:=DE s t
 generalize eP (br s t) (bB s t)=r at hT ⊢
 generalize br s t=c at hT ⊢
 obtain⟨n,lo,hi⟩:=s
 obtain⟨n',lo',hi'⟩:=t
 obtain⟨rn,rlo,rhi⟩:=r
 go_enter Tryz.func125,Tryz.ntmps125
 go_wp2_with (go_at_call 181;fail)
 refine(hT _).mono ?_
 rintro e w1 ⟨rfl,hb1⟩
 obtain⟨-,-,⟨r0,r1,r2⟩,⟨f0,f1,f2⟩,z0,z1,z2⟩:=eE (s:=⟨n,lo,hi⟩) (t:=⟨n',lo',hi'⟩) (r:=bA) hb1 (by simp)
 have H1:Below w.heap.size w w1:=(eF ⟨n,lo,hi⟩ ⟨n',lo',hi'⟩ bA w).trans (hb1.mono (by simp;omega))
 simp only[bA] at r0 r1 r2
 clear hb1 hT
 go_wp2
 refine bodyPost_ret (v:=Tu #[sv ⟨rn,rlo,rhi⟩,I Y c]) (by simp[results,Tryz.results125,go_sem,r0,r1,r2]) rfl ⟨rfl,?_⟩
 exact((H1.setCell (by simp;omega) _).setCell (by simp;omega) _).setCell (by simp;omega) _

theorem Bw (s t:Sp)(w:World)(h:br s t≠0):
  Calls pG 201 #[sv s,sv t] w λe w'=>e=Rt (Tu #[Bb false,I Y (br s t)])∧Below w.heap.size w w':=by
 have hT:=iV s t
 have h':(br s t==0)=false:=by simpa using h
 generalize eP (br s t) (aR s t)=r at hT
 generalize br s t=c at hT h h' ⊢
 obtain⟨n,lo,hi⟩:=s
 obtain⟨n',lo',hi'⟩:=t
 obtain⟨rn,rlo,rhi⟩:=r
 have h0:Below w.heap.size w ((w.alloc (Cc #[Bb n,I Y lo,I Y hi] 89)).alloc (Cc #[Bb n',I Y lo',I Y hi'] 89)):=by go_grown
 go_enter Tryz.func201,Tryz.ntmps201
 go_wp2_with (go_at_call 159;fail)
 refine(hT _).mono ?_
 rintro e w1 ⟨rfl,hb1⟩
 obtain⟨c0,c1,c2,d0,d1,d2⟩:=nQ hb1 (by simp)
 have H1:Below w.heap.size w w1:=h0.trans (hb1.mono (by simp;omega))
 have z0:w.heap.size < w1.heap.size:=by have:=hb1.size;simp at this;omega
 clear hb1 hT
 go_wp2
 go_ret2
 exact⟨rfl,H1.alloc (by omega) _⟩

theorem FY (r:Sp)(s:Sp):@decide _ (r.dq s)=(r.n==s.n&&(r.lo==s.lo&&r.hi==s.hi)):=by
 obtain⟨n,lo,hi⟩:=r
 obtain⟨n',lo',hi'⟩:=s
 rw[Bool.eq_iff_iff]
 simp

theorem CB (s t:Sp)(w:World)(h:br s t=0):
  Calls pG 201 #[sv s,sv t] w λe w'=>e=Rt (Tu #[Bb (@decide _ ((aR s t).dq s)),I Y 0])∧Below w.heap.size w w':=by
 have hT:=iV s t
 rw[h] at hT
 have e0:eP 0 (aR s t)=aR s t:=rfl
 rw[e0] at hT
 rw[FY]
 clear e0 h
 generalize aR s t=r at hT ⊢
 obtain⟨n,lo,hi⟩:=s
 obtain⟨n',lo',hi'⟩:=t
 obtain⟨rn,rlo,rhi⟩:=r
 have h0:Below w.heap.size w ((w.alloc (Cc #[Bb n,I Y lo,I Y hi] 89)).alloc (Cc #[Bb n',I Y lo',I Y hi'] 89)):=by go_grown
 go_enter Tryz.func201,Tryz.ntmps201
 go_wp2_with (go_at_call 159;fail)
 refine(hT _).mono ?_
 rintro e w1 ⟨rfl,hb1⟩
 obtain⟨c0,c1,c2,d0,d1,d2⟩:=nQ hb1 (by simp)
 have H1:Below w.heap.size w w1:=h0.trans (hb1.mono (by simp;omega))
 have z0:w.heap.size < w1.heap.size:=by have:=hb1.size;simp at this;omega
 clear hb1 hT
 go_wp2
 all_goals go_ret2
 all_goals exact⟨oT (by simp_all),H1.alloc (by omega) _⟩

theorem Cb (s t:Sp)(w:World):
  Calls pG 201 #[sv s,sv t] w λe w'=>e=Rt (Tu #[Bb (decide (br s t=0)&&@decide _ ((aR s t).dq s)),I Y (br s t)])∧Below w.heap.size w w':=by
 by_cases h:br s t=0
 ·have:=CB s t w h
  rw[h]
  simpa using this
 ·have:=Bw s t w h
  simpa[h] using this
@[go_sem] theorem run_min4 {P:Program} (w:World) (ts:Array TypeId) (t:TypeId) (a b c d:Int):
  (Builtin.min_ ts t #[I Y a,I Y b,I Y c,I Y d]).run P w=.ok (I Y (gR a b c d)) w:=by
 have e:∀x y:Int,(if y < x then y else x)=min x y:=λx y=>by split<;>omega
 simp[Builtin.min_,Builtin.min2,e,gR]

@[go_sem] theorem run_max4 {P:Program} (w:World) (ts:Array TypeId) (t:TypeId) (a b c d:Int):
  (Builtin.max_ ts t #[I Y a,I Y b,I Y c,I Y d]).run P w=.ok (I Y (gW a b c d)) w:=by
 have e:∀x y:Int,(if x < y then y else x)=max x y:=λx y=>by split<;>omega
 simp[Builtin.max_,Builtin.max2,e,gW]

theorem lN (F:Nat)(s t:Sp)(w:World)(h:(s.n||t.n)=true):
  Calls pG 228 #[sv s,sv t,.func (.func F) #[] #[]] w λe w'=>e=Rt (sv ⟨true,0,0⟩)∧Below w.heap.size w w':=by
 obtain⟨n,lo,hi⟩:=s
 obtain⟨n',lo',hi'⟩:=t
 cases n with
 |true=>
  go_enter Tryz.func228,Tryz.ntmps228
  go_wp2_with (go_at_call 226;refine(oO _).mono ?_;rintro e w1 ⟨rfl,rfl⟩)
  go_returns
  exact⟨rfl,by go_grown⟩
 |false=>
  cases n' with
  |true=>
   go_enter Tryz.func228,Tryz.ntmps228
   go_wp2_with (go_at_call 226;refine(oO _).mono ?_;rintro e w1 ⟨rfl,rfl⟩)
   go_returns
   exact⟨rfl,by go_grown⟩
  |false=>simp at h

theorem Hn {a b c d:Int}(h1:aV (gR a b c d))(h2:aV (gW a b c d)):kd a b c d=⟨false,gR a b c d,gW a b c d⟩:=if_pos ⟨h1,h2⟩
theorem Hi {a b c d:Int}(h1:¬aV (gR a b c d)):kd a b c d=⟨false,-2147483648,2147483647⟩:=if_neg (λh=>h1 h.1)
theorem GQ {a b c d:Int}(h1:¬aV (gW a b c d)):kd a b c d=⟨false,-2147483648,2147483647⟩:=if_neg (λh=>h1 h.2)
theorem ms {p:Prop}(h:p:=by
 clear h1 h2 h3 h4
 go_enter Tryz.func228,Tryz.ntmps228
 go_wp2
 go_quiet (first|exact Calls.quiet_of (k1 _)|exact Calls.quiet_of (k2 _)|exact Calls.quiet_of (k3 _)|exact Calls.quiet_of (k4 _))
 clear k1 k2 k3 k4
 by_cases h1:aV (gR a b c d)
 ·have e1:decide (aV (gR a b c d))=true:=decide_eq_true h1
  by_cases h2:aV (gW a b c d)
  ·have e2:decide (aV (gW a b c d))=true:=decide_eq_true h2
   go_wp2_with (go_at_call 225;refine(fF _ _).mono ?_;rintro e w' ⟨rfl,rfl⟩)
   go_returns
   exact⟨iu (Hn h1 h2),by go_grown;exact below_drewN (by go_grown) _⟩
  ·have e2:decide (aV (gW a b c d))=false:=decide_eq_false h2
   go_wp2_with (first|(go_at_call 225;refine(fF _ _).mono ?_;rintro e w' ⟨rfl,rfl⟩)|(go_at_call 245;refine(Dv _).mono ?_;rintro e w' ⟨rfl,rfl⟩))
   go_returns
   exact⟨iu (GQ h2),by go_grown;exact below_drewN (by go_grown) _⟩
 ·have e1:decide (aV (gR a b c d))=false:=decide_eq_false h1
  go_wp2_with (first|(go_at_call 225;refine(fF _ _).mono ?_;rintro e w' ⟨rfl,rfl⟩)|(go_at_call 245;refine(Dv _).mono ?_;rintro e w' ⟨rfl,rfl⟩))
  go_returns
  exact⟨iu (Hi h1),by go_grown;exact below_drewN (by go_grown) _⟩):p:=h
end
section
open Go.RowKit
attribute [local go_sem ↓] Go.wp_at_zero Go.wp_at_succ
theorem iF (sb:Nat)(at_:Int)(cs:List Value)(w:World)(h:Cells w sb cs)(h9:cs[9]? =sO (I Y at_))(h0:0≤at_)(h1:at_≤1000):
  Calls pG 92 #[Pp (sO ⟨sb,0,nO⟩)] w λe w'=>e=Rt (I Y (at_+1))∧w'=w:=by
 have c9:=h.1 9 _ h9
 clear h h9
 go_enter Tryz.func92,Tryz.ntmps92
 go_wp2
 go_ret
 exact⟨bu (by go_num),rfl⟩
theorem yu {s:Sp}(hs:s.Ok):cn s=(if (if s.lo=0 then aR s ⟨false,1,2147483647⟩ else s).hi=0 then aR (if s.lo=0 then aR s ⟨false,1,2147483647⟩ else s) ⟨false,-2147483648,-1⟩ else(if s.lo=0 then aR s ⟨false,1,2147483647⟩ else s)):=by
 obtain⟨⟨a1,a2⟩,⟨a3,a4⟩,a5,a6⟩:=hs
 obtain⟨n,lo,hi⟩:=s
 simp only at a1 a2 a3 a4 a5 a6
 cases n with
 |true=>
  obtain⟨rfl,rfl⟩:=a5 rfl
  rfl
 |false=>
  by_cases h1:lo=0
  ·subst h1
   by_cases h2:hi=0
   ·subst h2;rfl
   ·have e1:min hi 2147483647=hi:=by omega
    have e2:max (0:Int) 1=1:=by omega
    have e3:¬hi < 1:=by omega
    simp[cn,aR,h2,e1,e2,e3]
  ·by_cases h2:hi=0
   ·subst h2
    have e1:min (0:Int) (-1)= -1:=by omega
    have e2:max lo (-2147483648)=lo:=by omega
    have e3:¬ -1 < lo:=by omega
    simp[cn,aR,h1,e1,e2,e3]
   ·have e3:¬hi < lo:=by omega
    simp[cn,h1,h2,e3]
theorem Gn {s t:Sp}(hs:s.Ok)(ht:t.Ok):(aR s t).Ok:=by
 obtain⟨⟨a1,a2⟩,⟨a3,a4⟩,a5,a6⟩:=hs
 obtain⟨⟨b1,b2⟩,⟨b3,b4⟩,b5,b6⟩:=ht
 unfold aR
 split
 ·exact dw
 ·rename_i h
  simp only[Bool.or_eq_true,decide_eq_true_eq,not_or] at h
  exact gk (by omega) (by omega) (by omega)
theorem Bz {s t:Sp}(hs:s.Ok)(ht:t.Ok):br s t=0:=ckSps_ok.2 ⟨hs,ht⟩
theorem sy (s:Sp)(w:World)(hs:s.Ok):
  Calls pG 157 #[sv s] w λe w'=>e=Rt (sv (cn s))∧Below w.heap.size w w':=by
 rw[yu hs]
 have HM:Hid (∀(a b:Sp) wx,a.Ok→b.Ok→Calls pG 159 #[sv a,sv b] wx λe w'=>e=Rt (Tu #[sv (aR a b),I Y 0])∧Below wx.heap.size wx w'):=λa b wx ha hb=>by
  have:=iV a b wx
  rw[Bz ha hb] at this
  exact this
 have B0:Below w.heap.size w ((w.alloc (Cc #[Bb s.n,I Y s.lo,I Y s.hi] 89)).alloc (Cc #[Bb false,I Y 0,I Y 0] 89)):=by go_grown
 have A0:Cells ((w.alloc (Cc #[Bb s.n,I Y s.lo,I Y s.hi] 89)).alloc (Cc #[Bb false,I Y 0,I Y 0] 89)) w.heap.size [Bb s.n,I Y s.lo,I Y s.hi]:=(Cells.new w 89 [Bb s.n,I Y s.lo,I Y s.hi]).call (by go_grown)
 have R0:Cells ((w.alloc (Cc #[Bb s.n,I Y s.lo,I Y s.hi] 89)).alloc (Cc #[Bb false,I Y 0,I Y 0] 89)) (w.heap.size+1) [Bb false,I Y 0,I Y 0]:=by
  have:=Cells.new (w.alloc (Cc #[Bb s.n,I Y s.lo,I Y s.hi] 89)) 89 [Bb false,I Y 0,I Y 0]
  rw[zA] at this
  exact this
 have HK1:Hid ((⟨false,1,2147483647⟩:Sp).Ok):=gk (by omega) (by omega) (by omega)
 have HK2:Hid ((⟨false,-2147483648,-1⟩:Sp).Ok):=gk (by omega) (by omega) (by omega)
 obtain⟨m1,hm1⟩:∃q,q=(if s.lo=0 then aR s ⟨false,1,2147483647⟩ else s):=⟨_,rfl⟩
 rw[←hm1]
 have HO1:Hid (m1.Ok):=by
  show m1.Ok
  rw[hm1]
  split
  ·exact Gn hs HK1.out
  ·exact hs
 have HM1:=aa hm1
 clear hm1
 obtain⟨m2,hm2⟩:∃q,q=(if m1.hi=0 then aR m1 ⟨false,-2147483648,-1⟩ else m1):=⟨_,rfl⟩
 rw[←hm2]
 have HM2:=aa hm2
 have HS:=aa hs
 clear hm2 hs
 go_enter Tryz.func157,Tryz.ntmps157
 go_upto_if 5 with fail
 generalize ((w.alloc (Cc #[Bb s.n,I Y s.lo,I Y s.hi] 89)).alloc (Cc #[Bb false,I Y 0,I Y 0] 89))=w0 at *
 go_cut [] (λwy=>Cells wy w.heap.size [Bb m1.n,I Y m1.lo,I Y m1.hi]∧Cells wy (w.heap.size+1) [Bb false,I Y 0,I Y 0]∧Below w.heap.size w wy)
 case first=>
  have a0:=A0.1 0 _ rfl
  have a1:=A0.1 1 _ rfl
  have a2:=A0.1 2 _ rfl
  by_cases e:s.lo=0
  ·have e1:=HM1.out
   rw[if_pos e] at e1
   have E1:=aa e1
   have eb:(s.lo==0)=true:=by simpa using e
   clear e1 e
   have HC:=aa (HM.out s ⟨false,1,2147483647⟩ w0 HS.out HK1.out)
   rw[←E1.out] at HC
   go_wp2_with (go_at_call 159;fail)
   refine HC.out.mono ?_
   rintro e w1 ⟨rfl,hb1⟩
   have A1:=A0.call hb1
   have R1:=R0.call hb1
   have B1:=B0.trans (hb1.mono B0.size)
   clear a0 a1 a2 hb1 A0 R0 B0 HC
   have b0:=A1.1 0 _ rfl
   have b1:=A1.1 1 _ rfl
   have b2:=A1.1 2 _ rfl
   have f0:=A1.2.2 0
   have f1:=A1.2.2 1
   have f2:=A1.2.2 2
   go_wp2_with fail
   go_meet
   exact⟨((A1.put 0 (by simp) _).put 1 (by simp) _).put 2 (by simp) _,((R1.far (by simp only;omega) _).far (by simp only;omega) _).far (by simp only;omega) _,((B1.setCell (lR _) _).setCell (lR _) _).setCell (lR _) _⟩
  ·have e1:=HM1.out
   rw[if_neg e] at e1
   have eb:(s.lo==0)=false:=by simpa using e
   clear e
   subst e1
   go_wp2_with fail
   go_meet
   exact⟨A0,R0,B0⟩
 obtain⟨A1,R1,B1⟩:=hcut
 clear A0 R0 B0
 generalize wc=w1 at *
 clear wc
 have a0:=A1.1 0 _ rfl
 have a1:=A1.1 1 _ rfl
 have a2:=A1.1 2 _ rfl
 go_upto_if 14 with fail
 go_cut [] (λwy=>Cells wy w.heap.size [Bb m2.n,I Y m2.lo,I Y m2.hi]∧Cells wy (w.heap.size+1) [Bb false,I Y 0,I Y 0]∧Below w.heap.size w wy)
 case first=>
  by_cases e:m1.hi=0
  ·have e1:=HM2.out
   rw[if_pos e] at e1
   have E1:=aa e1
   have eb:(m1.hi==0)=true:=by simpa using e
   clear e1 e
   have HC:=aa (HM.out m1 ⟨false,-2147483648,-1⟩ w1 HO1.out HK2.out)
   rw[←E1.out] at HC
   go_wp2_with (go_at_call 159;fail)
   refine HC.out.mono ?_
   rintro e w2 ⟨rfl,hb2⟩
   have A2:=A1.call hb2
   have R2:=R1.call hb2
   have B2:=B1.trans (hb2.mono B1.size)
   clear a0 a1 a2 hb2 A1 R1 B1 HC
   have b0:=A2.1 0 _ rfl
   have b1:=A2.1 1 _ rfl
   have b2:=A2.1 2 _ rfl
   have f0:=A2.2.2 0
   have f1:=A2.2.2 1
   have f2:=A2.2.2 2
   go_wp2_with fail
   go_meet
   exact⟨((A2.put 0 (by simp) _).put 1 (by simp) _).put 2 (by simp) _,((R2.far (by simp only;omega) _).far (by simp only;omega) _).far (by simp only;omega) _,((B2.setCell (lR _) _).setCell (lR _) _).setCell (lR _) _⟩
  ·have e1:=HM2.out
   rw[if_neg e] at e1
   have eb:(m1.hi==0)=false:=by simpa using e
   clear e
   subst e1
   go_wp2_with fail
   go_meet
   exact⟨A1,R1,B1⟩
 obtain⟨A2,R2,B2⟩:=hcut
 clear A1 R1 B1 a0 a1 a2
 generalize wc=w2 at *
 clear wc
 have b0:=A2.1 0 _ rfl
 have b1:=A2.1 1 _ rfl
 have b2:=A2.1 2 _ rfl
 have d0:=R2.1 0 _ rfl
 have d1:=R2.1 1 _ rfl
 have d2:=R2.1 2 _ rfl
 have f0:=R2.2.2 0
 have f1:=R2.2.2 1
 have f2:=R2.2.2 2
 go_wp2
 refine bodyPost_ret (v:=sv m2) (by simp[results,Tryz.results157,go_sem,d0,d1,d2]) rfl ⟨rfl,?_⟩
 exact((B2.setCell (by simp only;omega) _).setCell (by simp only;omega) _).setCell (by simp only;omega) _
end
end Go.Proofs.YtmapdpcfanecdabGreatDoor
