import Derived.Test.YtmapdpcfanecdabGreatDoorM13
open Go.Ending renaming returned→Rt
open Go.IntKind renaming i64→Y
open Go.Proofs.Tryz renaming prog→pG
open Go.RowKit.Below renaming refl→bR
open Go.Value renaming bool→Bb,int→I,pointer→Pp,tuple→Tu
open Nat renaming zero_add→j0
open Option renaming none→nO,some→sO
set_option linter.unusedSimpArgs false
set_option linter.unusedVariables false
set_option maxHeartbeats 4000000
set_option maxRecDepth 100000
namespace Go.Proofs.YtmapdpcfanecdabGreatDoor
section
open Go.RowKit
theorem fC {a b c d:Bool}(h:a=c)(h':b=d):Ending.returned (Tu #[Bb a,Bb b])=Rt (Tu #[Bb c,Bb d]):=by rw[h,h']

theorem sL {p:Prop}(h:p:=by
 go_wp2
 refine wp_region_quiet_lit (by kernel_rfl) (by kernel_rfl) ?_
 repeat (any_goals (first|go_big_quiet_step (fail)|quiet_step (fail)|(refine wpQuiet_step (λK hK=> ?_);go_simp;split<;>(refine hK _ ?_;clear hK K))))
 all_goals (refine wpQuiet_nil ?_;intro _ hw';obtain⟨nq,hw''⟩:=hw';subst hw'')
 all_goals go_wp2
 all_goals go_ret2
 all_goals exact⟨fC (by rw[HY.out];simp_all) (by rw[HN.out];simp_all),below_drewN B1 _⟩):p:=h
theorem rZ {p:Prop}(h:p:=by
 clear hz HZ
 go_wp2
 refine wp_region_quiet_lit (by kernel_rfl) (by kernel_rfl) ?_
 repeat (any_goals (first|go_big_quiet_step (fail)|quiet_step (fail)|(refine wpQuiet_step (λK hK=> ?_);go_simp;split<;>(refine hK _ ?_;clear hK K))))
 all_goals (refine wpQuiet_nil ?_;intro _ hw';obtain⟨nq,hw''⟩:=hw';subst hw'')
 all_goals go_wp2
 all_goals go_ret2
 all_goals exact⟨fC rfl (by rw[HN.out];simp_all),below_drewN B1 _⟩):p:=h
theorem rU (g:Gs)(ss:Option Addr)(gc:Nat)(w:World)(hsp:dd g.sp=0):
  Calls pG 198 #[gv g ss gc] w λe w'=>e=Rt (Tu #[Bb (ca g),Bb (cT g)])∧Below w.heap.size w w':=by
 have hH:=λw=>H7 g.sp 0 w
 rw[hsp,show (decide ((0:Int)=0)&&g.sp.has 0)=g.sp.has 0 from rfl] at hH
 have HY:Hid (ca g=((!g.sp.n&& !decide (g.sp.lo=0∧g.sp.hi=0))||(g.t||decide (0 < g.s.length)))):=rfl
 have HN:Hid (cT g=(g.sp.has 0||(g.n||g.f))):=rfl
 generalize ca g=yy at *
 generalize cT g=nn at *
 generalize g.sp.has 0=z at *
 obtain⟨n,⟨sn,lo,hi⟩,t,f,s⟩:=g
 have G0:=GuAt.new w ⟨n,⟨sn,lo,hi⟩,t,f,s⟩ ss gc
 go_enter Tryz.func198,Tryz.ntmps198
 go_wp2_with (go_at_call 143;fail)
 refine(hH _).mono ?_
 rintro e w1 ⟨rfl,hb1⟩
 have G1:=G0.call hb1
 have B1:Below w.heap.size w w1:=Below.trans (by go_grown) (hb1.mono (by simp))
 obtain⟨⟨g0,g1,g2,g3,g4,g5,g6⟩,gz⟩:=id G1
 simp only[j0] at g0 g1 g2 g3 g4 g5 g6
 clear G0 G1 hb1 hH hsp
 cases sn with
 |true=>
  exact sL
 |false=>
  by_cases hz:lo=0∧hi=0
  ·obtain⟨rfl,rfl⟩:=hz
   exact sL
  ·have HZ:Hid (decide (lo=0∧hi=0)=false):=by show _=_;simpa using hz
   have hm:yy=true:=by rw[HY.out,HZ.out];rfl
   subst hm
   clear HY
   by_cases h1:lo=0
   ·subst h1
    have h2:(hi==0)=false:=by simp only[beq_eq_false_iff_ne];intro h;exact hz ⟨rfl,h⟩
    exact rZ
   ·have h2:(lo==0)=false:=by simpa using h1
    exact rZ

theorem fY (x:Int)(q:Nat)(h:Gs)(ss:Option Addr)(gc:Nat)(w:World)(hg:GuAt w q 0 h ss gc)(hs:IntsAt w ss h.s)(hl:h.s.length≤9223372036854775807):
  Calls pG 199 #[I Y x,Pp (sO ⟨q,0,nO⟩)] w λe w'=>e=Rt (Bb (!h.s.contains x))∧Below w.heap.size w w':=by
 obtain⟨⟨g0,g1,g2,g3,g4,g5,g6⟩,gz⟩:=id hg
 simp only[j0] at g6
 go_enter Tryz.func199,Tryz.ntmps199
 go_wp2_with (go_at_call 144;fail)
 refine(mX x ss gc h.s _ hl hs).mono ?_
 rintro e w1 ⟨rfl,rfl⟩
 go_wp2
 go_ret
 exact⟨aI (by simp),bR _ _⟩

theorem fe (x:Int)(q:Nat)(h:Gs)(ss:Option Addr)(gc:Nat)(w:World)(hg:GuAt w q 0 h ss gc)(hs:IntsAt w ss h.s)(hl:h.s.length≤9223372036854775807):
  Calls pG 234 #[I Y x,Pp (sO ⟨q,0,nO⟩)] w λe w'=>e=Rt (Bb (h.s.contains x))∧Below w.heap.size w w':=by
 obtain⟨⟨g0,g1,g2,g3,g4,g5,g6⟩,gz⟩:=id hg
 simp only[j0] at g6
 go_enter Tryz.func234,Tryz.ntmps234
 go_wp2_with (go_at_call 144;fail)
 refine(mX x ss gc h.s _ hl hs).mono ?_
 rintro e w1 ⟨rfl,rfl⟩
 go_wp2
 go_ret
 exact⟨aI (by simp),bR _ _⟩
end
end Go.Proofs.YtmapdpcfanecdabGreatDoor
