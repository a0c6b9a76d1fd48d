import Derived.Test.YtmapdpcfanecdabGreatDoorM40
open Go.Ending renaming returned→Rt
open Go.IntKind renaming i64→Y
open Go.Proofs.Tryz renaming prog→pG
open Go.Value renaming agg→Ag,bool→Bb,int→I,slice→U,tuple→Tu
open Option renaming none→nO
set_option linter.unusedSimpArgs false
set_option linter.unusedVariables false
set_option maxHeartbeats 4000000
set_option maxRecDepth 100000
namespace Go.Proofs.YtmapdpcfanecdabGreatDoor
section
open Go.RowKit
attribute [local go_sem ↓] Go.wp_at_zero Go.wp_at_succ
theorem BM {p:Prop}(h:p:=by
 have B0:Below w.heap.size w ((((w.alloc (.cells #[.int .i64 V,.int .i64 F,.slice s c.length cap] 24)).alloc (.cells #[.bool x.none,.slice vs1 x.vars.length vc1,.slice fs1 x.flds.length fc1] 28)).alloc (.cells #[.bool y.none,.slice vs2 y.vars.length vc2,.slice fs2 y.flds.length fc2] 28)).alloc (.cells #[.bool false,.slice none 0 0,.slice none 0 0] 28)):=by go_grown
 have P0:=(PrAt.new w V F s c cap).call (w':=((((w.alloc (.cells #[.int .i64 V,.int .i64 F,.slice s c.length cap] 24)).alloc (.cells #[.bool x.none,.slice vs1 x.vars.length vc1,.slice fs1 x.flds.length fc1] 28)).alloc (.cells #[.bool y.none,.slice vs2 y.vars.length vc2,.slice fs2 y.flds.length fc2] 28)).alloc (.cells #[.bool false,.slice none 0 0,.slice none 0 0] 28))) (by go_grown)
 have X0:=(XAt.new (w.alloc (.cells #[.int .i64 V,.int .i64 F,.slice s c.length cap] 24)) x vs1 vc1 fs1 fc1).call (w':=((((w.alloc (.cells #[.int .i64 V,.int .i64 F,.slice s c.length cap] 24)).alloc (.cells #[.bool x.none,.slice vs1 x.vars.length vc1,.slice fs1 x.flds.length fc1] 28)).alloc (.cells #[.bool y.none,.slice vs2 y.vars.length vc2,.slice fs2 y.flds.length fc2] 28)).alloc (.cells #[.bool false,.slice none 0 0,.slice none 0 0] 28))) (by go_grown)
 have Y0:=(XAt.new ((w.alloc (.cells #[.int .i64 V,.int .i64 F,.slice s c.length cap] 24)).alloc (.cells #[.bool x.none,.slice vs1 x.vars.length vc1,.slice fs1 x.flds.length fc1] 28)) y vs2 vc2 fs2 fc2).call (w':=((((w.alloc (.cells #[.int .i64 V,.int .i64 F,.slice s c.length cap] 24)).alloc (.cells #[.bool x.none,.slice vs1 x.vars.length vc1,.slice fs1 x.flds.length fc1] 28)).alloc (.cells #[.bool y.none,.slice vs2 y.vars.length vc2,.slice fs2 y.flds.length fc2] 28)).alloc (.cells #[.bool false,.slice none 0 0,.slice none 0 0] 28))) (by go_grown)
 have Z0:=X3.new (((w.alloc (.cells #[.int .i64 V,.int .i64 F,.slice s c.length cap] 24)).alloc (.cells #[.bool x.none,.slice vs1 x.vars.length vc1,.slice fs1 x.flds.length fc1] 28)).alloc (.cells #[.bool y.none,.slice vs2 y.vars.length vc2,.slice fs2 y.flds.length fc2] 28)) 28 (.bool false) (.slice none 0 0) (.slice none 0 0)
 rw[World.size_alloc] at X0
 rw[World.size_alloc,World.size_alloc] at Y0
 rw[World.size_alloc,World.size_alloc,World.size_alloc] at Z0
 have C0:=hcd.below B0 (Nat.le_refl _)
 have PX:=hx.below B0 (Nat.le_refl _)
 have PY:=hy.below B0 (Nat.le_refl _)
 have HC:=aa (eS V F s c cap (some ⟨((((w.alloc (.cells #[.int .i64 V,.int .i64 F,.slice s c.length cap] 24)).alloc (.cells #[.bool x.none,.slice vs1 x.vars.length vc1,.slice fs1 x.flds.length fc1] 28)).alloc (.cells #[.bool y.none,.slice vs2 y.vars.length vc2,.slice fs2 y.flds.length fc2] 28)).alloc (.cells #[.bool false,.slice none 0 0,.slice none 0 0] 28)).heap.size,0,none⟩) [x,y] 2 (((((w.alloc (.cells #[.int .i64 V,.int .i64 F,.slice s c.length cap] 24)).alloc (.cells #[.bool x.none,.slice vs1 x.vars.length vc1,.slice fs1 x.flds.length fc1] 28)).alloc (.cells #[.bool y.none,.slice vs2 y.vars.length vc2,.slice fs2 y.flds.length fc2] 28)).alloc (.cells #[.bool false,.slice none 0 0,.slice none 0 0] 28)).alloc (.cells #[.bool x.none,.slice vs1 x.vars.length vc1,.slice fs1 x.flds.length fc1,.bool y.none,.slice vs2 y.vars.length vc2,.slice fs2 y.flds.length fc2] 28)) (C0.call (by go_grown)) (XsAt.new2 ((((w.alloc (.cells #[.int .i64 V,.int .i64 F,.slice s c.length cap] 24)).alloc (.cells #[.bool x.none,.slice vs1 x.vars.length vc1,.slice fs1 x.flds.length fc1] 28)).alloc (.cells #[.bool y.none,.slice vs2 y.vars.length vc2,.slice fs2 y.flds.length fc2] 28)).alloc (.cells #[.bool false,.slice none 0 0,.slice none 0 0] 28)) x vs1 vc1 fs1 fc1 y vs2 vc2 fs2 fc2 PX h1 h2 PY h3 h4) (by simp))
 have hbz:Below ((((w.alloc (.cells #[.int .i64 V,.int .i64 F,.slice s c.length cap] 24)).alloc (.cells #[.bool x.none,.slice vs1 x.vars.length vc1,.slice fs1 x.flds.length fc1] 28)).alloc (.cells #[.bool y.none,.slice vs2 y.vars.length vc2,.slice fs2 y.flds.length fc2] 28)).alloc (.cells #[.bool false,.slice none 0 0,.slice none 0 0] 28)).heap.size ((((w.alloc (.cells #[.int .i64 V,.int .i64 F,.slice s c.length cap] 24)).alloc (.cells #[.bool x.none,.slice vs1 x.vars.length vc1,.slice fs1 x.flds.length fc1] 28)).alloc (.cells #[.bool y.none,.slice vs2 y.vars.length vc2,.slice fs2 y.flds.length fc2] 28)).alloc (.cells #[.bool false,.slice none 0 0,.slice none 0 0] 28)) (((((w.alloc (.cells #[.int .i64 V,.int .i64 F,.slice s c.length cap] 24)).alloc (.cells #[.bool x.none,.slice vs1 x.vars.length vc1,.slice fs1 x.flds.length fc1] 28)).alloc (.cells #[.bool y.none,.slice vs2 y.vars.length vc2,.slice fs2 y.flds.length fc2] 28)).alloc (.cells #[.bool false,.slice none 0 0,.slice none 0 0] 28)).alloc (.cells #[.bool x.none,.slice vs1 x.vars.length vc1,.slice fs1 x.flds.length fc1,.bool y.none,.slice vs2 y.vars.length vc2,.slice fs2 y.flds.length fc2] 28)):=by go_grown
 have e3:((((w.alloc (.cells #[.int .i64 V,.int .i64 F,.slice s c.length cap] 24)).alloc (.cells #[.bool x.none,.slice vs1 x.vars.length vc1,.slice fs1 x.flds.length fc1] 28)).alloc (.cells #[.bool y.none,.slice vs2 y.vars.length vc2,.slice fs2 y.flds.length fc2] 28)).alloc (.cells #[.bool false,.slice none 0 0,.slice none 0 0] 28)).heap.size=w.heap.size+1+1+1+1:=by simp
 have d1:(aJ V F c [x,y]!=0)=true:=by simpa using h
 have HB:=aa hbz
 generalize aJ V F c [x,y]=ce at *
 rw[e3] at HC
 clear h hx hy hcd PX PY P0 X0 Y0 C0 hbz
 go_enter Tryz.func71,Tryz.ntmps71
 go_wp2_with (go_at_call 43;fail)
 refine HC.out.mono ?_
 rintro e w1 ⟨rfl,hb1⟩
 have hb01:Below ((((w.alloc (.cells #[.int .i64 V,.int .i64 F,.slice s c.length cap] 24)).alloc (.cells #[.bool x.none,.slice vs1 x.vars.length vc1,.slice fs1 x.flds.length fc1] 28)).alloc (.cells #[.bool y.none,.slice vs2 y.vars.length vc2,.slice fs2 y.flds.length fc2] 28)).alloc (.cells #[.bool false,.slice none 0 0,.slice none 0 0] 28)).heap.size ((((w.alloc (.cells #[.int .i64 V,.int .i64 F,.slice s c.length cap] 24)).alloc (.cells #[.bool x.none,.slice vs1 x.vars.length vc1,.slice fs1 x.flds.length fc1] 28)).alloc (.cells #[.bool y.none,.slice vs2 y.vars.length vc2,.slice fs2 y.flds.length fc2] 28)).alloc (.cells #[.bool false,.slice none 0 0,.slice none 0 0] 28)) w1:=HB.out.trans (hb1.mono (by first|exact HB.out.size|(simp;omega)|omega))
 have Z1:=Z0.call hb01
 have B1:=B0.trans (hb01.mono B0.size)
 clear HB hb1 hb01 B0 Z0 HC e3
 obtain⟨⟨z0,z1,z2⟩,zz,zf⟩:=id Z1
 have f0:=zf 0
 have f1:=zf 1
 have f2:=zf 2
 clear zf
 go_wp2
 refine bodyPost_ret (v:=.tuple #[.agg #[.bool false,.slice none 0 0,.slice none 0 0],.int .i64 ce]) (by simp[results,Tryz.results71,go_sem,z0,z1,z2]) rfl ⟨rfl,?_⟩
 exact((B1.setCell (by simp only;omega) _).setCell (by simp only;omega) _).setCell (by simp only;omega) _):p:=h
theorem kS (fh:Nat)(V F:Int)(s:Option Addr)(c:List Ins)(cap:Nat)(x:Pic)(vs1:Option Addr)(vc1:Nat)(fs1:Option Addr)(fc1:Nat)(y:Pic)(vs2:Option Addr)(vc2:Nat)(fs2:Option Addr)(fc2:Nat)(w:World)(hcd:CodeAt w s c)(hx:PicAt w x vs1 fs1)(h1:x.vars.length≤vc1∧vc1≤maxLen)(h2:x.flds.length≤fc1∧fc1≤maxLen)(hy:PicAt w y vs2 fs2)(h3:y.vars.length≤vc2∧vc2≤maxLen)(h4:y.flds.length≤fc2∧fc2≤maxLen)(h:aJ V F c [x,y]≠0):
  Calls pG 71 #[pv V F s c cap,xv x vs1 vc1 fs1 fc1,xv y vs2 vc2 fs2 fc2,.func (.func fh) #[] #[]] w λe w'=>e=Rt (Tu #[Ag #[Bb false,U nO 0 0,U nO 0 0],I Y (aJ V F c [x,y])])∧Below w.heap.size w w':=BM
end
end Go.Proofs.YtmapdpcfanecdabGreatDoor
