import Derived.Test.YtmapdpcfanecdabGreatDoorM23
open Go.Ending renaming returned→Rt
open Go.IntKind renaming i64→Y
open Go.Proofs.Tryz renaming prog→pG
open Go.Value renaming agg→Ag,bool→Bb,int→I,tuple→Tu
open Go.World renaming size_alloc→zA
open Nat renaming le_refl→lR
set_option linter.unusedSimpArgs false
set_option linter.unusedVariables false
set_option maxHeartbeats 8000000
set_option maxRecDepth 10000
namespace Go.Proofs.YtmapdpcfanecdabGreatDoor
section
open Go.RowKit
theorem tE (V F:Int)(s:Option Addr)(c:List Ins)(cap:Nat)(g:Gs)(ss:Option Addr)(gc:Nat)(h:Gs)(st:Option Addr)(hc:Nat)(w:World)
  (hcd:CodeAt w s c)(hs:IntsAt w ss g.s)(h1:g.s.length≤gc)(h2:gc≤maxLen)(ht:IntsAt w st h.s)(h3:h.s.length≤hc)(h4:hc≤maxLen)(hck:aX V F c [g,h]=0)(hlen:([g,h].flatMap Gs.s).length≤1000000):
  Calls pG 123 #[pv V F s c cap,gv g ss gc,gv h st hc,.func (.func 125) #[] #[]] w λe w'=>∃v,e=Rt (Tu #[Ag #[Bb (g.n||h.n),Bb (bB g.sp h.sp).n,I Y (bB g.sp h.sp).lo,I Y (bB g.sp h.sp).hi,Bb (g.t||h.t),Bb (g.f||h.f),v],I Y 0])∧w'.ownsRow w.heap.size 3 1 v (cA [g,h]).length ((cA [g,h]).map (.int .i64))∧Below w.heap.size w w':=by
 obtain⟨P0,G0,H0,R0,F0⟩:=eC w V F s c cap g ss gc h st hc
 have B0:=cU w V F s c cap g ss gc h st hc
 have C0:CodeAt (bH w V F s c cap g ss gc h st hc) s c:=hcd.below B0 (lR _)
 have I0:IntsAt (bH w V F s c cap g ss gc h st hc) ss g.s:=hs.below B0 (lR _)
 have J0:IntsAt (bH w V F s c cap g ss gc h st hc) st h.s:=ht.below B0 (lR _)
 have L0:=GsAt.new2 (bH w V F s c cap g ss gc h st hc) g ss gc h st hc I0 h1 h2 J0 h3 h4
 simp only[zA] at L0
 have hJ0:=λw=>AP g.sp h.sp w
 rw[eH hck,show∀r,eP 0 r=r from λr=>rfl] at hJ0
 have hJ:=aa hJ0
 have HK:=aa hck
 clear hck hJ0
 generalize bB g.sp h.sp=J at hJ ⊢
 go_enter Tryz.func123,Tryz.ntmps123
 go_wp2_with (go_at_call 142;fail)
 refine(bZ V F s c cap _ [g,h] 2 _ (C0.alloc _) L0 (by simp)).mono ?_
 rintro e w1 ⟨rfl,hb1⟩
 rw[HK.out]
 have G1:=(G0.alloc _).call hb1
 have H1:=(H0.alloc _).call hb1
 have R1:=(R0.alloc _).call hb1
 have I1:=(I0.alloc _).call hb1
 have J1:=(J0.alloc _).call hb1
 have F1:Fr7 w1 (w.heap.size+1+1+1):=(F0.alloc _).call hb1
 have B1:Below w.heap.size w w1:=(B0.alloc B0.size _).trans (hb1.mono (by simp;omega))
 clear hb1 G0 H0 R0 I0 J0 F0 B0 C0 P0 L0 hcd hs ht HK
 obtain⟨⟨g0,g1,g2,g3,g4,g5,g6⟩,gz⟩:=id G1
 obtain⟨⟨k0,k1,k2,k3,k4,k5,k6⟩,kz⟩:=id H1
 simp only[Nat.zero_add] at g0 g1 g2 g3 g4 g5 g6 k0 k1 k2 k3 k4 k5 k6
 go_wp2_with (go_at_call 125;fail)
 exact s7
end
end Go.Proofs.YtmapdpcfanecdabGreatDoor
