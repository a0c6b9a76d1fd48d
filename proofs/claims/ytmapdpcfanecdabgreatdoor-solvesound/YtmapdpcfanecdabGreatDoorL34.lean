import Derived.Test.YtmapdpcfanecdabGreatDoorL18
import Derived.Test.YtmapdpcfanecdabGreatDoorL25
open Go.Ending renaming returned→Rt
open Go.IntKind renaming i64→Y
open Go.Proofs.Tryz renaming prog→pG
open Go.Value renaming bool→Bb,int→I,tuple→Tu
open Go.World renaming size_alloc→zA
open Nat renaming le_refl→lR
open Option renaming none→nO
set_option linter.unusedSimpArgs false
set_option linter.unusedVariables false
set_option maxHeartbeats 8000000
set_option maxRecDepth 10000
namespace Go.Proofs.YtmapdpcfanecdabGreatDoor
section
open Go.RowKit
theorem GO (V F:Int)(s:Option Addr)(c:List Ins)(cap:Nat)(g:Gs)(ss:Option Addr)(gc:Nat)(h:Gs)(st:Option Addr)(hc:Nat)(w:World)
  (hcd:CodeAt w s c)(hs:IntsAt w ss g.s)(h1:g.s.length≤gc)(h2:gc≤maxLen)(ht:IntsAt w st h.s)(h3:h.s.length≤hc)(h4:hc≤maxLen)(hck:aF V F c [g,h]=0):
  Calls pG 164 #[pv V F s c cap,I Y 5,gv g ss gc,gv h st hc] w λe w'=>e=Rt (Tu #[gv ⟨false,cI 5 g.sp h.sp,false,false,[]⟩ nO 0,Bb ([g,h].any aV&& ![g,h].any au),I Y 0])∧Below w.heap.size w w':=by
 obtain⟨P0,G0,H0,R0,F0⟩:=dX w V F s c cap g ss gc h st hc
 have B0:=cS w V F s c cap g ss gc h st hc
 have C0:CodeAt (bJ w V F s c cap g ss gc h st hc) s c:=hcd.below B0 (lR _)
 have I0:IntsAt (bJ w V F s c cap g ss gc h st hc) ss g.s:=hs.below B0 (lR _)
 have J0:IntsAt (bJ w V F s c cap g ss gc h st hc) st h.s:=ht.below B0 (lR _)
 have L0:=GsAt.new2 (bJ w V F s c cap g ss gc h st hc) g ss gc h st hc I0 h1 h2 J0 h3 h4
 simp only[zA] at L0
 have hJ0:=λw=>vo 5 g.sp h.sp w
 rw[show fK 5 g.sp h.sp=0 by unfold fK;rw[if_pos (dZ hck),if_pos (by decide)],show∀r,eD 0 r=r from λr=>rfl] at hJ0
 have hJ:=aa hJ0
 have HK:=aa hck
 clear hck hJ0
 generalize cI 5 g.sp h.sp=J at hJ ⊢
 exact lA
theorem GG (V F:Int)(s:Option Addr)(c:List Ins)(cap:Nat)(g:Gs)(ss:Option Addr)(gc:Nat)(h:Gs)(st:Option Addr)(hc:Nat)(w:World)
  (hcd:CodeAt w s c)(hs:IntsAt w ss g.s)(h1:g.s.length≤gc)(h2:gc≤maxLen)(ht:IntsAt w st h.s)(h3:h.s.length≤hc)(h4:hc≤maxLen)(hck:aF V F c [g,h]=0):
  Calls pG 164 #[pv V F s c cap,I Y 6,gv g ss gc,gv h st hc] w λe w'=>e=Rt (Tu #[gv ⟨false,cI 6 g.sp h.sp,false,false,[]⟩ nO 0,Bb ([g,h].any aV&& ![g,h].any au),I Y 0])∧Below w.heap.size w w':=by
 obtain⟨P0,G0,H0,R0,F0⟩:=dX w V F s c cap g ss gc h st hc
 have B0:=cS w V F s c cap g ss gc h st hc
 have C0:CodeAt (bJ w V F s c cap g ss gc h st hc) s c:=hcd.below B0 (lR _)
 have I0:IntsAt (bJ w V F s c cap g ss gc h st hc) ss g.s:=hs.below B0 (lR _)
 have J0:IntsAt (bJ w V F s c cap g ss gc h st hc) st h.s:=ht.below B0 (lR _)
 have L0:=GsAt.new2 (bJ w V F s c cap g ss gc h st hc) g ss gc h st hc I0 h1 h2 J0 h3 h4
 simp only[zA] at L0
 have hJ0:=λw=>vo 6 g.sp h.sp w
 rw[show fK 6 g.sp h.sp=0 by unfold fK;rw[if_pos (dZ hck),if_pos (by decide)],show∀r,eD 0 r=r from λr=>rfl] at hJ0
 have hJ:=aa hJ0
 have HK:=aa hck
 clear hck hJ0
 generalize cI 6 g.sp h.sp=J at hJ ⊢
 exact lA
theorem GQ (V F:Int)(s:Option Addr)(c:List Ins)(cap:Nat)(g:Gs)(ss:Option Addr)(gc:Nat)(h:Gs)(st:Option Addr)(hc:Nat)(w:World)
  (hcd:CodeAt w s c)(hs:IntsAt w ss g.s)(h1:g.s.length≤gc)(h2:gc≤maxLen)(ht:IntsAt w st h.s)(h3:h.s.length≤hc)(h4:hc≤maxLen)(hck:aF V F c [g,h]=0):
  Calls pG 164 #[pv V F s c cap,I Y 7,gv g ss gc,gv h st hc] w λe w'=>e=Rt (Tu #[gv ⟨false,cI 7 g.sp h.sp,false,false,[]⟩ nO 0,Bb ([g,h].any aV&& ![g,h].any au),I Y 0])∧Below w.heap.size w w':=by
 obtain⟨P0,G0,H0,R0,F0⟩:=dX w V F s c cap g ss gc h st hc
 have B0:=cS w V F s c cap g ss gc h st hc
 have C0:CodeAt (bJ w V F s c cap g ss gc h st hc) s c:=hcd.below B0 (lR _)
 have I0:IntsAt (bJ w V F s c cap g ss gc h st hc) ss g.s:=hs.below B0 (lR _)
 have J0:IntsAt (bJ w V F s c cap g ss gc h st hc) st h.s:=ht.below B0 (lR _)
 have L0:=GsAt.new2 (bJ w V F s c cap g ss gc h st hc) g ss gc h st hc I0 h1 h2 J0 h3 h4
 simp only[zA] at L0
 have hJ0:=λw=>vo 7 g.sp h.sp w
 rw[show fK 7 g.sp h.sp=0 by unfold fK;rw[if_pos (dZ hck),if_pos (by decide)],show∀r,eD 0 r=r from λr=>rfl] at hJ0
 have hJ:=aa hJ0
 have HK:=aa hck
 clear hck hJ0
 generalize cI 7 g.sp h.sp=J at hJ ⊢
 exact lA
end
end Go.Proofs.YtmapdpcfanecdabGreatDoor
