import Derived.Test.YtmapdpcfanecdabGreatDoorR15
open Go.Ending renaming returned→Rt
open Go.IntKind renaming i64→Y
open Go.Proofs.Tryz renaming prog→pG
open Go.Value renaming bool→Bb,int→I,tuple→Tu
open Option renaming none→nO
set_option linter.unusedSimpArgs false
set_option linter.unusedVariables false
set_option maxHeartbeats 8000000
set_option maxRecDepth 10000
namespace Go.Proofs.YtmapdpcfanecdabGreatDoor
section
open Go.RowKit
theorem WQ (w:World)(g:Gs)(ss:oA)(gc:Nat)(h:Gs)(st:oA)(hc:Nat)(hgo:g.sp.Ok)(hho:h.sp.Ok):
  Calls pG 115 #[I Y 5,gv g ss gc,gv h st hc] w λe w'=>e=Rt (if (an g||an h)=true then Tu #[gv noneG nO 0,Bb false] else Tu #[gv ⟨false,cr 5 g.sp h.sp,false,false,[]⟩ nO 0,Bb (aO g||aO h)])/\bl w w':=by
 have HOg:=pX;have HOh:=sJ;generalize hwr:(aO g||aO h)=wr;have HWr0:=ah hwr;clear hwr;generalize aO g=og at *;generalize aO h=oh at *;have HWr:=rV;clear HWr0;have HD:=ah (λw=>sC 5 g.sp h.sp w aa hgo hho);generalize cr 5 g.sp h.sp=sp at *;exact rO
end
end Go.Proofs.YtmapdpcfanecdabGreatDoor
