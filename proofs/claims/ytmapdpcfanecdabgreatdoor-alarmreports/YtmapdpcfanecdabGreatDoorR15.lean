import Derived.Test.YtmapdpcfanecdabGreatDoorR14
open Go.Ending renaming returned→Rt
open Go.IntKind renaming i64→Y
open Go.Proofs.Tryz renaming prog→pG
open Go.Value renaming bool→Bb,int→I,tuple→Tu
open Option renaming none→nO
open Go.Proofs.Tryz
set_option linter.unusedSimpArgs false
set_option linter.unusedVariables false
set_option maxHeartbeats 8000000
set_option maxRecDepth 10000
namespace Go.Proofs.YtmapdpcfanecdabGreatDoor
section
open Go.RowKit
theorem WK (w:World)(g:Gs)(ss:oA)(gc:Nat)(h:Gs)(st:oA)(hc:Nat)(hgo:g.sp.Ok)(hho:h.sp.Ok):
  Calls pG 115 #[I Y 5,gv g ss gc,gv h st hc] w λe w'=>e=Rt (if (an g||an h)=true then Tu #[gv noneG nO 0,Bb false] else Tu #[gv ⟨false,cu 5 g.sp h.sp,false,false,[]⟩ nO 0,Bb (aP g||aP h)])/\bl w w':=by
 have HOg:=rI;have HOh:=sR;generalize hwr:(aP g||aP h)=wr;have HWr0:=ag hwr;clear hwr;generalize aP g=og at *;generalize aP h=oh at *;have HWr:=pQ;clear HWr0;have HD:=ag (λw=>sK 5 g.sp h.sp w aa hgo hho);generalize cu 5 g.sp h.sp=sp at *;exact rQ
end
end Go.Proofs.YtmapdpcfanecdabGreatDoor
