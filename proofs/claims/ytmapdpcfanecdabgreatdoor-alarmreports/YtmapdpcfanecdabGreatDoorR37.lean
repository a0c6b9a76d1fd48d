import Derived.Test.YtmapdpcfanecdabGreatDoorR32
open Go.Ending renaming returned→Rt
open Go.IntKind renaming i64→Y
open Go.Proofs.Tryz renaming prog→pG
open Go.Value renaming bool→Bb,int→I,tuple→Tu
open Option renaming none→nO
set_option linter.unusedSimpArgs false
set_option linter.unusedVariables false
set_option maxHeartbeats 8000000
set_option maxRecDepth 10000
namespace Go.Proofs.YtmapdpcfanecdabGreatDoor
section
open Go.RowKit
theorem KJ (w:World)(g:Gs)(ss:oA)(gc:Nat)(h:Gs)(st:oA)(hc:Nat)(hgo:g.sp.Ok)(hho:h.sp.Ok):
  Calls pG 115 #[I Y 5,gv g ss gc,gv h st hc] w λe w'=>e=Rt (if (ag g||ag h)=true then Tu #[gv noneG nO 0,Bb false] else Tu #[gv ⟨false,bY 5 g.sp h.sp,false,false,[]⟩ nO 0,Bb (aG g||aG h)])/\Below w.heap.size w w':=by
 have HOg:=aa (λw=>dE g ss gc w);have HOh:=aa (λw=>dE h st hc w);generalize hwr:(aG g||aG h)=wr;have HWr0:=aa hwr;clear hwr;generalize aG g=og at *;generalize aG h=oh at *;have HWr:Hid (wr=(og||oh)):=HWr0.out.symm;clear HWr0;have HD:=aa (λw=>lU 5 g.sp h.sp w (by omega) hgo hho);generalize bY 5 g.sp h.sp=sp at *;exact lQ
end
end Go.Proofs.YtmapdpcfanecdabGreatDoor
