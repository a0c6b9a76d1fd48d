import Derived.Test.YtmapdpcfanecdabGreatDoorQ14
open Go.World renaming heap→M
open Array renaming size→R
open List renaming length→X
open Go.Ending renaming returned→Rt
open Go.IntKind renaming i64→Y
open Go.Proofs.Tryz renaming prog→f
open Go.Value renaming int→I,tuple→Tu,pointer→Pp,slice→U,bool→O
open Option renaming some→sO,none→E,some→G
open Go renaming World→C
open Bool renaming true→W5,false→d
open Go.Proofs.Tryz
set_option linter.all false
set_option maxHeartbeats 8000000
set_option maxRecDepth 10000
namespace Go.Proofs.YtmapdpcfanecdabGreatDoor
section
section
open Go.RowKit
def a6r (w:C)(g:Gs)(ss:oA)(gc:Nat)(h:Gs)(st:oA)(hc:Nat)(b:g.sp.Ok)(j:h.sp.Ok):
  Calls f 115 #[I Y 5,gv g ss gc,gv h st hc] w λe w'=>e=Rt (if (aq g||aq h)=W5 then Tu #[gv a4q E 0,O d] else Tu #[gv ⟨d,cT 5 g.sp h.sp,d,d,[]⟩ E 0,O (aT g||aT h)])/\bl w w':=by
 have HOg:=wV;have HOh:=vh;generalize hwr:(aT g||aT h)=wr;have jF:=ag hwr;clear hwr;generalize aT g=og at *;generalize aT h=oh at *;have HWr:=vV;clear jF;have HD:=ag (λw=>vS 5 g.sp h.sp w aa b j);generalize cT 5 g.sp h.sp=sp at *;exact ww
end
end
section
section
open Go.RowKit
def a5U (w:C)(g:Gs)(ss:oA)(gc:Nat)(h:Gs)(st:oA)(hc:Nat)(b:g.sp.Ok)(j:h.sp.Ok):
  Calls f 115 #[I Y 6,gv g ss gc,gv h st hc] w λe w'=>e=Rt (if (aq g||aq h)=W5 then Tu #[gv a4q E 0,O d] else Tu #[gv ⟨d,cT 6 g.sp h.sp,d,d,[]⟩ E 0,O (aT g||aT h)])/\bl w w':=by
 have HOg:=wV;have HOh:=vh;generalize hwr:(aT g||aT h)=wr;have jF:=ag hwr;clear hwr;generalize aT g=og at *;generalize aT h=oh at *;have HWr:=vV;clear jF;have HD:=ag (λw=>vS 6 g.sp h.sp w aa b j);generalize cT 6 g.sp h.sp=sp at *;exact ww
end
end
section
open Go.RowKit
def a5T (w:C)(g:Gs)(ss:oA)(gc:Nat)(h:Gs)(st:oA)(hc:Nat)(b:g.sp.Ok)(j:h.sp.Ok):
  Calls f 115 #[I Y 7,gv g ss gc,gv h st hc] w λe w'=>e=Rt (if (aq g||aq h)=W5 then Tu #[gv a4q E 0,O d] else Tu #[gv ⟨d,cT 7 g.sp h.sp,d,d,[]⟩ E 0,O (aT g||aT h)])/\bl w w':=by
 have HOg:=wV;have HOh:=vh;generalize hwr:(aT g||aT h)=wr;have jF:=ag hwr;clear hwr;generalize aT g=og at *;generalize aT h=oh at *;have HWr:=vV;clear jF;have HD:=ag (λw=>vS 7 g.sp h.sp w aa b j);generalize cT 7 g.sp h.sp=sp at *;exact ww
