import Derived.Test.YtmapdpcfanecdabGreatDoorU09
open Go.Ending renaming returned→Rt
open Go.IntKind renaming i64→Y
open Go.Proofs.Tryz renaming prog→pG
open Go.Value renaming int→I
set_option linter.unusedSimpArgs false
set_option linter.unusedVariables false
set_option maxHeartbeats 4000000
set_option maxRecDepth 100000
namespace Go.Proofs.YtmapdpcfanecdabGreatDoor
section
open Go.RowKit
theorem Fr (lo hi lo' hi':Int)(w:World)(h1:wrap64 (lo - lo')=lo - lo')(h2:wrap64 (lo - hi')=lo - hi')(h3:wrap64 (hi - lo')=hi - lo')(h4:wrap64 (hi - hi')=hi - hi'):
  Calls pG 228 #[sv ⟨false,lo,hi⟩,sv ⟨false,lo',hi'⟩,.func (.func 230) #[] #[]] w λe w'=>e=Rt (sv (fL (lo - lo') (lo - hi') (hi - lo') (hi - hi')))/\bl w w':=by
 have k1:∀w:World,Calls pG 230 #[I Y lo,I Y lo'] w λe w'=>e=Rt (I Y (lo - lo'))/\∃n,w'=w.drewN n:=λw=>(pQ lo lo' w h1).mono dY;have k2:∀w:World,Calls pG 230 #[I Y lo,I Y hi'] w λe w'=>e=Rt (I Y (lo - hi'))/\∃n,w'=w.drewN n:=λw=>(pQ lo hi' w h2).mono dY;have k3:∀w:World,Calls pG 230 #[I Y hi,I Y lo'] w λe w'=>e=Rt (I Y (hi - lo'))/\∃n,w'=w.drewN n:=λw=>(pQ hi lo' w h3).mono dY;have k4:∀w:World,Calls pG 230 #[I Y hi,I Y hi'] w λe w'=>e=Rt (I Y (hi - hi'))/\∃n,w'=w.drewN n:=λw=>(pQ hi hi' w h4).mono dY;generalize lo - lo'=a at k1 |-;generalize lo - hi'=b at k2 |-;generalize hi - lo'=c at k3 |-;generalize hi - hi'=d at k4 |-;exact mO
end
end Go.Proofs.YtmapdpcfanecdabGreatDoor
