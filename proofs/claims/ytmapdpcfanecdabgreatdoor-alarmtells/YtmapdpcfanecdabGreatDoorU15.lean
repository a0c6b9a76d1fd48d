import Derived.Test.YtmapdpcfanecdabGreatDoorU13
open Go.Ending renaming returned→Rt
open Go.IntKind renaming i64→Y,i64→j0
open Go.Proofs.Tryz renaming prog→pG
open Go.Value renaming int→I
set_option linter.unusedSimpArgs false
set_option linter.unusedVariables false
set_option maxHeartbeats 16000000
set_option maxRecDepth 20000
namespace Go.Proofs.YtmapdpcfanecdabGreatDoor
section
open Go.RowKit
theorem Fv (lo hi lo' hi' a b c d:Int)(w:World)(h1:j0.wrap (lo - lo')=a)(h2:j0.wrap (lo - hi')=b)(h3:j0.wrap (hi - lo')=c)(h4:j0.wrap (hi - hi')=d):
  Calls pG 172 #[I Y 6,sv ⟨false,lo,hi⟩,sv ⟨false,lo',hi'⟩] w λe w'=>e=Rt (sv (fL a b c d))/\bl w w':=mH
end
end Go.Proofs.YtmapdpcfanecdabGreatDoor
