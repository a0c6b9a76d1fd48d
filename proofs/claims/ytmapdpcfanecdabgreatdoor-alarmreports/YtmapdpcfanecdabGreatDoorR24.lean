import Derived.Test.YtmapdpcfanecdabGreatDoorR14
open Go.Ending renaming returned→Rt
open Go.IntKind renaming i64→Y
open Go.Proofs.Tryz renaming prog→pG
open Go.Value renaming bool→Bb,int→I,tuple→Tu
open Option renaming none→nO
open Go.Proofs.Tryz
set_option linter.unusedSimpArgs false
set_option linter.unusedVariables false
set_option maxHeartbeats 32000000
set_option maxRecDepth 10000
namespace Go.Proofs.YtmapdpcfanecdabGreatDoor
section
open Go.RowKit
theorem RH (w:World)(g:Gs)(ss:oA)(gc:Nat)(h:Gs)(st:oA)(hc:Nat)(hs:IntsAt w ss g.s)(hgl:g.s.length<=9223372036854775807)(ht:IntsAt w st h.s)(hhl:h.s.length<=9223372036854775807)(Hn1:Hid (g.n=true))(Hn2:Hid (h.n=false))(hS0:Hid (¬bT g < 0))(hS1:Hid (bT g=bT h)):
  Calls pG 115 #[I Y 9,gv g ss gc,gv h st hc] w λe w'=>e=Rt (if (an g||an h)=true then Tu #[gv noneG nO 0,Bb false] else Tu #[gv ⟨false,⟨true,0,0⟩,(g.n&&h.n)||(!(aM g.sp h.sp).n||((g.t&&h.t)||((g.f&&h.f)||g.s.any λx=>h.s.contains x))),!cX g h,[]⟩ nO 0,Bb false])/\bl w w':=by
 exact Ih
end
end Go.Proofs.YtmapdpcfanecdabGreatDoor
