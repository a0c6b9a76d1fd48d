import Derived.Test.YtmapdpcfanecdabGreatDoorQ14
open Go.World renaming heap→M
open Array renaming size→R
open List renaming length→X
open Nat renaming le_refl→lR
open Go.Ending renaming returned→Rt
open Go.IntKind renaming i64→Y
open Go.Proofs.Tryz renaming prog→f
open Go.Value renaming int→I,tuple→Tu,pointer→Pp,slice→U,bool→O
open Option renaming some→sO,none→E,some→G
open Go renaming World→C
open Bool renaming true→W5,false→d
open Go.Proofs.Tryz
set_option linter.all false
set_option maxHeartbeats 32000000
set_option maxRecDepth 10000
namespace Go.Proofs.YtmapdpcfanecdabGreatDoor
section
section
open Go.RowKit
def YO (w:C)(g:Gs)(ss:oA)(gc:Nat)(h:Gs)(st:oA)(hc:Nat)(hs:yv w ss g.s)(j:X g.s<=9223372036854775807)(ht:yv w st h.s)(hhl:X h.s<=9223372036854775807)(Hn1:Hid (g.n=d))(hS:Hid (cx g < 0\/cx g≠cx h)):
  Calls f 115 #[I Y 9,gv g ss gc,gv h st hc] w λe w'=>e=Rt (if (aq g||aq h)=W5 then Tu #[gv a4q E 0,O d] else Tu #[gv ⟨d,⟨W5,0,0⟩,(g.n&&h.n)||(!(aS g.sp h.sp).n||((g.t&&h.t)||((g.f&&h.f)||g.s.any λx=>h.s.contains x))),!dw g h,[]⟩ E 0,O d])/\bl w w':=by
 have Hn2:Hid True:=trivial;exact Ra
end
end
section
open Go.RowKit
def a0z (w:C)(g:Gs)(ss:oA)(gc:Nat)(h:Gs)(st:oA)(hc:Nat)(hs:yv w ss g.s)(j:X g.s<=9223372036854775807)(ht:yv w st h.s)(hhl:X h.s<=9223372036854775807)(Hn1:Hid (g.n=W5))(Hn2:Hid (h.n=d))(hS:Hid (cx g < 0\/cx g≠cx h)):
  Calls f 115 #[I Y 9,gv g ss gc,gv h st hc] w λe w'=>e=Rt (if (aq g||aq h)=W5 then Tu #[gv a4q E 0,O d] else Tu #[gv ⟨d,⟨W5,0,0⟩,(g.n&&h.n)||(!(aS g.sp h.sp).n||((g.t&&h.t)||((g.f&&h.f)||g.s.any λx=>h.s.contains x))),!dw g h,[]⟩ E 0,O d])/\bl w w':=by
 exact Ra
