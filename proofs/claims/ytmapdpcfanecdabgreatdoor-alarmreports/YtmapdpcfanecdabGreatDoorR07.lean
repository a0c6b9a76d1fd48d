import Derived.Test.YtmapdpcfanecdabGreatDoorR06
open Go.Ending renaming returned→Rt
open Go.IntKind renaming i64→Y
open Go.Proofs.Tryz renaming prog→pG
open Go.Value renaming bool→Bb,int→I
open Option renaming none→nO,some→sO
open Go.Proofs.Tryz
set_option linter.unusedSimpArgs false
set_option linter.unusedVariables false
set_option maxHeartbeats 8000000
set_option maxRecDepth 20000
namespace Go.Proofs.YtmapdpcfanecdabGreatDoor
section
open Go.RowKit
theorem Ow (lo hi lo' hi':Int)(w:World):
  Calls pG 167 #[sv ⟨false,lo,hi⟩,sv ⟨false,lo',hi'⟩,Bb false] w λe w'=>e=Rt (sv ⟨false,min lo lo',max hi hi'⟩)/\bl w w':=by
 go_enter Tryz.func167,Tryz.ntmps167;go_wp2;go_region_held3 (λw'=>w'.cell? ⟨w.heap.size,1,nO⟩=sO (I Y lo)/\w'.cell? ⟨w.heap.size,2,nO⟩=sO (I Y hi)/\w'.cell? ⟨w.heap.size+1,1,nO⟩=sO (I Y lo')/\w'.cell? ⟨w.heap.size+1,2,nO⟩=sO (I Y hi')) (simp[go_sem])
  (first
   |(go_at_call 207;refine(Hs _ _ lo lo' _ aX aX).mono ?_;rintro e w' ⟨rfl,rfl⟩)
   |(go_at_call 208;refine(OJ _ _ hi hi' _ aX aX).mono ?_;rintro e w' ⟨rfl,rfl⟩))
 all_goals go_wp2
 all_goals go_returns
 all_goals exact⟨rfl,am⟩
end
end Go.Proofs.YtmapdpcfanecdabGreatDoor
