import Derived.Test.YtmapdpcfanecdabGreatDoorR07
open Go.Ending renaming returned→Rt
open Go.IntKind renaming i64→Y
open Go.Proofs.Tryz renaming prog→pG
open Go.Value renaming bool→Bb,int→I
open Option renaming none→nO,some→sO
set_option linter.unusedSimpArgs false
set_option linter.unusedVariables false
set_option maxHeartbeats 8000000
set_option maxRecDepth 20000
namespace Go.Proofs.YtmapdpcfanecdabGreatDoor
section
open Go.RowKit
theorem NG (lo hi lo' hi':Int)(w:World):
  Calls pG 167 #[sv ⟨false,lo,hi⟩,sv ⟨false,lo',hi'⟩,Bb true] w λe w'=>e=Rt (sv (bo ⟨false,lo,hi⟩ ⟨false,lo',hi'⟩))/\bl w w':=by
 go_enter Tryz.func167,Tryz.ntmps167;go_wp2;go_region_held3 (λw'=>w'.cell? ⟨w.heap.size,1,nO⟩=sO (I Y lo)/\w'.cell? ⟨w.heap.size,2,nO⟩=sO (I Y hi)/\w'.cell? ⟨w.heap.size+1,1,nO⟩=sO (I Y lo')/\w'.cell? ⟨w.heap.size+1,2,nO⟩=sO (I Y hi')) (simp[go_sem])
  (first
   |(go_at_call 207;refine(KV _ _ lo lo' _ aW aW).mono ?_;rintro e w' ⟨rfl,rfl⟩)
   |(go_at_call 208;refine(N8 _ _ hi hi' _ aW aW).mono ?_;rintro e w' ⟨rfl,rfl⟩))
 all_goals go_wp2
 all_goals go_returns
 all_goals exact⟨g8 (V1 uq uq),am⟩
end
end Go.Proofs.YtmapdpcfanecdabGreatDoor
