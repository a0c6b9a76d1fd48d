import Derived.Test.YtmapdpcfanecdabGreatDoorR07
open Go.Ending renaming returned→Rt
open Go.IntKind renaming i64→Y
open Go.Proofs.Tryz renaming prog→pG
open Go.Value renaming int→I
open Option renaming none→nO,some→sO
set_option linter.unusedSimpArgs false
set_option linter.unusedVariables false
set_option maxHeartbeats 8000000
set_option maxRecDepth 20000
namespace Go.Proofs.YtmapdpcfanecdabGreatDoor
section
open Go.RowKit
theorem Nz (s t:Sp)(w:World)(h:(s.n||t.n)=true):
  Calls pG 169 #[sv s,sv t] w λe w'=>e=Rt (sv ⟨true,0,0⟩)/\bl w w':=by
 obtain⟨n,lo,hi⟩:=s;obtain⟨n',lo',hi'⟩:=t;cases n with
 |true=>
  go_enter Tryz.func169,Tryz.ntmps169;go_wp2
  go_returns
  exact cY
 |false=>
  cases n' with
  |true=>
   go_enter Tryz.func169,Tryz.ntmps169;go_wp2
   go_returns
   exact cY
  |false=>exact absurd h ag

theorem Oo (lo hi lo' hi':Int)(w:World):
  Calls pG 169 #[sv ⟨false,lo,hi⟩,sv ⟨false,lo',hi'⟩] w λe w'=>e=Rt (sv (aL ⟨false,lo,hi⟩ ⟨false,lo',hi'⟩))/\bl w w':=by
 go_enter Tryz.func169,Tryz.ntmps169;go_wp2;go_region_held3 (λw'=>w'.cell? ⟨w.heap.size,1,nO⟩=sO (I Y lo)/\w'.cell? ⟨w.heap.size,2,nO⟩=sO (I Y hi)/\w'.cell? ⟨w.heap.size+1,1,nO⟩=sO (I Y lo')/\w'.cell? ⟨w.heap.size+1,2,nO⟩=sO (I Y hi')) (simp[go_sem])
  (first
   |(go_at_call 208;refine(N8 _ _ lo lo' _ aW aW).mono ?_;rintro e w' ⟨rfl,rfl⟩)
   |(go_at_call 207;refine(KV _ _ hi hi' _ aW aW).mono ?_;rintro e w' ⟨rfl,rfl⟩))
 all_goals go_wp2
 all_goals go_returns
 all_goals exact⟨g8 (by first|exact Nm rfl rfl (by assumption)|exact PI (by assumption)),am⟩

theorem FJ (s t:Sp)(w:World):
  Calls pG 169 #[sv s,sv t] w λe w'=>e=Rt (sv (aL s t))/\bl w w':=by
 by_cases h:(s.n||t.n)=true
 ·have e0:aL s t=⟨true,0,0⟩:=by unfold aL;rw[h];rfl
  rw[e0];exact Nz s t w h
 ·obtain⟨n,lo,hi⟩:=s
  obtain⟨n',lo',hi'⟩:=t;cases n with
  |true=>exact absurd rfl h
  |false=>
   cases n' with
   |true=>exact absurd rfl h
   |false=>exact Oo lo hi lo' hi' w
end
end Go.Proofs.YtmapdpcfanecdabGreatDoor
