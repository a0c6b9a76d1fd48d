import Derived.Test.YtmapdpcfanecdabGreatDoorR09
open Go.Ending renaming returned→Rt
open Go.IntKind renaming i64→Y
open Go.Proofs.Tryz renaming prog→pG
open Go.Value renaming int→I
open Option renaming none→nO,some→sO
set_option linter.unusedSimpArgs false
set_option linter.unusedVariables false
set_option maxHeartbeats 8000000
set_option maxRecDepth 20000
namespace Go.Proofs.YtmapdpcfanecdabGreatDoor
section
open Go.RowKit
theorem Cr (s t:Sp)(w:World)(h:(s.n||t.n)=true):
  Calls pG 169 #[sv s,sv t] w λe w'=>e=Rt (sv ⟨true,0,0⟩)/\Below w.heap.size w w':=by
 obtain⟨n,lo,hi⟩:=s;obtain⟨n',lo',hi'⟩:=t;cases n with
 |true=>
  go_enter Tryz.func169,Tryz.ntmps169;go_wp2
  go_returns
  exact⟨rfl,by go_grown⟩
 |false=>
  cases n' with
  |true=>
   go_enter Tryz.func169,Tryz.ntmps169;go_wp2
   go_returns
   exact⟨rfl,by go_grown⟩
  |false=>exact absurd h (by simp)

theorem Bi (lo hi lo' hi':Int)(w:World):
  Calls pG 169 #[sv ⟨false,lo,hi⟩,sv ⟨false,lo',hi'⟩] w λe w'=>e=Rt (sv (au ⟨false,lo,hi⟩ ⟨false,lo',hi'⟩))/\Below w.heap.size w w':=by
 go_enter Tryz.func169,Tryz.ntmps169;go_wp2
 go_region_held3 (λw'=>w'.cell? ⟨w.heap.size,1,nO⟩=sO (I Y lo)/\w'.cell? ⟨w.heap.size,2,nO⟩=sO (I Y hi)/\w'.cell? ⟨w.heap.size+1,1,nO⟩=sO (I Y lo')/\w'.cell? ⟨w.heap.size+1,2,nO⟩=sO (I Y hi')) (simp[go_sem])
  (first
   |(go_at_call 208;refine(Bo _ _ lo lo' _ (by simp[go_sem]) (by simp[go_sem])).mono ?_;rintro e w' ⟨rfl,rfl⟩)
   |(go_at_call 207;refine(wU _ _ hi hi' _ (by simp[go_sem]) (by simp[go_sem])).mono ?_;rintro e w' ⟨rfl,rfl⟩))
 all_goals go_wp2
 all_goals go_returns
 all_goals exact⟨fL (by first|exact Aq rfl rfl (by assumption)|exact Dl (by assumption)),by go_grown⟩

theorem g7 (s t:Sp)(w:World):
  Calls pG 169 #[sv s,sv t] w λe w'=>e=Rt (sv (au s t))/\Below w.heap.size w w':=by
 by_cases h:(s.n||t.n)=true
 ·have e0:au s t=⟨true,0,0⟩:=by unfold au;rw[h];rfl
  rw[e0];exact Cr s t w h
 ·obtain⟨n,lo,hi⟩:=s
  obtain⟨n',lo',hi'⟩:=t;cases n with
  |true=>exact absurd rfl h
  |false=>
   cases n' with
   |true=>exact absurd rfl h
   |false=>exact Bi lo hi lo' hi' w
end
end Go.Proofs.YtmapdpcfanecdabGreatDoor
