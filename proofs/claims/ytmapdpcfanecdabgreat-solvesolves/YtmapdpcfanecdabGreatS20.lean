import Derived.Test.YtmapdpcfanecdabGreatS09
open Go.Ending renaming returned→Rt
open Go.IntKind renaming i64→Y
open Go.Proofs.Tryz renaming prog→pG
open Go.Value renaming int→I
open Option renaming none→nO,some→sO
set_option linter.unusedSimpArgs false
set_option linter.unusedVariables false
set_option maxHeartbeats 8000000
set_option maxRecDepth 20000
namespace Go.Proofs.YtmapdpcfanecdabGreat
section
open Go.RowKit
theorem vS (s t:Sp)(w:World)(h:(s.n||t.n)=true):
  Calls pG 60 #[sv s,sv t] w λe w'=>e=Rt (sv ⟨true,0,0⟩)/\Below w.heap.size w w':=by
 obtain⟨n,lo,hi⟩:=s;obtain⟨n',lo',hi'⟩:=t;cases n with
 |true=>
  go_enter Tryz.func60,Tryz.ntmps60;go_wp2
  go_returns
  exact⟨rfl,by go_grown⟩
 |false=>
  cases n' with
  |true=>
   go_enter Tryz.func60,Tryz.ntmps60;go_wp2
   go_returns
   exact⟨rfl,by go_grown⟩
  |false=>exact absurd h (by simp)

theorem vR (lo hi lo' hi':Int)(w:World):
  Calls pG 60 #[sv ⟨false,lo,hi⟩,sv ⟨false,lo',hi'⟩] w λe w'=>e=Rt (sv (au ⟨false,lo,hi⟩ ⟨false,lo',hi'⟩))/\Below w.heap.size w w':=by
 go_enter Tryz.func60,Tryz.ntmps60;go_wp2
 go_region_held3 (λw'=>w'.cell? ⟨w.heap.size,1,nO⟩=sO (I Y lo)/\w'.cell? ⟨w.heap.size,2,nO⟩=sO (I Y hi)/\w'.cell? ⟨w.heap.size+1,1,nO⟩=sO (I Y lo')/\w'.cell? ⟨w.heap.size+1,2,nO⟩=sO (I Y hi')) (simp[go_sem])
  (first
   |(go_at_call 95;refine(vK _ _ lo lo' _ (by simp[go_sem]) (by simp[go_sem])).mono ?_;rintro e w' ⟨rfl,rfl⟩)
   |(go_at_call 94;refine(sQ _ _ hi hi' _ (by simp[go_sem]) (by simp[go_sem])).mono ?_;rintro e w' ⟨rfl,rfl⟩))
 all_goals go_wp2
 all_goals go_returns
 all_goals exact⟨eF (by first|exact uN rfl rfl (by assumption)|exact Ar (by assumption)),by go_grown⟩

theorem fH (s t:Sp)(w:World):
  Calls pG 60 #[sv s,sv t] w λe w'=>e=Rt (sv (au s t))/\Below w.heap.size w w':=by
 by_cases h:(s.n||t.n)=true
 ·have e0:au s t=⟨true,0,0⟩:=by unfold au;rw[h];rfl
  rw[e0];exact vS s t w h
 ·obtain⟨n,lo,hi⟩:=s
  obtain⟨n',lo',hi'⟩:=t;cases n with
  |true=>exact absurd rfl h
  |false=>
   cases n' with
   |true=>exact absurd rfl h
   |false=>exact vR lo hi lo' hi' w
end
end Go.Proofs.YtmapdpcfanecdabGreat
