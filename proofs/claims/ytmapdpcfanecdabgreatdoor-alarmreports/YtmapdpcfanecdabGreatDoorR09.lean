import Derived.Test.YtmapdpcfanecdabGreatDoorR06
open Go.Ending renaming returned→Rt
open Go.IntKind renaming i64→Y
open Go.Proofs.Tryz renaming prog→pG
open Go.Value renaming int→I
open Option renaming none→nO,some→sO
open Go.Proofs.Tryz
set_option linter.unusedSimpArgs false
set_option linter.unusedVariables false
set_option maxHeartbeats 8000000
set_option maxRecDepth 20000
namespace Go.Proofs.YtmapdpcfanecdabGreatDoor
section
open Go.RowKit
theorem Og (s t:Sp)(w:World)(h:(s.n||t.n)=true):
  Calls pG 169 #[sv s,sv t] w λe w'=>e=Rt (sv ⟨true,0,0⟩)/\bl w w':=by
 obtain⟨n,lo,hi⟩:=s;obtain⟨n',lo',hi'⟩:=t;cases n with
 |true=>
  go_enter Tryz.func169,Tryz.ntmps169;go_wp2
  go_returns
  exact cZ
 |false=>
  cases n' with
  |true=>
   go_enter Tryz.func169,Tryz.ntmps169;go_wp2
   go_returns
   exact cZ
  |false=>exact absurd h ah

theorem NY (lo hi lo' hi':Int)(w:World):
  Calls pG 169 #[sv ⟨false,lo,hi⟩,sv ⟨false,lo',hi'⟩] w λe w'=>e=Rt (sv (aM ⟨false,lo,hi⟩ ⟨false,lo',hi'⟩))/\bl w w':=by
 go_enter Tryz.func169,Tryz.ntmps169;go_wp2;go_region_held3 (λw'=>w'.cell? ⟨w.heap.size,1,nO⟩=sO (I Y lo)/\w'.cell? ⟨w.heap.size,2,nO⟩=sO (I Y hi)/\w'.cell? ⟨w.heap.size+1,1,nO⟩=sO (I Y lo')/\w'.cell? ⟨w.heap.size+1,2,nO⟩=sO (I Y hi')) (simp[go_sem])
  (first
   |(go_at_call 208;refine(OJ _ _ lo lo' _ aX aX).mono ?_;rintro e w' ⟨rfl,rfl⟩)
   |(go_at_call 207;refine(Hs _ _ hi hi' _ aX aX).mono ?_;rintro e w' ⟨rfl,rfl⟩))
 all_goals go_wp2
 all_goals go_returns
 all_goals exact⟨ia (by first|exact Nf rfl rfl (by assumption)|exact Rb (by assumption)),am⟩

theorem Iv (s t:Sp)(w:World):
  Calls pG 169 #[sv s,sv t] w λe w'=>e=Rt (sv (aM s t))/\bl w w':=by
 by_cases h:(s.n||t.n)=true
 ·have e0:aM s t=⟨true,0,0⟩:=by unfold aM;rw[h];rfl
  rw[e0];exact Og s t w h
 ·obtain⟨n,lo,hi⟩:=s
  obtain⟨n',lo',hi'⟩:=t;cases n with
  |true=>exact absurd rfl h
  |false=>
   cases n' with
   |true=>exact absurd rfl h
   |false=>exact NY lo hi lo' hi' w
end
end Go.Proofs.YtmapdpcfanecdabGreatDoor
