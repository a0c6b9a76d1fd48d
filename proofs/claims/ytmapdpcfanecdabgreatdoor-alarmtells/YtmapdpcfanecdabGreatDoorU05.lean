import Derived.Test.YtmapdpcfanecdabGreatDoorU04
open Go.Ending renaming returned→Rt
open Go.IntKind renaming i64→Y
open Go.Proofs.Tryz renaming prog→pG
open Go.Value renaming int→I
set_option linter.unusedSimpArgs false
set_option linter.unusedVariables false
set_option maxHeartbeats 2000000
set_option maxRecDepth 100000
namespace Go.Proofs.YtmapdpcfanecdabGreatDoor
section
open Go.RowKit
theorem Kb (k:Int)(w:World):
  Calls pG 105 #[I Y k] w λe w'=>e=Rt (.string (aQ k))/\bl w w':=by
 by_cases h:btw k 1 19=true
 ·rcases om h with rfl|rfl|rfl|rfl|rfl|rfl|rfl|rfl|rfl|rfl|rfl|rfl|rfl|rfl|rfl|rfl|rfl|rfl|rfl
  all_goals
   go_enter Tryz.func105,Tryz.ntmps105;go_wp2_with (go_at_call 57;refine(dB _ _ _ _).mono ?_;rintro e w' ⟨rfl,rfl⟩);go_ret;exact⟨rfl,ai⟩
 ·have h:btw k 1 19=false:=by simpa using h
  have hw:=sB h;go_enter Tryz.func105,Tryz.ntmps105;go_wp2_with (go_at_call 57;refine(dB _ _ _ _).mono ?_;rintro e w' ⟨rfl,rfl⟩);go_ret;exact⟨Lw hw.symm,ai⟩
theorem bS {p:Prop}(h:p:=by
 go_enter Tryz.func58,Tryz.ntmps58;go_wp2_with (first
  |(go_at_call 57;refine(dB _ _ _ _).mono ?_;rintro e w' ⟨rfl,rfl⟩)
  |(go_at_call 106;refine(Be _ _).mono ?_;rintro e w' ⟨rfl,rfl⟩)
  |(go_at_call 107;refine(ux _ _).mono ?_;rintro e w' ⟨rfl,rfl⟩)
  |(go_at_call 108;refine(sD _ _).mono ?_;rintro e w' ⟨rfl,rfl⟩)
  |(go_at_call 110;refine(Ev _ _).mono ?_;rintro e w' ⟨rfl,rfl⟩)
  |(go_at_call 109;refine(yF _ _).mono ?_;rintro e w' ⟨rfl,rfl⟩)
  |(go_at_call 105;refine(Kb _ _).mono ?_;rintro e w1 ⟨rfl,hb1⟩;obtain⟨hc1,hf1⟩:=yK hb1))
 all_goals clear hc1 hf1
 all_goals go_ret
 all_goals exact⟨bP (by simp_all[bk,MP]),Below.trans ai (hb1.mono iC)⟩):p:=h
end
end Go.Proofs.YtmapdpcfanecdabGreatDoor
