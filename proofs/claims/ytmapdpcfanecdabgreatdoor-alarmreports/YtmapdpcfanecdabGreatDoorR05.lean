import Derived.Test.YtmapdpcfanecdabGreatDoorR04
open Go.Ending renaming returned→Rt
open Go.IntKind renaming i64→Y
open Go.Proofs.Tryz renaming prog→pG
open Go.Value renaming int→I
set_option linter.unusedSimpArgs false
set_option linter.unusedVariables false
set_option maxHeartbeats 2000000
set_option maxRecDepth 100000
namespace Go.Proofs.YtmapdpcfanecdabGreatDoor
section
open Go.RowKit
theorem vX (k:Int)(w:World):
  Calls pG 105 #[I Y k] w λe w'=>e=Rt (.string (aD k))/\Below w.heap.size w w':=by
 by_cases h:btw k 1 19=true
 ·rcases mH h with rfl|rfl|rfl|rfl|rfl|rfl|rfl|rfl|rfl|rfl|rfl|rfl|rfl|rfl|rfl|rfl|rfl|rfl|rfl
  all_goals
   go_enter Tryz.func105,Tryz.ntmps105;go_wp2_with (go_at_call 57;refine(dy _ _ _ _).mono ?_;rintro e w' ⟨rfl,rfl⟩);go_ret;exact⟨rfl,by go_grown⟩
 ·have h:btw k 1 19=false:=by simpa using h
  have hw:=pW h;go_enter Tryz.func105,Tryz.ntmps105;go_wp2_with (go_at_call 57;refine(dy _ _ _ _).mono ?_;rintro e w' ⟨rfl,rfl⟩);go_ret;exact⟨nP hw.symm,by go_grown⟩
theorem bJ {p:Prop}(h:p:=by
 go_enter Tryz.func58,Tryz.ntmps58;go_wp2_with (first
  |(go_at_call 57;refine(dy _ _ _ _).mono ?_;rintro e w' ⟨rfl,rfl⟩)
  |(go_at_call 106;refine(oK _ _).mono ?_;rintro e w' ⟨rfl,rfl⟩)
  |(go_at_call 107;refine(gY _ _).mono ?_;rintro e w' ⟨rfl,rfl⟩)
  |(go_at_call 108;refine(fU _ _).mono ?_;rintro e w' ⟨rfl,rfl⟩)
  |(go_at_call 110;refine(sd _ _).mono ?_;rintro e w' ⟨rfl,rfl⟩)
  |(go_at_call 109;refine(iE _ _).mono ?_;rintro e w' ⟨rfl,rfl⟩)
  |(go_at_call 105;refine(vX _ _).mono ?_;rintro e w1 ⟨rfl,hb1⟩;obtain⟨hc1,hf1⟩:=vi hb1))
 all_goals clear hc1 hf1
 all_goals go_ret
 all_goals exact⟨bG (by simp_all[aW,KX]),Below.trans (by go_grown) (hb1.mono (by go_size))⟩):p:=h
end
end Go.Proofs.YtmapdpcfanecdabGreatDoor
