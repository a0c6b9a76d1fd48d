import Derived.Test.YtmapdpcfanecdabGreatS01
open Go.Ending renaming returned→Rt
open Go.IntKind renaming i64→Y
open Go.Proofs.Tryz renaming prog→pG
open Go.Value renaming int→I
set_option linter.unusedSimpArgs false
set_option linter.unusedVariables false
set_option maxHeartbeats 2000000
set_option maxRecDepth 100000
namespace Go.Proofs.YtmapdpcfanecdabGreat
section
open Go.RowKit
theorem Bd (k:Int)(w:World):
  Calls pG 73 #[I Y k] w λe w'=>e=Rt (.string (aJ k))/\Below w.heap.size w w':=by
 by_cases h:btw k 1 19=true
 ·rcases kZ h with rfl|rfl|rfl|rfl|rfl|rfl|rfl|rfl|rfl|rfl|rfl|rfl|rfl|rfl|rfl|rfl|rfl|rfl|rfl
  all_goals
   go_enter Tryz.func73,Tryz.ntmps73;go_wp2_with (go_at_call 38;refine(cE _ _ _ _).mono ?_;rintro e w' ⟨rfl,rfl⟩);go_ret;exact⟨rfl,by go_grown⟩
 ·have h:btw k 1 19=false:=by simpa using h
  have hw:=oV h;go_enter Tryz.func73,Tryz.ntmps73;go_wp2_with (go_at_call 38;refine(cE _ _ _ _).mono ?_;rintro e w' ⟨rfl,rfl⟩);go_ret;exact⟨CB hw.symm,by go_grown⟩
theorem bC {p:Prop}(h:p:=by
 go_enter Tryz.func39,Tryz.ntmps39;go_wp2_with (first
  |(go_at_call 38;refine(cE _ _ _ _).mono ?_;rintro e w' ⟨rfl,rfl⟩)
  |(go_at_call 74;refine(um _ _).mono ?_;rintro e w' ⟨rfl,rfl⟩)
  |(go_at_call 22;refine(gr _ _).mono ?_;rintro e w' ⟨rfl,rfl⟩)
  |(go_at_call 23;refine(gK _ _).mono ?_;rintro e w' ⟨rfl,rfl⟩)
  |(go_at_call 76;refine(vh _ _).mono ?_;rintro e w' ⟨rfl,rfl⟩)
  |(go_at_call 75;refine(rN _ _).mono ?_;rintro e w' ⟨rfl,rfl⟩)
  |(go_at_call 73;refine(Bd _ _).mono ?_;rintro e w1 ⟨rfl,hb1⟩;obtain⟨hc1,hf1⟩:=sq hb1))
 all_goals clear hc1 hf1
 all_goals go_ret
 all_goals exact⟨bd (by simp_all[aU,Em]),Below.trans (by go_grown) (hb1.mono (by go_size))⟩):p:=h
end
end Go.Proofs.YtmapdpcfanecdabGreat
