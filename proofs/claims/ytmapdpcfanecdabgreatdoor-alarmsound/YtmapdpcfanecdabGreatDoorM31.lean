import Derived.Test.YtmapdpcfanecdabGreatDoorM30
import Derived.Test.YtmapdpcfanecdabGreatDoorM29
open List renaming take_succ_eq_append_getElem→j0,zipWith→j2,zipWith_append→j1
open Nat renaming lt_of_lt_of_le→lL
open Option renaming some→sO
set_option linter.unusedSimpArgs false
set_option linter.unusedVariables false
namespace Go.Proofs.YtmapdpcfanecdabGreatDoor
section
open Go.RowKit
attribute [local go_sem ↓] Go.wp_at_zero Go.wp_at_succ
theorem ub {w5 w6:World}{wd:World}{B N:Nat}{js:Option Addr}{jc:Nat}{g:Gs}{v:Value}(hI:IntsAt w5 js g.s)(h1:g.s.length≤jc)(h2:jc≤maxLen)(hF:∀a,js=sO a→wd.heap.size≤a.block)(hB:B≤N)(hv:∀{k},v.ownBlock=sO k→k < N)(hb:Below w5.heap.size w5 w6)(hN:N≤wd.heap.size):cd (λb=>B≤b∧v.ownBlock≠sO b) w6 ⟨g,js,jc⟩:=by
 refine⟨?_,h1,h2⟩
 rcases hI with h|⟨b,off,e,hz,hc⟩
 ·exact .inl h
 ·have hbn:=hF _ e
  simp only at hbn
  exact .inr ⟨b,off,e,⟨by omega,λe'=>by have:=hv e';omega⟩,lL hz hb.size,λk hk=>by rw[hb.cell (by simp only;exact hz)];exact hc k hk⟩
theorem ny (j:Gs→Gs→Gs)(a b:List Gs)(k:Nat)(h:k < a.length)(h':k < b.length):bh j (a.take (k+1)) (b.take (k+1))=bh j (a.take k) (b.take k)++[j a[k] b[k]]:=by
 unfold bh
 rw[j0 h,j0 h',j1 (by simp;omega)]
 rfl
theorem vu (j:Gs→Gs→Gs)(a b:List (List Gs))(k:Nat)(h:k < a.length)(h':k < b.length):j2 (bh j) (a.take (k+1)) (b.take (k+1))=j2 (bh j) (a.take k) (b.take k)++[bh j a[k] b[k]]:=by
 rw[j0 h,j0 h',j1 (by simp;omega)]
 rfl
end
end Go.Proofs.YtmapdpcfanecdabGreatDoor
