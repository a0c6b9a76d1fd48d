import Derived.Test.YtmapdpcfanecdabGreatDoorM33
open List renaming drop_eq_getElem_cons→j0
set_option linter.unusedSimpArgs false
set_option linter.unusedVariables false
namespace Go.Proofs.YtmapdpcfanecdabGreatDoor
section
open Go.RowKit
attribute [local go_sem ↓] Go.wp_at_zero Go.wp_at_succ
theorem AU (a b:List Gs)(k:Nat)(h:k < a.length)(h':k < b.length):fr (a.drop k) (b.drop k)=(cB a[k] b[k]&&fr (a.drop (k+1)) (b.drop (k+1))):=by
 unfold fr
 rw[j0 h,j0 h']
 rfl
def Ie (a b:List (List Gs)):Bool:=(List.zipWith fr a b).all id
end
end Go.Proofs.YtmapdpcfanecdabGreatDoor
