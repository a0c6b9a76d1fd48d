import Derived.Test.YtmapdpcfanecdabGreatDoorCards
import Derived.Test.YtmapdpcfanecdabGreatDoorTie
import Derived.Test.YtmapdpcfanecdabGreatDoorR10
import Derived.ProofKit
import Derived.OpenShut
import Derived.Carry
import Derived.Deep.DeepHandedRow
import Derived.Deep.DeepWitnessRowRef
import Derived.Lib.LaidTab
import Derived.Lib.LaidIn
import Derived.Stop.LaidErr
import Derived.Shelf.Vars
open Go.IntKind renaming i64→Y
open Go.Obj renaming cells→Cc
open Go.Proofs.Tryz renaming prog→pG
open Go.Value renaming int→I,pointer→Pp
open Option renaming none→nO,some→sO
open Go.Proofs.Tryz
set_option linter.unusedSimpArgs false
set_option linter.unusedVariables false
namespace Go.Proofs.YtmapdpcfanecdabGreatDoor
section
open Go.ChangeShapes Go.WideShapes Go.ChangeAt Go.RowKit
theorem own:ownKnob Tryz.prog.godebug=none:=ae

theorem Wb {W:World}(h:W.ShapedOpen pG):∃m,W.cell? ⟨0,0,nO⟩=sO (I Y m):=
 cell_of_shapedOpen_int (zero:=#[I Y 0]) (t:=3) h (of_decide_eq_true ae) ae rfl ae ae Tryz.underlying3

theorem Wh {r:List (String×DataW Unit)}{W:World}(h:laidMet pG (("internal/strconv.uint64pow10",Rows.laid_internal_strconv_uint64pow10)::r) W):Tab W:=
 Lib.tabIs_of_head (rest:=r) (g:=1) (t:=285) (e:=265) ae ae Tryz.underlying285 Tryz.underlying265 ae ae h

def WP:DataW Unit->Value
 |.lit (.int k z)=>.int k z
 |_=>I Y 0
def AC:DataW Unit->List Value
 |.agg ps=>ps.map WP
 |_=>[]
def Wx:DataW Unit->List Value
 |.agg ps=>ps.flatMap AC
 |_=>[]

def lQ (P:Program)(os:Os):World:=
 let N:=(World.settled P os).heap.size
 let w0:=World.holding P os ⟨#[Cc #[.string ⟨#[105,110,118,97,108,105,100,32,115,121,110,116,97,120]⟩] 329,Cc #[.string ⟨#[118,97,108,117,101,32,111,117,116,32,111,102,32,114,97,110,103,101]⟩] 329],#[],[]⟩
 let put (h:Array Obj) (g:Nat) (cs:Array Value):Array Obj:=h.modify g λ
  |.cells _ t frozen=>Cc cs t frozen
  |o=>o
 let h1:=put w0.heap 2 #[.iface 327 (Pp (sO ⟨N,0,nO⟩))]
 let h2:=put h1 3 #[.iface 327 (Pp (sO ⟨N+1,0,nO⟩))]
 let h3:=put h2 1 (AC Rows.laid_internal_strconv_uint64pow10).toArray
 let h4:=put h3 4 (AC Rows.laid_math_bits_deBruijn32tab).toArray
 let h5:=put h4 5 (AC Rows.laid_math_bits_deBruijn64tab).toArray
 let h6:=put h5 6 (AC Rows.laid_unicode_utf8_first).toArray
 let h7:=put h6 7 (Wx Rows.laid_unicode_utf8_acceptRanges).toArray
 {w0 with heap:=h7}
end
end Go.Proofs.YtmapdpcfanecdabGreatDoor
