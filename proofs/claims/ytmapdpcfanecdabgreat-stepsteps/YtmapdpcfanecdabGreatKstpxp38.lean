/- The document's DoGuess: kind 6. -/
import Derived.Test.YtmapdpcfanecdabGreatKstpxp01
import Derived.Test.YtmapdpcfanecdabGreatKstpxp32
set_option linter.unusedSimpArgs false
set_option linter.unusedVariables false
namespace Go.Proofs.YtmapdpcfanecdabGreat
section
set_option maxHeartbeats 4000000
set_option maxRecDepth 10000
open Go.RowKit

theorem doR_6 (w : World) (g : Gs) (ss : Option Addr) (gc : Nat) (h : Gs) (st : Option Addr) (hc : Nat) (hgo : g.sp.Ok) (hho : h.sp.Ok) :
  Calls Tryz.prog 27 #[.int .i64 6, gv g ss gc, gv h st hc] w fun e w' => e = .returned (if (nothingGs g || nothingGs h) = true then .tuple #[gv noneG none 0, .bool false] else .tuple #[gv ⟨false, doSp 6 g.sp h.sp, false, false, []⟩ none 0, .bool (otherGs g || otherGs h)]) ∧ Below w.heap.size w w' := by
 have HOg := hideH (fun w => noNumber_any g ss gc w)
 have HOh := hideH (fun w => noNumber_any h st hc w)
 generalize hwr : (otherGs g || otherGs h) = wr
 have HWr0 := hideH hwr
 clear hwr
 generalize otherGs g = og at *
 generalize otherGs h = oh at *
 have HWr : Hid (wr = (og || oh)) := HWr0.out.symm
 clear HWr0
 have HD := hideH (fun w => doSpan_any 6 g.sp h.sp w (by omega) hgo hho)
 generalize doSp 6 g.sp h.sp = sp at *
 exact prf_898718
end
end Go.Proofs.YtmapdpcfanecdabGreat
