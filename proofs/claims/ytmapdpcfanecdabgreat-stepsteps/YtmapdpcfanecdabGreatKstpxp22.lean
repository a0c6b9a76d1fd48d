/- Walks over the document's own answers on spans: DoSpan: add. -/
import Derived.Test.YtmapdpcfanecdabGreatKstpxp13
set_option linter.unusedSimpArgs false
set_option linter.unusedVariables false
namespace Go.Proofs.YtmapdpcfanecdabGreat
section
set_option maxHeartbeats 8000000
set_option maxRecDepth 20000
open Go.RowKit

theorem doSpan_add (lo hi lo' hi' a b c d : Int) (w : World) (h1 : IntKind.i64.wrap (lo + lo') = a) (h2 : IntKind.i64.wrap (lo + hi') = b) (h3 : IntKind.i64.wrap (hi + lo') = c) (h4 : IntKind.i64.wrap (hi + hi') = d) :
  Calls Tryz.prog 63 #[.int .i64 5, sv ⟨false, lo, hi⟩, sv ⟨false, lo', hi'⟩] w fun e w' => e = .returned (sv (hull a b c d)) ∧ Below w.heap.size w w' := prf_125584
end
end Go.Proofs.YtmapdpcfanecdabGreat
