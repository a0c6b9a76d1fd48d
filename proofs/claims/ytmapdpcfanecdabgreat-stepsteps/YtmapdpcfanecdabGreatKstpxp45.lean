/- The document's DoGuess: kind 9. -/
import Derived.Test.YtmapdpcfanecdabGreatKstpxp01
import Derived.Test.YtmapdpcfanecdabGreatKstpxp32
set_option linter.unusedSimpArgs false
set_option linter.unusedVariables false
namespace Go.Proofs.YtmapdpcfanecdabGreat
section
set_option maxHeartbeats 16000000
set_option maxRecDepth 10000
open Go.RowKit

theorem doR_9n2s0 (w : World) (g : Gs) (ss : Option Addr) (gc : Nat) (h : Gs) (st : Option Addr) (hc : Nat) (hs : IntsAt w ss g.s) (hgl : g.s.length ≤ 9223372036854775807) (ht : IntsAt w st h.s) (hhl : h.s.length ≤ 9223372036854775807) (Hn1 : Hid (g.n = true)) (Hn2 : Hid (h.n = false)) (hS : Hid (oneGs g < 0 ∨ oneGs g ≠ oneGs h)) :
  Calls Tryz.prog 27 #[.int .i64 9, gv g ss gc, gv h st hc] w fun e w' => e = .returned (if (nothingGs g || nothingGs h) = true then .tuple #[gv noneG none 0, .bool false] else .tuple #[gv ⟨false, ⟨true, 0, 0⟩, (g.n && h.n) || (!(meetSp g.sp h.sp).n || ((g.t && h.t) || ((g.f && h.f) || g.s.any fun x => h.s.contains x))), !alikeGs g h, []⟩ none 0, .bool false]) ∧ Below w.heap.size w w' := by
 exact prf_r9s0
end
end Go.Proofs.YtmapdpcfanecdabGreat
