/- The small text is parsed, and the small program printed. -/
import Derived.Test.YtmapdpcfanecdaaDoorKlawhp50
import Derived.Test.YtmapdpcfanecdaaDoorKlawhp51
namespace Go.Proofs.YtmapdpcfanecdaaDoor
set_option linter.unusedVariables false
set_option linter.unusedSimpArgs false
open Go.RowKit

def smallT : Nat → ByteArray
  | 0 => ⟨#[110, 117, 109, 98, 101, 114, 32, 48, 32, 53, 10, 112, 114, 105, 110, 116, 32, 48, 10]⟩
  | 1 => ⟨#[112, 114, 105, 110, 116, 32, 48, 10]⟩
  | _ => ⟨#[]⟩
def smallL : Nat → ByteArray
  | 0 => line_number
  | _ => line_print
def smallI : Nat → Ins
  | 0 => ⟨1, 0, 0, 0, 5, 0⟩
  | _ => ⟨18, 0, 0, 0, 0, 0⟩
theorem parseLines_small (w : World) (ht : Tab w) (hm : Cap w) :
    Calls Tryd.prog 43 #[.string text0] w fun e w' => ∃ v, e = .returned (.tuple #[.agg #[.int .i64 1, .int .i64 0, v], .int .i64 0]) ∧ w'.ownsRow w.heap.size 71 6 v smallC.length (flat smallC) ∧ Below w.heap.size w w' := by
  refine parseLines_ok 2 (by decide) text0 lineHead 1 0 smallT smallL smallI w ht hm (by decide +kernel) ?_ (by decide +kernel) (fun w ht hm => parseHead_small w ht hm) ?_ ?_ rfl ?_
  · intro k
    match k with
    | 0 => decide +kernel
    | 1 => decide +kernel
    | k + 2 => exact (by decide : (0 : Nat) < 5000)
  · intro k hk
    match k, hk with
    | 0, _ => decide +kernel
    | 1, _ => decide +kernel
    | k + 2, h => omega
  · intro k hk
    match k, hk with
    | 0, _ => decide +kernel
    | 1, _ => decide +kernel
    | k + 2, h => omega
  · intro k hk N w hs ht hm
    match k, hk with
    | 0, _ => exact parseInstr_number N w hs ht hm
    | 1, _ => exact parseInstr_print N w hs ht hm
    | k + 2, h => omega

theorem small_right : ckProg 1 0 smallC = 0 := by decide +kernel
theorem small_text : textAll 1 0 smallC = text0 := by decide +kernel

theorem parse_small (w : World) (ht : Tab w) (hm : Cap w) :
    Calls Tryd.prog 16 #[.string text0] w fun e w' => ∃ v, e = .returned (.tuple #[.agg #[.int .i64 1, .int .i64 0, v], .int .i64 0, .int .i64 0]) ∧ w'.ownsRow w.heap.size 71 6 v smallC.length (flat smallC) ∧ Below w.heap.size w w' :=
  parse_ok 1 0 smallC text0 w (by decide +kernel) small_right (fun w' hb => parseLines_small w' (ht.below hb) (hm.below hb))
end Go.Proofs.YtmapdpcfanecdaaDoor
