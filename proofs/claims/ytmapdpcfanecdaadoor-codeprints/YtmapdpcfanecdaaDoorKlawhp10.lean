/- The line of an instruction, as bytes. -/
import Derived.Test.YtmapdpcfanecdaaDoorKlawhp08
import Derived.Test.YtmapdpcfanecdaaDoorKlawhp09
import Derived.Lib.QuietBelow
import Derived.BigQuiet
namespace Go.Proofs.YtmapdpcfanecdaaDoor
set_option linter.unusedVariables false
set_option linter.unusedSimpArgs false
open Go.RowKit

/-- A number of 64 bits. -/
def fits (n : Int) : Prop := -9223372036854775808 ≤ n ∧ n ≤ 9223372036854775807
def itoaB (n : Int) : ByteArray := ⟨(Lib.itoa n).toArray⟩
theorem itoaB_size (n : Int) (h : fits n) : (itoaB n).size ≤ 21 := Lib.itoa_length_le n h.1 h.2

/-- What an instruction's line tells behind its word. -/
def argsOf (i : Ins) : List Int :=
  match i.k with
  | 1 => [i.to, i.n]
  | 2 => [i.to, i.n]
  | 3 => [i.to]
  | 4 => [i.to, i.a]
  | 5 => [i.to, i.a, i.b]
  | 6 => [i.to, i.a, i.b]
  | 7 => [i.to, i.a, i.b]
  | 8 => [i.to, i.a, i.b]
  | 9 => [i.to, i.a, i.b]
  | 10 => [i.to, i.a]
  | 11 => [i.to]
  | 12 => [i.to, i.a, i.n]
  | 13 => [i.a, i.n, i.b]
  | 14 => [i.to, i.n]
  | 15 => [i.a, i.g]
  | 16 => [i.g]
  | 17 => [i.a]
  | 18 => [i.a]
  | _ => []

/-- The line of an instruction. -/
def lineB (i : Ins) : ByteArray := (argsOf i).foldl (fun s x => s ++ (⟨#[32]⟩ ++ itoaB x)) (wordB i.k)

theorem digitsB_any (z : Int) (w : World) (h : fits z) :
    Calls Tryd.prog 38 #[.int .i64 z] w fun e w' => e = .returned (.string (itoaB z)) ∧ Below w.heap.size w w' := digits_any z w h.1 h.2
end Go.Proofs.YtmapdpcfanecdaaDoor
