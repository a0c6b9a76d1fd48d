/-
  No cell of these rows narrows 'for every input' (looked for: loops, veiled, ifaces, maps, wideKeys, modest, calm, conditions, laid).
  DERIVED. THE GIVEN ROWS OF THIS SEAT. 4 by the template 'for every input the law returns true; each argument reads behind the call as it read before'; 0 by the template 'total and deterministic' (their statements: YtmapdpcfanecdaaGreatTotals.lean).
  GIVEN WITH THE SEED: the statements are not yours to turn. If you find one false, say at which input.
  Laid BY PROGRAM, IN A SANDBOX (cutbox-rows.mjs): the forced cells as the released guide's own fill.sh prints them over the translation 337464be26595dc0… (all of the seat's roots in one cut). By AI agents, Wed Nov 11 2026. No macro, syntax, notation, axiom, sorry.
-/
import Derived.Test.YtmapdpcfanecdaaGreatChecked
import GoSem.Claim
import GoSem.ClaimJoined
import GoSem.ClaimMapViews
import Derived.JoinedTies
import Derived.KernelRfl
namespace Go.Proofs.YtmapdpcfanecdaaGreat
/- THE CELL 'sum', in the pinned program and in every row, IS THE sha256 OF THE DUMP (.gsa) THAT YtmapdpcfanecdaaGreatProg.lean LOADS. Nothing in Lean hashes anything: it is a label: what it is worth is what the hold of that sum in a sandbox is worth. -/
noncomputable def Tryz.pinned : Pinned := { name := "ytmapdpcfanecdaagreat", sum := "337464be26595dc0b98a747b2b0a05399a4dee2868e7fc0c1b455c0a3e2aac5a", checked := Tryz.checked }
namespace Rows
def none {H : Type} : Left H := { results := [], args := [] }

/-- 'soundingslaw.GuessJoins': WHATEVER THE INPUT: true; the input reads as it did. -/
def guessJoinsSpec : ChangeSpec := { name := "guessJoins", fn := fun _ => fun
  | [d1, d2, d3, d4, d5] => { results := [.lit (.bool true)], args := [d1, d2, d3, d4, d5] }
  | _ => none }
def guessJoinsRow : OpenClaim := { program := "ytmapdpcfanecdaagreat", sum := "337464be26595dc0b98a747b2b0a05399a4dee2868e7fc0c1b455c0a3e2aac5a", func := "soundings/soundingslaw.GuessJoins", spec := "guessJoins", unfollowed := true, recurses := true, apart := false }
def GuessJoinsSaid : Prop := guessJoinsRow.holds Tryz.pinned (OpenSpec.ofChange guessJoinsSpec)

/-- ITS FALSE NEIGHBOUR: 'it returns false'. Refute it at one input. -/
def guessJoinsWrong : ChangeSpec := { name := "guessJoins", fn := fun _ => fun
  | [d1, d2, d3, d4, d5] => { results := [.lit (.bool false)], args := [d1, d2, d3, d4, d5] }
  | _ => none }
def GuessJoinsWrongFalsely : Prop := guessJoinsRow.holds Tryz.pinned (OpenSpec.ofChange guessJoinsWrong)

/-- 'soundingslaw.GuessDoes': WHATEVER THE INPUT: true; the input reads as it did. -/
def guessDoesSpec : ChangeSpec := { name := "guessDoes", fn := fun _ => fun
  | [d1, d2, d3, d4] => { results := [.lit (.bool true)], args := [d1, d2, d3, d4] }
  | _ => none }
def guessDoesRow : OpenClaim := { program := "ytmapdpcfanecdaagreat", sum := "337464be26595dc0b98a747b2b0a05399a4dee2868e7fc0c1b455c0a3e2aac5a", func := "soundings/soundingslaw.GuessDoes", spec := "guessDoes", unfollowed := true, recurses := true, apart := false }
def GuessDoesSaid : Prop := guessDoesRow.holds Tryz.pinned (OpenSpec.ofChange guessDoesSpec)

/-- ITS FALSE NEIGHBOUR: 'it returns false'. Refute it at one input. -/
def guessDoesWrong : ChangeSpec := { name := "guessDoes", fn := fun _ => fun
  | [d1, d2, d3, d4] => { results := [.lit (.bool false)], args := [d1, d2, d3, d4] }
  | _ => none }
def GuessDoesWrongFalsely : Prop := guessDoesRow.holds Tryz.pinned (OpenSpec.ofChange guessDoesWrong)

/-- 'soundingslaw.PictureJoins': WHATEVER THE INPUT: true; the input reads as it did. -/
def pictureJoinsSpec : ChangeSpec := { name := "pictureJoins", fn := fun _ => fun
  | [d1, d2, d3] => { results := [.lit (.bool true)], args := [d1, d2, d3] }
  | _ => none }
def pictureJoinsRow : OpenClaim := { program := "ytmapdpcfanecdaagreat", sum := "337464be26595dc0b98a747b2b0a05399a4dee2868e7fc0c1b455c0a3e2aac5a", func := "soundings/soundingslaw.PictureJoins", spec := "pictureJoins", unfollowed := true, recurses := true, apart := false }
def PictureJoinsSaid : Prop := pictureJoinsRow.holds Tryz.pinned (OpenSpec.ofChange pictureJoinsSpec)

/-- ITS FALSE NEIGHBOUR: 'it returns false'. Refute it at one input. -/
def pictureJoinsWrong : ChangeSpec := { name := "pictureJoins", fn := fun _ => fun
  | [d1, d2, d3] => { results := [.lit (.bool false)], args := [d1, d2, d3] }
  | _ => none }
def PictureJoinsWrongFalsely : Prop := pictureJoinsRow.holds Tryz.pinned (OpenSpec.ofChange pictureJoinsWrong)

/-- 'soundingslaw.PictureShows': WHATEVER THE INPUT: true; the input reads as it did. -/
def pictureShowsSpec : ChangeSpec := { name := "pictureShows", fn := fun _ => fun
  | [d1, d2, d3, d4] => { results := [.lit (.bool true)], args := [d1, d2, d3, d4] }
  | _ => none }
def pictureShowsRow : OpenClaim := { program := "ytmapdpcfanecdaagreat", sum := "337464be26595dc0b98a747b2b0a05399a4dee2868e7fc0c1b455c0a3e2aac5a", func := "soundings/soundingslaw.PictureShows", spec := "pictureShows", unfollowed := true, recurses := true, apart := false }
def PictureShowsSaid : Prop := pictureShowsRow.holds Tryz.pinned (OpenSpec.ofChange pictureShowsSpec)

/-- ITS FALSE NEIGHBOUR: 'it returns false'. Refute it at one input. -/
def pictureShowsWrong : ChangeSpec := { name := "pictureShows", fn := fun _ => fun
  | [d1, d2, d3, d4] => { results := [.lit (.bool false)], args := [d1, d2, d3, d4] }
  | _ => none }
def PictureShowsWrongFalsely : Prop := pictureShowsRow.holds Tryz.pinned (OpenSpec.ofChange pictureShowsWrong)

/- THE SECOND FORM. 'bulk': how many values and letters a reading holds, each counted each time it is reached (what is shared counts as often as it is met; a slice's spare places count too). A statement '..UptoSaid' is the law's where the arguments, and the package variables that the reading takes, are together of bulk at most 1048576: NARROWER than '..Said'. Prove '..Said' where nothing that the law and all that it calls make is longer than what came in: it says more and counts as full. Else prove '..UptoSaid'. A law counts once. -/
mutual
def uptoBulk {H : Type} : DataW H → Nat
  | .lit (.string bytes) => bytes.length + 1
  | .lit _ => 1
  | .nil => 1
  | .ptr d => uptoBulk d + 1
  | .slice elems spare => uptoBulkAll elems + uptoBulkAll spare + 1
  | .agg parts => uptoBulkAll parts + 1
  | .iface _ d => uptoBulk d + 1
  | .map entries => uptoBulkEntries entries + 1
  | .held _ => 1
def uptoBulkAll {H : Type} : List (DataW H) → Nat
  | [] => 0
  | d :: r => uptoBulk d + uptoBulkAll r
def uptoBulkEntries {H : Type} : List (Lit × DataW H) → Nat
  | [] => 0
  | x :: r => uptoBulkEntry x + uptoBulkEntries r
def uptoBulkEntry {H : Type} : Lit × DataW H → Nat
  | (.string bytes, d) => bytes.length + uptoBulk d + 1
  | (_, d) => uptoBulk d + 1
 end
def uptoSmall : (H : Type) → List (DataW H) → Bool := fun _ ds => decide (uptoBulkAll ds ≤ 1048576)
def OpenSpec.upto (s : _root_.Go.ChangeSpec) : _root_.Go.OpenSpec := { _root_.Go.OpenSpec.ofChange s with cond := some uptoSmall }

/-- 'soundingslaw.GuessJoins', WHERE WHAT IT READS IS OF BULK AT MOST 1048576: true; the input reads as it did. -/
def guessJoinsUptoRow : OpenClaim := { program := "ytmapdpcfanecdaagreat", sum := "337464be26595dc0b98a747b2b0a05399a4dee2868e7fc0c1b455c0a3e2aac5a", func := "soundings/soundingslaw.GuessJoins", spec := "guessJoins", unfollowed := true, recurses := true, apart := false, narrowed := true }
def GuessJoinsUptoSaid : Prop := guessJoinsUptoRow.holds Tryz.pinned (OpenSpec.upto guessJoinsSpec)

/-- 'soundingslaw.GuessDoes', WHERE WHAT IT READS IS OF BULK AT MOST 1048576: true; the input reads as it did. -/
def guessDoesUptoRow : OpenClaim := { program := "ytmapdpcfanecdaagreat", sum := "337464be26595dc0b98a747b2b0a05399a4dee2868e7fc0c1b455c0a3e2aac5a", func := "soundings/soundingslaw.GuessDoes", spec := "guessDoes", unfollowed := true, recurses := true, apart := false, narrowed := true }
def GuessDoesUptoSaid : Prop := guessDoesUptoRow.holds Tryz.pinned (OpenSpec.upto guessDoesSpec)

/-- 'soundingslaw.PictureJoins', WHERE WHAT IT READS IS OF BULK AT MOST 1048576: true; the input reads as it did. -/
def pictureJoinsUptoRow : OpenClaim := { program := "ytmapdpcfanecdaagreat", sum := "337464be26595dc0b98a747b2b0a05399a4dee2868e7fc0c1b455c0a3e2aac5a", func := "soundings/soundingslaw.PictureJoins", spec := "pictureJoins", unfollowed := true, recurses := true, apart := false, narrowed := true }
def PictureJoinsUptoSaid : Prop := pictureJoinsUptoRow.holds Tryz.pinned (OpenSpec.upto pictureJoinsSpec)

/-- 'soundingslaw.PictureShows', WHERE WHAT IT READS IS OF BULK AT MOST 1048576: true; the input reads as it did. -/
def pictureShowsUptoRow : OpenClaim := { program := "ytmapdpcfanecdaagreat", sum := "337464be26595dc0b98a747b2b0a05399a4dee2868e7fc0c1b455c0a3e2aac5a", func := "soundings/soundingslaw.PictureShows", spec := "pictureShows", unfollowed := true, recurses := true, apart := false, narrowed := true }
def PictureShowsUptoSaid : Prop := pictureShowsUptoRow.holds Tryz.pinned (OpenSpec.upto pictureShowsSpec)

end Rows
end Go.Proofs.YtmapdpcfanecdaaGreat
