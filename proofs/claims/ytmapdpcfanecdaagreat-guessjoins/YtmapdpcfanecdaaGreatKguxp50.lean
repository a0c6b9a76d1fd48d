/- The law's own helpers on guesses: guessIs. -/
import Derived.Test.YtmapdpcfanecdaaGreatKguxp01
import Derived.Test.YtmapdpcfanecdaaGreatKguxp44
import Derived.Test.YtmapdpcfanecdaaGreatKguxp27
namespace Go.Proofs.YtmapdpcfanecdaaGreat
set_option linter.unusedVariables false
set_option linter.unusedSimpArgs false
open Go.RowKit

def smallC : List Ins := [⟨1, 0, 0, 0, 5, 0⟩, ⟨18, 0, 0, 0, 0, 0⟩]

/-- The small text. -/
def text0 : ByteArray := ⟨#[118, 97, 114, 115, 32, 49, 32, 102, 105, 101, 108, 100, 115, 32, 48, 10, 110, 117, 109, 98, 101, 114, 32, 48, 32, 53, 10, 112, 114, 105, 110, 116, 32, 48, 10]⟩

set_option maxHeartbeats 1000000 in
set_option maxRecDepth 20000 in
theorem small_any (w : World) :
    Calls Tryz.prog 52 #[] w fun e w' => ∃ b, e = .returned (.agg #[.int .i64 1, .int .i64 0, .slice (some ⟨b, 0, none⟩) 2 2]) ∧ CodeAt w' (some ⟨b, 0, none⟩) smallC ∧ Below w.heap.size w w' := by
  go_enter Tryz.func52, Tryz.ntmps52
  go_wp2
  refine bodyPost_ret (v := .agg #[.int .i64 1, .int .i64 0, .slice (some ⟨w.heap.size + 1, 0, none⟩) 2 2]) (by simp [results, Tryz.results52, go_sem]) rfl ⟨w.heap.size + 1, rfl, .inr ⟨_, _, rfl, by simp, ?_⟩, by go_grown⟩
  intro k hk
  match k, hk with
  | 0, _ => refine ⟨?_, ?_, ?_, ?_, ?_, ?_⟩ <;> simp [go_sem, smallC]
  | 1, _ => refine ⟨?_, ?_, ?_, ?_, ?_, ?_⟩ <;> simp [go_sem, smallC]
  | k + 2, h => simp [smallC] at h; omega
end Go.Proofs.YtmapdpcfanecdaaGreat

namespace Go.Proofs.YtmapdpcfanecdaaGreat
set_option linter.unusedVariables false
set_option linter.unusedSimpArgs false
open Go.RowKit

set_option maxHeartbeats 2000000 in
set_option maxRecDepth 10000 in
theorem guessIs_ok (g : Gs) (ss : Option Addr) (gc : Nat) (st : Option Addr) (hc : Nat) (w : World) (hs : IntsAt w ss g.s) (ht : IntsAt w st g.s) (hgl : g.s.length ≤ maxLen) :
    Calls Tryz.prog 19 #[gv g ss gc, .int .i64 0, .int .i64 0, gv g st hc] w fun r w' => r = .returned (.bool true) ∧ Below w.heap.size w w' := by
  obtain ⟨G0, H0, B0⟩ := two_at w g ss gc g st hc
  have HS := hideH (sameGuess_any g ss gc st hc _ (hs.below B0 (Nat.le_refl _)) (ht.below B0 (Nat.le_refl _)) hgl)
  clear hs ht hgl G0 H0
  go_enter Tryz.func19, Tryz.ntmps19
  go_wp2_with (go_at_call 53; fail)
  refine HS.out.mono ?_
  rintro e w1 ⟨rfl, hb1⟩
  go_wp2
  go_ret
  exact ⟨rfl, B0.trans (hb1.mono B0.size)⟩

set_option maxHeartbeats 2000000 in
set_option maxRecDepth 10000 in
theorem guessIs_err (c : Int) (h : Gs) (st : Option Addr) (hc : Nat) (w : World) (hne : (c != 0) = true) :
    Calls Tryz.prog 19 #[gv zeroG none 0, .int .i64 c, .int .i64 c, gv h st hc] w fun r w' => r = .returned (.bool true) ∧ Below w.heap.size w w' := by
  obtain ⟨G0, H0, B0⟩ := two_at w zeroG none 0 h st hc
  have HS := hideH (fun w => sameGuess_any zeroG none 0 none 0 w (.inl rfl) (.inl rfl) (by unfold maxLen zeroG; simp))
  simp only [zeroG] at HS
  go_enter Tryz.func19, Tryz.ntmps19
  simp only [zeroG]
  go_wp2_with (go_at_call 53; fail)
  refine (HS.out _).mono ?_
  rintro e w1 ⟨rfl, hb1⟩
  go_wp2
  go_ret
  exact ⟨rfl, Below.trans (by go_grown) (hb1.mono (by simp; omega))⟩

end Go.Proofs.YtmapdpcfanecdaaGreat
