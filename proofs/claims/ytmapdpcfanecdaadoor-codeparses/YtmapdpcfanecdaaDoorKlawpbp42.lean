/- Walks over the document's own answers: are two programs the same? Where both read alike they are told to be. -/
import Derived.Test.YtmapdpcfanecdaaDoorKlawpbp04
import Derived.Test.YtmapdpcfanecdaaDoorKlawpbp41
import Derived.Deep.QuietTactic
import Derived.BigQuiet
namespace Go.Proofs.YtmapdpcfanecdaaDoor
set_option linter.unusedVariables false
set_option linter.unusedSimpArgs false
open Go.RowKit

def smallC : List Ins := [⟨1, 0, 0, 0, 5, 0⟩, ⟨18, 0, 0, 0, 0, 0⟩]

/-- The small text. -/
def text0 : ByteArray := ⟨#[118, 97, 114, 115, 32, 49, 32, 102, 105, 101, 108, 100, 115, 32, 48, 10, 110, 117, 109, 98, 101, 114, 32, 48, 32, 53, 10, 112, 114, 105, 110, 116, 32, 48, 10]⟩

set_option maxHeartbeats 1000000 in
set_option maxRecDepth 20000 in
theorem small_any (w : World) :
    Calls Tryd.prog 41 #[] w fun e w' => ∃ b, e = .returned (.agg #[.int .i64 1, .int .i64 0, .slice (some ⟨b, 0, none⟩) 2 2]) ∧ CodeAt w' (some ⟨b, 0, none⟩) smallC ∧ Below w.heap.size w w' := by
  go_enter Tryd.func41, Tryd.ntmps41
  go_wp2
  refine bodyPost_ret (v := .agg #[.int .i64 1, .int .i64 0, .slice (some ⟨w.heap.size + 1, 0, none⟩) 2 2]) (by simp [results, Tryd.results41, go_sem]) rfl ⟨w.heap.size + 1, rfl, .inr ⟨_, _, rfl, by simp, ?_⟩, by go_grown⟩
  intro k hk
  match k, hk with
  | 0, _ => refine ⟨?_, ?_, ?_, ?_, ?_, ?_⟩ <;> simp [go_sem, smallC]
  | 1, _ => refine ⟨?_, ?_, ?_, ?_, ?_, ?_⟩ <;> simp [go_sem, smallC]
  | k + 2, h => simp [smallC] at h; omega
end Go.Proofs.YtmapdpcfanecdaaDoor

namespace Go.Proofs.YtmapdpcfanecdaaDoor
set_option linter.unusedVariables false
set_option linter.unusedSimpArgs false
open Go.RowKit

def smallT : Nat → ByteArray
  | 0 => ⟨#[110, 117, 109, 98, 101, 114, 32, 48, 32, 53, 10, 112, 114, 105, 110, 116, 32, 48, 10]⟩
  | 1 => ⟨#[112, 114, 105, 110, 116, 32, 48, 10]⟩
  | _ => ⟨#[]⟩
def smallL : Nat → ByteArray
  | 0 => line_number
  | _ => line_print
def smallI : Nat → Ins
  | 0 => ⟨1, 0, 0, 0, 5, 0⟩
  | _ => ⟨18, 0, 0, 0, 0, 0⟩
theorem parseLines_small (w : World) (ht : Tab w) (hm : Cap w) :
    Calls Tryd.prog 43 #[.string text0] w fun e w' => ∃ v, e = .returned (.tuple #[.agg #[.int .i64 1, .int .i64 0, v], .int .i64 0]) ∧ w'.ownsRow w.heap.size 71 6 v smallC.length (flat smallC) ∧ Below w.heap.size w w' := by
  refine parseLines_ok 2 (by decide) text0 lineHead 1 0 smallT smallL smallI w ht hm (by decide +kernel) ?_ (by decide +kernel) (fun w ht hm => parseHead_small w ht hm) ?_ ?_ rfl ?_
  · intro k
    match k with
    | 0 => decide +kernel
    | 1 => decide +kernel
    | k + 2 => exact (by decide : (0 : Nat) < 5000)
  · intro k hk
    match k, hk with
    | 0, _ => decide +kernel
    | 1, _ => decide +kernel
    | k + 2, h => omega
  · intro k hk
    match k, hk with
    | 0, _ => decide +kernel
    | 1, _ => decide +kernel
    | k + 2, h => omega
  · intro k hk N w hs ht hm
    match k, hk with
    | 0, _ => exact parseInstr_number N w hs ht hm
    | 1, _ => exact parseInstr_print N w hs ht hm
    | k + 2, h => omega

theorem small_right : ckProg 1 0 smallC = 0 := by decide +kernel
theorem small_text : textAll 1 0 smallC = text0 := by decide +kernel

theorem parse_small (w : World) (ht : Tab w) (hm : Cap w) :
    Calls Tryd.prog 16 #[.string text0] w fun e w' => ∃ v, e = .returned (.tuple #[.agg #[.int .i64 1, .int .i64 0, v], .int .i64 0, .int .i64 0]) ∧ w'.ownsRow w.heap.size 71 6 v smallC.length (flat smallC) ∧ Below w.heap.size w w' :=
  parse_ok 1 0 smallC text0 w (by decide +kernel) small_right (fun w' hb => parseLines_small w' (ht.below hb) (hm.below hb))
end Go.Proofs.YtmapdpcfanecdaaDoor

namespace Go.Proofs.YtmapdpcfanecdaaDoor
set_option linter.unusedVariables false
set_option linter.unusedSimpArgs false
open Go.RowKit

set_option maxHeartbeats 1000000 in
set_option maxRecDepth 10000 in
theorem sameProgram_loop (V F : Int) (b1 o1 c1 b2 o2 c2 : Nat) (l : List Ins) (w : World) (h63 : l.length ≤ maxLen) (b1lt : b1 < w.heap.size) (b2lt : b2 < w.heap.size)
    (h1 : ∀ k (h : k < l.length), InsAt w b1 (o1 + k * 6) l[k]) (h2 : ∀ k (h : k < l.length), InsAt w b2 (o2 + k * 6) l[k]) :
    Calls Tryd.prog 18 #[.agg #[.int .i64 V, .int .i64 F, .slice (some ⟨b1, o1, none⟩) l.length c1], .agg #[.int .i64 V, .int .i64 F, .slice (some ⟨b2, o2, none⟩) l.length c2]] w fun e w' => e = .returned (.bool true) ∧ Below w.heap.size w w' := by
  unfold maxLen at h63
  have hB : Below w.heap.size w ((w.alloc (.cells #[.int .i64 V, .int .i64 F, .slice (some ⟨b1, o1, none⟩) l.length c1] 24)).alloc (.cells #[.int .i64 V, .int .i64 F, .slice (some ⟨b2, o2, none⟩) l.length c2] 24)) := by go_grown
  go_enter Tryd.func18, Tryd.ntmps18
  go_wp2
  go_loopw [5] (fun i wr => ∃ k : Nat, k ≤ l.length ∧ i = .int .i64 k ∧ Below (w.heap.size + 2) ((w.alloc (.cells #[.int .i64 V, .int .i64 F, .slice (some ⟨b1, o1, none⟩) l.length c1] 24)).alloc (.cells #[.int .i64 V, .int .i64 F, .slice (some ⟨b2, o2, none⟩) l.length c2] 24)) wr) (fun i _ => l.length - (intOf i).toNat)
  case atStart => exact ⟨0, Nat.zero_le _, rfl, Below.refl _ _⟩
  case round =>
    obtain ⟨k, hk, rfl, hb⟩ := hrel
    have q1 : wr.cell? ⟨w.heap.size, 2, none⟩ = some (.slice (some ⟨b1, o1, none⟩) l.length c1) := by rw [hb.cell (by simp)]; simp [go_sem]
    have q2 : wr.cell? ⟨w.heap.size + 1, 2, none⟩ = some (.slice (some ⟨b2, o2, none⟩) l.length c2) := by rw [hb.cell (by simp)]; simp [go_sem]
    by_cases hlt : k < l.length
    · have n0 : (0 : Int) ≤ (k : Int) := by omega
      have n1 : (k : Int) < (l.length : Int) := by omega
      obtain ⟨i0, i1, i2, i3, i4, i5⟩ : InsAt wr b1 (o1 + k * 6) l[k] := ((h1 k hlt).below hB b1lt).below hb (by omega)
      obtain ⟨j0, j1, j2, j3, j4, j5⟩ : InsAt wr b2 (o2 + k * 6) l[k] := ((h2 k hlt).below hB b2lt).below hb (by omega)
      clear h1 h2
      go_wp2
      go_quiet (fail)
      go_wp2
      go_roundw
      case rel => exact ⟨k + 1, by omega, by go_num, below_drewN hb _⟩
      case measure => simp [intOf]; omega
    · go_wp2
      go_ret
      exact ⟨rfl, hB.trans (hb.mono (by omega))⟩

set_option maxHeartbeats 1000000 in
theorem sameProgram_nil (V F : Int) (s1 s2 : Option Addr) (c1 c2 : Nat) (w : World) :
    Calls Tryd.prog 18 #[.agg #[.int .i64 V, .int .i64 F, .slice s1 0 c1], .agg #[.int .i64 V, .int .i64 F, .slice s2 0 c2]] w fun e w' => e = .returned (.bool true) ∧ Below w.heap.size w w' := by
  go_enter Tryd.func18, Tryd.ntmps18
  go_wp2
  go_rounds 1
  go_ret
  exact ⟨rfl, by go_grown⟩

/-- Two programs that read alike are the same. -/
theorem sameProgram_any (V F : Int) (s1 s2 : Option Addr) (c1 c2 : Nat) (l : List Ins) (w : World) (h63 : l.length ≤ maxLen) (h1 : CodeAt w s1 l) (h2 : CodeAt w s2 l) :
    Calls Tryd.prog 18 #[.agg #[.int .i64 V, .int .i64 F, .slice s1 l.length c1], .agg #[.int .i64 V, .int .i64 F, .slice s2 l.length c2]] w fun e w' => e = .returned (.bool true) ∧ Below w.heap.size w w' := by
  rcases h1 with rfl | ⟨b1, o1, rfl, hb1, h1⟩
  · exact sameProgram_nil V F s1 s2 c1 c2 w
  · rcases h2 with rfl | ⟨b2, o2, rfl, hb2, h2⟩
    · exact sameProgram_nil V F _ s2 c1 c2 w
    · exact sameProgram_loop V F b1 o1 c1 b2 o2 c2 l w h63 hb1 hb2 h1 h2
end Go.Proofs.YtmapdpcfanecdaaDoor
