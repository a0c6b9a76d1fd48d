/- The law SpanSound's helpers: choose, Wrap. -/
import Derived.Test.YtmapdpcfanecdaaPureN
import Derived.Test.YtmapdpcfanecdaaSpL
namespace Go.Proofs.Ytmapdpcfanecdaa
set_option linter.unusedVariables false
set_option linter.unusedSimpArgs false
open Go.RowKit

/-- A hypothesis that the walk does not look into. -/
def HidS (p : Prop) : Prop := p
theorem HidS.out {p : Prop} (h : HidS p) : p := h

set_option maxHeartbeats 1000000 in
theorem wrapS_any (n : Int) (w : World) :
    Calls Try.prog 23 #[.int .i64 n] w fun e w' => e = .returned (.int .i64 (wrS n)) ∧ w' = w := by
  have hq : HidS (4294967296 * n.tdiv 4294967296 + n.tmod 4294967296 = n) := Int.mul_tdiv_add_tmod n 4294967296
  have hlo : -4294967296 < n.tmod 4294967296 := Int.lt_tmod_of_pos n (by decide)
  have hhi : n.tmod 4294967296 < 4294967296 := Int.tmod_lt_of_pos n (by decide)
  go_enter Try.func23, Try.ntmps23
  go_wp2
  all_goals go_ret
  all_goals exact ⟨ret_int (by have := hq.out; unfold wrS; first | omega | (simp only [wrap64] at *; omega)), rfl⟩

theorem wrapkS {x : Int} (h : wrap64 x = x) : IntKind.i64.wrap x = x := by
  rw [IntKind.wrap_i64]
  unfold wrap64 at h
  exact h

/-- It fits into 64 bits. -/
abbrev fitS (n : Int) : Prop := -9223372036854775808 ≤ n ∧ n ≤ 9223372036854775807

def chs (c n : Int) : Int := (if c < 0 then -(c + 1) else c) % n
theorem chs_lt (c : Int) {n : Int} (h : 0 < n) : 0 ≤ chs c n ∧ chs c n < n := ⟨Int.emod_nonneg _ (by omega), Int.emod_lt_of_pos _ h⟩

set_option maxHeartbeats 1000000 in
theorem choose_any (c n : Int) (w : World) (hc : fitS c) (hn : 0 < n) :
    Calls Try.prog 22 #[.int .i64 c, .int .i64 n] w fun e w' => e = .returned (.int .i64 (chs c n)) ∧ w' = w := by
  have hz : (n == 0) = false := by simp; omega
  by_cases h : c < 0
  · have e1 : wrap64 (c + 1) = c + 1 := wrap_small (by omega) (by omega)
    have e2 : wrap64 (-(c + 1)) = -(c + 1) := wrap_small (by omega) (by omega)
    have e3 : chs c n = (-(c + 1)) % n := by
      unfold chs
      rw [if_pos h]
    rw [e3]
    go_enter Try.func22, Try.ntmps22
    go_wp2
    go_ret
    exact ⟨ret_int (by rw [← Int.neg_tmod, Int.tmod_eq_emod_of_nonneg (by omega)]), rfl⟩
  · have e3 : chs c n = c % n := by
      unfold chs
      rw [if_neg h]
    rw [e3]
    go_enter Try.func22, Try.ntmps22
    go_wp2
    go_ret
    exact ⟨rfl, rfl⟩
end Go.Proofs.Ytmapdpcfanecdaa
