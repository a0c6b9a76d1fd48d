/- The law SpanSound: whatever it is handed. -/
import Derived.Test.YtmapdpcfanecdaaSpZK5
import Derived.Test.YtmapdpcfanecdaaSpZK6
import Derived.Test.YtmapdpcfanecdaaSpZK7
import Derived.Test.YtmapdpcfanecdaaSpZN0
import Derived.Test.YtmapdpcfanecdaaSpZN1
import Derived.Test.YtmapdpcfanecdaaSpZN2
namespace Go.Proofs.Ytmapdpcfanecdaa
set_option linter.unusedVariables false
set_option linter.unusedSimpArgs false
open Go.RowKit

set_option maxHeartbeats 2000000 in
set_option maxRecDepth 20000 in
theorem spanSound_err (k a b : Int) (s t : Sp) (ls : Option Addr) (len cap : Nat) (w : World) (fk : fitS k) (h : ckSps s t ≠ 0) :
    Calls Try.prog 4 #[.int .i64 k, sv s, sv t, .int .i64 a, .int .i64 b, .slice ls len cap] w fun e w' => e = .returned (.bool true) ∧ Below w.heap.size w w' := by
  have hC := fun w => choose_any k 3 w fk (by decide)
  obtain ⟨j0, j1⟩ := chs_lt k (n := 3) (by decide)
  generalize chs k 3 = j at hC j0 j1
  have hD := fun w => do_any (5 + j) s t w
  rw [show doErr (5 + j) s t = ckSps s t by unfold doErr; rw [if_neg h]] at hD
  rw [show ∀ r, spIf (ckSps s t) r = zeroSp from fun r => if_neg h] at hD
  have hne : (ckSps s t != 0) = true := by simpa using h
  generalize ckSps s t = ce at hD hne
  clear h
  have S0 : SpAt ((w.alloc (.cells #[.bool s.n, .int .i64 s.lo, .int .i64 s.hi] 23)).alloc (.cells #[.bool t.n, .int .i64 t.lo, .int .i64 t.hi] 23)) w.heap.size s := (SpAt.new w s).alloc _
  have T0 : SpAt ((w.alloc (.cells #[.bool s.n, .int .i64 s.lo, .int .i64 s.hi] 23)).alloc (.cells #[.bool t.n, .int .i64 t.lo, .int .i64 t.hi] 23)) (w.heap.size + 1) t := by
    have := SpAt.new (w.alloc (.cells #[.bool s.n, .int .i64 s.lo, .int .i64 s.hi] 23)) t
    simpa using this
  have B0 : Below w.heap.size w ((w.alloc (.cells #[.bool s.n, .int .i64 s.lo, .int .i64 s.hi] 23)).alloc (.cells #[.bool t.n, .int .i64 t.lo, .int .i64 t.hi] 23)) := by go_grown
  go_enter Try.func4, Try.ntmps4
  go_wp2_with (go_at_call 19; fail)
  refine (spanBegun_any _).mono ?_
  rintro e w1 ⟨rfl, hb1⟩
  have S1 := S0.call hb1
  have T1 := T0.call hb1
  have B1 : Below w.heap.size w w1 := B0.trans (hb1.mono (by simp; omega))
  clear hb1 S0 T0 B0
  obtain ⟨⟨s0, s1, s2⟩, s3⟩ := id S1
  obtain ⟨⟨t0, t1, t2⟩, t3⟩ := id T1
  go_wp2_with (first | (go_at_call 22; refine (hC _).mono ?_; rintro e w' ⟨rfl, hw⟩; have hw2 := hw.symm; subst hw2) | (go_at_call 11; fail))
  refine (hD _).mono ?_
  rintro e w2 ⟨rfl, hb2⟩
  have B2 : Below w.heap.size w w2 := B1.trans (hb2.mono B1.size)
  clear hb2 hC hD
  go_wp2
  go_ret
  exact ⟨rfl, B2.alloc B2.size _⟩

theorem spanSound_any (k a b : Int) (s t : Sp) (ls : Option Addr) (cap : Nat) (L : List Sp) (w : World) (hL : SpsAt w ls L) (hlen : L.length ≤ 9223372036854775807) (fk : fitS k) (fa : fitS a) (fb : fitS b) :
    Calls Try.prog 4 #[.int .i64 k, sv s, sv t, .int .i64 a, .int .i64 b, .slice ls L.length cap] w fun e w' => e = .returned (.bool true) ∧ Below w.heap.size w w' := by
  by_cases hc : ckSps s t = 0
  · obtain ⟨hs, ht⟩ := ckSps_ok.1 hc
    obtain ⟨sn, lo, hi⟩ := s
    obtain ⟨tn, lo', hi'⟩ := t
    cases sn with
    | true => 
      cases tn with
      | true => exact spanSound_N0 k a b lo hi lo' hi' ls cap L w hL hlen fk hs ht
      | false => exact spanSound_N1 k a b lo hi lo' hi' ls cap L w hL hlen fk hs ht
    | false =>
      cases tn with
      | true => exact spanSound_N2 k a b lo hi lo' hi' ls cap L w hL hlen fk hs ht
      | false =>
        obtain ⟨j0, j1⟩ := chs_lt k (n := 3) (by decide)
        by_cases h0 : chs k 3 = 0
        · exact spanSound_K5 k a b lo hi lo' hi' ls cap L w hL hlen fk fa fb h0 hs ht
        · by_cases h1 : chs k 3 = 1
          · exact spanSound_K6 k a b lo hi lo' hi' ls cap L w hL hlen fk fa fb h1 hs ht
          · exact spanSound_K7 k a b lo hi lo' hi' ls cap L w hL hlen fk fa fb (by omega) hs ht
  · exact spanSound_err k a b s t ls L.length cap w fk hc
end Go.Proofs.Ytmapdpcfanecdaa
