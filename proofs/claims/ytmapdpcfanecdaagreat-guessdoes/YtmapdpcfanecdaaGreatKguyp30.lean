/- Walks over the document's own answers: guesses: HeldOf, TruthOf, SameGuess. -/
import Derived.Test.YtmapdpcfanecdaaGreatKguyp25
import Derived.Test.YtmapdpcfanecdaaGreatKguyp27
import Derived.Test.YtmapdpcfanecdaaGreatKguyp28
import Derived.Test.YtmapdpcfanecdaaGreatKguyp29
import Derived.Test.YtmapdpcfanecdaaGreatKguyp24
import Derived.Test.YtmapdpcfanecdaaGreatKguyp20
namespace Go.Proofs.YtmapdpcfanecdaaGreat
set_option linter.unusedVariables false
set_option linter.unusedSimpArgs false
open Go.RowKit

set_option maxHeartbeats 4000000 in
set_option maxRecDepth 20000 in
theorem joinSpan_f (lo hi lo' hi' : Int) (w : World) :
    Calls Tryz.prog 48 #[sv ⟨false, lo, hi⟩, sv ⟨false, lo', hi'⟩, .bool false] w fun e w' => e = .returned (sv ⟨false, min lo lo', max hi hi'⟩) ∧ Below w.heap.size w w' := by
  go_enter Tryz.func48, Tryz.ntmps48
  go_wp2
  go_region_held3 (fun w' => w'.cell? ⟨w.heap.size, 1, none⟩ = some (.int .i64 lo) ∧ w'.cell? ⟨w.heap.size, 2, none⟩ = some (.int .i64 hi) ∧ w'.cell? ⟨w.heap.size + 1, 1, none⟩ = some (.int .i64 lo') ∧ w'.cell? ⟨w.heap.size + 1, 2, none⟩ = some (.int .i64 hi')) (simp [go_sem])
    (first
      | (go_at_call 93; refine (least2 _ _ lo lo' _ (by simp [go_sem]) (by simp [go_sem])).mono ?_; rintro e w' ⟨rfl, rfl⟩)
      | (go_at_call 94; refine (most2 _ _ hi hi' _ (by simp [go_sem]) (by simp [go_sem])).mono ?_; rintro e w' ⟨rfl, rfl⟩))
  all_goals go_wp2
  all_goals go_returns
  all_goals exact ⟨rfl, by go_grown⟩
end Go.Proofs.YtmapdpcfanecdaaGreat

namespace Go.Proofs.YtmapdpcfanecdaaGreat
set_option linter.unusedVariables false
set_option linter.unusedSimpArgs false
open Go.RowKit

set_option maxHeartbeats 4000000 in
set_option maxRecDepth 20000 in
theorem joinSpan_w (lo hi lo' hi' : Int) (w : World) :
    Calls Tryz.prog 48 #[sv ⟨false, lo, hi⟩, sv ⟨false, lo', hi'⟩, .bool true] w fun e w' => e = .returned (sv (wideSp ⟨false, lo, hi⟩ ⟨false, lo', hi'⟩)) ∧ Below w.heap.size w w' := by
  go_enter Tryz.func48, Tryz.ntmps48
  go_wp2
  go_region_held3 (fun w' => w'.cell? ⟨w.heap.size, 1, none⟩ = some (.int .i64 lo) ∧ w'.cell? ⟨w.heap.size, 2, none⟩ = some (.int .i64 hi) ∧ w'.cell? ⟨w.heap.size + 1, 1, none⟩ = some (.int .i64 lo') ∧ w'.cell? ⟨w.heap.size + 1, 2, none⟩ = some (.int .i64 hi')) (simp [go_sem])
    (first
      | (go_at_call 93; refine (least2 _ _ lo lo' _ (by simp [go_sem]) (by simp [go_sem])).mono ?_; rintro e w' ⟨rfl, rfl⟩)
      | (go_at_call 94; refine (most2 _ _ hi hi' _ (by simp [go_sem]) (by simp [go_sem])).mono ?_; rintro e w' ⟨rfl, rfl⟩))
  all_goals go_wp2
  all_goals go_returns
  all_goals exact ⟨ret_sp (wide_ff (by split <;> omega) (by split <;> omega)), by go_grown⟩
end Go.Proofs.YtmapdpcfanecdaaGreat

namespace Go.Proofs.YtmapdpcfanecdaaGreat
set_option linter.unusedVariables false
set_option linter.unusedSimpArgs false
open Go.RowKit

set_option maxHeartbeats 1000000 in
theorem meetSpan_n (s t : Sp) (w : World) (h : (s.n || t.n) = true) :
    Calls Tryz.prog 62 #[sv s, sv t] w fun e w' => e = .returned (sv ⟨true, 0, 0⟩) ∧ Below w.heap.size w w' := by
  obtain ⟨n, lo, hi⟩ := s
  obtain ⟨n', lo', hi'⟩ := t
  cases n with
  | true =>
    go_enter Tryz.func62, Tryz.ntmps62
    go_wp2
    go_returns
    exact ⟨rfl, by go_grown⟩
  | false =>
    cases n' with
    | true =>
      go_enter Tryz.func62, Tryz.ntmps62
      go_wp2
      go_returns
      exact ⟨rfl, by go_grown⟩
    | false => exact absurd h (by simp)

set_option maxHeartbeats 4000000 in
set_option maxRecDepth 20000 in
theorem meetSpan_f (lo hi lo' hi' : Int) (w : World) :
    Calls Tryz.prog 62 #[sv ⟨false, lo, hi⟩, sv ⟨false, lo', hi'⟩] w fun e w' => e = .returned (sv (meetSp ⟨false, lo, hi⟩ ⟨false, lo', hi'⟩)) ∧ Below w.heap.size w w' := by
  go_enter Tryz.func62, Tryz.ntmps62
  go_wp2
  go_region_held3 (fun w' => w'.cell? ⟨w.heap.size, 1, none⟩ = some (.int .i64 lo) ∧ w'.cell? ⟨w.heap.size, 2, none⟩ = some (.int .i64 hi) ∧ w'.cell? ⟨w.heap.size + 1, 1, none⟩ = some (.int .i64 lo') ∧ w'.cell? ⟨w.heap.size + 1, 2, none⟩ = some (.int .i64 hi')) (simp [go_sem])
    (first
      | (go_at_call 94; refine (most2 _ _ lo lo' _ (by simp [go_sem]) (by simp [go_sem])).mono ?_; rintro e w' ⟨rfl, rfl⟩)
      | (go_at_call 93; refine (least2 _ _ hi hi' _ (by simp [go_sem]) (by simp [go_sem])).mono ?_; rintro e w' ⟨rfl, rfl⟩))
  all_goals go_wp2
  all_goals go_returns
  all_goals exact ⟨ret_sp (by first | exact meet_ff rfl rfl (by assumption) | exact meet_e (by assumption)), by go_grown⟩

theorem meetSpan_any (s t : Sp) (w : World) :
    Calls Tryz.prog 62 #[sv s, sv t] w fun e w' => e = .returned (sv (meetSp s t)) ∧ Below w.heap.size w w' := by
  by_cases h : (s.n || t.n) = true
  · have e0 : meetSp s t = ⟨true, 0, 0⟩ := by unfold meetSp; rw [h]; rfl
    rw [e0]
    exact meetSpan_n s t w h
  · obtain ⟨n, lo, hi⟩ := s
    obtain ⟨n', lo', hi'⟩ := t
    cases n with
    | true => exact absurd rfl h
    | false =>
      cases n' with
      | true => exact absurd rfl h
      | false => exact meetSpan_f lo hi lo' hi' w
end Go.Proofs.YtmapdpcfanecdaaGreat

namespace Go.Proofs.YtmapdpcfanecdaaGreat
set_option linter.unusedVariables false
set_option linter.unusedSimpArgs false
open Go.RowKit

theorem wrapk {x : Int} (h : wrap64 x = x) : IntKind.i64.wrap x = x := by
  rw [IntKind.wrap_i64]
  unfold wrap64 at h
  exact h

theorem doSpan_any (k : Int) (s t : Sp) (w : World) (hk : k = 5 ∨ k = 6 ∨ k = 7) (hs : s.Ok) (ht : t.Ok) :
    Calls Tryz.prog 65 #[.int .i64 k, sv s, sv t] w fun e w' => e = .returned (sv (doSp k s t)) ∧ Below w.heap.size w w' := by
  by_cases h : (s.n || t.n) = true
  · have := doSpan_n k s t w h
    unfold doSp
    rw [if_pos h]
    exact this
  · have e0 : doSp k s t = hull (opOf k s.lo t.lo) (opOf k s.lo t.hi) (opOf k s.hi t.lo) (opOf k s.hi t.hi) := by unfold doSp; rw [if_neg h]
    rw [e0]
    obtain ⟨n, lo, hi⟩ := s
    obtain ⟨n', lo', hi'⟩ := t
    cases n with
    | true => exact absurd rfl h
    | false =>
      cases n' with
      | true => exact absurd rfl h
      | false =>
        rcases hk with rfl | rfl | rfl
        · exact doSpan_add lo hi lo' hi' _ _ _ _ w (wrapk (wrap_add hs.1 ht.1)) (wrapk (wrap_add hs.1 ht.2.1)) (wrapk (wrap_add hs.2.1 ht.1)) (wrapk (wrap_add hs.2.1 ht.2.1))
        · exact doSpan_sub lo hi lo' hi' _ _ _ _ w (wrapk (wrap_sub hs.1 ht.1)) (wrapk (wrap_sub hs.1 ht.2.1)) (wrapk (wrap_sub hs.2.1 ht.1)) (wrapk (wrap_sub hs.2.1 ht.2.1))
        · exact doSpan_mul lo hi lo' hi' _ _ _ _ w (wrapk (wrap_mul hs.1 ht.1)) (wrapk (wrap_mul hs.1 ht.2.1)) (wrapk (wrap_mul hs.2.1 ht.1)) (wrapk (wrap_mul hs.2.1 ht.2.1))

theorem joinSpan_any (s t : Sp) (w : World) :
    Calls Tryz.prog 48 #[sv s, sv t, .bool false] w fun e w' => e = .returned (sv (joinSp s t)) ∧ Below w.heap.size w w' := by
  by_cases h : (s.n || t.n) = true
  · exact joinSpan_n s t false w h
  · obtain ⟨n, lo, hi⟩ := s
    obtain ⟨n', lo', hi'⟩ := t
    cases n with
    | true => exact absurd rfl h
    | false =>
      cases n' with
      | true => exact absurd rfl h
      | false => exact joinSpan_f lo hi lo' hi' w

theorem wideSpan_any (s t : Sp) (w : World) :
    Calls Tryz.prog 48 #[sv s, sv t, .bool true] w fun e w' => e = .returned (sv (wideSp s t)) ∧ Below w.heap.size w w' := by
  by_cases h : (s.n || t.n) = true
  · have e0 : wideSp s t = joinSp s t := by
      unfold wideSp joinSp
      obtain ⟨n, lo, hi⟩ := s
      obtain ⟨n', lo', hi'⟩ := t
      cases n with
      | true => rfl
      | false =>
        cases n' with
        | true => rfl
        | false => exact absurd h (by simp)
    rw [e0]
    exact joinSpan_n s t true w h
  · obtain ⟨n, lo, hi⟩ := s
    obtain ⟨n', lo', hi'⟩ := t
    cases n with
    | true => exact absurd rfl h
    | false =>
      cases n' with
      | true => exact absurd rfl h
      | false => exact joinSpan_w lo hi lo' hi' w
end Go.Proofs.YtmapdpcfanecdaaGreat

namespace Go.Proofs.YtmapdpcfanecdaaGreat
set_option linter.unusedVariables false
set_option linter.unusedSimpArgs false
open Go.RowKit

set_option maxHeartbeats 1000000 in
theorem heldOf_null (g : Gs) (ss : Option Addr) (gc : Nat) (vn site : Int) (w : World) (hs : IntsAt w ss g.s) (hgl : g.s.length ≤ 9223372036854775807) :
    Calls Tryz.prog 15 #[gv g ss gc, .agg #[.int .i64 0, .int .i64 vn], .int .i64 site] w fun e w' => e = .returned (.bool (g.n)) ∧ Below w.heap.size w w' := by
  go_enter Tryz.func15, Tryz.ntmps15
  go_wp2
  go_ret
  exact ⟨rfl, by go_grown⟩
set_option maxHeartbeats 1000000 in
theorem heldOf_num (g : Gs) (ss : Option Addr) (gc : Nat) (vn site : Int) (w : World) (hs : IntsAt w ss g.s) (hgl : g.s.length ≤ 9223372036854775807) :
    Calls Tryz.prog 15 #[gv g ss gc, .agg #[.int .i64 1, .int .i64 vn], .int .i64 site] w fun e w' => e = .returned (.bool (g.sp.has vn)) ∧ Below w.heap.size w w' := by
  have HI := hideH (fun w => inSpan_any g.sp vn w)
  generalize g.sp.has vn = r at *
  go_enter Tryz.func15, Tryz.ntmps15
  go_wp2_with (go_at_call 51; fail)
  refine (HI.out _).mono ?_
  rintro e w1 ⟨rfl, hb1⟩
  go_wp2
  go_ret
  exact ⟨rfl, (Below.trans (by go_grown) (hb1.mono (by simp; omega)))⟩
set_option maxHeartbeats 1000000 in
theorem heldOf_thing (g : Gs) (ss : Option Addr) (gc : Nat) (vn site : Int) (w : World) (hs : IntsAt w ss g.s) (hgl : g.s.length ≤ 9223372036854775807) :
    Calls Tryz.prog 15 #[gv g ss gc, .agg #[.int .i64 3, .int .i64 vn], .int .i64 site] w fun e w' => e = .returned (.bool (g.s.contains site)) ∧ Below w.heap.size w w' := by
  have I0 := (hs.alloc (.cells #[.bool g.n, .bool g.sp.n, .int .i64 g.sp.lo, .int .i64 g.sp.hi, .bool g.t, .bool g.f, .slice ss g.s.length gc] 29)).alloc (.cells #[.int .i64 3, .int .i64 vn] 31)
  go_enter Tryz.func15, Tryz.ntmps15
  go_wp2_with (go_at_call 49; fail)
  refine (hasR_any site ss gc g.s _ hgl I0).mono ?_
  rintro e w1 ⟨rfl, rfl⟩
  go_wp2
  go_ret
  exact ⟨ret_bool (by simp), by go_grown⟩
set_option maxHeartbeats 1000000 in
theorem heldOf_truth (g : Gs) (ss : Option Addr) (gc : Nat) (vn site : Int) (w : World) (hs : IntsAt w ss g.s) (hgl : g.s.length ≤ 9223372036854775807) :
    Calls Tryz.prog 15 #[gv g ss gc, .agg #[.int .i64 2, .int .i64 vn], .int .i64 site] w fun e w' => e = .returned (.bool ((g.t && decide (vn = 1)) || (g.f && decide (vn = 0)))) ∧ Below w.heap.size w w' := by
  obtain ⟨n, sp, t, f, sl⟩ := g
  have HR : Hid (∀ r, r = ((t && decide (vn = 1)) || (f && decide (vn = 0))) → ((t && decide (vn = 1)) || (f && decide (vn = 0))) = r) := fun r h => h.symm
  generalize hr : ((t && decide (vn = 1)) || (f && decide (vn = 0))) = res
  have H2 := hideH hr
  clear hr HR
  by_cases h1 : vn = 1
  · subst h1
    go_enter Tryz.func15, Tryz.ntmps15
    go_wp2
    go_ret
    exact ⟨ret_bool (by rw [← H2.out]; simp), by go_grown⟩
  have e1 : (vn == 1) = false := by simpa using h1
  by_cases h0 : vn = 0
  · subst h0
    go_enter Tryz.func15, Tryz.ntmps15
    go_wp2
    go_ret
    exact ⟨ret_bool (by rw [← H2.out]; simp), by go_grown⟩
  have e0 : (vn == 0) = false := by simpa using h0
  go_enter Tryz.func15, Tryz.ntmps15
  go_wp2
  go_ret
  exact ⟨ret_bool (by rw [← H2.out]; simp [h0, h1]), by go_grown⟩
set_option maxHeartbeats 2000000 in
set_option maxRecDepth 10000 in
theorem truthOf_any (g : Gs) (ss : Option Addr) (gc : Nat) (w : World) :
    Calls Tryz.prog 16 #[gv g ss gc] w fun e w' => e = .returned (.tuple #[.bool (yesGs g), .bool (noGs g)]) ∧ Below w.heap.size w w' := by
  have HI := hideH (fun w => inSpan_any g.sp 0 w)
  have HY : Hid (yesGs g = ((!g.sp.n && !decide (g.sp.lo = 0 ∧ g.sp.hi = 0)) || (g.t || decide (0 < g.s.length)))) := rfl
  have HN : Hid (noGs g = (g.sp.has 0 || (g.n || g.f))) := rfl
  generalize yesGs g = yy at *
  generalize noGs g = nn at *
  generalize g.sp.has 0 = z at *
  obtain ⟨n, ⟨sn, lo, hi⟩, t, f, s⟩ := g
  cases n
  · cases f
    · cases t
      · by_cases hl : 0 < s.length
        · have hl' : (0 : Int) < (s.length : Int) := by omega
          go_enter Tryz.func16, Tryz.ntmps16
          go_wp2_with (go_at_call 51; fail)
          refine (HI.out _).mono ?_
          rintro e w1 ⟨rfl, hb1⟩
          go_wp2
          go_ret2
          exact ⟨ret_t2 (by rw [HY.out]; simp_all) (by rw [HN.out]; simp), Below.trans (by go_grown) (hb1.mono (by simp))⟩
        · have hl' : ¬ (0 : Int) < (s.length : Int) := by omega
          cases sn
          · by_cases h1 : lo = 0
            · subst h1
              by_cases h2 : hi = 0
              · subst h2
                go_enter Tryz.func16, Tryz.ntmps16
                go_wp2_with (go_at_call 51; fail)
                refine (HI.out _).mono ?_
                rintro e w1 ⟨rfl, hb1⟩
                go_wp2
                go_ret2
                exact ⟨ret_t2 (by rw [HY.out]; simp_all) (by rw [HN.out]; simp), Below.trans (by go_grown) (hb1.mono (by simp))⟩
              · have h2' : (hi != 0) = true := by simpa using h2
                go_enter Tryz.func16, Tryz.ntmps16
                go_wp2_with (go_at_call 51; fail)
                refine (HI.out _).mono ?_
                rintro e w1 ⟨rfl, hb1⟩
                go_wp2
                go_ret2
                exact ⟨ret_t2 (by rw [HY.out]; simp_all) (by rw [HN.out]; simp), Below.trans (by go_grown) (hb1.mono (by simp))⟩
            · have h1' : (lo != 0) = true := by simpa using h1
              go_enter Tryz.func16, Tryz.ntmps16
              go_wp2_with (go_at_call 51; fail)
              refine (HI.out _).mono ?_
              rintro e w1 ⟨rfl, hb1⟩
              go_wp2
              go_ret2
              exact ⟨ret_t2 (by rw [HY.out]; simp_all) (by rw [HN.out]; simp), Below.trans (by go_grown) (hb1.mono (by simp))⟩
          · go_enter Tryz.func16, Tryz.ntmps16
            go_wp2_with (go_at_call 51; fail)
            refine (HI.out _).mono ?_
            rintro e w1 ⟨rfl, hb1⟩
            go_wp2
            go_ret2
            exact ⟨ret_t2 (by rw [HY.out]; simp_all) (by rw [HN.out]; simp), Below.trans (by go_grown) (hb1.mono (by simp))⟩
      · go_enter Tryz.func16, Tryz.ntmps16
        go_wp2_with (go_at_call 51; fail)
        refine (HI.out _).mono ?_
        rintro e w1 ⟨rfl, hb1⟩
        go_wp2
        go_ret2
        exact ⟨ret_t2 (by rw [HY.out]; simp_all) (by rw [HN.out]; simp), Below.trans (by go_grown) (hb1.mono (by simp))⟩
    · cases t
      · by_cases hl : 0 < s.length
        · have hl' : (0 : Int) < (s.length : Int) := by omega
          go_enter Tryz.func16, Tryz.ntmps16
          go_wp2
          go_ret2
          exact ⟨ret_t2 (by rw [HY.out]; simp_all) (by rw [HN.out]; simp), by go_grown⟩
        · have hl' : ¬ (0 : Int) < (s.length : Int) := by omega
          cases sn
          · by_cases h1 : lo = 0
            · subst h1
              by_cases h2 : hi = 0
              · subst h2
                go_enter Tryz.func16, Tryz.ntmps16
                go_wp2
                go_ret2
                exact ⟨ret_t2 (by rw [HY.out]; simp_all) (by rw [HN.out]; simp), by go_grown⟩
              · have h2' : (hi != 0) = true := by simpa using h2
                go_enter Tryz.func16, Tryz.ntmps16
                go_wp2
                go_ret2
                exact ⟨ret_t2 (by rw [HY.out]; simp_all) (by rw [HN.out]; simp), by go_grown⟩
            · have h1' : (lo != 0) = true := by simpa using h1
              go_enter Tryz.func16, Tryz.ntmps16
              go_wp2
              go_ret2
              exact ⟨ret_t2 (by rw [HY.out]; simp_all) (by rw [HN.out]; simp), by go_grown⟩
          · go_enter Tryz.func16, Tryz.ntmps16
            go_wp2
            go_ret2
            exact ⟨ret_t2 (by rw [HY.out]; simp_all) (by rw [HN.out]; simp), by go_grown⟩
      · go_enter Tryz.func16, Tryz.ntmps16
        go_wp2
        go_ret2
        exact ⟨ret_t2 (by rw [HY.out]; simp_all) (by rw [HN.out]; simp), by go_grown⟩
  · cases t
    · by_cases hl : 0 < s.length
      · have hl' : (0 : Int) < (s.length : Int) := by omega
        go_enter Tryz.func16, Tryz.ntmps16
        go_wp2
        go_ret2
        exact ⟨ret_t2 (by rw [HY.out]; simp_all) (by rw [HN.out]; simp), by go_grown⟩
      · have hl' : ¬ (0 : Int) < (s.length : Int) := by omega
        cases sn
        · by_cases h1 : lo = 0
          · subst h1
            by_cases h2 : hi = 0
            · subst h2
              go_enter Tryz.func16, Tryz.ntmps16
              go_wp2
              go_ret2
              exact ⟨ret_t2 (by rw [HY.out]; simp_all) (by rw [HN.out]; simp), by go_grown⟩
            · have h2' : (hi != 0) = true := by simpa using h2
              go_enter Tryz.func16, Tryz.ntmps16
              go_wp2
              go_ret2
              exact ⟨ret_t2 (by rw [HY.out]; simp_all) (by rw [HN.out]; simp), by go_grown⟩
          · have h1' : (lo != 0) = true := by simpa using h1
            go_enter Tryz.func16, Tryz.ntmps16
            go_wp2
            go_ret2
            exact ⟨ret_t2 (by rw [HY.out]; simp_all) (by rw [HN.out]; simp), by go_grown⟩
        · go_enter Tryz.func16, Tryz.ntmps16
          go_wp2
          go_ret2
          exact ⟨ret_t2 (by rw [HY.out]; simp_all) (by rw [HN.out]; simp), by go_grown⟩
    · go_enter Tryz.func16, Tryz.ntmps16
      go_wp2
      go_ret2
      exact ⟨ret_t2 (by rw [HY.out]; simp_all) (by rw [HN.out]; simp), by go_grown⟩

theorem two_at (w : World) (g : Gs) (ss : Option Addr) (gc : Nat) (h : Gs) (st : Option Addr) (hc : Nat) :
    GuAt ((w.alloc (.cells #[.bool g.n, .bool g.sp.n, .int .i64 g.sp.lo, .int .i64 g.sp.hi, .bool g.t, .bool g.f, .slice ss g.s.length gc] 29)).alloc (.cells #[.bool h.n, .bool h.sp.n, .int .i64 h.sp.lo, .int .i64 h.sp.hi, .bool h.t, .bool h.f, .slice st h.s.length hc] 29)) w.heap.size 0 g ss gc ∧ GuAt ((w.alloc (.cells #[.bool g.n, .bool g.sp.n, .int .i64 g.sp.lo, .int .i64 g.sp.hi, .bool g.t, .bool g.f, .slice ss g.s.length gc] 29)).alloc (.cells #[.bool h.n, .bool h.sp.n, .int .i64 h.sp.lo, .int .i64 h.sp.hi, .bool h.t, .bool h.f, .slice st h.s.length hc] 29)) (w.heap.size + 1) 0 h st hc ∧ Below w.heap.size w ((w.alloc (.cells #[.bool g.n, .bool g.sp.n, .int .i64 g.sp.lo, .int .i64 g.sp.hi, .bool g.t, .bool g.f, .slice ss g.s.length gc] 29)).alloc (.cells #[.bool h.n, .bool h.sp.n, .int .i64 h.sp.lo, .int .i64 h.sp.hi, .bool h.t, .bool h.f, .slice st h.s.length hc] 29)) := by
  refine ⟨(GuAt.new w g ss gc).alloc _, ?_, by go_grown⟩
  have := GuAt.new (w.alloc (.cells #[.bool g.n, .bool g.sp.n, .int .i64 g.sp.lo, .int .i64 g.sp.hi, .bool g.t, .bool g.f, .slice ss g.s.length gc] 29)) h st hc
  rw [World.size_alloc] at this
  exact this

set_option maxHeartbeats 2000000 in
set_option maxRecDepth 10000 in
/-- Two guesses that read alike are the same. -/
theorem sameGuess_any (g : Gs) (ss : Option Addr) (gc : Nat) (st : Option Addr) (hc : Nat) (w : World) (hs : IntsAt w ss g.s) (ht : IntsAt w st g.s) (hgl : g.s.length ≤ maxLen) :
    Calls Tryz.prog 53 #[gv g ss gc, gv g st hc] w fun e w' => e = .returned (.bool true) ∧ Below w.heap.size w w' := by
  obtain ⟨G0, H0, B0⟩ := two_at w g ss gc g st hc
  have I0 := hs.below B0 (Nat.le_refl _)
  have J0 := ht.below B0 (Nat.le_refl _)
  obtain ⟨n, sp, t, f, sl⟩ := g
  go_enter Tryz.func53, Tryz.ntmps53
  go_wp2_with (go_at_call 95; fail)
  refine (sameInts_any ss st gc hc sl _ hgl I0 J0).mono ?_
  rintro e w1 ⟨rfl, hb1⟩
  go_wp2
  go_ret
  exact ⟨rfl, B0.trans (hb1.mono (by simp; omega))⟩
end Go.Proofs.YtmapdpcfanecdaaGreat
