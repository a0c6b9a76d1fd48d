/- Walks over the document's own answers: guesses: HeldOf, TruthOf, SameGuess. -/
import Derived.Test.YtmapdpcfanecdaaGreatKguxp35
import Derived.Test.YtmapdpcfanecdaaGreatKguxp36
import Derived.Test.YtmapdpcfanecdaaGreatKguxp43
import Derived.Test.YtmapdpcfanecdaaGreatKguxp31
namespace Go.Proofs.YtmapdpcfanecdaaGreat
set_option linter.unusedVariables false
set_option linter.unusedSimpArgs false
open Go.RowKit

set_option maxHeartbeats 1000000 in
theorem heldOf_null (g : Gs) (ss : Option Addr) (gc : Nat) (vn site : Int) (w : World) (hs : IntsAt w ss g.s) (hgl : g.s.length ≤ 9223372036854775807) :
    Calls Tryz.prog 15 #[gv g ss gc, .agg #[.int .i64 0, .int .i64 vn], .int .i64 site] w fun e w' => e = .returned (.bool (g.n)) ∧ Below w.heap.size w w' := by
  go_enter Tryz.func15, Tryz.ntmps15
  go_wp2
  go_ret
  exact ⟨rfl, by go_grown⟩
set_option maxHeartbeats 1000000 in
theorem heldOf_num (g : Gs) (ss : Option Addr) (gc : Nat) (vn site : Int) (w : World) (hs : IntsAt w ss g.s) (hgl : g.s.length ≤ 9223372036854775807) :
    Calls Tryz.prog 15 #[gv g ss gc, .agg #[.int .i64 1, .int .i64 vn], .int .i64 site] w fun e w' => e = .returned (.bool (g.sp.has vn)) ∧ Below w.heap.size w w' := by
  have HI := hideH (fun w => inSpan_any g.sp vn w)
  generalize g.sp.has vn = r at *
  go_enter Tryz.func15, Tryz.ntmps15
  go_wp2_with (go_at_call 51; fail)
  refine (HI.out _).mono ?_
  rintro e w1 ⟨rfl, hb1⟩
  go_wp2
  go_ret
  exact ⟨rfl, (Below.trans (by go_grown) (hb1.mono (by simp; omega)))⟩
set_option maxHeartbeats 1000000 in
theorem heldOf_thing (g : Gs) (ss : Option Addr) (gc : Nat) (vn site : Int) (w : World) (hs : IntsAt w ss g.s) (hgl : g.s.length ≤ 9223372036854775807) :
    Calls Tryz.prog 15 #[gv g ss gc, .agg #[.int .i64 3, .int .i64 vn], .int .i64 site] w fun e w' => e = .returned (.bool (g.s.contains site)) ∧ Below w.heap.size w w' := by
  have I0 := (hs.alloc (.cells #[.bool g.n, .bool g.sp.n, .int .i64 g.sp.lo, .int .i64 g.sp.hi, .bool g.t, .bool g.f, .slice ss g.s.length gc] 29)).alloc (.cells #[.int .i64 3, .int .i64 vn] 31)
  go_enter Tryz.func15, Tryz.ntmps15
  go_wp2_with (go_at_call 49; fail)
  refine (hasR_any site ss gc g.s _ hgl I0).mono ?_
  rintro e w1 ⟨rfl, rfl⟩
  go_wp2
  go_ret
  exact ⟨ret_bool (by simp), by go_grown⟩
set_option maxHeartbeats 1000000 in
theorem heldOf_truth (g : Gs) (ss : Option Addr) (gc : Nat) (vn site : Int) (w : World) (hs : IntsAt w ss g.s) (hgl : g.s.length ≤ 9223372036854775807) :
    Calls Tryz.prog 15 #[gv g ss gc, .agg #[.int .i64 2, .int .i64 vn], .int .i64 site] w fun e w' => e = .returned (.bool ((g.t && decide (vn = 1)) || (g.f && decide (vn = 0)))) ∧ Below w.heap.size w w' := by
  obtain ⟨n, sp, t, f, sl⟩ := g
  have HR : Hid (∀ r, r = ((t && decide (vn = 1)) || (f && decide (vn = 0))) → ((t && decide (vn = 1)) || (f && decide (vn = 0))) = r) := fun r h => h.symm
  generalize hr : ((t && decide (vn = 1)) || (f && decide (vn = 0))) = res
  have H2 := hideH hr
  clear hr HR
  by_cases h1 : vn = 1
  · subst h1
    go_enter Tryz.func15, Tryz.ntmps15
    go_wp2
    go_ret
    exact ⟨ret_bool (by rw [← H2.out]; simp), by go_grown⟩
  have e1 : (vn == 1) = false := by simpa using h1
  by_cases h0 : vn = 0
  · subst h0
    go_enter Tryz.func15, Tryz.ntmps15
    go_wp2
    go_ret
    exact ⟨ret_bool (by rw [← H2.out]; simp), by go_grown⟩
  have e0 : (vn == 0) = false := by simpa using h0
  go_enter Tryz.func15, Tryz.ntmps15
  go_wp2
  go_ret
  exact ⟨ret_bool (by rw [← H2.out]; simp [h0, h1]), by go_grown⟩
set_option maxHeartbeats 2000000 in
set_option maxRecDepth 10000 in
theorem truthOf_any (g : Gs) (ss : Option Addr) (gc : Nat) (w : World) :
    Calls Tryz.prog 16 #[gv g ss gc] w fun e w' => e = .returned (.tuple #[.bool (yesGs g), .bool (noGs g)]) ∧ Below w.heap.size w w' := by
  have HI := hideH (fun w => inSpan_any g.sp 0 w)
  have HY : Hid (yesGs g = ((!g.sp.n && !decide (g.sp.lo = 0 ∧ g.sp.hi = 0)) || (g.t || decide (0 < g.s.length)))) := rfl
  have HN : Hid (noGs g = (g.sp.has 0 || (g.n || g.f))) := rfl
  generalize yesGs g = yy at *
  generalize noGs g = nn at *
  generalize g.sp.has 0 = z at *
  obtain ⟨n, ⟨sn, lo, hi⟩, t, f, s⟩ := g
  cases n
  · cases f
    · cases t
      · by_cases hl : 0 < s.length
        · have hl' : (0 : Int) < (s.length : Int) := by omega
          go_enter Tryz.func16, Tryz.ntmps16
          go_wp2_with (go_at_call 51; fail)
          refine (HI.out _).mono ?_
          rintro e w1 ⟨rfl, hb1⟩
          go_wp2
          go_ret2
          exact ⟨ret_t2 (by rw [HY.out]; simp_all) (by rw [HN.out]; simp), Below.trans (by go_grown) (hb1.mono (by simp))⟩
        · have hl' : ¬ (0 : Int) < (s.length : Int) := by omega
          cases sn
          · by_cases h1 : lo = 0
            · subst h1
              by_cases h2 : hi = 0
              · subst h2
                go_enter Tryz.func16, Tryz.ntmps16
                go_wp2_with (go_at_call 51; fail)
                refine (HI.out _).mono ?_
                rintro e w1 ⟨rfl, hb1⟩
                go_wp2
                go_ret2
                exact ⟨ret_t2 (by rw [HY.out]; simp_all) (by rw [HN.out]; simp), Below.trans (by go_grown) (hb1.mono (by simp))⟩
              · have h2' : (hi != 0) = true := by simpa using h2
                go_enter Tryz.func16, Tryz.ntmps16
                go_wp2_with (go_at_call 51; fail)
                refine (HI.out _).mono ?_
                rintro e w1 ⟨rfl, hb1⟩
                go_wp2
                go_ret2
                exact ⟨ret_t2 (by rw [HY.out]; simp_all) (by rw [HN.out]; simp), Below.trans (by go_grown) (hb1.mono (by simp))⟩
            · have h1' : (lo != 0) = true := by simpa using h1
              go_enter Tryz.func16, Tryz.ntmps16
              go_wp2_with (go_at_call 51; fail)
              refine (HI.out _).mono ?_
              rintro e w1 ⟨rfl, hb1⟩
              go_wp2
              go_ret2
              exact ⟨ret_t2 (by rw [HY.out]; simp_all) (by rw [HN.out]; simp), Below.trans (by go_grown) (hb1.mono (by simp))⟩
          · go_enter Tryz.func16, Tryz.ntmps16
            go_wp2_with (go_at_call 51; fail)
            refine (HI.out _).mono ?_
            rintro e w1 ⟨rfl, hb1⟩
            go_wp2
            go_ret2
            exact ⟨ret_t2 (by rw [HY.out]; simp_all) (by rw [HN.out]; simp), Below.trans (by go_grown) (hb1.mono (by simp))⟩
      · go_enter Tryz.func16, Tryz.ntmps16
        go_wp2_with (go_at_call 51; fail)
        refine (HI.out _).mono ?_
        rintro e w1 ⟨rfl, hb1⟩
        go_wp2
        go_ret2
        exact ⟨ret_t2 (by rw [HY.out]; simp_all) (by rw [HN.out]; simp), Below.trans (by go_grown) (hb1.mono (by simp))⟩
    · cases t
      · by_cases hl : 0 < s.length
        · have hl' : (0 : Int) < (s.length : Int) := by omega
          go_enter Tryz.func16, Tryz.ntmps16
          go_wp2
          go_ret2
          exact ⟨ret_t2 (by rw [HY.out]; simp_all) (by rw [HN.out]; simp), by go_grown⟩
        · have hl' : ¬ (0 : Int) < (s.length : Int) := by omega
          cases sn
          · by_cases h1 : lo = 0
            · subst h1
              by_cases h2 : hi = 0
              · subst h2
                go_enter Tryz.func16, Tryz.ntmps16
                go_wp2
                go_ret2
                exact ⟨ret_t2 (by rw [HY.out]; simp_all) (by rw [HN.out]; simp), by go_grown⟩
              · have h2' : (hi != 0) = true := by simpa using h2
                go_enter Tryz.func16, Tryz.ntmps16
                go_wp2
                go_ret2
                exact ⟨ret_t2 (by rw [HY.out]; simp_all) (by rw [HN.out]; simp), by go_grown⟩
            · have h1' : (lo != 0) = true := by simpa using h1
              go_enter Tryz.func16, Tryz.ntmps16
              go_wp2
              go_ret2
              exact ⟨ret_t2 (by rw [HY.out]; simp_all) (by rw [HN.out]; simp), by go_grown⟩
          · go_enter Tryz.func16, Tryz.ntmps16
            go_wp2
            go_ret2
            exact ⟨ret_t2 (by rw [HY.out]; simp_all) (by rw [HN.out]; simp), by go_grown⟩
      · go_enter Tryz.func16, Tryz.ntmps16
        go_wp2
        go_ret2
        exact ⟨ret_t2 (by rw [HY.out]; simp_all) (by rw [HN.out]; simp), by go_grown⟩
  · cases t
    · by_cases hl : 0 < s.length
      · have hl' : (0 : Int) < (s.length : Int) := by omega
        go_enter Tryz.func16, Tryz.ntmps16
        go_wp2
        go_ret2
        exact ⟨ret_t2 (by rw [HY.out]; simp_all) (by rw [HN.out]; simp), by go_grown⟩
      · have hl' : ¬ (0 : Int) < (s.length : Int) := by omega
        cases sn
        · by_cases h1 : lo = 0
          · subst h1
            by_cases h2 : hi = 0
            · subst h2
              go_enter Tryz.func16, Tryz.ntmps16
              go_wp2
              go_ret2
              exact ⟨ret_t2 (by rw [HY.out]; simp_all) (by rw [HN.out]; simp), by go_grown⟩
            · have h2' : (hi != 0) = true := by simpa using h2
              go_enter Tryz.func16, Tryz.ntmps16
              go_wp2
              go_ret2
              exact ⟨ret_t2 (by rw [HY.out]; simp_all) (by rw [HN.out]; simp), by go_grown⟩
          · have h1' : (lo != 0) = true := by simpa using h1
            go_enter Tryz.func16, Tryz.ntmps16
            go_wp2
            go_ret2
            exact ⟨ret_t2 (by rw [HY.out]; simp_all) (by rw [HN.out]; simp), by go_grown⟩
        · go_enter Tryz.func16, Tryz.ntmps16
          go_wp2
          go_ret2
          exact ⟨ret_t2 (by rw [HY.out]; simp_all) (by rw [HN.out]; simp), by go_grown⟩
    · go_enter Tryz.func16, Tryz.ntmps16
      go_wp2
      go_ret2
      exact ⟨ret_t2 (by rw [HY.out]; simp_all) (by rw [HN.out]; simp), by go_grown⟩

theorem two_at (w : World) (g : Gs) (ss : Option Addr) (gc : Nat) (h : Gs) (st : Option Addr) (hc : Nat) :
    GuAt ((w.alloc (.cells #[.bool g.n, .bool g.sp.n, .int .i64 g.sp.lo, .int .i64 g.sp.hi, .bool g.t, .bool g.f, .slice ss g.s.length gc] 29)).alloc (.cells #[.bool h.n, .bool h.sp.n, .int .i64 h.sp.lo, .int .i64 h.sp.hi, .bool h.t, .bool h.f, .slice st h.s.length hc] 29)) w.heap.size 0 g ss gc ∧ GuAt ((w.alloc (.cells #[.bool g.n, .bool g.sp.n, .int .i64 g.sp.lo, .int .i64 g.sp.hi, .bool g.t, .bool g.f, .slice ss g.s.length gc] 29)).alloc (.cells #[.bool h.n, .bool h.sp.n, .int .i64 h.sp.lo, .int .i64 h.sp.hi, .bool h.t, .bool h.f, .slice st h.s.length hc] 29)) (w.heap.size + 1) 0 h st hc ∧ Below w.heap.size w ((w.alloc (.cells #[.bool g.n, .bool g.sp.n, .int .i64 g.sp.lo, .int .i64 g.sp.hi, .bool g.t, .bool g.f, .slice ss g.s.length gc] 29)).alloc (.cells #[.bool h.n, .bool h.sp.n, .int .i64 h.sp.lo, .int .i64 h.sp.hi, .bool h.t, .bool h.f, .slice st h.s.length hc] 29)) := by
  refine ⟨(GuAt.new w g ss gc).alloc _, ?_, by go_grown⟩
  have := GuAt.new (w.alloc (.cells #[.bool g.n, .bool g.sp.n, .int .i64 g.sp.lo, .int .i64 g.sp.hi, .bool g.t, .bool g.f, .slice ss g.s.length gc] 29)) h st hc
  rw [World.size_alloc] at this
  exact this

set_option maxHeartbeats 2000000 in
set_option maxRecDepth 10000 in
/-- Two guesses that read alike are the same. -/
theorem sameGuess_any (g : Gs) (ss : Option Addr) (gc : Nat) (st : Option Addr) (hc : Nat) (w : World) (hs : IntsAt w ss g.s) (ht : IntsAt w st g.s) (hgl : g.s.length ≤ maxLen) :
    Calls Tryz.prog 53 #[gv g ss gc, gv g st hc] w fun e w' => e = .returned (.bool true) ∧ Below w.heap.size w w' := by
  obtain ⟨G0, H0, B0⟩ := two_at w g ss gc g st hc
  have I0 := hs.below B0 (Nat.le_refl _)
  have J0 := ht.below B0 (Nat.le_refl _)
  obtain ⟨n, sp, t, f, sl⟩ := g
  go_enter Tryz.func53, Tryz.ntmps53
  go_wp2_with (go_at_call 95; fail)
  refine (sameInts_any ss st gc hc sl _ hgl I0 J0).mono ?_
  rintro e w1 ⟨rfl, hb1⟩
  go_wp2
  go_ret
  exact ⟨rfl, B0.trans (hb1.mono (by simp; omega))⟩
end Go.Proofs.YtmapdpcfanecdaaGreat
