/- Walks over package span: what is reckoned: add. -/
import Derived.Test.YtmapdpcfanecdabGreatKstpxp09
set_option linter.unusedSimpArgs false
set_option linter.unusedVariables false
namespace Go.Proofs.YtmapdpcfanecdabGreat
section
set_option maxHeartbeats 2000000
set_option maxRecDepth 100000
open Go.RowKit

theorem reckon_add (lo hi lo' hi' : Int) (w : World) (h1 : wrap64 (lo + lo') = lo + lo') (h2 : wrap64 (lo + hi') = lo + hi') (h3 : wrap64 (hi + lo') = hi + lo') (h4 : wrap64 (hi + hi') = hi + hi') :
  Calls Tryz.prog 145 #[sv ⟨false, lo, hi⟩, sv ⟨false, lo', hi'⟩, .func (.func 146) #[] #[]] w fun e w' => e = .returned (sv (hull (lo + lo') (lo + hi') (hi + lo') (hi + hi'))) ∧ Below w.heap.size w w' := by
 have k1 : ∀ w : World, Calls Tryz.prog 146 #[.int .i64 lo, .int .i64 lo'] w fun e w' => e = .returned (.int .i64 (lo + lo')) ∧ ∃ n, w' = w.drewN n := fun w => (add_any lo lo' w h1).mono (by rintro e w' ⟨rfl, rfl⟩; exact ⟨rfl, 0, rfl⟩)
 have k2 : ∀ w : World, Calls Tryz.prog 146 #[.int .i64 lo, .int .i64 hi'] w fun e w' => e = .returned (.int .i64 (lo + hi')) ∧ ∃ n, w' = w.drewN n := fun w => (add_any lo hi' w h2).mono (by rintro e w' ⟨rfl, rfl⟩; exact ⟨rfl, 0, rfl⟩)
 have k3 : ∀ w : World, Calls Tryz.prog 146 #[.int .i64 hi, .int .i64 lo'] w fun e w' => e = .returned (.int .i64 (hi + lo')) ∧ ∃ n, w' = w.drewN n := fun w => (add_any hi lo' w h3).mono (by rintro e w' ⟨rfl, rfl⟩; exact ⟨rfl, 0, rfl⟩)
 have k4 : ∀ w : World, Calls Tryz.prog 146 #[.int .i64 hi, .int .i64 hi'] w fun e w' => e = .returned (.int .i64 (hi + hi')) ∧ ∃ n, w' = w.drewN n := fun w => (add_any hi hi' w h4).mono (by rintro e w' ⟨rfl, rfl⟩; exact ⟨rfl, 0, rfl⟩)
 generalize lo + lo' = a at k1 ⊢
 generalize lo + hi' = b at k2 ⊢
 generalize hi + lo' = c at k3 ⊢
 generalize hi + hi' = d at k4 ⊢
 exact prf_af8970
end
end Go.Proofs.YtmapdpcfanecdabGreat
