/- The document's own answer: two pictures joined, whole. -/
import Derived.Test.YtmapdpcfanecdaaGreatKpicxp32
import Derived.Test.YtmapdpcfanecdaaGreatKpicxp07
namespace Go.Proofs.YtmapdpcfanecdaaGreat
set_option linter.unusedVariables false
set_option linter.unusedSimpArgs false
open Go.RowKit
attribute [local go_sem ↓] Go.wp_at_zero Go.wp_at_succ

set_option maxHeartbeats 2000000 in
set_option maxRecDepth 10000 in
theorem joinPicture_leftE (wide : Bool) (x y : Pic) (vs1 : Option Addr) (vc1 : Nat) (fs1 : Option Addr) (fc1 : Nat) (vs2 : Option Addr) (vc2 : Nat) (fs2 : Option Addr) (fc2 : Nat) (w : World) (hn : x.none = true) :
    Calls Tryz.prog 29 #[xv x vs1 vc1 fs1 fc1, xv y vs2 vc2 fs2 fc2, .bool wide] w fun e w' => e = .returned (xv y vs2 vc2 fs2 fc2) ∧ Below w.heap.size w w' := by
  obtain ⟨xn, vx, fx⟩ := x
  obtain ⟨yn, vy, fy⟩ := y
  simp only at hn
  subst hn
  go_enter Tryz.func29, Tryz.ntmps29
  go_wp2
  refine bodyPost_ret (v := .agg #[.bool yn, .slice vs2 vy.length vc2, .slice fs2 fy.length fc2]) (by simp [results, Tryz.results29, go_sem]) rfl ⟨rfl, ?_⟩
  go_grown
set_option maxHeartbeats 2000000 in
set_option maxRecDepth 10000 in
theorem joinPicture_rightE (wide : Bool) (x y : Pic) (vs1 : Option Addr) (vc1 : Nat) (fs1 : Option Addr) (fc1 : Nat) (vs2 : Option Addr) (vc2 : Nat) (fs2 : Option Addr) (fc2 : Nat) (w : World) (hm : x.none = false) (hn : y.none = true) :
    Calls Tryz.prog 29 #[xv x vs1 vc1 fs1 fc1, xv y vs2 vc2 fs2 fc2, .bool wide] w fun e w' => e = .returned (xv x vs1 vc1 fs1 fc1) ∧ Below w.heap.size w w' := by
  obtain ⟨xn, vx, fx⟩ := x
  obtain ⟨yn, vy, fy⟩ := y
  simp only at hn hm
  subst hn hm
  go_enter Tryz.func29, Tryz.ntmps29
  go_wp2
  refine bodyPost_ret (v := .agg #[.bool false, .slice vs1 vx.length vc1, .slice fs1 fx.length fc1]) (by simp [results, Tryz.results29, go_sem]) rfl ⟨rfl, ?_⟩
  go_grown
/-- Two pictures that are right, and not none: as many guesses, each of them right. -/
theorem ckPic_form {V F : Int} {c : List Ins} {x : Pic} (h : ckPic V F c x = 0) (hn : x.none = false) : (x.vars.length : Int) = V ∧ x.flds.length = c.length ∧ (∀ r ∈ x.flds, (r.length : Int) = F) ∧ (∀ g ∈ x.vars, ckGs c g = 0) ∧ ∀ r ∈ x.flds, ∀ g ∈ r, ckGs c g = 0 := by
  unfold ckPic at h
  split at h
  · cases h
  · rename_i h1
    split at h
    · contradiction
    · rename_i h2
      have h2' : ckGss c (allPic x) = 0 := by simpa using h2
      have hall := ckGss_all h2'
      have hf : formedPic V F c x = true := by simpa using h1
      unfold formedPic at hf
      rw [hn] at hf
      simp only [Bool.false_eq_true, if_false, Bool.and_eq_true, decide_eq_true_eq, Bool.not_eq_true', List.any_eq_false] at hf
      refine ⟨hf.1, hf.2.1, fun r hr => by have := hf.2.2 r hr; simpa using this, fun g hg => hall g ?_, fun r hr g hg => hall g ?_⟩
      · unfold allPic; exact List.mem_append_left _ hg
      · unfold allPic; exact List.mem_append_right _ (List.mem_flatten.2 ⟨r, hr, hg⟩)
theorem ckAllG_pair {V F : Int} {c : List Ins} {g h : Gs} (h0 : ckProg V F c = 0) (hg : ckGs c g = 0) (hh : ckGs c h = 0) : ckAllG V F c [g, h] = 0 := by
  unfold ckAllG
  rw [if_pos h0]
  unfold ckGss
  rw [if_pos hg]
  unfold ckGss
  rw [if_pos hh]
  rfl
def RightG (c : List Ins) (g h : Gs) : Prop := ckGs c g = 0 ∧ ckGs c h = 0
theorem joinC_of {V F : Int} {c : List Ins} (h0 : ckProg V F c = 0) : JoinC false (togGs joinSp) (RightG c) := by
  intro g ss gc h st hc wx hs ht hR
  have hck := ckAllG_pair h0 hR.1 hR.2
  obtain ⟨hg, hh⟩ := ckAllG_sites hck
  have l1 := rising_len hg.2 hg.1
  have l2 := rising_len hh.2 hh.1
  refine (joinGuess_join g ss gc h st hc wx hs (by omega) ht (by omega)).mono ?_
  rintro e w' ⟨v, rfl, hown, hb⟩
  obtain ⟨js, jc, rfl, hi, k1, k2, hf⟩ := IntsAt.own hown
  rw [← sitesOf_eq g h hg.1 hh.1] at hi k1 ⊢
  exact ⟨js, jc, rfl, hi, k1, k2, hf, hb⟩
theorem wideC_of {V F : Int} {c : List Ins} (h0 : ckProg V F c = 0) : JoinC true (togGs wideSp) (RightG c) := by
  intro g ss gc h st hc wx hs ht hR
  have hck := ckAllG_pair h0 hR.1 hR.2
  obtain ⟨hg, hh⟩ := ckAllG_sites hck
  have l1 := rising_len hg.2 hg.1
  have l2 := rising_len hh.2 hh.1
  refine (joinGuess_wide g ss gc h st hc wx hs (by omega) ht (by omega)).mono ?_
  rintro e w' ⟨v, rfl, hown, hb⟩
  obtain ⟨js, jc, rfl, hi, k1, k2, hf⟩ := IntsAt.own hown
  rw [← sitesOf_eq g h hg.1 hh.1] at hi k1 ⊢
  exact ⟨js, jc, rfl, hi, k1, k2, hf, hb⟩
theorem joinPicture_low {V F : Int} {c : List Ins} (wide : Bool) (j : Gs → Gs → Gs) (hJ : JoinC wide j (RightG c)) (x y : Pic) (vs1 : Option Addr) (vc1 : Nat) (fs1 : Option Addr) (fc1 : Nat) (vs2 : Option Addr) (vc2 : Nat) (fs2 : Option Addr) (fc2 : Nat) (w : World) (S : Nat → Prop) (hx : PicOn S w x vs1 fs1) (hy : PicOn S w y vs2 fs2) (h0 : ckProg V F c = 0) (h1 : ckPic V F c x = 0) (h2 : ckPic V F c y = 0) :
    Calls Tryz.prog 29 #[xv x vs1 vc1 fs1 fc1, xv y vs2 vc2 fs2 fc2, .bool wide] w fun e w' => (∃ us uc gs gc, e = .returned (.agg #[.bool (joinPic j x y).none, .slice us (joinPic j x y).vars.length uc, .slice gs (joinPic j x y).flds.length gc]) ∧ PicOn (fun b => S b ∨ w.heap.size ≤ b) w' (joinPic j x y) us gs) ∧ Below w.heap.size w w' := by
  obtain ⟨⟨hV1, hV8⟩, ⟨hF0, hF3⟩, h60⟩ := ckProg_lim h0
  unfold joinPic
  by_cases hn : x.none = true
  · rw [if_pos hn]
    refine (joinPicture_leftE wide x y vs1 vc1 fs1 fc1 vs2 vc2 fs2 fc2 w hn).mono ?_
    rintro e w' ⟨rfl, hb⟩
    exact ⟨⟨vs2, vc2, fs2, fc2, rfl, (hy.call hb).mono fun b h _ => .inl h⟩, hb⟩
  · have hn' : x.none = false := by simpa using hn
    rw [if_neg hn]
    by_cases hm : y.none = true
    · rw [if_pos hm]
      refine (joinPicture_rightE wide x y vs1 vc1 fs1 fc1 vs2 vc2 fs2 fc2 w hn' hm).mono ?_
      rintro e w' ⟨rfl, hb⟩
      exact ⟨⟨vs1, vc1, fs1, fc1, rfl, (hx.call hb).mono fun b h _ => .inl h⟩, hb⟩
    · have hm' : y.none = false := by simpa using hm
      rw [if_neg hm]
      obtain ⟨a1, a2, a3, a4, a5⟩ := ckPic_form h1 hn'
      obtain ⟨b1, b2, b3, b4, b5⟩ := ckPic_form h2 hm'
      obtain ⟨xn, vx, fx⟩ := x
      obtain ⟨yn, vy, fy⟩ := y
      simp only at hn' hm' a1 a2 a3 a4 a5 b1 b2 b3 b4 b5
      subst hn' hm'
      refine (joinPicture_main wide j (RightG c) hJ vx vy fx fy vs1 vc1 fs1 fc1 vs2 vc2 fs2 fc2 w hx.at hy.at (by omega) (by omega) (by omega) (by omega)
        (fun i h h' => by have := a3 _ (List.getElem_mem h); have := b3 _ (List.getElem_mem h'); omega)
        (fun i h h' => ⟨a4 _ (List.getElem_mem h), b4 _ (List.getElem_mem h')⟩)
        (fun i h h' k hk hk' => ⟨a5 _ (List.getElem_mem h) _ (List.getElem_mem hk), b5 _ (List.getElem_mem h') _ (List.getElem_mem hk')⟩)).mono ?_
      rintro e w' ⟨⟨us, uc, gs, gc, he, h1⟩, h2⟩
      exact ⟨⟨us, uc, gs, gc, he, h1.mono fun b h _ => .inr h⟩, h2⟩
end Go.Proofs.YtmapdpcfanecdaaGreat
