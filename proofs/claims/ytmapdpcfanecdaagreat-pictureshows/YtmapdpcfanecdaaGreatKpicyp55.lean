/- For every program, two pictures and run that the law PictureShows is handed, it returns true and leaves them as they were: Holds of package picture answers just what the document's own words ask, errors too, and what one of two pictures shows their Join shows, and the Widen of the other by it. No condition. -/
import Derived.Test.YtmapdpcfanecdaaGreatKpicyp50
import Derived.Test.YtmapdpcfanecdaaGreatKpicyp49
import Derived.Test.YtmapdpcfanecdaaGreatKpicyp28
import Derived.Test.YtmapdpcfanecdaaGreatKpicyp23
import Derived.Test.YtmapdpcfanecdaaGreatKpicyp09
import Derived.Deep.DeepCutAuto
import Derived.Test.YtmapdpcfanecdaaGreatKpicyp39
import Derived.Test.YtmapdpcfanecdaaGreatKpicyp32
import Derived.Test.YtmapdpcfanecdaaGreatKpicyp21
import Derived.Test.YtmapdpcfanecdaaGreatKpicyp27
import Derived.Deep.RegionHeldLaw
import Derived.Test.YtmapdpcfanecdaaGreatKpicyp51
import Derived.Test.YtmapdpcfanecdaaGreatKpicyp54
import Derived.Test.YtmapdpcfanecdaaGreatRows
import Derived.Test.YtmapdpcfanecdaaGreatKpicyp01
import Derived.Test.YtmapdpcfanecdaaGreatKpicyp04
import Derived.Test.YtmapdpcfanecdaaGreatKpicyp05
import Derived.WalkKit
import Derived.ProofKit
import Derived.OpenShut
import Derived.Carry
import Derived.Deep.DeepHandedRow
import Derived.Deep.DeepWitnessRowRef
namespace Go.Proofs.YtmapdpcfanecdaaGreat
set_option linter.unusedVariables false
set_option linter.unusedSimpArgs false
open Go.RowKit
attribute [local go_sem ↓] Go.wp_at_zero Go.wp_at_succ

/-- What the program joins is what the document joins. -/
theorem togGs_join {c : List Ins} {g h : Gs} (h60 : c.length ≤ 60) (hg : ckGs c g = 0) (hh : ckGs c h = 0) : togGs joinSp g h = joinGs false g h ∧ togGs wideSp g h = joinGs true g h := by
  have a := ckGs_sites h60 hg
  have b := ckGs_sites h60 hh
  have e : sitesOf [g, h] = siteSet g.s h.s := sitesOf_eq g h a.1 b.1
  unfold togGs joinGs
  rw [e]
  exact ⟨rfl, rfl⟩
theorem joinRow_congr {j k : Gs → Gs → Gs} {a b : List Gs} (h : ∀ g ∈ a, ∀ q ∈ b, j g q = k g q) : joinRow j a b = joinRow k a b := by
  unfold joinRow
  refine List.ext_getElem (by simp) fun i h1 h2 => ?_
  simp only [List.getElem_zipWith]
  exact h _ (List.getElem_mem _) _ (List.getElem_mem _)
theorem joinPic_congr {V F : Int} {c : List Ins} {x y : Pic} {j k : Gs → Gs → Gs} (hx : ckPic V F c x = 0) (hy : ckPic V F c y = 0) (h : ∀ g q, ckGs c g = 0 → ckGs c q = 0 → j g q = k g q) : joinPic j x y = joinPic k x y := by
  unfold joinPic
  split
  · rfl
  split
  · rfl
  rename_i hn hm
  have kx := picOk_of hx (by simpa using hn)
  have ky := picOk_of hy (by simpa using hm)
  rw [joinRow_congr (k := k) fun g hg q hq => h g q (kx.gv g hg) (ky.gv q hq)]
  congr 1
  refine List.ext_getElem (by simp) fun i h1 h2 => ?_
  simp only [List.getElem_zipWith]
  simp only [List.length_zipWith] at h1
  exact joinRow_congr fun g hg q hq => h g q (kx.gf i (by omega) g hg) (ky.gf i (by omega) q hq)
/-- What one of both shows their join shows, and its Check is no error. -/
theorem shows_join {V F : Int} {c : List Ins} {x y : Pic} {r : St} {wide : Bool} (h0 : ckProg V F c = 0) (hx : ckPic V F c x = 0) (hy : ckPic V F c y = 0) : ckPics V F c [joinPic (togGs (if wide then wideSp else joinSp)) x y] = 0 ∧ (showsPic x r = true ∨ showsPic y r = true → showsPic (joinPic (togGs (if wide then wideSp else joinSp)) x y) r = true) := by
  have h60 := (ckProg_lim h0).2.2
  have e : joinPic (togGs (if wide then wideSp else joinSp)) x y = joinPic (joinGs wide) x y := joinPic_congr hx hy fun g q hg hq => by
    have := togGs_join h60 hg hq
    cases wide
    · exact this.1
    · exact this.2
  rw [e]
  have hj := ckPic_join (w := wide) hx hy
  have hi := in_joinPic (w := wide) h60 hx hy
  refine ⟨?_, ?_⟩
  · unfold ckPics
    rw [if_pos h0]
    unfold ckPicL
    rw [if_pos hj]
    rfl
  · rintro (h | h)
    · exact shows_in hx hj hi.1 h
    · exact shows_in hy hj hi.2 h
theorem pictureShows_any (V F : Int) (s : Option Addr) (c : List Ins) (cap : Nat) (x : Pic) (vs1 : Option Addr) (vc1 : Nat) (fs1 : Option Addr) (fc1 : Nat) (y : Pic) (vs2 : Option Addr) (vc2 : Nat) (fs2 : Option Addr) (fc2 : Nat) (r : St) (rv : Option Addr) (rvc : Nat) (rt : Option Addr) (rtc : Nat) (rl : Option Addr) (rlc : Nat) (w : World) (hcd : CodeAt w s c) (hx : PicAt w x vs1 fs1) (h1 : x.vars.length ≤ vc1 ∧ vc1 ≤ maxLen) (h2 : x.flds.length ≤ fc1 ∧ fc1 ≤ maxLen) (hy : PicAt w y vs2 fs2) (h3 : y.vars.length ≤ vc2 ∧ vc2 ≤ maxLen) (h4 : y.flds.length ≤ fc2 ∧ fc2 ≤ maxLen) (hl : LenSt r) (hr : RunAt w r rv rt rl) :
    Calls Tryz.prog 6 #[pv V F s c cap, xv x vs1 vc1 fs1 fc1, xv y vs2 vc2 fs2 fc2, runV r rv rvc rt rtc rl rlc] w fun e w' => e = .returned (.bool true) ∧ Below w.heap.size w w' := by
  refine pictureShows_core V F s c cap x vs1 vc1 fs1 fc1 y vs2 vc2 fs2 fc2 r rv rvc rt rtc rl rlc (ckPics V F c [x]) (ckShow V F c x r) (ckPics V F c [x, y]) (ckPics V F c [y, x]) (if ckPics V F c [x, y] = 0 then joinPic (togGs joinSp) x y else zeroPic) (if ckPics V F c [y, x] = 0 then joinPic (togGs wideSp) y x else zeroPic) (if ckShow V F c x r = 0 then showsPic x r else false) w hcd hx h1 h2 hy hr ?_ ?_ ?_ ?_ ?_ ?_ ?_ ?_ ?_ ?_ ?_
  · exact fun wx hc k1 k2 => holdsPU V F s c cap x vs1 vc1 fs1 fc1 r rv rvc rt rtc rl rlc wx hc k1 h1 h2 hl k2
  · exact fun wx ls hc hL => checkPictures_any V F s c cap ls [x] 1 wx hc hL (by simp)
  · show _ → _
    intro h wx hc k1
    obtain ⟨h0, -⟩ := ckPics_uno h
    have e : ckShow V F c x r = ckRun V F c r := by unfold ckShow; rw [if_pos h]
    rw [e]
    exact checkRunR_any V F s c cap r rv rvc rt rtc rl rlc wx hc (progOk_of h0) hl k1
  · show _ → _
    intro h wx k1 k2
    have hp : ckPics V F c [x] = 0 := by
      unfold ckShow at h
      split at h
      · assumption
      · exact h
    obtain ⟨h0, hcx⟩ := ckPics_uno hp
    have hk : ckRun V F c r = 0 := by unfold ckShow at h; rw [if_pos hp] at h; exact h
    rw [if_pos h]
    exact showsOf_any x vs1 vc1 fs1 fc1 r rv rvc rt rtc rl rlc wx k1 k2 h0 hcx (ckRun_ok hk)
  · exact pictureBegun_any
  · exact fun wx hc k1 k2 => joinPF V F s c cap x vs1 vc1 fs1 fc1 y vs2 vc2 fs2 fc2 wx hc k1 h1 h2 k2 h3 h4
  · exact fun wx hc k1 k2 => widePF V F s c cap y vs2 vc2 fs2 fc2 x vs1 vc1 fs1 fc1 wx hc k2 h3 h4 k1 h1 h2
  · show _ → _
    intro h hj hok wx js jc jf je hc k1 k2 k3 k4
    rw [if_pos hj] at k1 k2 k3 ⊢
    rw [if_pos h] at hok
    obtain ⟨h0, hcx, hcy⟩ := ckPics_two hj
    have hs : ckPics V F c [joinPic (togGs joinSp) x y] = 0 ∧ (showsPic x r = true ∨ showsPic y r = true → showsPic (joinPic (togGs joinSp) x y) r = true) := shows_join (r := r) (wide := false) h0 hcx hcy
    have hk : ckRun V F c r = 0 := by
      unfold ckShow at h
      split at h
      · exact h
      · rename_i hp; exact absurd h hp
    have := holdsPU V F s c cap (joinPic (togGs joinSp) x y) js jc jf je r rv rvc rt rtc rl rlc wx hc k1 k2 k3 hl k4
    have e : ckShow V F c (joinPic (togGs joinSp) x y) r = 0 := by unfold ckShow; rw [if_pos hs.1, hk]
    rw [e, if_pos rfl, show showsPic (joinPic (togGs joinSp) x y) r = true from hs.2 (.inl hok)] at this
    exact this
  · show _ → _
    intro h hj hok wx js jc jf je hc k1 k2 k3 k4
    rw [if_pos hj] at k1 k2 k3 ⊢
    rw [if_pos h] at hok
    obtain ⟨h0, hcy, hcx⟩ := ckPics_two hj
    have hs : ckPics V F c [joinPic (togGs wideSp) y x] = 0 ∧ (showsPic y r = true ∨ showsPic x r = true → showsPic (joinPic (togGs wideSp) y x) r = true) := shows_join (r := r) (wide := true) h0 hcy hcx
    have hk : ckRun V F c r = 0 := by
      unfold ckShow at h
      split at h
      · exact h
      · rename_i hp; exact absurd h hp
    have := holdsPU V F s c cap (joinPic (togGs wideSp) y x) js jc jf je r rv rvc rt rtc rl rlc wx hc k1 k2 k3 hl k4
    have e : ckShow V F c (joinPic (togGs wideSp) y x) r = 0 := by unfold ckShow; rw [if_pos hs.1, hk]
    rw [e, if_pos rfl, show showsPic (joinPic (togGs wideSp) y x) r = true from hs.2 (.inr hok)] at this
    exact this
  · exact fun h => by unfold ckShow; rw [if_neg h]
  · exact fun h => if_neg h
end Go.Proofs.YtmapdpcfanecdaaGreat

namespace Go.Proofs.YtmapdpcfanecdaaGreat
set_option linter.unusedVariables false
set_option linter.unusedSimpArgs false
open Go.ChangeShapes Go.WideShapes Go.ChangeAt Go.RowKit

namespace pictureShows
theorem ownS : ownKnob Tryz.prog.godebug = none := by kernel_rfl
set_option maxRecDepth 100000 in
theorem contract (H : Type) (enc : TypeId × Value → H) (W : World) (base : Nat) (args : Array Value) (ds gs : List (DataW H)) (before : List MemPlace)
    (hval : ∀ (j : Nat) t v, Tryz.f6.params[j]? = some t → args[j]? = some v → Value.okWide Tryz.prog W .any base t v)
    (hW : DataW.Whole enc Tryz.prog Tryz.f6.params.toList Rows.pictureShowsSpec.vars false W args.toList ds gs before) :
    Calls Tryz.prog 6 args W fun e W' => ∃ v, e = .returned v ∧ Rows.pictureShowsSpec.post enc Tryz.prog Tryz.f6 false true false false W args v W' := by
  have hlt := hW.lt
  have hW' := hW
  obtain ⟨p, q, hA0, hV, rfl, hfz, hnd⟩ := hW
  have hA : DataW.TrodAll enc Tryz.prog W 0 (fun _ => true) true Tryz.f6.params.toList args.toList ds p := hA0
  rw [Tryz.params6] at hA hval
  obtain ⟨v0, vs0, d0, ds0, p0, q0, e0, rfl, rfl, h0, hr0⟩ := trodAll_cons hA
  obtain ⟨v1, vs1, d1, ds1, p1, q1, e1, rfl, rfl, h1, hr1⟩ := trodAll_cons hr0
  obtain ⟨v2, vs2, d2, ds2, p2, q2, e2, rfl, rfl, h2, hr2⟩ := trodAll_cons hr1
  obtain ⟨v3, vs3, d3, ds3, p3, q3, e3, rfl, rfl, h3, hr3⟩ := trodAll_cons hr2
  obtain ⟨rfl, rfl, rfl⟩ := trodAll_nil hr3
  subst e1
  subst e2
  subst e3
  have ea : args = #[v0, v1, v2, v3] := by cases args; simp_all
  subst ea
  obtain ⟨rfl, rfl⟩ := trodVars_none hV
  obtain ⟨V, F, s, cap, c, rfl, hl, hm, hcd, _⟩ := open_program (hval 0 24 v0 rfl rfl) h0
  obtain ⟨x, vs1, vc1, fs1, fc1, rfl, g1, g2, g3⟩ := open_picture (hval 1 58 v1 rfl rfl) h1
  obtain ⟨y, vs2, vc2, fs2, fc2, rfl, k1, k2, k3⟩ := open_picture (hval 2 58 v2 rfl rfl) h2
  obtain ⟨r, rv, rvc, rt, rtc, rl, rlc, rfl, hrl, hr, _⟩ := open_run (hval 3 76 v3 rfl rfl) h3
  refine (pictureShows_any V F s c cap x vs1 vc1 fs1 fc1 y vs2 vc2 fs2 fc2 r rv rvc rt rtc rl rlc W hcd g3 g1 g2 k3 k1 k2 hrl hr).mono fun e W' ⟨he, hb⟩ => ?_
  subst he
  refine ⟨_, rfl, _, _, _, [], p0 ++ (p1 ++ (p2 ++ (p3 ++ []))), [], hW', ?_, ?_, ?_, hb.frame _, fun h => by cases h⟩
  · exact trodAll_mk1 (shut_bool Tryz.underlying4 _)
  · rw [Tryz.params6]
    exact trodAll_cons_mk (Below.trod (by kernel_rfl) (by kernel_rfl) (of_decide_eq_true (by kernel_rfl)) h0 hb (fun x hx => hlt x (by simp [hx]))) (trodAll_cons_mk (Below.trod (by kernel_rfl) (by kernel_rfl) (of_decide_eq_true (by kernel_rfl)) h1 hb (fun x hx => hlt x (by simp [hx]))) (trodAll_cons_mk (Below.trod (by kernel_rfl) (by kernel_rfl) (of_decide_eq_true (by kernel_rfl)) h2 hb (fun x hx => hlt x (by simp [hx]))) (trodAll_cons_mk (Below.trod (by kernel_rfl) (by kernel_rfl) (of_decide_eq_true (by kernel_rfl)) h3 hb (fun x hx => hlt x (by simp [hx]))) (rfl))))
  · rfl

theorem witness_row (os : Os) {H : Type} (enc : TypeId × Value → H) :
    (OpenSpec.ofChange Rows.pictureShowsSpec).preRow enc Tryz.prog Tryz.f6 Rows.pictureShowsRow.domain false Rows.pictureShowsRow.laid ((World.settled Tryz.prog os).forCall (fun _ _ => 0) ⟨#[], #[.agg #[.int .i64 0, .int .i64 0, .slice none 0 0], .agg #[.bool false, .slice none 0 0, .slice none 0 0], .agg #[.bool false, .slice none 0 0, .slice none 0 0], .agg #[.int .i64 0, .slice none 0 0, .slice none 0 0, .int .i64 0, .slice none 0 0, .int .i64 0]], []⟩).memory #[.agg #[.int .i64 0, .int .i64 0, .slice none 0 0], .agg #[.bool false, .slice none 0 0, .slice none 0 0], .agg #[.bool false, .slice none 0 0, .slice none 0 0], .agg #[.int .i64 0, .slice none 0 0, .slice none 0 0, .int .i64 0, .slice none 0 0, .int .i64 0]] := by
  have hw : (DataW.whole enc Tryz.prog ((World.settled Tryz.prog os).forCall (fun _ _ => 0) ⟨#[], #[.agg #[.int .i64 0, .int .i64 0, .slice none 0 0], .agg #[.bool false, .slice none 0 0, .slice none 0 0], .agg #[.bool false, .slice none 0 0, .slice none 0 0], .agg #[.int .i64 0, .slice none 0 0, .slice none 0 0, .int .i64 0, .slice none 0 0, .int .i64 0]], []⟩).memory Tryz.f6.params.toList Rows.pictureShowsSpec.vars false #[Value.agg #[.int .i64 0, .int .i64 0, .slice none 0 0], .agg #[.bool false, .slice none 0 0, .slice none 0 0], .agg #[.bool false, .slice none 0 0, .slice none 0 0], .agg #[.int .i64 0, .slice none 0 0, .slice none 0 0, .int .i64 0, .slice none 0 0, .int .i64 0]].toList 8).isSome = true := by kernel_rfl
  obtain ⟨x, hx⟩ := Option.isSome_iff_exists.1 hw
  exact OpenSpec.preRow_of_cond 8 hx rfl (fun k hk => by cases hk) (by kernel_rfl) ⟨[], rfl, List.nodup_nil, fun b off h => by cases h⟩

set_option maxRecDepth 100000 in
theorem lifted (os : Os) (started : os.Started) (H : Type) (enc : TypeId × Value → H) (F : Stop.Interp) :
    ReturnsInHanded {} Tryz.checked os 6 .any ((OpenSpec.ofChange Rows.pictureShowsSpec).preRow enc Tryz.prog Tryz.f6 Rows.pictureShowsRow.domain false Rows.pictureShowsRow.laid) (((OpenSpec.ofChange Rows.pictureShowsSpec).at F).post enc Tryz.prog Tryz.f6 false true false false) := by
  refine returnsInHanded_of_row (C := Tryz.checked) (s := OpenSpec.ofChange Rows.pictureShowsSpec) ownS started (by kernel_rfl) Tryz.func6
    (witness_row_atRef (enc := enc) (C := Tryz.checked) false (World.settled Tryz.prog os) #[.agg #[.int .i64 0, .int .i64 0, .slice none 0 0], .agg #[.bool false, .slice none 0 0, .slice none 0 0], .agg #[.bool false, .slice none 0 0, .slice none 0 0], .agg #[.int .i64 0, .slice none 0 0, .slice none 0 0, .int .i64 0, .slice none 0 0, .int .i64 0]] rfl (by kernel_rfl) (by kernel_rfl) (by kernel_rfl) (witness_row os enc)) ?_
  intro W base args ds gs before hval hW _ _ _ hL hS _
  exact contract H enc W base args ds gs before hval hW
end pictureShows

theorem pictureShows_holds : Rows.PictureShowsSaid :=
  OpenClaim.holds_of_cond 6 Tryz.f6 rfl rfl rfl rfl rfl rfl rfl ⟨rfl, rfl, rfl, rfl, rfl⟩ rfl rfl rfl rfl rfl (by kernel_rfl) Tryz.func6 (by kernel_rfl)
    (of_decide_eq_true (by kernel_rfl)) (by unfold Func.isWrapper; first | (rw [if_pos (by decide +kernel)]; kernel_rfl) | (rw [if_neg (by decide +kernel)]; exact ⟨rfl, rfl⟩))
    (fun os started H enc _ F => by rw [OpenClaim.pre_eq_preRow]; exact pictureShows.lifted os started H enc F)
end Go.Proofs.YtmapdpcfanecdaaGreat
