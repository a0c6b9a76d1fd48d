/- Walks over package guess: the check of guesses. -/
import Derived.Test.YtmapdpcfanecdaaGreatKguxp09
import Derived.Test.YtmapdpcfanecdaaGreatKguxp21
namespace Go.Proofs.YtmapdpcfanecdaaGreat
set_option linter.unusedVariables false
set_option linter.unusedSimpArgs false
open Go.RowKit

theorem ckProg_60 {V F : Int} {c : List Ins} (h : ckProg V F c = 0) : c.length ≤ 60 := by
  unfold ckProg at h
  split at h
  · cases h
  · split at h
    · cases h
    · omega

theorem ckGss_drop (c : List Ins) (L : List Gs) (k : Nat) (h : k < L.length) : ckGss c (L.drop k) = if ckGs c L[k] = 0 then ckGss c (L.drop (k + 1)) else ckGs c L[k] := by
  rw [List.drop_eq_getElem_cons h]; rfl

set_option maxHeartbeats 2000000 in
set_option maxRecDepth 10000 in
theorem checkAllG_any (V F : Int) (s : Option Addr) (c : List Ins) (cap : Nat) (ls : Option Addr) (L : List Gs) (lc : Nat) (w : World) (hc : CodeAt w s c) (hL : GsAt w ls L) (hl : L.length ≤ 9223372036854775807) :
    Calls Tryz.prog 40 #[pv V F s c cap, .slice ls L.length lc] w fun e w' => e = .returned (.int .i64 (ckAllG V F c L)) ∧ Below w.heap.size w w' := by
  have P0 := PrAt.new w V F s c cap
  have C0 := hc.alloc (.cells #[.int .i64 V, .int .i64 F, .slice s c.length cap] 24)
  have L0 := hL.alloc (.cells #[.int .i64 V, .int .i64 F, .slice s c.length cap] 24)
  have B0 : Below w.heap.size w (w.alloc (.cells #[.int .i64 V, .int .i64 F, .slice s c.length cap] 24)) := by go_grown
  have HR : Hid (ckAllG V F c L = if ckProg V F c = 0 then ckGss c L else ckProg V F c) := rfl
  clear hc hL
  go_enter Tryz.func40, Tryz.ntmps40
  go_wp2_with (go_at_call 66; fail)
  refine (codeCheck_any V F s cap c _ C0).mono ?_
  rintro e w1 ⟨rfl, hb1⟩
  have P1 := P0.call hb1
  have C1 := C0.call hb1
  have L1 := L0.call hb1
  have B1 : Below w.heap.size w w1 := B0.trans (hb1.mono (by simp))
  clear hb1 P0 C0 L0 B0
  by_cases h0 : ckProg V F c = 0
  · have h60 := ckProg_60 h0
    have HF : Hid (ckAllG V F c L = ckGss c L) := by show _ = _; rw [HR.out, if_pos h0]
    rw [h0]
    clear HR h0
    go_wp2
    go_loopw [16] (fun i wr => ∃ k : Nat, k ≤ L.length ∧ i = .int .i64 k ∧ PrAt wr w.heap.size V F s c cap ∧ CodeAt wr s c ∧ GsAt wr ls L ∧ Below w.heap.size w wr ∧ Hid (ckGss c (L.drop k) = ckGss c L)) (fun i _ => L.length - (intOf i).toNat)
    case atStart => exact ⟨0, Nat.zero_le _, rfl, P1, C1, L1, B1, rfl⟩
    case round =>
      obtain ⟨k, hk, rfl, PR, CR, LR, BR, HK⟩ := hrel
      clear P1 C1 L1 B1
      by_cases hlt : k < L.length
      · obtain ⟨b, off, rfl, ss, gc, GR, IR, hg1, hg2⟩ := LR k hlt
        obtain ⟨⟨p0, p1, p2⟩, p3⟩ := id PR
        obtain ⟨⟨g0, g1, g2, g3, g4, g5, g6⟩, gz⟩ := id GR
        have n0 : (0 : Int) ≤ (k : Int) := by omega
        have n1 : (k : Int) < (L.length : Int) := by omega
        have HS := hideH (ckGss_drop c L k hlt)
        unfold maxLen at hg2
        have PA := PR.alloc (.cells #[.bool L[k].n, .bool L[k].sp.n, .int .i64 L[k].sp.lo, .int .i64 L[k].sp.hi, .bool L[k].t, .bool L[k].f, .slice ss L[k].s.length gc] 29)
        have CA := CR.alloc (.cells #[.bool L[k].n, .bool L[k].sp.n, .int .i64 L[k].sp.lo, .int .i64 L[k].sp.hi, .bool L[k].t, .bool L[k].f, .slice ss L[k].s.length gc] 29)
        have LA := LR.alloc (.cells #[.bool L[k].n, .bool L[k].sp.n, .int .i64 L[k].sp.lo, .int .i64 L[k].sp.hi, .bool L[k].t, .bool L[k].f, .slice ss L[k].s.length gc] 29)
        have IA := IR.alloc (.cells #[.bool L[k].n, .bool L[k].sp.n, .int .i64 L[k].sp.lo, .int .i64 L[k].sp.hi, .bool L[k].t, .bool L[k].f, .slice ss L[k].s.length gc] 29)
        have BA := BR.alloc BR.size (.cells #[.bool L[k].n, .bool L[k].sp.n, .int .i64 L[k].sp.lo, .int .i64 L[k].sp.hi, .bool L[k].t, .bool L[k].f, .slice ss L[k].s.length gc] 29)
        clear PR CR LR IR BR GR
        go_wp2_with (go_at_call 87; fail)
        refine (checkParts_any V F s c cap L[k] ss gc _ CA h60 IA (by omega)).mono ?_
        rintro e w2 ⟨rfl, hb2⟩
        have P2 := PA.call hb2
        have C2 := CA.call hb2
        have L2 := LA.call hb2
        have B2 := BA.trans (hb2.mono BA.size)
        clear hb2 PA CA LA IA BA
        by_cases hz : ckGs c L[k] = 0
        · have HT : Hid (ckGss c (L.drop (k + 1)) = ckGss c L) := by show _ = _; rw [← HK.out, HS.out, if_pos hz]
          rw [hz]
          clear HK HS hz
          go_wp2
          go_roundw
          case rel => exact ⟨k + 1, by omega, by go_num, P2, C2, L2, B2, HT⟩
          case measure => simp [intOf]; omega
        · have HT : Hid (ckGs c L[k] = ckGss c L) := by show _ = _; rw [← HK.out, HS.out, if_neg hz]
          have hne : (ckGs c L[k] != 0) = true := by simpa using hz
          clear HK HS
          go_wp2
          go_ret
          exact ⟨ret_int (by rw [HF.out, HT.out]), B2⟩
      · go_wp2
        go_ret
        exact ⟨ret_int (by rw [HF.out, ← HK.out, List.drop_eq_nil_of_le (by omega)]; rfl), BR⟩
  · have HF : Hid (ckAllG V F c L = ckProg V F c) := by show _ = _; rw [HR.out, if_neg h0]
    have hne : (ckProg V F c != 0) = true := by simpa using h0
    clear HR
    go_wp2
    go_ret
    exact ⟨ret_int HF.out.symm, B1⟩
end Go.Proofs.YtmapdpcfanecdaaGreat
