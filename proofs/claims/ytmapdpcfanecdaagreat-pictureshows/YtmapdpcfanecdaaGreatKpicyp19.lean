/- Walks over the document's own answers: guesses, their check. -/
import Derived.Test.YtmapdpcfanecdaaGreatKpicyp15
import Derived.Test.YtmapdpcfanecdaaGreatKpicyp16
import Derived.Test.YtmapdpcfanecdaaGreatKpicyp17
import Derived.Test.YtmapdpcfanecdaaGreatKpicyp18
import Derived.Test.YtmapdpcfanecdaaGreatKpicyp11
import Derived.Test.YtmapdpcfanecdaaGreatKpicyp02
import Derived.Test.YtmapdpcfanecdaaGreatKpicyp13
import Derived.Deep.RegionHeld3
import Derived.Deep.DrawnRows
namespace Go.Proofs.YtmapdpcfanecdaaGreat
set_option linter.unusedVariables false
set_option linter.unusedSimpArgs false
open Go.RowKit

theorem checkInstr_any (V F : Int) (s : Option Addr) (len cap N : Nat) (i : Ins) (w : World) (hV : 1 ≤ V) (hV' : V ≤ 8) (hF : 0 ≤ F) (hF' : F ≤ 3) (hL : len ≤ 60) (hs : ShpAt N shps w) :
    Calls Tryz.prog 106 #[.agg #[.int .i64 V, .int .i64 F, .slice s len cap], .map (some N), .agg #[.int .i64 i.k, .int .i64 i.to, .int .i64 i.a, .int .i64 i.b, .int .i64 i.n, .int .i64 i.g]] w fun e w' => e = .returned (.int .i64 (ckOne V F len i)) ∧ Below w.heap.size w w' := by
  obtain ⟨k, tto, a, b, n, g⟩ := i
  by_cases h : btw k 1 19 = true
  · rcases btw_cases h with rfl | rfl | rfl | rfl | rfl | rfl | rfl | rfl | rfl | rfl | rfl | rfl | rfl | rfl | rfl | rfl | rfl | rfl | rfl
    · exact checkInstr_1 V F s len cap N tto a b n g w hV hV' hF hF' hL hs
    · exact checkInstr_2 V F s len cap N tto a b n g w hV hV' hF hF' hL hs
    · exact checkInstr_3 V F s len cap N tto a b n g w hV hV' hF hF' hL hs
    · exact checkInstr_4 V F s len cap N tto a b n g w hV hV' hF hF' hL hs
    · exact checkInstr_5 V F s len cap N tto a b n g w hV hV' hF hF' hL hs
    · exact checkInstr_6 V F s len cap N tto a b n g w hV hV' hF hF' hL hs
    · exact checkInstr_7 V F s len cap N tto a b n g w hV hV' hF hF' hL hs
    · exact checkInstr_8 V F s len cap N tto a b n g w hV hV' hF hF' hL hs
    · exact checkInstr_9 V F s len cap N tto a b n g w hV hV' hF hF' hL hs
    · exact checkInstr_10 V F s len cap N tto a b n g w hV hV' hF hF' hL hs
    · exact checkInstr_11 V F s len cap N tto a b n g w hV hV' hF hF' hL hs
    · exact checkInstr_12 V F s len cap N tto a b n g w hV hV' hF hF' hL hs
    · exact checkInstr_13 V F s len cap N tto a b n g w hV hV' hF hF' hL hs
    · exact checkInstr_14 V F s len cap N tto a b n g w hV hV' hF hF' hL hs
    · exact checkInstr_15 V F s len cap N tto a b n g w hV hV' hF hF' hL hs
    · exact checkInstr_16 V F s len cap N tto a b n g w hV hV' hF hF' hL hs
    · exact checkInstr_17 V F s len cap N tto a b n g w hV hV' hF hF' hL hs
    · exact checkInstr_18 V F s len cap N tto a b n g w hV hV' hF hF' hL hs
    · exact checkInstr_19 V F s len cap N tto a b n g w hV hV' hF hF' hL hs
  · exact checkInstr_no V F s len cap N k tto a b n g w hV hV' hF hF' hL hs (by simpa using h)

set_option maxHeartbeats 1000000 in
theorem check_loop (V F : Int) (b off cap : Nat) (c : List Ins) (w : World) (hV : 1 ≤ V) (hV' : V ≤ 8) (hF : 0 ≤ F) (hF' : F ≤ 3) (hL : c.length ≤ 60) (hb : b < w.heap.size) (hc : ∀ k (h : k < c.length), InsAt w b (off + k * 6) c[k]) :
    Calls Tryz.prog 66 #[.agg #[.int .i64 V, .int .i64 F, .slice (some ⟨b, off, none⟩) c.length cap]] w fun e w' => e = .returned (.int .i64 (ckAll V F c.length c)) ∧ Below w.heap.size w w' := by
  have hl60 : (c.length : Int) ≤ 60 := by omega
  have hbox : Below w.heap.size w (w.alloc (.cells #[.int .i64 V, .int .i64 F, .slice (some ⟨b, off, none⟩) c.length cap] 24)) := by go_grown
  go_enter Tryz.func66, Tryz.ntmps66
  go_wp2_with (go_at_call 105; refine (shapes_any _).mono ?_; rintro e w1 ⟨rfl, hs1, hb1⟩; obtain ⟨hc1, hf1⟩ := bcell hb1; have q2 : w1.cell? ⟨w.heap.size, 2, none⟩ = some (.slice (some ⟨b, off, none⟩) c.length cap) := (by rw [hb1.cell (by simp)]; simp [go_sem]))
  simp only [World.size_alloc] at hs1
  have q0 : w1.cell? ⟨w.heap.size, 0, none⟩ = some (.int .i64 V) := by rw [hb1.cell (by simp)]; simp [go_sem]
  have q1 : w1.cell? ⟨w.heap.size, 1, none⟩ = some (.int .i64 F) := by rw [hb1.cell (by simp)]; simp [go_sem]
  clear hc1 hf1
  have z1 : w.heap.size + 1 ≤ w1.heap.size := by have := hb1.size; simp at this; omega
  have hbw : Below w.heap.size w w1 := hbox.trans (hb1.mono (by simp))
  go_loopw [35] (fun i wr => ∃ k : Nat, k ≤ c.length ∧ i = .int .i64 k ∧ Below w1.heap.size w1 wr ∧ Hid (ckAll V F c.length (c.drop k) = ckAll V F c.length c)) (fun i _ => c.length - (intOf i).toNat)
  case atStart => exact ⟨0, Nat.zero_le _, rfl, Below.refl _ _, rfl⟩
  case round =>
    obtain ⟨k, hk, rfl, hbr, HR⟩ := hrel
    have r0 : wr.cell? ⟨w.heap.size, 0, none⟩ = some (.int .i64 V) := by rw [hbr.cell (by simp; omega)]; exact q0
    have r1 : wr.cell? ⟨w.heap.size, 1, none⟩ = some (.int .i64 F) := by rw [hbr.cell (by simp; omega)]; exact q1
    have r2 : wr.cell? ⟨w.heap.size, 2, none⟩ = some (.slice (some ⟨b, off, none⟩) c.length cap) := by rw [hbr.cell (by simp; omega)]; exact q2
    have s0 : w1.heap.size ≤ wr.heap.size := hbr.size
    have s1 : w.heap.size < wr.heap.size := by omega
    have s2 : b < wr.heap.size := by omega
    by_cases hlt : k < c.length
    · have hi : InsAt wr b (off + k * 6) c[k] := ((hc k hlt).below hbw hb).below hbr (by omega)
      obtain ⟨i0, i1, i2, i3, i4, i5⟩ := hi
      have n0 : (0 : Int) ≤ (k : Int) := by omega
      have n1 : (k : Int) < (c.length : Int) := by omega
      clear q0 q1 q2
      have HS := ckAll_step (V := V) (F := F) (L := c.length) hlt
      by_cases hz : ckOne V F c.length c[k] = 0
      · have HC : Hid (ckAll V F c.length (c.drop (k + 1)) = ckAll V F c.length c) := by have := HR.out; rw [HS, if_pos hz] at this; exact this
        clear HS HR
        go_wp2_with (go_at_call 106; refine (checkInstr_any V F _ _ _ _ c[k] _ hV hV' hF hF' hL ?hs).mono ?_; (case hs => exact hs1.below (hbr.alloc s0 _) (Nat.le_refl _)); rintro e w2 ⟨rfl, hb2⟩)
        go_roundw
        case rel => exact ⟨k + 1, by omega, by go_num, (hbr.alloc s0 _).trans (hb2.mono (by simp; omega)), HC⟩
        case measure => simp [intOf]; omega
      · rw [if_neg hz] at HS
        have HC : Hid (ckOne V F c.length c[k] = ckAll V F c.length c) := by have := HR.out; rw [HS] at this; exact this
        have hz' : (ckOne V F c.length c[k] != 0) = true := by simpa using hz
        clear HS HR
        go_wp2_with (go_at_call 106; refine (checkInstr_any V F _ _ _ _ c[k] _ hV hV' hF hF' hL ?hs).mono ?_; (case hs => exact hs1.below (hbr.alloc s0 _) (Nat.le_refl _)); rintro e w2 ⟨rfl, hb2⟩)
        go_ret
        exact ⟨ret_int HC.out, hbw.trans (((hbr.alloc s0 _).trans (hb2.mono (by simp; omega))).mono (by omega))⟩
    · go_wp2
      go_ret
      exact ⟨ret_int (by have := HR.out; rw [List.drop_eq_nil_of_le (by omega)] at this; exact this), hbw.trans (hbr.mono (by omega))⟩

set_option maxHeartbeats 1000000 in
theorem check_nil (V F : Int) (s : Option Addr) (cap : Nat) (w : World) (hV : 1 ≤ V) (hV' : V ≤ 8) (hF : 0 ≤ F) (hF' : F ≤ 3) :
    Calls Tryz.prog 66 #[.agg #[.int .i64 V, .int .i64 F, .slice s 0 cap]] w fun e w' => e = .returned (.int .i64 0) ∧ Below w.heap.size w w' := by
  have hbox : Below w.heap.size w (w.alloc (.cells #[.int .i64 V, .int .i64 F, .slice s 0 cap] 24)) := by go_grown
  go_enter Tryz.func66, Tryz.ntmps66
  go_wp2_with (go_at_call 105; refine (shapes_any _).mono ?_; rintro e w1 ⟨rfl, hs1, hb1⟩; have q2 : w1.cell? ⟨w.heap.size, 2, none⟩ = some (.slice s 0 cap) := (by rw [hb1.cell (by simp)]; simp [go_sem]))
  go_rounds 1
  go_ret
  exact ⟨rfl, hbox.trans (hb1.mono (by simp))⟩

set_option maxHeartbeats 1000000 in
theorem check_many (V F : Int) (s : Option Addr) (len cap : Nat) (w : World) (hV : 1 ≤ V) (hV' : V ≤ 8) (hF : 0 ≤ F) (hF' : F ≤ 3) (hl : 60 < len) :
    Calls Tryz.prog 66 #[.agg #[.int .i64 V, .int .i64 F, .slice s len cap]] w fun e w' => e = .returned (.int .i64 2) ∧ Below w.heap.size w w' := by
  have t3 : (60 : Int) < (len : Int) := by omega
  go_enter Tryz.func66, Tryz.ntmps66
  go_wp2
  go_ret
  exact ⟨rfl, by go_grown⟩

set_option maxHeartbeats 1000000 in
theorem check_range (V F : Int) (s : Option Addr) (len cap : Nat) (w : World) (h : ¬ (1 ≤ V ∧ V ≤ 8 ∧ 0 ≤ F ∧ F ≤ 3)) :
    Calls Tryz.prog 66 #[.agg #[.int .i64 V, .int .i64 F, .slice s len cap]] w fun e w' => e = .returned (.int .i64 3) ∧ Below w.heap.size w w' := by
  by_cases h1 : V < 1
  · clear h
    go_enter Tryz.func66, Tryz.ntmps66
    go_wp2
    go_ret
    exact ⟨rfl, by go_grown⟩
  by_cases h2 : 8 < V
  · clear h
    go_enter Tryz.func66, Tryz.ntmps66
    go_wp2
    go_ret
    exact ⟨rfl, by go_grown⟩
  by_cases h3 : F < 0
  · clear h
    go_enter Tryz.func66, Tryz.ntmps66
    go_wp2
    go_ret
    exact ⟨rfl, by go_grown⟩
  · have h4 : 3 < F := by omega
    clear h
    go_enter Tryz.func66, Tryz.ntmps66
    go_wp2
    go_ret
    exact ⟨rfl, by go_grown⟩

/-- The program's check of a program, whatever it is handed. -/
theorem codeCheck_any (V F : Int) (s : Option Addr) (cap : Nat) (c : List Ins) (w : World) (h : CodeAt w s c) :
    Calls Tryz.prog 66 #[.agg #[.int .i64 V, .int .i64 F, .slice s c.length cap]] w fun e w' => e = .returned (.int .i64 (ckProg V F c)) ∧ Below w.heap.size w w' := by
  unfold ckProg
  by_cases hr : 1 ≤ V ∧ V ≤ 8 ∧ 0 ≤ F ∧ F ≤ 3
  · obtain ⟨hV, hV', hF, hF'⟩ := hr
    have t1 : btw V 1 8 = true := btw_true hV hV'
    have t2 : btw F 0 3 = true := btw_true hF hF'
    by_cases hl : 60 < c.length
    · simpa [t1, t2, hl] using check_many V F s c.length cap w hV hV' hF hF' hl
    · rcases h with rfl | ⟨b, off, rfl, hb, hc⟩
      · simpa [t1, t2, ckAll] using check_nil V F s cap w hV hV' hF hF'
      · simpa [t1, t2, hl] using check_loop V F b off cap c w hV hV' hF hF' (by omega) hb hc
  · have : btw V 1 8 = false ∨ btw F 0 3 = false := by
      by_cases h1 : 1 ≤ V ∧ V ≤ 8
      · right; simp [btw]; omega
      · left; simp [btw]; omega
    rcases this with t | t
    · simpa [t] using check_range V F s c.length cap w hr
    · simpa [t] using check_range V F s c.length cap w hr
end Go.Proofs.YtmapdpcfanecdaaGreat

namespace Go.Proofs.YtmapdpcfanecdaaGreat
set_option linter.unusedVariables false
set_option linter.unusedSimpArgs false
open Go.RowKit

theorem ckProg_60 {V F : Int} {c : List Ins} (h : ckProg V F c = 0) : c.length ≤ 60 := by
  unfold ckProg at h
  split at h
  · cases h
  · split at h
    · cases h
    · omega

theorem ckGss_drop (c : List Ins) (L : List Gs) (k : Nat) (h : k < L.length) : ckGss c (L.drop k) = if ckGs c L[k] = 0 then ckGss c (L.drop (k + 1)) else ckGs c L[k] := by
  rw [List.drop_eq_getElem_cons h]; rfl

set_option maxHeartbeats 2000000 in
set_option maxRecDepth 10000 in
theorem checkAllG_any (V F : Int) (s : Option Addr) (c : List Ins) (cap : Nat) (ls : Option Addr) (L : List Gs) (lc : Nat) (w : World) (hc : CodeAt w s c) (hL : GsAt w ls L) (hl : L.length ≤ 9223372036854775807) :
    Calls Tryz.prog 40 #[pv V F s c cap, .slice ls L.length lc] w fun e w' => e = .returned (.int .i64 (ckAllG V F c L)) ∧ Below w.heap.size w w' := by
  have P0 := PrAt.new w V F s c cap
  have C0 := hc.alloc (.cells #[.int .i64 V, .int .i64 F, .slice s c.length cap] 24)
  have L0 := hL.alloc (.cells #[.int .i64 V, .int .i64 F, .slice s c.length cap] 24)
  have B0 : Below w.heap.size w (w.alloc (.cells #[.int .i64 V, .int .i64 F, .slice s c.length cap] 24)) := by go_grown
  have HR : Hid (ckAllG V F c L = if ckProg V F c = 0 then ckGss c L else ckProg V F c) := rfl
  clear hc hL
  go_enter Tryz.func40, Tryz.ntmps40
  go_wp2_with (go_at_call 66; fail)
  refine (codeCheck_any V F s cap c _ C0).mono ?_
  rintro e w1 ⟨rfl, hb1⟩
  have P1 := P0.call hb1
  have C1 := C0.call hb1
  have L1 := L0.call hb1
  have B1 : Below w.heap.size w w1 := B0.trans (hb1.mono (by simp))
  clear hb1 P0 C0 L0 B0
  by_cases h0 : ckProg V F c = 0
  · have h60 := ckProg_60 h0
    have HF : Hid (ckAllG V F c L = ckGss c L) := by show _ = _; rw [HR.out, if_pos h0]
    rw [h0]
    clear HR h0
    go_wp2
    go_loopw [16] (fun i wr => ∃ k : Nat, k ≤ L.length ∧ i = .int .i64 k ∧ PrAt wr w.heap.size V F s c cap ∧ CodeAt wr s c ∧ GsAt wr ls L ∧ Below w.heap.size w wr ∧ Hid (ckGss c (L.drop k) = ckGss c L)) (fun i _ => L.length - (intOf i).toNat)
    case atStart => exact ⟨0, Nat.zero_le _, rfl, P1, C1, L1, B1, rfl⟩
    case round =>
      obtain ⟨k, hk, rfl, PR, CR, LR, BR, HK⟩ := hrel
      clear P1 C1 L1 B1
      by_cases hlt : k < L.length
      · obtain ⟨b, off, rfl, ss, gc, GR, IR, hg1, hg2⟩ := LR k hlt
        obtain ⟨⟨p0, p1, p2⟩, p3⟩ := id PR
        obtain ⟨⟨g0, g1, g2, g3, g4, g5, g6⟩, gz⟩ := id GR
        have n0 : (0 : Int) ≤ (k : Int) := by omega
        have n1 : (k : Int) < (L.length : Int) := by omega
        have HS := hideH (ckGss_drop c L k hlt)
        unfold maxLen at hg2
        have PA := PR.alloc (.cells #[.bool L[k].n, .bool L[k].sp.n, .int .i64 L[k].sp.lo, .int .i64 L[k].sp.hi, .bool L[k].t, .bool L[k].f, .slice ss L[k].s.length gc] 29)
        have CA := CR.alloc (.cells #[.bool L[k].n, .bool L[k].sp.n, .int .i64 L[k].sp.lo, .int .i64 L[k].sp.hi, .bool L[k].t, .bool L[k].f, .slice ss L[k].s.length gc] 29)
        have LA := LR.alloc (.cells #[.bool L[k].n, .bool L[k].sp.n, .int .i64 L[k].sp.lo, .int .i64 L[k].sp.hi, .bool L[k].t, .bool L[k].f, .slice ss L[k].s.length gc] 29)
        have IA := IR.alloc (.cells #[.bool L[k].n, .bool L[k].sp.n, .int .i64 L[k].sp.lo, .int .i64 L[k].sp.hi, .bool L[k].t, .bool L[k].f, .slice ss L[k].s.length gc] 29)
        have BA := BR.alloc BR.size (.cells #[.bool L[k].n, .bool L[k].sp.n, .int .i64 L[k].sp.lo, .int .i64 L[k].sp.hi, .bool L[k].t, .bool L[k].f, .slice ss L[k].s.length gc] 29)
        clear PR CR LR IR BR GR
        go_wp2_with (go_at_call 87; fail)
        refine (checkParts_any V F s c cap L[k] ss gc _ CA h60 IA (by omega)).mono ?_
        rintro e w2 ⟨rfl, hb2⟩
        have P2 := PA.call hb2
        have C2 := CA.call hb2
        have L2 := LA.call hb2
        have B2 := BA.trans (hb2.mono BA.size)
        clear hb2 PA CA LA IA BA
        by_cases hz : ckGs c L[k] = 0
        · have HT : Hid (ckGss c (L.drop (k + 1)) = ckGss c L) := by show _ = _; rw [← HK.out, HS.out, if_pos hz]
          rw [hz]
          clear HK HS hz
          go_wp2
          go_roundw
          case rel => exact ⟨k + 1, by omega, by go_num, P2, C2, L2, B2, HT⟩
          case measure => simp [intOf]; omega
        · have HT : Hid (ckGs c L[k] = ckGss c L) := by show _ = _; rw [← HK.out, HS.out, if_neg hz]
          have hne : (ckGs c L[k] != 0) = true := by simpa using hz
          clear HK HS
          go_wp2
          go_ret
          exact ⟨ret_int (by rw [HF.out, HT.out]), B2⟩
      · go_wp2
        go_ret
        exact ⟨ret_int (by rw [HF.out, ← HK.out, List.drop_eq_nil_of_le (by omega)]; rfl), BR⟩
  · have HF : Hid (ckAllG V F c L = ckProg V F c) := by show _ = _; rw [HR.out, if_neg h0]
    have hne : (ckProg V F c != 0) = true := by simpa using h0
    clear HR
    go_wp2
    go_ret
    exact ⟨ret_int HF.out.symm, B1⟩
end Go.Proofs.YtmapdpcfanecdaaGreat

namespace Go.Proofs.YtmapdpcfanecdaaGreat
set_option linter.unusedVariables false
set_option linter.unusedSimpArgs false
open Go.RowKit

set_option maxHeartbeats 1000000 in
theorem checkSpan_any (s : Sp) (w : World) :
    Calls Tryz.prog 92 #[sv s] w fun e w' => e = .returned (.int .i64 (ckSp s)) ∧ Below w.heap.size w w' := by
  obtain ⟨n, lo, hi⟩ := s
  have e0 : ckSp ⟨n, lo, hi⟩ = if ¬ (inNum lo ∧ inNum hi) then 3 else if n = true ∧ ¬ (lo = 0 ∧ hi = 0) then 1 else if hi < lo then 4 else 0 := rfl
  rw [e0]
  clear e0
  by_cases h : inNum lo
  · have b1 : btw lo (-2147483648) 2147483647 = true := decide_eq_true h
    by_cases h' : inNum hi
    · have b2 : btw hi (-2147483648) 2147483647 = true := decide_eq_true h'
      rw [if_neg (by simp [h, h'])]
      clear h h'
      cases n with
      | true =>
        by_cases hz : lo = 0
        · subst hz
          by_cases hz' : hi = 0
          · subst hz'
            rw [if_neg (by simp), if_neg (by simp)]
            go_enter Tryz.func92, Tryz.ntmps92
            go_wp2_with (go_at_call 73; refine (between_any _ _ _ _).mono ?_; rintro e w' ⟨rfl, rfl⟩)
            go_ret
            exact ⟨rfl, by go_grown⟩
          · have q : (hi == 0) = false := by simpa using hz'
            rw [if_pos (by simp [hz'])]
            go_enter Tryz.func92, Tryz.ntmps92
            go_wp2_with (go_at_call 73; refine (between_any _ _ _ _).mono ?_; rintro e w' ⟨rfl, rfl⟩)
            go_ret
            exact ⟨rfl, by go_grown⟩
        · have q : (lo == 0) = false := by simpa using hz
          rw [if_pos (by simp [hz])]
          go_enter Tryz.func92, Tryz.ntmps92
          go_wp2_with (go_at_call 73; refine (between_any _ _ _ _).mono ?_; rintro e w' ⟨rfl, rfl⟩)
          go_ret
          exact ⟨rfl, by go_grown⟩
      | false =>
        rw [if_neg (by simp)]
        by_cases hz : hi < lo
        · rw [if_pos hz]
          go_enter Tryz.func92, Tryz.ntmps92
          go_wp2_with (go_at_call 73; refine (between_any _ _ _ _).mono ?_; rintro e w' ⟨rfl, rfl⟩)
          go_ret
          exact ⟨rfl, by go_grown⟩
        · rw [if_neg hz]
          go_enter Tryz.func92, Tryz.ntmps92
          go_wp2_with (go_at_call 73; refine (between_any _ _ _ _).mono ?_; rintro e w' ⟨rfl, rfl⟩)
          go_ret
          exact ⟨rfl, by go_grown⟩
    · have b2 : btw hi (-2147483648) 2147483647 = false := decide_eq_false h'
      rw [if_pos (by simp [h'])]
      clear h h'
      go_enter Tryz.func92, Tryz.ntmps92
      go_wp2_with (go_at_call 73; refine (between_any _ _ _ _).mono ?_; rintro e w' ⟨rfl, rfl⟩)
      go_ret
      exact ⟨rfl, by go_grown⟩
  · have b1 : btw lo (-2147483648) 2147483647 = false := decide_eq_false h
    rw [if_pos (by simp [h])]
    clear h
    go_enter Tryz.func92, Tryz.ntmps92
    go_wp2_with (go_at_call 73; refine (between_any _ _ _ _).mono ?_; rintro e w' ⟨rfl, rfl⟩)
    go_ret
    exact ⟨rfl, by go_grown⟩

set_option maxHeartbeats 1000000 in
theorem inSpan_any (s : Sp) (x : Int) (w : World) :
    Calls Tryz.prog 51 #[sv s, .int .i64 x] w fun e w' => e = .returned (.bool (s.has x)) ∧ Below w.heap.size w w' := by
  obtain ⟨n, lo, hi⟩ := s
  have e0 : btw x lo hi = (decide (lo ≤ x) && decide (x ≤ hi)) := by unfold btw; exact Bool.decide_and _ _
  have e1 : Sp.has ⟨n, lo, hi⟩ x = (!n && btw x lo hi) := by rw [e0]; rfl
  rw [e1]
  cases n with
  | true =>
    go_enter Tryz.func51, Tryz.ntmps51
    go_wp2
    go_ret
    exact ⟨rfl, by go_grown⟩
  | false =>
    clear e0 e1
    generalize hB : btw x lo hi = B
    go_enter Tryz.func51, Tryz.ntmps51
    go_wp2_with (go_at_call 73; refine (between_any _ _ _ _).mono ?_; rintro e w' ⟨rfl, rfl⟩)
    go_ret
    exact ⟨ret_bool (by simp [hB]), by go_grown⟩

end Go.Proofs.YtmapdpcfanecdaaGreat

namespace Go.Proofs.YtmapdpcfanecdaaGreat
set_option linter.unusedVariables false
set_option linter.unusedSimpArgs false
open Go.RowKit

set_option maxHeartbeats 1000000 in
theorem isSite_any (V F : Int) (s : Option Addr) (c : List Ins) (cap : Nat) (x : Int) (w : World) (hc : CodeAt w s c) (hl : c.length ≤ 60) :
    Calls Tryz.prog 80 #[pv V F s c cap, .int .i64 x] w fun e w' => e = .returned (.bool (isSite c x)) ∧ Below w.heap.size w w' := by
  have hl' : (c.length : Int) ≤ 60 := by omega
  by_cases hx : 0 ≤ x ∧ x ≤ (c.length : Int) - 1
  · have hb := btw_true hx.1 hx.2
    obtain ⟨k, rfl⟩ := Int.eq_ofNat_of_zero_le hx.1
    have hk : k < c.length := by omega
    have CA := hc.alloc (.cells #[.int .i64 V, .int .i64 F, .slice s c.length cap] 24)
    obtain ⟨b, off, rfl, hbl, hi⟩ := CA.get k hk
    obtain ⟨i0, -, -, -, -, -⟩ := hi k hk
    have HR : Hid (isSite c k = decide (c[k].k = 11)) := by
      show _ = _
      unfold isSite
      rw [decide_eq_true (show (0 : Int) ≤ (k : Int) by omega), decide_eq_true (show (k : Int) < (c.length : Int) by omega), Int.toNat_natCast, show c.getD k ⟨0, 0, 0, 0, 0, 0⟩ = c[k] by simp [List.getD, List.getElem?_eq_getElem hk]]
      simp
    have n0 : (0 : Int) ≤ (k : Int) := by omega
    have n1 : (k : Int) < (c.length : Int) := by omega
    clear hi hc CA hx
    go_enter Tryz.func80, Tryz.ntmps80
    go_wp2_with (go_at_call 73; fail)
    refine (between_any _ _ _ _).mono ?_
    rintro e w1 ⟨rfl, rfl⟩
    rw [hb]
    go_wp2
    go_ret
    exact ⟨ret_bool (by rw [HR.out]; first | rfl | (simp; done) | exact (Bool.beq_eq_decide_eq _ _)), by go_grown⟩
  · have hb : btw x 0 ((c.length : Int) - 1) = false := by simp [btw]; omega
    have HR : Hid (isSite c x = false) := by
      show _ = _
      unfold isSite
      by_cases h0 : 0 ≤ x
      · rw [decide_eq_false (show ¬ x < (c.length : Int) by omega)]; simp
      · rw [decide_eq_false h0]; rfl
    clear hc hx
    go_enter Tryz.func80, Tryz.ntmps80
    go_wp2_with (go_at_call 73; fail)
    refine (between_any _ _ _ _).mono ?_
    rintro e w1 ⟨rfl, rfl⟩
    rw [hb]
    go_wp2
    go_ret
    exact ⟨ret_bool (by rw [HR.out]), by go_grown⟩

set_option maxHeartbeats 1000000 in
theorem hasR_any (x : Int) (ss : Option Addr) (cap : Nat) (l : List Int) (w : World) (hl : l.length ≤ 9223372036854775807) (hs : IntsAt w ss l) :
    Calls Tryz.prog 49 #[.slice ss l.length cap, .int .i64 x] w fun e w' => e = .returned (.bool (l.contains x)) ∧ w' = w := by
  have HX : Hid (l.contains x = decide (x ∈ l)) := by show _ = _; simp
  generalize l.contains x = r at *
  go_enter Tryz.func49, Tryz.ntmps49
  go_wp2
  go_loop [5] (fun i => ∃ k : Nat, k ≤ l.length ∧ i = .int .i64 k ∧ Hid (x ∈ l ↔ x ∈ l.drop k)) (fun i => l.length - (intOf i).toNat)
  case atStart => exact ⟨0, Nat.zero_le _, rfl, Iff.rfl⟩
  case round =>
    obtain ⟨k, hk, rfl, HA⟩ := hrel
    by_cases hlt : k < l.length
    · obtain ⟨b, off, rfl, hb, hc⟩ := hs.get k hlt
      have n0 : (0 : Int) ≤ (k : Int) := by omega
      have n1 : (k : Int) < (l.length : Int) := by omega
      have c0 := hc k hlt
      have HN : Hid (x ∈ l.drop k ↔ (x = l[k] ∨ x ∈ l.drop (k + 1))) := indexI_le l x k hlt
      clear hc hs
      by_cases hp : l[k] = x
      · have HT : Hid (x ∈ l) := HA.out.2 (HN.out.2 (.inl hp.symm))
        clear HN HA
        have hp' : (l[k] == x) = true := by simp [hp]
        go_wp2
        go_ret
        exact ⟨ret_bool (by rw [HX.out]; exact (decide_eq_true HT.out).symm), rfl⟩
      · have HT : Hid (x ∈ l ↔ x ∈ l.drop (k + 1)) := HA.out.trans (HN.out.trans ⟨fun h => h.resolve_left fun e => hp e.symm, .inr⟩)
        have hp' : (l[k] == x) = false := by simpa using hp
        clear HN HA
        go_wp2
        go_round
        case rel => exact ⟨k + 1, by omega, by go_num, HT⟩
        case measure => simp [intOf]; omega
    · go_wp2
      go_ret
      exact ⟨ret_bool (by rw [HX.out]; exact (decide_eq_false fun h => by have := HA.out.1 h; rw [List.drop_eq_nil_of_le (by omega)] at this; cases this).symm), rfl⟩
end Go.Proofs.YtmapdpcfanecdaaGreat
