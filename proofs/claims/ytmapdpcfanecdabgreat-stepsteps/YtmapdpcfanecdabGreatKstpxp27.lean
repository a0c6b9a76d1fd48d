/- The document's own answer: a copy of a guess. -/
import Derived.Test.YtmapdpcfanecdabGreatKstpxp18
import Derived.Test.YtmapdpcfanecdabGreatKstpxp19
import Derived.Test.YtmapdpcfanecdabGreatKstpxp20
import Derived.Test.YtmapdpcfanecdabGreatKstpxp21
import Derived.Test.YtmapdpcfanecdabGreatKstpxp09
import Derived.Test.YtmapdpcfanecdabGreatShelf
import Derived.Deep.AppendLies
import Derived.Laws.OwnMore
import Derived.Sort.OwnSortedInts
import Derived.Lib.RowBridge
import Derived.Deep.DrawnRows
import Derived.Deep.RegionHeld3
import Derived.Test.YtmapdpcfanecdabGreatKstpxp13
import Derived.Test.YtmapdpcfanecdabGreatKstpxp22
import Derived.Test.YtmapdpcfanecdabGreatKstpxp23
import Derived.Test.YtmapdpcfanecdabGreatKstpxp24
import Derived.Test.YtmapdpcfanecdabGreatKstpxp25
import Derived.Test.YtmapdpcfanecdabGreatKstpxp26
import Derived.Test.YtmapdpcfanecdabGreatKstpxp01
import Derived.Deep.RegionHeld
import Derived.WalkKit
import Derived.WalkSpells
import Derived.WalkLawsBesides
import Derived.Handy
import Derived.Deep.DeepCutAuto
import Derived.OwnWalk
set_option linter.unusedSimpArgs false
set_option linter.unusedVariables false
namespace Go.Proofs.YtmapdpcfanecdabGreat
section
set_option maxHeartbeats 1000000
open Go.RowKit

theorem checkInstr_any (V F : Int) (s : Option Addr) (len cap N : Nat) (i : Ins) (w : World) (hV : 1 ≤ V) (hV' : V ≤ 8) (hF : 0 ≤ F) (hF' : F ≤ 3) (hL : len ≤ 60) (hs : ShpAt N shps w) :
  Calls Tryz.prog 97 #[.agg #[.int .i64 V, .int .i64 F, .slice s len cap], .map (some N), .agg #[.int .i64 i.k, .int .i64 i.tgt, .int .i64 i.a, .int .i64 i.b, .int .i64 i.n, .int .i64 i.g]] w fun e w' => e = .returned (.int .i64 (ckOne V F len i)) ∧ Below w.heap.size w w' := by
 obtain ⟨k, tto, a, b, n, g⟩ := i
 by_cases h : btw k 1 19 = true
 ·rcases btw_cases h with rfl | rfl | rfl | rfl | rfl | rfl | rfl | rfl | rfl | rfl | rfl | rfl | rfl | rfl | rfl | rfl | rfl | rfl | rfl
  ·exact checkInstr_1 V F s len cap N tto a b n g w hV hV' hF hF' hL hs
  ·exact checkInstr_2 V F s len cap N tto a b n g w hV hV' hF hF' hL hs
  ·exact checkInstr_3 V F s len cap N tto a b n g w hV hV' hF hF' hL hs
  ·exact checkInstr_4 V F s len cap N tto a b n g w hV hV' hF hF' hL hs
  ·exact checkInstr_5 V F s len cap N tto a b n g w hV hV' hF hF' hL hs
  ·exact checkInstr_6 V F s len cap N tto a b n g w hV hV' hF hF' hL hs
  ·exact checkInstr_7 V F s len cap N tto a b n g w hV hV' hF hF' hL hs
  ·exact checkInstr_8 V F s len cap N tto a b n g w hV hV' hF hF' hL hs
  ·exact checkInstr_9 V F s len cap N tto a b n g w hV hV' hF hF' hL hs
  ·exact checkInstr_10 V F s len cap N tto a b n g w hV hV' hF hF' hL hs
  ·exact checkInstr_11 V F s len cap N tto a b n g w hV hV' hF hF' hL hs
  ·exact checkInstr_12 V F s len cap N tto a b n g w hV hV' hF hF' hL hs
  ·exact checkInstr_13 V F s len cap N tto a b n g w hV hV' hF hF' hL hs
  ·exact checkInstr_14 V F s len cap N tto a b n g w hV hV' hF hF' hL hs
  ·exact checkInstr_15 V F s len cap N tto a b n g w hV hV' hF hF' hL hs
  ·exact checkInstr_16 V F s len cap N tto a b n g w hV hV' hF hF' hL hs
  ·exact checkInstr_17 V F s len cap N tto a b n g w hV hV' hF hF' hL hs
  ·exact checkInstr_18 V F s len cap N tto a b n g w hV hV' hF hF' hL hs
  ·exact checkInstr_19 V F s len cap N tto a b n g w hV hV' hF hF' hL hs
 ·exact checkInstr_no V F s len cap N k tto a b n g w hV hV' hF hF' hL hs (by simpa using h)

theorem check_loop (V F : Int) (b off cap : Nat) (c : List Ins) (w : World) (hV : 1 ≤ V) (hV' : V ≤ 8) (hF : 0 ≤ F) (hF' : F ≤ 3) (hL : c.length ≤ 60) (hb : b < w.heap.size) (hc : ∀ k (h : k < c.length), InsAt w b (off + k * 6) c[k]) :
  Calls Tryz.prog 64 #[.agg #[.int .i64 V, .int .i64 F, .slice (some ⟨b, off, none⟩) c.length cap]] w fun e w' => e = .returned (.int .i64 (ckAll V F c.length c)) ∧ Below w.heap.size w w' := by
 have hl60 : (c.length : Int) ≤ 60 := by omega
 have hbox : Below w.heap.size w (w.alloc (.cells #[.int .i64 V, .int .i64 F, .slice (some ⟨b, off, none⟩) c.length cap] 24)) := by go_grown
 go_enter Tryz.func64, Tryz.ntmps64
 go_wp2_with (go_at_call 96; refine (shapes_any _).mono ?_; rintro e w1 ⟨rfl, hs1, hb1⟩; obtain ⟨hc1, hf1⟩ := bcell hb1; have q2 : w1.cell? ⟨w.heap.size, 2, none⟩ = some (.slice (some ⟨b, off, none⟩) c.length cap) := (by rw [hb1.cell (by simp)]; simp [go_sem]))
 simp only [World.size_alloc] at hs1
 have q0 : w1.cell? ⟨w.heap.size, 0, none⟩ = some (.int .i64 V) := by rw [hb1.cell (by simp)]; simp [go_sem]
 have q1 : w1.cell? ⟨w.heap.size, 1, none⟩ = some (.int .i64 F) := by rw [hb1.cell (by simp)]; simp [go_sem]
 clear hc1 hf1
 have z1 : w.heap.size + 1 ≤ w1.heap.size := by have := hb1.size; simp at this; omega
 have hbw : Below w.heap.size w w1 := hbox.trans (hb1.mono (by simp))
 go_loopw [35] (fun i wr => ∃ k : Nat, k ≤ c.length ∧ i = .int .i64 k ∧ Below w1.heap.size w1 wr ∧ Hid (ckAll V F c.length (c.drop k) = ckAll V F c.length c)) (fun i _ => c.length - (intOf i).toNat)
 case atStart => exact ⟨0, Nat.zero_le _, rfl, Below.refl _ _, rfl⟩
 case round =>
  obtain ⟨k, hk, rfl, hbr, HR⟩ := hrel
  have r0 : wr.cell? ⟨w.heap.size, 0, none⟩ = some (.int .i64 V) := by rw [hbr.cell (by simp; omega)]; exact q0
  have r1 : wr.cell? ⟨w.heap.size, 1, none⟩ = some (.int .i64 F) := by rw [hbr.cell (by simp; omega)]; exact q1
  have r2 : wr.cell? ⟨w.heap.size, 2, none⟩ = some (.slice (some ⟨b, off, none⟩) c.length cap) := by rw [hbr.cell (by simp; omega)]; exact q2
  have s0 : w1.heap.size ≤ wr.heap.size := hbr.size
  have s1 : w.heap.size < wr.heap.size := by omega
  have s2 : b < wr.heap.size := by omega
  by_cases hlt : k < c.length
  ·have hi : InsAt wr b (off + k * 6) c[k] := ((hc k hlt).below hbw hb).below hbr (by omega)
   obtain ⟨i0, i1, i2, i3, i4, i5⟩ := hi
   have n0 : (0 : Int) ≤ (k : Int) := by omega
   have n1 : (k : Int) < (c.length : Int) := by omega
   clear q0 q1 q2
   have HS := ckAll_step (V := V) (F := F) (L := c.length) hlt
   by_cases hz : ckOne V F c.length c[k] = 0
   ·have HC : Hid (ckAll V F c.length (c.drop (k + 1)) = ckAll V F c.length c) := by have := HR.out; rw [HS, if_pos hz] at this; exact this
    clear HS HR
    go_wp2_with (go_at_call 97; refine (checkInstr_any V F _ _ _ _ c[k] _ hV hV' hF hF' hL ?hs).mono ?_; (case hs => exact hs1.below (hbr.alloc s0 _) (Nat.le_refl _)); rintro e w2 ⟨rfl, hb2⟩)
    go_roundw
    case rel => exact ⟨k + 1, by omega, by go_num, (hbr.alloc s0 _).trans (hb2.mono (by simp; omega)), HC⟩
    case measure => simp [intOf]; omega
   ·rw [if_neg hz] at HS
    have HC : Hid (ckOne V F c.length c[k] = ckAll V F c.length c) := by have := HR.out; rw [HS] at this; exact this
    have hz' : (ckOne V F c.length c[k] != 0) = true := by simpa using hz
    clear HS HR
    go_wp2_with (go_at_call 97; refine (checkInstr_any V F _ _ _ _ c[k] _ hV hV' hF hF' hL ?hs).mono ?_; (case hs => exact hs1.below (hbr.alloc s0 _) (Nat.le_refl _)); rintro e w2 ⟨rfl, hb2⟩)
    go_ret
    exact ⟨ret_int HC.out, hbw.trans (((hbr.alloc s0 _).trans (hb2.mono (by simp; omega))).mono (by omega))⟩
  ·go_wp2
   go_ret
   exact ⟨ret_int (by have := HR.out; rw [List.drop_eq_nil_of_le (by omega)] at this; exact this), hbw.trans (hbr.mono (by omega))⟩

theorem check_nil (V F : Int) (s : Option Addr) (cap : Nat) (w : World) (hV : 1 ≤ V) (hV' : V ≤ 8) (hF : 0 ≤ F) (hF' : F ≤ 3) :
  Calls Tryz.prog 64 #[.agg #[.int .i64 V, .int .i64 F, .slice s 0 cap]] w fun e w' => e = .returned (.int .i64 0) ∧ Below w.heap.size w w' := by
 have hbox : Below w.heap.size w (w.alloc (.cells #[.int .i64 V, .int .i64 F, .slice s 0 cap] 24)) := by go_grown
 go_enter Tryz.func64, Tryz.ntmps64
 go_wp2_with (go_at_call 96; refine (shapes_any _).mono ?_; rintro e w1 ⟨rfl, hs1, hb1⟩; have q2 : w1.cell? ⟨w.heap.size, 2, none⟩ = some (.slice s 0 cap) := (by rw [hb1.cell (by simp)]; simp [go_sem]))
 go_rounds 1
 go_ret
 exact ⟨rfl, hbox.trans (hb1.mono (by simp))⟩

theorem check_many (V F : Int) (s : Option Addr) (len cap : Nat) (w : World) (hV : 1 ≤ V) (hV' : V ≤ 8) (hF : 0 ≤ F) (hF' : F ≤ 3) (hl : 60 < len) :
  Calls Tryz.prog 64 #[.agg #[.int .i64 V, .int .i64 F, .slice s len cap]] w fun e w' => e = .returned (.int .i64 2) ∧ Below w.heap.size w w' := by
 have t3 : (60 : Int) < (len : Int) := by omega
 go_enter Tryz.func64, Tryz.ntmps64
 go_wp2
 go_ret
 exact ⟨rfl, by go_grown⟩

theorem check_range (V F : Int) (s : Option Addr) (len cap : Nat) (w : World) (h : ¬ (1 ≤ V ∧ V ≤ 8 ∧ 0 ≤ F ∧ F ≤ 3)) :
  Calls Tryz.prog 64 #[.agg #[.int .i64 V, .int .i64 F, .slice s len cap]] w fun e w' => e = .returned (.int .i64 3) ∧ Below w.heap.size w w' := by
 by_cases h1 : V < 1
 ·clear h
  go_enter Tryz.func64, Tryz.ntmps64
  go_wp2
  go_ret
  exact ⟨rfl, by go_grown⟩
 by_cases h2 : 8 < V
 ·clear h
  go_enter Tryz.func64, Tryz.ntmps64
  go_wp2
  go_ret
  exact ⟨rfl, by go_grown⟩
 by_cases h3 : F < 0
 ·clear h
  go_enter Tryz.func64, Tryz.ntmps64
  go_wp2
  go_ret
  exact ⟨rfl, by go_grown⟩
 ·have h4 : 3 < F := by omega
  clear h
  go_enter Tryz.func64, Tryz.ntmps64
  go_wp2
  go_ret
  exact ⟨rfl, by go_grown⟩

/-- The program's check of a program, whatever it is handed. -/
theorem codeCheck_any (V F : Int) (s : Option Addr) (cap : Nat) (c : List Ins) (w : World) (h : CodeAt w s c) :
  Calls Tryz.prog 64 #[.agg #[.int .i64 V, .int .i64 F, .slice s c.length cap]] w fun e w' => e = .returned (.int .i64 (ckProg V F c)) ∧ Below w.heap.size w w' := by
 unfold ckProg
 by_cases hr : 1 ≤ V ∧ V ≤ 8 ∧ 0 ≤ F ∧ F ≤ 3
 ·obtain ⟨hV, hV', hF, hF'⟩ := hr
  have t1 : btw V 1 8 = true := btw_true hV hV'
  have t2 : btw F 0 3 = true := btw_true hF hF'
  by_cases hl : 60 < c.length
  ·simpa [t1, t2, hl] using check_many V F s c.length cap w hV hV' hF hF' hl
  ·rcases h with rfl | ⟨b, off, rfl, hb, hc⟩
   ·simpa [t1, t2, ckAll] using check_nil V F s cap w hV hV' hF hF'
   ·simpa [t1, t2, hl] using check_loop V F b off cap c w hV hV' hF hF' (by omega) hb hc
 ·have : btw V 1 8 = false ∨ btw F 0 3 = false := by
   by_cases h1 : 1 ≤ V ∧ V ≤ 8
   ·right; simp [btw]; omega
   ·left; simp [btw]; omega
  rcases this with t | t
  ·simpa [t] using check_range V F s c.length cap w hr
  ·simpa [t] using check_range V F s c.length cap w hr
end
section
set_option maxHeartbeats 2000000
set_option maxRecDepth 10000
open Go.RowKit

theorem ckProg_60 {V F : Int} {c : List Ins} (h : ckProg V F c = 0) : c.length ≤ 60 := by
 unfold ckProg at h
 split at h
 ·cases h
 ·split at h
  ·cases h
  ·omega

theorem ckGss_drop (c : List Ins) (L : List Gs) (k : Nat) (h : k < L.length) : ckGss c (L.drop k) = if ckGs c L[k] = 0 then ckGss c (L.drop (k + 1)) else ckGs c L[k] := by
 rw [List.drop_eq_getElem_cons h]; rfl

theorem checkAllG_any (V F : Int) (s : Option Addr) (c : List Ins) (cap : Nat) (ls : Option Addr) (L : List Gs) (lc : Nat) (w : World) (hc : CodeAt w s c) (hL : GsAt w ls L) (hl : L.length ≤ 9223372036854775807) :
  Calls Tryz.prog 114 #[pv V F s c cap, .slice ls L.length lc] w fun e w' => e = .returned (.int .i64 (ckAllG V F c L)) ∧ Below w.heap.size w w' := by
 have P0 := PrAt.new w V F s c cap
 have C0 := hc.alloc (.cells #[.int .i64 V, .int .i64 F, .slice s c.length cap] 24)
 have L0 := hL.alloc (.cells #[.int .i64 V, .int .i64 F, .slice s c.length cap] 24)
 have B0 : Below w.heap.size w (w.alloc (.cells #[.int .i64 V, .int .i64 F, .slice s c.length cap] 24)) := by go_grown
 have HR : Hid (ckAllG V F c L = if ckProg V F c = 0 then ckGss c L else ckProg V F c) := rfl
 clear hc hL
 go_enter Tryz.func114, Tryz.ntmps114
 go_wp2_with (go_at_call 64; fail)
 refine (codeCheck_any V F s cap c _ C0).mono ?_
 rintro e w1 ⟨rfl, hb1⟩
 have P1 := P0.call hb1
 have C1 := C0.call hb1
 have L1 := L0.call hb1
 have B1 : Below w.heap.size w w1 := B0.trans (hb1.mono (by simp))
 clear hb1 P0 C0 L0 B0
 by_cases h0 : ckProg V F c = 0
 ·have h60 := ckProg_60 h0
  have HF : Hid (ckAllG V F c L = ckGss c L) := by show _ = _; rw [HR.out, if_pos h0]
  rw [h0]
  clear HR h0
  go_wp2
  go_loopw [16] (fun i wr => ∃ k : Nat, k ≤ L.length ∧ i = .int .i64 k ∧ PrAt wr w.heap.size V F s c cap ∧ CodeAt wr s c ∧ GsAt wr ls L ∧ Below w.heap.size w wr ∧ Hid (ckGss c (L.drop k) = ckGss c L)) (fun i _ => L.length - (intOf i).toNat)
  case atStart => exact ⟨0, Nat.zero_le _, rfl, P1, C1, L1, B1, rfl⟩
  case round =>
   obtain ⟨k, hk, rfl, PR, CR, LR, BR, HK⟩ := hrel
   clear P1 C1 L1 B1
   by_cases hlt : k < L.length
   ·obtain ⟨b, off, rfl, ss, gc, GR, IR, hg1, hg2⟩ := LR k hlt
    obtain ⟨⟨p0, p1, p2⟩, p3⟩ := id PR
    obtain ⟨⟨g0, g1, g2, g3, g4, g5, g6⟩, gz⟩ := id GR
    have n0 : (0 : Int) ≤ (k : Int) := by omega
    have n1 : (k : Int) < (L.length : Int) := by omega
    have HS := hideH (ckGss_drop c L k hlt)
    unfold maxLen at hg2
    have PA := PR.alloc (.cells #[.bool L[k].n, .bool L[k].sp.n, .int .i64 L[k].sp.lo, .int .i64 L[k].sp.hi, .bool L[k].t, .bool L[k].f, .slice ss L[k].s.length gc] 61)
    have CA := CR.alloc (.cells #[.bool L[k].n, .bool L[k].sp.n, .int .i64 L[k].sp.lo, .int .i64 L[k].sp.hi, .bool L[k].t, .bool L[k].f, .slice ss L[k].s.length gc] 61)
    have LA := LR.alloc (.cells #[.bool L[k].n, .bool L[k].sp.n, .int .i64 L[k].sp.lo, .int .i64 L[k].sp.hi, .bool L[k].t, .bool L[k].f, .slice ss L[k].s.length gc] 61)
    have IA := IR.alloc (.cells #[.bool L[k].n, .bool L[k].sp.n, .int .i64 L[k].sp.lo, .int .i64 L[k].sp.hi, .bool L[k].t, .bool L[k].f, .slice ss L[k].s.length gc] 61)
    have BA := BR.alloc BR.size (.cells #[.bool L[k].n, .bool L[k].sp.n, .int .i64 L[k].sp.lo, .int .i64 L[k].sp.hi, .bool L[k].t, .bool L[k].f, .slice ss L[k].s.length gc] 61)
    clear PR CR LR IR BR GR
    go_wp2_with (go_at_call 141; fail)
    refine (checkParts_any V F s c cap L[k] ss gc _ CA h60 IA (by omega)).mono ?_
    rintro e w2 ⟨rfl, hb2⟩
    have P2 := PA.call hb2
    have C2 := CA.call hb2
    have L2 := LA.call hb2
    have B2 := BA.trans (hb2.mono BA.size)
    clear hb2 PA CA LA IA BA
    by_cases hz : ckGs c L[k] = 0
    ·have HT : Hid (ckGss c (L.drop (k + 1)) = ckGss c L) := by show _ = _; rw [← HK.out, HS.out, if_pos hz]
     rw [hz]
     clear HK HS hz
     go_wp2
     go_roundw
     case rel => exact ⟨k + 1, by omega, by go_num, P2, C2, L2, B2, HT⟩
     case measure => simp [intOf]; omega
    ·have HT : Hid (ckGs c L[k] = ckGss c L) := by show _ = _; rw [← HK.out, HS.out, if_neg hz]
     have hne : (ckGs c L[k] != 0) = true := by simpa using hz
     clear HK HS
     go_wp2
     go_ret
     exact ⟨ret_int (by rw [HF.out, HT.out]), B2⟩
   ·go_wp2
    go_ret
    exact ⟨ret_int (by rw [HF.out, ← HK.out, List.drop_eq_nil_of_le (by omega)]; rfl), BR⟩
 ·have HF : Hid (ckAllG V F c L = ckProg V F c) := by show _ = _; rw [HR.out, if_neg h0]
  have hne : (ckProg V F c != 0) = true := by simpa using h0
  clear HR
  go_wp2
  go_ret
  exact ⟨ret_int HF.out.symm, B1⟩
end
section
set_option maxHeartbeats 2000000
set_option maxRecDepth 10000
open Go.RowKit Go.Sort

theorem run_append_none {P : Program} (w : World) (base : Nat) (t ty e : TypeId) (i : TypeInfo) (size : Nat) (ht : P.underlying t = some (.slice e)) (hi : P.info? e = some i)
  (v : Value) (n c : Nat) (xs : List Value) (hown : w.ownsRow base e size v n xs) :
  (Builtin.append_ #[t, t] ty #[v, .slice none 0 c]).run P w = .ok v w := by
 rcases hown.2 with ⟨rfl, rfl⟩ | ⟨g, cap, cur, rfl, _, _, hnc, _⟩
 ·simp [Builtin.append_, run_underlying ht, sizeOf, typeInfo, hi, Builtin.lenOf, Builtin.firstCells]
 ·simp [Builtin.append_, run_underlying ht, sizeOf, typeInfo, hi, Builtin.lenOf, Builtin.firstCells, hnc, storeCells]

theorem wpList_append_none {P : Program} (w : World) {ops : Array Oper} {rest : List Oper} {o : Oper} {a : Act} {Q : Exit → Act → World → Prop} (hgd : o.guard = none) (s x : Operand) (t : TypeId)
  (ho : o.op = .call { callee := .builtin .append, args := #[s, x], argTypes := #[t, t] })
  (base : Nat) (e : TypeId) (i : TypeInfo) (size : Nat) (ht : P.underlying t = some (.slice e)) (hi : P.info? e = some i)
  (v : Value) (n c : Nat) (xs : List Value) (hs : a.eval s = v) (hown : w.ownsRow base e size v n xs) (hx : a.eval x = .slice none 0 c)
  (h : wpList P ops Q rest (a.put o.dst v) w) : wpList P ops Q (o :: rest) a w := by
 refine wpList_plain hgd fun K hK => ?_
 have hr := run_append_none (P := P) w base t o.type e i size ht hi v n c xs hown
 unfold Oper.wp execOp
 simp only [ho, resolve, invoke, builtin, Sem.run_bind, Sem.run_pure, Result.andThen_ok, List.map_toArray, List.map_cons, List.map_nil, hs, hx, hr]
 exact hK _ _ h

theorem grow_none (w : World) : grow w #[] = w := by simp [grow]

theorem ownsRow_short {w : World} {B g cap n m : Nat} {e : TypeId} {xs : List Value} (h : w.ownsRow B e 1 (.slice (some ⟨g, 0, none⟩) n cap) n xs) (hm : m ≤ n) : w.ownsRow B e 1 (.slice (some ⟨g, 0, none⟩) m cap) m (xs.take m) := by
 obtain ⟨hl, h2⟩ := h
 rcases h2 with ⟨h', _⟩ | ⟨g', cap', cur, h', hb, hg, h1, h2, h3, h4⟩
 ·cases h'
 ·cases h'
  refine ⟨by rw [List.length_take]; omega, .inr ⟨g, cap, cur, rfl, hb, hg, by omega, h2, h3, ?_⟩⟩
  rw [← h4, List.take_take]
  congr 1
  omega

/-- What a row holds is a list of integers. -/
theorem IntsAt.own {w : World} {B n : Nat} {e : TypeId} {v : Value} {l : List Int} (h : w.ownsRow B e 1 v n (l.map (.int .i64))) :
  ∃ ss cap, v = .slice ss l.length cap ∧ IntsAt w ss l ∧ l.length ≤ cap ∧ cap ≤ maxLen ∧ ∀ a, ss = some a → B ≤ a.block := by
 have hn : l.length = n := by have := h.1; simpa using this
 subst hn
 rcases h.2 with ⟨rfl, h0⟩ | ⟨g, cap, cur, rfl, hb, hg, h1, h2, h3, h4⟩
 ·have : l = [] := List.length_eq_zero_iff.1 h0
  subst this
  exact ⟨none, 0, rfl, .inl rfl, Nat.le_refl _, by unfold maxLen; omega, fun a ha => by cases ha⟩
 ·refine ⟨some ⟨g, 0, none⟩, cap, rfl, .inr ⟨g, 0, rfl, (Array.getElem?_eq_some_iff.1 hg).1, fun k hk => ?_⟩, h1, h2, fun a ha => by cases ha; exact hb⟩
  have := h.cellAt k (by omega)
  rw [Nat.zero_add, this]
  simp [hk]

/-- All sites of guesses, rising. -/
def sitesOf (L : List Gs) : List Int := Lib.compact ((L.flatMap Gs.s).mergeSort fun x y => decide (x ≤ y))

theorem cat_succ (L : List Gs) (k : Nat) (h : k < L.length) : (L.take (k + 1)).flatMap Gs.s = (L.take k).flatMap Gs.s ++ L[k].s := by
 rw [List.take_succ_eq_append_getElem h, List.flatMap_append]
 simp
theorem cat_le (L : List Gs) (k : Nat) : ((L.take k).flatMap Gs.s).length ≤ (L.flatMap Gs.s).length := by
 conv => rhs; rw [← List.take_append_drop k L]
 rw [List.flatMap_append, List.length_append]
 omega

theorem Tryz.info_intG : (Tryz.prog.info? 3).map (fun i => (i.zero, i.size, i.bytes)) = some (some (.int .i64 0), 1, 8) := by kernel_rfl
theorem ownsRow_lowG {w : World} {B : Nat} {e : TypeId} {z : Nat} {v : Value} {n : Nat} {xs : List Value} (h : w.ownsRow B e z v n xs) {k : Nat} (hk : v.ownBlock = some k) : B ≤ k := by
 rcases h.2 with ⟨rfl, _⟩ | ⟨g, cap, cur, rfl, hb, hg, _⟩
 ·cases hk
 ·cases hk
  exact hb

theorem allSites_any (ls : Option Addr) (L : List Gs) (lc : Nat) (w : World) (hL : GsAt w ls L) (hl : L.length ≤ 1000000) (hT : (L.flatMap Gs.s).length ≤ 1000000) :
  Calls Tryz.prog 136 #[.slice ls L.length lc] w fun e w' => ∃ v, e = .returned v ∧ w'.ownsRow w.heap.size 3 1 v (sitesOf L).length ((sitesOf L).map (.int .i64)) ∧ Below w.heap.size w w' := by
 obtain ⟨ti, hi, hz0, hz1, hz2⟩ := info_parts Tryz.info_intG
 go_enter Tryz.func136, Tryz.ntmps136
 go_wp2
 go_loopw [3, 8] (fun o i wr => ∃ k : Nat, k ≤ L.length ∧ i = .int .i64 k ∧ wr.ownsRow w.heap.size 3 1 o ((L.take k).flatMap Gs.s).length (((L.take k).flatMap Gs.s).map (.int .i64)) ∧ Below w.heap.size w wr) (fun _ i _ => L.length - (intOf i).toNat)
 case atStart => exact ⟨0, Nat.zero_le _, rfl, ⟨by simp, .inl ⟨rfl, by simp⟩⟩, Below.refl _ _⟩
 case round =>
  obtain ⟨k, hk, rfl, hown, hbr⟩ := hrel
  have s1 := hbr.size
  by_cases hlt : k < L.length
  ·obtain ⟨b, off, rfl, ss, gc, GR, IR, hg1, hg2⟩ := hL.below hbr (Nat.le_refl _) k hlt
   obtain ⟨⟨g0, g1, g2, g3, g4, g5, g6⟩, gz⟩ := id GR
   have n0 : (0 : Int) ≤ (k : Int) := by omega
   have n1 : (k : Int) < (L.length : Int) := by omega
   have HC := hideH (cat_succ L k hlt)
   have c1 := cat_le L (k + 1)
   rw [HC.out, List.length_append] at c1
   have IA := IR.alloc (.cells #[.bool L[k].n, .bool L[k].sp.n, .int .i64 L[k].sp.lo, .int .i64 L[k].sp.hi, .bool L[k].t, .bool L[k].f, .slice ss L[k].s.length gc] 61)
   have OA := hown.alloc (.cells #[.bool L[k].n, .bool L[k].sp.n, .int .i64 L[k].sp.lo, .int .i64 L[k].sp.hi, .bool L[k].t, .bool L[k].f, .slice ss L[k].s.length gc] 61)
   have BA := hbr.alloc s1 (.cells #[.bool L[k].n, .bool L[k].sp.n, .int .i64 L[k].sp.lo, .int .i64 L[k].sp.hi, .bool L[k].t, .bool L[k].f, .slice ss L[k].s.length gc] 61)
   cases ss with
   | none =>
    have h0 : L[k].s = [] := by
     rcases IR with h | ⟨_, _, h, _⟩
     ·exact h
     ·cases h
    have HC' : Hid ((L.take (k + 1)).flatMap Gs.s = (L.take k).flatMap Gs.s) := by show _ = _; rw [HC.out, h0, List.append_nil]
    rw [h0] at OA BA g6
    clear IA HC c1
    go_wp2_with (at_builtin; refine wpList_append_none _ rfl _ _ 59 rfl w.heap.size 3 ti 1 Tryz.underlying59 hi _ _ gc _ rfl OA rfl ?_)
    go_roundw
    case rel => exact ⟨k + 1, by omega, by go_num, by rw [HC'.out]; exact OA, BA⟩
    case measure => simp [intOf]; omega
   | some ad =>
    have hnews : ∀ j u, (L[k].s.map (Value.int .i64))[j]? = some u → (wr.alloc (.cells #[.bool L[k].n, .bool L[k].sp.n, .int .i64 L[k].sp.lo, .int .i64 L[k].sp.hi, .bool L[k].t, .bool L[k].f, .slice (some ad) L[k].s.length gc] 61)).cell? (ad.add j) = some u := by
     intro j u hju
     have hj : j < L[k].s.length := by
      have := (List.getElem?_eq_some_iff.1 hju).1
      simpa using this
     obtain ⟨b', off', e', hb', hc'⟩ := IA.get j hj
     cases e'
     have := hc' j hj
     rw [List.getElem?_map, List.getElem?_eq_getElem hj] at hju
     cases hju
     rw [← this, Addr.add_lit]
    clear IA
    go_wp2_with (at_builtin; refine wpList_append_own _ rfl _ _ 59 rfl w.heap.size 3 ti (.int .i64 0) 1 8 Tryz.underlying59 hi hz0 hz1 hz2 rfl (by decide) _ _ _ rfl OA ad L[k].s.length gc (L[k].s.map (.int .i64)) rfl (by simp) hnews (fun x hx => by obtain ⟨y, _, rfl⟩ := List.mem_map.1 hx; rfl) (by unfold maxLen; omega) (by omega) (by simp; omega) ?_; intro v' w3 hown' hgrow3 hnil3)
    go_roundw
    case rel => exact ⟨k + 1, by omega, by go_num, by rw [HC.out, List.map_append, List.length_append]; exact hown', BA.grown hgrow3 (by simp; omega) (fun j hj => ownsRow_lowG hown hj)⟩
    case measure => simp [intOf]; omega
  ·have hk' : k = L.length := by omega
   subst hk'
   rw [List.take_length] at hown
   have HS : Hid (sitesOf L = Lib.compact ((L.flatMap Gs.s).mergeSort fun x y => decide (x ≤ y))) := rfl
   generalize hzs : L.flatMap Gs.s = zs at *
   have HZ := hideH hzs
   clear hzs hL
   rcases hown.2 with ⟨rfl, h0⟩ | ⟨g, cap, cur, rfl, hbg, hg, h1, h2, h3, h4⟩
   ·have hnil : zs = [] := List.length_eq_zero_iff.1 h0
    have HE : Hid (sitesOf L = []) := by show _ = _; rw [HS.out, hnil]; simp [Lib.compact, Lib.compactUpTo]
    clear HS HZ hnil h0
    go_wp2_with (go_at_call 159; fail)
    refine (Tryz.slices_Sort_int_none _ _ _).mono ?_
    rintro e w1 ⟨rfl, rfl⟩
    go_wp2_with (go_at_call 160; fail)
    refine (Tryz.slices_Compact_int_empty _ _ _).mono ?_
    rintro e w1 ⟨rfl, rfl⟩
    go_wp2
    go_ret
    exact ⟨_, rfl, by rw [HE.out]; exact ⟨rfl, .inl ⟨rfl, rfl⟩⟩, hbr⟩
   ·have hgl : g < wr.heap.size := (Array.getElem?_eq_some_iff.1 hg).1
    rw [Nat.mul_one] at h4
    go_wp2_with (go_at_call 159; fail)
    refine (Tryz.slices_Sort_int g 0 cap zs _ (holds_of_blockI hg h4) hgl (by omega)).mono ?_
    rintro e w1 ⟨rfl, n, os, hw1⟩
    have hml : (zs.mergeSort fun x y => decide (x ≤ y)).length = zs.length := List.length_mergeSort _
    have O1 : w1.ownsRow w.heap.size 3 1 (.slice (some ⟨g, 0, none⟩) zs.length cap) zs.length ((zs.mergeSort fun x y => decide (x ≤ y)).map (.int .i64)) := by
     rw [hw1]; exact ownsRow_sortedI hml hbg hg h1 h2 h3
    have B1 : Below w.heap.size w w1 := by
     rw [hw1]; exact hbr.grown (grownBy_sortedI _) s1 (fun j hj => by cases hj; exact hbg)
    clear hw1
    generalize hys : (zs.mergeSort fun x y => decide (x ≤ y)) = ys at *
    have HE : Hid (sitesOf L = Lib.compact ys) := HS.out
    have hyl : ys.length = zs.length := hml
    clear hys hml HS hown h4 h3 hg hbr
    rcases O1.2 with ⟨h', _⟩ | ⟨g', cap', cur', h', -, hg', h1', h2', h3', h4'⟩
    ·cases h'
    ·cases h'
     rw [Nat.mul_one, ← hyl] at h4'
     have hcl := Lib.compact_length_le ys
     go_wp2_with (go_at_call 160; fail)
     rw [← hyl]
     refine (Tryz.slices_Compact_int g 0 cap ys _ (holds_of_blockI hg' h4') (by omega) (by omega)).mono ?_
     rintro e w2 ⟨rfl, q, hw2⟩
     rw [← grow_none (putRow _ _ _ _ _)] at hw2
     have htl : (Lib.compact ys ++ List.replicate (ys.length - (Lib.compact ys).length) (0 : Int)).length = ys.length := by rw [List.length_append, List.length_replicate]; omega
     have O2 := ownsRow_sortedI (w := w1) (n := q) (os := #[]) (ss := ys) htl hbg hg' (by omega) h2' h3'
     rw [← hw2] at O2
     have B2 : Below w.heap.size w w2 := by
      rw [hw2]; exact B1.grown (grownBy_sortedI _) B1.size (fun j hj => by cases hj; exact hbg)
     have O3 := ownsRow_short O2 hcl
     rw [← List.map_take, List.take_left] at O3
     clear hw2 O2 O1 B1 htl hg' h4'
     go_wp2
     go_ret
     exact ⟨_, rfl, by rw [HE.out]; exact O3, B2⟩
end
section
set_option maxRecDepth 100000
open Go.RowKit

/-- The boxes of together: program, two guesses, the answer. -/
abbrev togW (w : World) (V F : Int) (s : Option Addr) (c : List Ins) (cap : Nat) (g : Gs) (ss : Option Addr) (gc : Nat) (h : Gs) (st : Option Addr) (hc : Nat) : World :=
 (((w.alloc (.cells #[.int .i64 V, .int .i64 F, .slice s c.length cap] 24)).alloc (.cells #[.bool g.n, .bool g.sp.n, .int .i64 g.sp.lo, .int .i64 g.sp.hi, .bool g.t, .bool g.f, .slice ss g.s.length gc] 61)).alloc (.cells #[.bool h.n, .bool h.sp.n, .int .i64 h.sp.lo, .int .i64 h.sp.hi, .bool h.t, .bool h.f, .slice st h.s.length hc] 61)).alloc (.cells #[.bool false, .bool false, .int .i64 0, .int .i64 0, .bool false, .bool false, .slice none 0 0] 61)

/-- Its result's block may be written. -/
def Fr7 (w : World) (b : Nat) : Prop := (∀ j, w.frozen? ⟨b, j, none⟩ = false) ∧ b < w.heap.size
theorem Fr7.call {w w' : World} {b : Nat} (h : Fr7 w b) (hb : Below w.heap.size w w') : Fr7 w' b :=
 ⟨fun j => by rw [hb.frozen (by simpa using h.2)]; exact h.1 j, Nat.lt_of_lt_of_le h.2 hb.size⟩

theorem Fr7.drew {w : World} {b : Nat} (h : Fr7 w b) : Fr7 w.drew b := h.call (Below.refl _ _).drew
theorem Fr7.alloc {w : World} {b : Nat} (h : Fr7 w b) (o : Obj) : Fr7 (w.alloc o) b := h.call (Below.alloc (Below.refl _ _) (Nat.le_refl _) o)

theorem ckAllG_spans {V F : Int} {c : List Ins} {g h : Gs} (hk : ckAllG V F c [g, h] = 0) : ckSps g.sp h.sp = 0 := by
 unfold ckAllG at hk
 split at hk
 ·have e : ckGss c [g, h] = if ckGs c g = 0 then (if ckGs c h = 0 then 0 else ckGs c h) else ckGs c g := rfl
  have sp0 : ∀ x, ckGs c x = 0 → ckSp x.sp = 0 := fun x hx => by
   unfold ckGs at hx
   split at hx
   ·assumption
   ·rename_i hn; exact Decidable.not_not.1 hn
  rw [e] at hk
  by_cases hg : ckGs c g = 0
  ·rw [if_pos hg] at hk
   by_cases hh : ckGs c h = 0
   ·exact ckSps_ok.2 ⟨ckSp_ok.1 (sp0 g hg), ckSp_ok.1 (sp0 h hh)⟩
   ·rw [if_neg hh] at hk; exact absurd hk hh
  ·rw [if_neg hg] at hk; exact absurd hk hg
 ·rename_i hn; exact absurd hk hn

theorem togW_at (w : World) (V F : Int) (s : Option Addr) (c : List Ins) (cap : Nat) (g : Gs) (ss : Option Addr) (gc : Nat) (h : Gs) (st : Option Addr) (hc : Nat) :
  PrAt (togW w V F s c cap g ss gc h st hc) w.heap.size V F s c cap ∧ GuAt (togW w V F s c cap g ss gc h st hc) (w.heap.size + 1) 0 g ss gc ∧ GuAt (togW w V F s c cap g ss gc h st hc) (w.heap.size + 1 + 1) 0 h st hc ∧ GuAt (togW w V F s c cap g ss gc h st hc) (w.heap.size + 1 + 1 + 1) 0 zeroG none 0 ∧ Fr7 (togW w V F s c cap g ss gc h st hc) (w.heap.size + 1 + 1 + 1) := by
 refine ⟨?_, ?_, ?_, ?_, ?_⟩
 ·exact (((PrAt.new w V F s c cap).alloc _).alloc _).alloc _
 ·have := GuAt.new (w.alloc (.cells #[.int .i64 V, .int .i64 F, .slice s c.length cap] 24)) g ss gc
  rw [World.size_alloc] at this
  exact (this.alloc _).alloc _
 ·have := GuAt.new ((w.alloc (.cells #[.int .i64 V, .int .i64 F, .slice s c.length cap] 24)).alloc (.cells #[.bool g.n, .bool g.sp.n, .int .i64 g.sp.lo, .int .i64 g.sp.hi, .bool g.t, .bool g.f, .slice ss g.s.length gc] 61)) h st hc
  simp only [World.size_alloc] at this
  exact this.alloc _
 ·have := GuAt.new (((w.alloc (.cells #[.int .i64 V, .int .i64 F, .slice s c.length cap] 24)).alloc (.cells #[.bool g.n, .bool g.sp.n, .int .i64 g.sp.lo, .int .i64 g.sp.hi, .bool g.t, .bool g.f, .slice ss g.s.length gc] 61)).alloc (.cells #[.bool h.n, .bool h.sp.n, .int .i64 h.sp.lo, .int .i64 h.sp.hi, .bool h.t, .bool h.f, .slice st h.s.length hc] 61)) zeroG none 0
  simp only [World.size_alloc] at this
  exact this
 ·refine ⟨fun j => ?_, by simp⟩
  simp [go_sem]

theorem togW_below (w : World) (V F : Int) (s : Option Addr) (c : List Ins) (cap : Nat) (g : Gs) (ss : Option Addr) (gc : Nat) (h : Gs) (st : Option Addr) (hc : Nat) : Below w.heap.size w (togW w V F s c cap g ss gc h st hc) := by go_grown

/-- What the region reads. -/
def regS (w : World) (jb : Nat) (g : Gs) (ss : Option Addr) (gc : Nat) (h : Gs) (st : Option Addr) (hc : Nat) (J : Sp) (w' : World) : Prop :=
 (w'.cell? ⟨w.heap.size + 1, 0, none⟩ = some (.bool g.n) ∧ w'.cell? ⟨w.heap.size + 1, 1, none⟩ = some (.bool g.sp.n) ∧ w'.cell? ⟨w.heap.size + 1, 2, none⟩ = some (.int .i64 g.sp.lo) ∧ w'.cell? ⟨w.heap.size + 1, 3, none⟩ = some (.int .i64 g.sp.hi) ∧ w'.cell? ⟨w.heap.size + 1, 4, none⟩ = some (.bool g.t) ∧ w'.cell? ⟨w.heap.size + 1, 5, none⟩ = some (.bool g.f) ∧ w'.cell? ⟨w.heap.size + 1, 6, none⟩ = some (.slice ss g.s.length gc)) ∧
 (w'.cell? ⟨w.heap.size + 1 + 1, 0, none⟩ = some (.bool h.n) ∧ w'.cell? ⟨w.heap.size + 1 + 1, 1, none⟩ = some (.bool h.sp.n) ∧ w'.cell? ⟨w.heap.size + 1 + 1, 2, none⟩ = some (.int .i64 h.sp.lo) ∧ w'.cell? ⟨w.heap.size + 1 + 1, 3, none⟩ = some (.int .i64 h.sp.hi) ∧ w'.cell? ⟨w.heap.size + 1 + 1, 4, none⟩ = some (.bool h.t) ∧ w'.cell? ⟨w.heap.size + 1 + 1, 5, none⟩ = some (.bool h.f) ∧ w'.cell? ⟨w.heap.size + 1 + 1, 6, none⟩ = some (.slice st h.s.length hc)) ∧
 (w'.cell? ⟨jb, 0, none⟩ = some (.bool J.n) ∧ w'.cell? ⟨jb, 1, none⟩ = some (.int .i64 J.lo) ∧ w'.cell? ⟨jb, 2, none⟩ = some (.int .i64 J.hi))


/-- A guess is stored. -/
abbrev put7 (w : World) (b : Nat) (v0 v1 v2 v3 v4 v5 v6 : Value) : World := ((((((w.setCell ⟨b, 0, none⟩ v0).setCell ⟨b, 1, none⟩ v1).setCell ⟨b, 2, none⟩ v2).setCell ⟨b, 3, none⟩ v3).setCell ⟨b, 4, none⟩ v4).setCell ⟨b, 5, none⟩ v5).setCell ⟨b, 6, none⟩ v6
theorem heap_put7 (w : World) (b k : Nat) (v0 v1 v2 v3 v4 v5 v6 : Value) (h : k ≠ b) : (put7 w b v0 v1 v2 v3 v4 v5 v6).heap[k]? = w.heap[k]? := by
 unfold put7
 rw [Below.heap_setCell _ _ _ _ h, Below.heap_setCell _ _ _ _ h, Below.heap_setCell _ _ _ _ h, Below.heap_setCell _ _ _ _ h, Below.heap_setCell _ _ _ _ h, Below.heap_setCell _ _ _ _ h, Below.heap_setCell _ _ _ _ h]
theorem size_put7 (w : World) (b : Nat) (v0 v1 v2 v3 v4 v5 v6 : Value) : (put7 w b v0 v1 v2 v3 v4 v5 v6).heap.size = w.heap.size := by simp [put7]
theorem cell_put7 (w : World) (b k j : Nat) (v0 v1 v2 v3 v4 v5 v6 : Value) (h : k ≠ b) : (put7 w b v0 v1 v2 v3 v4 v5 v6).cell? ⟨k, j, none⟩ = w.cell? ⟨k, j, none⟩ := World.cell?_of_block (a := ⟨k, j, none⟩) (heap_put7 w b k v0 v1 v2 v3 v4 v5 v6 h)
theorem GuAt.put7 {w : World} {b k o : Nat} {g : Gs} {ss : Option Addr} {cap : Nat} {v0 v1 v2 v3 v4 v5 v6 : Value} (hg : GuAt w k o g ss cap) (h : k ≠ b) : GuAt (put7 w b v0 v1 v2 v3 v4 v5 v6) k o g ss cap := by
 obtain ⟨⟨h0, h1, h2, h3, h4, h5, h6⟩, hz⟩ := hg
 refine ⟨⟨?_, ?_, ?_, ?_, ?_, ?_, ?_⟩, by rw [size_put7]; exact hz⟩ <;> rw [cell_put7 _ _ _ _ _ _ _ _ _ _ _ h] <;> assumption
theorem SpAt.put7 {w : World} {b k : Nat} {s : Sp} {v0 v1 v2 v3 v4 v5 v6 : Value} (hg : SpAt w k s) (h : k ≠ b) : SpAt (put7 w b v0 v1 v2 v3 v4 v5 v6) k s := by
 obtain ⟨⟨h0, h1, h2⟩, hz⟩ := hg
 refine ⟨⟨?_, ?_, ?_⟩, by rw [size_put7]; exact hz⟩ <;> rw [cell_put7 _ _ _ _ _ _ _ _ _ _ _ h] <;> assumption
theorem below_put7 {B b : Nat} {a w : World} {v0 v1 v2 v3 v4 v5 v6 : Value} (h : Below B a w) (hg : B ≤ b) : Below B a (put7 w b v0 v1 v2 v3 v4 v5 v6) := ((((((h.setCell (by simpa using hg) _).setCell (by simpa using hg) _).setCell (by simpa using hg) _).setCell (by simpa using hg) _).setCell (by simpa using hg) _).setCell (by simpa using hg) _).setCell (by simpa using hg) _
theorem ownsRow_base {w : World} {B B' n z : Nat} {e : TypeId} {v : Value} {xs : List Value} (h : w.ownsRow B e z v n xs) (hB : B' ≤ B) : w.ownsRow B' e z v n xs :=
 ⟨h.1, h.2.imp id fun ⟨g, cap, cur, r1, r2, r3⟩ => ⟨g, cap, cur, r1, by omega, r3⟩⟩
theorem ownsRow_put7 {w : World} {B n b z : Nat} {e : TypeId} {v : Value} {xs : List Value} {v0 v1 v2 v3 v4 v5 v6 : Value} (h : w.ownsRow B e z v n xs) (hb : b < B) : (put7 w b v0 v1 v2 v3 v4 v5 v6).ownsRow B e z v n xs :=
 ⟨h.1, h.2.imp id fun ⟨g, cap, cur, r1, r2, r3, r4⟩ => ⟨g, cap, cur, r1, r2, by rw [heap_put7 _ _ _ _ _ _ _ _ _ _ (by omega)]; exact r3, r4⟩⟩
theorem GsAt.drew {w : World} {ls : Option Addr} {L : List Gs} (h : GsAt w ls L) : GsAt w.drew ls L := h.call ((Below.refl _ _).drew)

theorem prf_86e381 {p : Prop} (h : p := by
 refine (hJ.out _).mono ?_
 rintro e w2 ⟨rfl, hb2⟩
 have G2 := G1.call hb2
 have H2 := H1.call hb2
 have R2 := R1.call hb2
 have I2 := I1.call hb2
 have J2 := J1.call hb2
 have F2 := F1.call hb2
 have B2 := B1.trans (hb2.mono B1.size)
 clear hb2 G1 H1 R1 I1 J1 F1 B1 g0 g1 g2 g3 g4 g5 g6 gz k0 k1 k2 k3 k4 k5 k6 kz hJ
 go_wp2
 have G3 := G2.alloc (.cells #[.bool J.n, .int .i64 J.lo, .int .i64 J.hi] 58)
 have H3 := H2.alloc (.cells #[.bool J.n, .int .i64 J.lo, .int .i64 J.hi] 58)
 have R3 := R2.alloc (.cells #[.bool J.n, .int .i64 J.lo, .int .i64 J.hi] 58)
 have I3 := I2.alloc (.cells #[.bool J.n, .int .i64 J.lo, .int .i64 J.hi] 58)
 have J3 := J2.alloc (.cells #[.bool J.n, .int .i64 J.lo, .int .i64 J.hi] 58)
 have F3 := F2.alloc (.cells #[.bool J.n, .int .i64 J.lo, .int .i64 J.hi] 58)
 have B3 := B2.alloc B2.size (.cells #[.bool J.n, .int .i64 J.lo, .int .i64 J.hi] 58)
 have S3 := SpAt.new w2 J
 have zj : w.heap.size + 1 + 1 + 1 < w2.heap.size := F2.2
 clear G2 H2 R2 I2 J2 F2 B2
 generalize w2.alloc (.cells #[.bool J.n, .int .i64 J.lo, .int .i64 J.hi] 58) = w3 at *
 generalize w2.heap.size = jb at *
 have KS : ∀ wx, GuAt wx (w.heap.size + 1) 0 g ss gc → GuAt wx (w.heap.size + 1 + 1) 0 h st hc → SpAt wx jb J → regS w jb g ss gc h st hc J wx := fun wx a b c => ⟨by simpa using a.1, by simpa using b.1, c.1⟩
 unfold regS at KS
 obtain ⟨n, sp, t, f, sl⟩ := g
 refine wp_region_held_drew (S := regS w jb ⟨n, sp, t, f, sl⟩ ss gc h st hc J) (by kernel_rfl) (KS _ G3.drew H3.drew S3.drew) (fun hHeld => ?_)
 unfold regS at hHeld ⊢
 refine tH 0 ?_ ?_;refine sm ?_
 refine tH 1 ?_ ?_;refine sm ?_
 refine tH 2 ?_ ?_;refine sm ?_
 refine wpAnyH_take (i := 3) (v := if n = true then undef else .pointer (some ⟨w.heap.size + 1 + 1, 0, none⟩)) rfl (by kernel_rfl) (by kernel_rfl) (by kernel_rfl) (fun _ _ _ h => h) ?_ (by assumption) ?_
 ·cases n
  ·refine Or.inl ⟨?_, ?_⟩
   ·rfl
   ·(intro w hSw; (try dsimp only at hSw); first | (go_simp; done) | (go_simp; with_reducible rfl))
  ·exact Or.inr ⟨rfl, rfl⟩
 refine sm ?_
 refine wpAnyH_take (i := 4) (v := if n = true then undef else .bool h.n) rfl (by kernel_rfl) (by kernel_rfl) (by kernel_rfl) (fun _ _ _ h => h) ?_ (by assumption) ?_
 ·cases n
  ·refine Or.inl ⟨?_, ?_⟩
   ·rfl
   ·(intro w hSw; (try dsimp only at hSw); first | (go_simp; done) | (go_simp; with_reducible rfl))
  ·exact Or.inr ⟨rfl, rfl⟩
 refine sm ?_
 refine wpAnyH_take (i := 5) (v := .bool (n || h.n)) rfl (by kernel_rfl) (by kernel_rfl) (by kernel_rfl) (fun _ _ _ h => h) ?_ (by assumption) ?_
 ·cases n
  ·refine Or.inl ⟨?_, ?_⟩
   ·rfl
   ·(intro w hSw; (try dsimp only at hSw); first | (go_simp; done) | (go_simp; with_reducible rfl))
  ·refine Or.inl ⟨?_, ?_⟩
   ·rfl
   ·(intro w hSw; (try dsimp only at hSw); first | (go_simp; done) | (go_simp; with_reducible rfl))
 refine sm ?_
 refine tH 6 ?_ ?_;refine sm ?_
 refine tH 7 ?_ ?_;refine sm ?_
 refine tH 8 ?_ ?_;refine sm ?_
 refine tH 9 ?_ ?_;refine sm ?_
 refine wpAnyH_take (i := 10) (v := if t = true then undef else .pointer (some ⟨w.heap.size + 1 + 1, 4, none⟩)) rfl (by kernel_rfl) (by kernel_rfl) (by kernel_rfl) (fun _ _ _ h => h) ?_ (by assumption) ?_
 ·cases t
  ·refine Or.inl ⟨?_, ?_⟩
   ·rfl
   ·(intro w hSw; (try dsimp only at hSw); first | (go_simp; done) | (go_simp; with_reducible rfl))
  ·exact Or.inr ⟨rfl, rfl⟩
 refine sm ?_
 refine wpAnyH_take (i := 11) (v := if t = true then undef else .bool h.t) rfl (by kernel_rfl) (by kernel_rfl) (by kernel_rfl) (fun _ _ _ h => h) ?_ (by assumption) ?_
 ·cases t
  ·refine Or.inl ⟨?_, ?_⟩
   ·rfl
   ·(intro w hSw; (try dsimp only at hSw); first | (go_simp; done) | (go_simp; with_reducible rfl))
  ·exact Or.inr ⟨rfl, rfl⟩
 refine sm ?_
 refine wpAnyH_take (i := 12) (v := .bool (t || h.t)) rfl (by kernel_rfl) (by kernel_rfl) (by kernel_rfl) (fun _ _ _ h => h) ?_ (by assumption) ?_
 ·cases t
  ·refine Or.inl ⟨?_, ?_⟩
   ·rfl
   ·(intro w hSw; (try dsimp only at hSw); first | (go_simp; done) | (go_simp; with_reducible rfl))
  ·refine Or.inl ⟨?_, ?_⟩
   ·rfl
   ·(intro w hSw; (try dsimp only at hSw); first | (go_simp; done) | (go_simp; with_reducible rfl))
 refine sm ?_
 refine tH 13 ?_ ?_;refine sm ?_
 refine tH 14 ?_ ?_;refine sm ?_
 refine tH 15 ?_ ?_;refine sm ?_
 refine wpAnyH_take (i := 16) (v := if f = true then undef else .pointer (some ⟨w.heap.size + 1 + 1, 5, none⟩)) rfl (by kernel_rfl) (by kernel_rfl) (by kernel_rfl) (fun _ _ _ h => h) ?_ (by assumption) ?_
 ·cases f
  ·refine Or.inl ⟨?_, ?_⟩
   ·rfl
   ·(intro w hSw; (try dsimp only at hSw); first | (go_simp; done) | (go_simp; with_reducible rfl))
  ·exact Or.inr ⟨rfl, rfl⟩
 refine sm ?_
 refine wpAnyH_take (i := 17) (v := if f = true then undef else .bool h.f) rfl (by kernel_rfl) (by kernel_rfl) (by kernel_rfl) (fun _ _ _ h => h) ?_ (by assumption) ?_
 ·cases f
  ·refine Or.inl ⟨?_, ?_⟩
   ·rfl
   ·(intro w hSw; (try dsimp only at hSw); first | (go_simp; done) | (go_simp; with_reducible rfl))
  ·exact Or.inr ⟨rfl, rfl⟩
 refine sm ?_
 refine wpAnyH_take (i := 18) (v := .bool (f || h.f)) rfl (by kernel_rfl) (by kernel_rfl) (by kernel_rfl) (fun _ _ _ h => h) ?_ (by assumption) ?_
 ·cases f
  ·refine Or.inl ⟨?_, ?_⟩
   ·rfl
   ·(intro w hSw; (try dsimp only at hSw); first | (go_simp; done) | (go_simp; with_reducible rfl))
  ·refine Or.inl ⟨?_, ?_⟩
   ·rfl
   ·(intro w hSw; (try dsimp only at hSw); first | (go_simp; done) | (go_simp; with_reducible rfl))
 refine sm ?_
 refine tH 19 ?_ ?_;refine sm ?_
 refine tH 20 ?_ ?_;refine sm ?_
 have L3 := (GsAt.new2 w3 ⟨n, sp, t, f, sl⟩ ss gc h st hc I3 h1 h2 J3 h3 h4).drew
 have G4 := G3.alloc (.cells #[.bool n, .bool sp.n, .int .i64 sp.lo, .int .i64 sp.hi, .bool t, .bool f, .slice ss sl.length gc, .bool h.n, .bool h.sp.n, .int .i64 h.sp.lo, .int .i64 h.sp.hi, .bool h.t, .bool h.f, .slice st h.s.length hc] 61)
 have H4 := H3.alloc (.cells #[.bool n, .bool sp.n, .int .i64 sp.lo, .int .i64 sp.hi, .bool t, .bool f, .slice ss sl.length gc, .bool h.n, .bool h.sp.n, .int .i64 h.sp.lo, .int .i64 h.sp.hi, .bool h.t, .bool h.f, .slice st h.s.length hc] 61)
 have R4 := R3.alloc (.cells #[.bool n, .bool sp.n, .int .i64 sp.lo, .int .i64 sp.hi, .bool t, .bool f, .slice ss sl.length gc, .bool h.n, .bool h.sp.n, .int .i64 h.sp.lo, .int .i64 h.sp.hi, .bool h.t, .bool h.f, .slice st h.s.length hc] 61)
 have F4 := F3.alloc (.cells #[.bool n, .bool sp.n, .int .i64 sp.lo, .int .i64 sp.hi, .bool t, .bool f, .slice ss sl.length gc, .bool h.n, .bool h.sp.n, .int .i64 h.sp.lo, .int .i64 h.sp.hi, .bool h.t, .bool h.f, .slice st h.s.length hc] 61)
 have S4 := S3.alloc (.cells #[.bool n, .bool sp.n, .int .i64 sp.lo, .int .i64 sp.hi, .bool t, .bool f, .slice ss sl.length gc, .bool h.n, .bool h.sp.n, .int .i64 h.sp.lo, .int .i64 h.sp.hi, .bool h.t, .bool h.f, .slice st h.s.length hc] 61)
 have B4 := (B3.alloc B3.size (.cells #[.bool n, .bool sp.n, .int .i64 sp.lo, .int .i64 sp.hi, .bool t, .bool f, .slice ss sl.length gc, .bool h.n, .bool h.sp.n, .int .i64 h.sp.lo, .int .i64 h.sp.hi, .bool h.t, .bool h.f, .slice st h.s.length hc] 61)).drew
 refine wpAnyH_ready (rs := [21]) (by kernel_rfl) (by simp) ?_
 refine AllReadyH.cons rfl (fun K hK => ?_) AllReadyH.nil
 go_simp
 refine hK.out _ _ (KS _ G4.drew H4.drew S4.drew) (fun hHeld => ?_)
 clear hK K
 refine sm ?_
 refine wpAnyH_ready (rs := [22]) (by kernel_rfl) (by simp) ?_
 refine AllReadyH.cons rfl (fun K hK => ?_) AllReadyH.nil
 go_simp
 refine (allSites_any _ [⟨n, sp, t, f, sl⟩, h] 2 _ L3 (by simp) hlen).mono ?_
 rintro e w5 ⟨v, rfl, hown, hb5⟩
 have G5 := G4.drew.call hb5
 have H5 := H4.drew.call hb5
 have R5 := R4.drew.call hb5
 have F5 := F4.drew.call hb5
 have S5 := S4.drew.call hb5
 have B5 : Below w.heap.size w w5 := B4.trans (hb5.mono B4.size)
 have z5 : w.heap.size + 1 + 1 + 1 < w3.heap.size := F3.2
 simp only [World.size_drew, World.size_alloc] at hown
 have O5 := hown
 clear hb5 G4 H4 R4 F4 S4 B4 L3 G3 H3 R3 F3 S3 B3 I3 J3
 obtain ⟨vs, vc, rfl, -, -, -, hvb⟩ := IntsAt.own hown
 refine hK.out _ _ (KS _ G5 H5 S5) (fun hHeld => ?_)
 clear hK K hown
 refine sm ?_
 refine tH 23 ?_ ?_;refine sm ?_
 obtain ⟨⟨r0, r1, r2, r3, r4, r5, r6⟩, rz⟩ := id R5
 simp only [Nat.zero_add, zeroG] at r0 r1 r2 r3 r4 r5 r6
 have fz := F5.1
 refine wpAnyH_ready (rs := [24]) (by kernel_rfl) (by simp) ?_
 refine AllReadyH.cons rfl (fun K hK => ?_) AllReadyH.nil
 go_simp
 refine hK.out _ _ (KS _ (G5.put7 (by omega)) (H5.put7 (by omega)) (S5.put7 (by omega))) (fun hHeld => ?_)
 clear hK K
 refine sm ?_
 refine tH 25 ?_ ?_;refine sm ?_
 refine wpAnyH_done (by kernel_rfl) ?_ _
 generalize (if n = true then undef else (.pointer (some ⟨w.heap.size + 1 + 1, 0, none⟩) : Value)) = y0
 generalize (if n = true then undef else (.bool h.n : Value)) = y1
 generalize (if t = true then undef else (.pointer (some ⟨w.heap.size + 1 + 1, 4, none⟩) : Value)) = y2
 generalize (if t = true then undef else (.bool h.t : Value)) = y3
 generalize (if f = true then undef else (.pointer (some ⟨w.heap.size + 1 + 1, 5, none⟩) : Value)) = y4
 generalize (if f = true then undef else (.bool h.f : Value)) = y5
 go_wp2
 refine bodyPost_ret (v := .tuple #[.agg #[.bool (n || h.n), .bool J.n, .int .i64 J.lo, .int .i64 J.hi, .bool (t || h.t), .bool (f || h.f), .slice vs (sitesOf [⟨n, sp, t, f, sl⟩, h]).length vc], .int .i64 0]) (by simp [results, Tryz.results109, go_sem, r0, r1, r2, r3, r4, r5, r6]) rfl ⟨_, rfl, ?_, ?_⟩
 ·exact ownsRow_base (ownsRow_put7 O5 (by omega)) (by omega)
 ·exact below_put7 B5 (by omega)) : p := h
theorem prf_c1fa82 {p : Prop} (h : p := by
 have HW := hideH (fun ls lc w hL => isWrong_any ls [g, h] lc w (by simp) hL)
 generalize ([g, h].any otherGs && ![g, h].any nothingGs) = wr at HW ⊢
 go_enter Tryz.func92, Tryz.ntmps92
 go_wp2_with (go_at_call 114; fail)
 refine (checkAllG_any V F s c cap _ [g, h] 2 _ (C0.alloc _) L0 (by simp)).mono ?_
 rintro e w1 ⟨rfl, hb1⟩
 rw [HK.out]
 have G1 := (G0.alloc _).call hb1
 have H1 := (H0.alloc _).call hb1
 have R1 := (R0.alloc _).call hb1
 have F1 : Fr7 w1 (w.heap.size + 1 + 1 + 1) := (F0.alloc _).call hb1
 have B1 : Below w.heap.size w w1 := (B0.alloc B0.size _).trans (hb1.mono (by simp; omega))
 clear hb1 G0 H0 R0 I0 J0 F0 B0 C0 P0 L0 hcd hs ht HK
 obtain ⟨⟨g0, g1, g2, g3, g4, g5, g6⟩, gz⟩ := id G1
 obtain ⟨⟨k0, k1, k2, k3, k4, k5, k6⟩, kz⟩ := id H1
 simp only [Nat.zero_add] at g0 g1 g2 g3 g4 g5 g6 k0 k1 k2 k3 k4 k5 k6
 go_wp2_with (go_at_call 120; fail)
 refine (hJ.out _).mono ?_
 rintro e w2 ⟨rfl, hb2⟩
 have G2 := G1.call hb2
 have H2 := H1.call hb2
 have R2 := R1.call hb2
 have F2 := F1.call hb2
 have B2 := B1.trans (hb2.mono B1.size)
 clear hb2 G1 H1 R1 F1 B1 g0 g1 g2 g3 g4 g5 g6 gz k0 k1 k2 k3 k4 k5 k6 kz hJ
 go_wp2
 have G3 := G2.alloc (.cells #[.bool J.n, .int .i64 J.lo, .int .i64 J.hi] 58)
 have H3 := H2.alloc (.cells #[.bool J.n, .int .i64 J.lo, .int .i64 J.hi] 58)
 have R3 := R2.alloc (.cells #[.bool J.n, .int .i64 J.lo, .int .i64 J.hi] 58)
 have F3 := F2.alloc (.cells #[.bool J.n, .int .i64 J.lo, .int .i64 J.hi] 58)
 have B3 := B2.alloc B2.size (.cells #[.bool J.n, .int .i64 J.lo, .int .i64 J.hi] 58)
 have S3 := SpAt.new w2 J
 have zj : w.heap.size + 1 + 1 + 1 < w2.heap.size := F2.2
 clear G2 H2 R2 F2 B2
 generalize w2.alloc (.cells #[.bool J.n, .int .i64 J.lo, .int .i64 J.hi] 58) = w3 at *
 generalize w2.heap.size = jb at *
 have KS : ∀ wx, GuAt wx (w.heap.size + 1) 0 g ss gc → GuAt wx (w.heap.size + 1 + 1) 0 h st hc → SpAt wx jb J → regS w jb g ss gc h st hc J wx := fun wx a b c => ⟨by simpa using a.1, by simpa using b.1, c.1⟩
 refine wp_region_held_drew (S := regS w jb g ss gc h st hc J) (by kernel_rfl) (KS _ G3.drew H3.drew S3.drew) (fun hHeld => ?_)
 unfold regS at hHeld KS ⊢
 refine tH 0 ?_ ?_;refine sm ?_
 refine tH 1 ?_ ?_;refine sm ?_
 refine tH 2 ?_ ?_;refine sm ?_
 refine tH 3 ?_ ?_;refine sm ?_
 have L3 : GhAt (twoW w3 g ss gc h st hc).drew (some ⟨w3.heap.size, 0, none⟩) [g, h] := (GhAt.new2 w3 g ss gc h st hc).call (Below.refl _ _).drew
 have G4 := G3.alloc (.cells #[.bool g.n, .bool g.sp.n, .int .i64 g.sp.lo, .int .i64 g.sp.hi, .bool g.t, .bool g.f, .slice ss g.s.length gc, .bool h.n, .bool h.sp.n, .int .i64 h.sp.lo, .int .i64 h.sp.hi, .bool h.t, .bool h.f, .slice st h.s.length hc] 61)
 have H4 := H3.alloc (.cells #[.bool g.n, .bool g.sp.n, .int .i64 g.sp.lo, .int .i64 g.sp.hi, .bool g.t, .bool g.f, .slice ss g.s.length gc, .bool h.n, .bool h.sp.n, .int .i64 h.sp.lo, .int .i64 h.sp.hi, .bool h.t, .bool h.f, .slice st h.s.length hc] 61)
 have R4 := R3.alloc (.cells #[.bool g.n, .bool g.sp.n, .int .i64 g.sp.lo, .int .i64 g.sp.hi, .bool g.t, .bool g.f, .slice ss g.s.length gc, .bool h.n, .bool h.sp.n, .int .i64 h.sp.lo, .int .i64 h.sp.hi, .bool h.t, .bool h.f, .slice st h.s.length hc] 61)
 have F4 := F3.alloc (.cells #[.bool g.n, .bool g.sp.n, .int .i64 g.sp.lo, .int .i64 g.sp.hi, .bool g.t, .bool g.f, .slice ss g.s.length gc, .bool h.n, .bool h.sp.n, .int .i64 h.sp.lo, .int .i64 h.sp.hi, .bool h.t, .bool h.f, .slice st h.s.length hc] 61)
 have S4 := S3.alloc (.cells #[.bool g.n, .bool g.sp.n, .int .i64 g.sp.lo, .int .i64 g.sp.hi, .bool g.t, .bool g.f, .slice ss g.s.length gc, .bool h.n, .bool h.sp.n, .int .i64 h.sp.lo, .int .i64 h.sp.hi, .bool h.t, .bool h.f, .slice st h.s.length hc] 61)
 have B4 := (B3.alloc B3.size (.cells #[.bool g.n, .bool g.sp.n, .int .i64 g.sp.lo, .int .i64 g.sp.hi, .bool g.t, .bool g.f, .slice ss g.s.length gc, .bool h.n, .bool h.sp.n, .int .i64 h.sp.lo, .int .i64 h.sp.hi, .bool h.t, .bool h.f, .slice st h.s.length hc] 61)).drew
 refine wpAnyH_ready (rs := [4]) (by kernel_rfl) (by simp) ?_
 refine AllReadyH.cons rfl (fun K hK => ?_) AllReadyH.nil
 go_simp
 refine hK.out _ _ (KS _ G4.drew H4.drew S4.drew) (fun hHeld => ?_)
 clear hK K
 refine sm ?_
 refine wpAnyH_ready (rs := [5]) (by kernel_rfl) (by simp) ?_
 refine AllReadyH.cons rfl (fun K hK => ?_) AllReadyH.nil
 go_simp
 refine (HW.out _ 2 _ L3).mono ?_
 rintro e w5 ⟨rfl, hb5⟩
 have G5 := G4.drew.call hb5
 have H5 := H4.drew.call hb5
 have R5 := R4.drew.call hb5
 have F5 := F4.drew.call hb5
 have S5 := S4.drew.call hb5
 have B5 : Below w.heap.size w w5 := B4.trans (hb5.mono B4.size)
 clear hb5 G4 H4 R4 F4 S4 B4 L3 G3 H3 R3 F3 S3 B3
 refine hK.out _ _ (KS _ G5 H5 S5) (fun hHeld => ?_)
 clear hK K
 refine sm ?_
 obtain ⟨⟨r0, r1, r2, r3, r4, r5, r6⟩, rz⟩ := id R5
 simp only [Nat.zero_add, zeroG] at r0 r1 r2 r3 r4 r5 r6
 have fz := F5.1
 refine wpAnyH_ready (rs := [6]) (by kernel_rfl) (by simp) ?_
 refine AllReadyH.cons rfl (fun K hK => ?_) AllReadyH.nil
 go_simp
 refine hK.out _ _ (KS _ (G5.put7 (by omega)) (H5.put7 (by omega)) (S5.put7 (by omega))) (fun hHeld => ?_)
 clear hK K
 refine sm ?_
 refine tH 7 ?_ ?_;refine sm ?_
 refine tH 8 ?_ ?_;refine sm ?_
 refine wpAnyH_done (by kernel_rfl) ?_ _
 go_wp2
 refine bodyPost_ret (v := .tuple #[gv ⟨false, J, false, false, []⟩ none 0, .bool wr, .int .i64 0]) (by simp [results, Tryz.results92, go_sem, r0, r1, r2, r3, r4, r5, r6]) rfl ⟨rfl, ?_⟩
 exact below_put7 B5 (by omega)) : p := h
end
section
set_option maxHeartbeats 1000000
open Go.RowKit

theorem isSite_any (V F : Int) (s : Option Addr) (c : List Ins) (cap : Nat) (x : Int) (w : World) (hc : CodeAt w s c) (hl : c.length ≤ 60) :
  Calls Tryz.prog 56 #[pv V F s c cap, .int .i64 x] w fun e w' => e = .returned (.bool (isSite c x)) ∧ Below w.heap.size w w' := by
 have hl' : (c.length : Int) ≤ 60 := by omega
 by_cases hx : 0 ≤ x ∧ x ≤ (c.length : Int) - 1
 ·have hb := btw_true hx.1 hx.2
  obtain ⟨k, rfl⟩ := Int.eq_ofNat_of_zero_le hx.1
  have hk : k < c.length := by omega
  have CA := hc.alloc (.cells #[.int .i64 V, .int .i64 F, .slice s c.length cap] 24)
  obtain ⟨b, off, rfl, hbl, hi⟩ := CA.get k hk
  obtain ⟨i0, -, -, -, -, -⟩ := hi k hk
  have HR : Hid (isSite c k = decide (c[k].k = 11)) := by
   show _ = _
   unfold isSite
   rw [decide_eq_true (show (0 : Int) ≤ (k : Int) by omega), decide_eq_true (show (k : Int) < (c.length : Int) by omega), Int.toNat_natCast, show c.getD k ⟨0, 0, 0, 0, 0, 0⟩ = c[k] by simp [List.getD, List.getElem?_eq_getElem hk]]
   simp
  have n0 : (0 : Int) ≤ (k : Int) := by omega
  have n1 : (k : Int) < (c.length : Int) := by omega
  clear hi hc CA hx
  go_enter Tryz.func56, Tryz.ntmps56
  go_wp2_with (go_at_call 38; fail)
  refine (between_any _ _ _ _).mono ?_
  rintro e w1 ⟨rfl, rfl⟩
  rw [hb]
  go_wp2
  go_ret
  exact ⟨ret_bool (by rw [HR.out]; first | rfl | (simp; done) | exact (Bool.beq_eq_decide_eq _ _)), by go_grown⟩
 ·have hb : btw x 0 ((c.length : Int) - 1) = false := by simp [btw]; omega
  have HR : Hid (isSite c x = false) := by
   show _ = _
   unfold isSite
   by_cases h0 : 0 ≤ x
   ·rw [decide_eq_false (show ¬ x < (c.length : Int) by omega)]; simp
   ·rw [decide_eq_false h0]; rfl
  clear hc hx
  go_enter Tryz.func56, Tryz.ntmps56
  go_wp2_with (go_at_call 38; fail)
  refine (between_any _ _ _ _).mono ?_
  rintro e w1 ⟨rfl, rfl⟩
  rw [hb]
  go_wp2
  go_ret
  exact ⟨ret_bool (by rw [HR.out]), by go_grown⟩

theorem hasR_any (x : Int) (ss : Option Addr) (cap : Nat) (l : List Int) (w : World) (hl : l.length ≤ 9223372036854775807) (hs : IntsAt w ss l) :
  Calls Tryz.prog 59 #[.slice ss l.length cap, .int .i64 x] w fun e w' => e = .returned (.bool (l.contains x)) ∧ w' = w := by
 have HX : Hid (l.contains x = decide (x ∈ l)) := by show _ = _; simp
 generalize l.contains x = r at *
 go_enter Tryz.func59, Tryz.ntmps59
 go_wp2
 go_loop [5] (fun i => ∃ k : Nat, k ≤ l.length ∧ i = .int .i64 k ∧ Hid (x ∈ l ↔ x ∈ l.drop k)) (fun i => l.length - (intOf i).toNat)
 case atStart => exact ⟨0, Nat.zero_le _, rfl, Iff.rfl⟩
 case round =>
  obtain ⟨k, hk, rfl, HA⟩ := hrel
  by_cases hlt : k < l.length
  ·obtain ⟨b, off, rfl, hb, hc⟩ := hs.get k hlt
   have n0 : (0 : Int) ≤ (k : Int) := by omega
   have n1 : (k : Int) < (l.length : Int) := by omega
   have c0 := hc k hlt
   have HN : Hid (x ∈ l.drop k ↔ (x = l[k] ∨ x ∈ l.drop (k + 1))) := indexI_le l x k hlt
   clear hc hs
   by_cases hp : l[k] = x
   ·have HT : Hid (x ∈ l) := HA.out.2 (HN.out.2 (.inl hp.symm))
    clear HN HA
    have hp' : (l[k] == x) = true := by simp [hp]
    go_wp2
    go_ret
    exact ⟨ret_bool (by rw [HX.out]; exact (decide_eq_true HT.out).symm), rfl⟩
   ·have HT : Hid (x ∈ l ↔ x ∈ l.drop (k + 1)) := HA.out.trans (HN.out.trans ⟨fun h => h.resolve_left fun e => hp e.symm, .inr⟩)
    have hp' : (l[k] == x) = false := by simpa using hp
    clear HN HA
    go_wp2
    go_round
    case rel => exact ⟨k + 1, by omega, by go_num, HT⟩
    case measure => simp [intOf]; omega
  ·go_wp2
   go_ret
   exact ⟨ret_bool (by rw [HX.out]; exact (decide_eq_false fun h => by have := HA.out.1 h; rw [List.drop_eq_nil_of_le (by omega)] at this; cases this).symm), rfl⟩
end
section
set_option maxHeartbeats 4000000
set_option maxRecDepth 10000
open Go.RowKit

theorem checkGuess_any (V F : Int) (s : Option Addr) (c : List Ins) (cap : Nat) (g : Gs) (ss : Option Addr) (gc : Nat) (w : World) (hc : CodeAt w s c) (hl : c.length ≤ 60) (hs : IntsAt w ss g.s) (hgl : g.s.length ≤ 9223372036854775807) :
  Calls Tryz.prog 55 #[pv V F s c cap, gv g ss gc] w fun e w' => e = .returned (.int .i64 (ckGs c g)) ∧ Below w.heap.size w w' := by
 have P0 : PrAt (pgW w V F s c cap g ss gc) w.heap.size V F s c cap := (PrAt.new w V F s c cap).alloc _
 have G0 : GuAt (pgW w V F s c cap g ss gc) (w.heap.size + 1) 0 g ss gc := by
  have := GuAt.new (w.alloc (.cells #[.int .i64 V, .int .i64 F, .slice s c.length cap] 24)) g ss gc
  simpa using this
 have C0 : CodeAt (pgW w V F s c cap g ss gc) s c := (hc.alloc _).alloc _
 have I0 : IntsAt (pgW w V F s c cap g ss gc) ss g.s := (hs.alloc _).alloc _
 have B0 : Below w.heap.size w (pgW w V F s c cap g ss gc) := by go_grown
 have HR : Hid (ckGs c g = if ckSp g.sp ≠ 0 then ckSp g.sp else if g.s.all (isSite c) = false then 5 else if rising g.s = false then 4 else 0) := rfl
 go_enter Tryz.func55, Tryz.ntmps55
 go_wp2_with (go_at_call 93; fail)
 refine (checkSpan_any g.sp _).mono ?_
 rintro e w1 ⟨rfl, hb1⟩
 have P1 := P0.call hb1
 have G1 := G0.call hb1
 have C1 := C0.call hb1
 have I1 := I0.call hb1
 have B1 : Below w.heap.size w w1 := B0.trans (hb1.mono (by simp; omega))
 clear hb1 P0 G0 C0 I0 B0 hc hs
 by_cases hsp : ckSp g.sp = 0
 ·have HF0 : Hid (ckGs c g = if g.s.all (isSite c) = false then 5 else if rising g.s = false then 4 else 0) := by show _ = _; rw [HR.out, if_neg (by simpa using hsp)]
  rw [hsp]
  clear HR
  go_wp2
  go_loopw [6] (fun i wr => ∃ k : Nat, k ≤ g.s.length ∧ i = .int .i64 k ∧ PrAt wr w.heap.size V F s c cap ∧ GuAt wr (w.heap.size + 1) 0 g ss gc ∧ CodeAt wr s c ∧ IntsAt wr ss g.s ∧ Below w.heap.size w wr ∧ Hid (∀ j (h : j < g.s.length), j < k → isSite c g.s[j] = true)) (fun i _ => g.s.length - (intOf i).toNat)
  case atStart => exact ⟨0, Nat.zero_le _, rfl, P1, G1, C1, I1, B1, fun j h h' => by omega⟩
  case round =>
   obtain ⟨k, hk, rfl, PR, GR, CR, IR, BR, HK⟩ := hrel
   clear P1 G1 C1 I1 B1
   obtain ⟨⟨p0, p1, p2⟩, p3⟩ := id PR
   obtain ⟨⟨g0, g1, g2, g3, g4, g5, g6⟩, gz⟩ := id GR
   simp only [Nat.zero_add] at g0 g1 g2 g3 g4 g5 g6
   by_cases hlt : k < g.s.length
   ·obtain ⟨b, off, rfl, hb, hcell⟩ := IR.get k hlt
    have c0 := hcell k hlt
    have n0 : (0 : Int) ≤ (k : Int) := by omega
    have n1 : (k : Int) < (g.s.length : Int) := by omega
    have KS : ∀ wx, Below wr.heap.size wr wx → (wx.cell? ⟨w.heap.size, 0, none⟩ = some (.int .i64 V) ∧ wx.cell? ⟨w.heap.size, 1, none⟩ = some (.int .i64 F) ∧ wx.cell? ⟨w.heap.size, 2, none⟩ = some (.slice s c.length cap)) ∧ wx.cell? ⟨w.heap.size + 1, 6, none⟩ = some (.slice (some ⟨b, off, none⟩) g.s.length gc) ∧ wx.cell? ⟨b, off + k, none⟩ = some (.int .i64 g.s[k]) := by
     intro wx hbx
     rw [hbx.cell (by simpa using p3), hbx.cell (by simpa using p3), hbx.cell (by simpa using p3), hbx.cell (by simpa using gz), hbx.cell (by simpa using hb)]
     exact ⟨⟨p0, p1, p2⟩, g6, c0⟩
    clear hcell
    go_wp2
    go_region_held3 (fun wx => (wx.cell? ⟨w.heap.size, 0, none⟩ = some (.int .i64 V) ∧ wx.cell? ⟨w.heap.size, 1, none⟩ = some (.int .i64 F) ∧ wx.cell? ⟨w.heap.size, 2, none⟩ = some (.slice s c.length cap)) ∧ wx.cell? ⟨w.heap.size + 1, 6, none⟩ = some (.slice (some ⟨b, off, none⟩) g.s.length gc) ∧ wx.cell? ⟨b, off + k, none⟩ = some (.int .i64 g.s[k]))
     (first | with_reducible exact KS _ (Below.refl _ _).drew | with_reducible exact KS _ HB)
     ((go_at_call 56; refine (isSite_any V F s c cap g.s[k] _ (CR.call (Below.refl _ _).drew) hl).mono ?_; rintro e w2 ⟨rfl, hb2⟩; have HB : Below wr.heap.size wr w2 := (Below.refl _ _).drew.trans (hb2.mono (Nat.le_refl _))))
    have P2 := PR.call HB
    have G2 := GR.call HB
    have C2 := CR.call HB
    have I2 := IR.call HB
    have B2 := BR.trans (HB.mono BR.size)
    clear hb2 PR GR CR IR BR HB KS p0 p1 p2 g0 g1 g2 g3 g4 g5 g6
    cases hS : isSite c g.s[k] with
    | true =>
     go_wp2
     go_roundw
     case rel =>
      refine ⟨k + 1, by omega, by go_num, P2, G2, C2, I2, B2, fun j h h' => ?_⟩
      by_cases e : j = k
      ·subst e; exact hS
      ·exact HK.out j h (by omega)
     case measure => simp [intOf]; omega
    | false =>
     have HF : Hid (ckGs c g = 5) := by
      show _ = _
      rw [HF0.out, if_pos]
      rw [Bool.eq_false_iff]
      intro hx
      have := List.all_eq_true.1 hx g.s[k] (List.getElem_mem _)
      rw [hS] at this
      cases this
     go_wp2
     go_ret
     exact ⟨ret_int HF.out.symm, B2⟩
   ·have hall : g.s.all (isSite c) = true := by
     rw [List.all_eq_true]
     intro x hx
     obtain ⟨j, hj, rfl⟩ := List.getElem_of_mem hx
     exact HK.out j hj (by omega)
    have HF : Hid (ckGs c g = if rising g.s = false then 4 else 0) := by show _ = _; rw [HF0.out, if_neg (by simp [hall])]
    have HQ := hideH (rising_iff g.s)
    clear HF0 hall HK
    go_wp2
    go_loopw [7] (fun i wx => ∃ k : Nat, 1 ≤ k ∧ i = .int .i64 k ∧ k ≤ g.s.length + 1 ∧ wx.cell? ⟨w.heap.size + 1, 6, none⟩ = some (.slice ss g.s.length gc) ∧ w.heap.size + 1 < wx.heap.size ∧ IntsAt wx ss g.s ∧ Below w.heap.size w wx ∧ Hid (∀ j (h : j + 1 < g.s.length), j + 1 < k → g.s[j] < g.s[j + 1])) (fun i _ => g.s.length + 1 - (intOf i).toNat)
    case atStart => exact ⟨1, Nat.le_refl _, rfl, by omega, g6, gz, IR, BR, fun j h h' => by omega⟩
    case round =>
     obtain ⟨q, hk1, rfl, hk2, r6, rz, IX, BX, HX⟩ := hrel
     clear PR GR CR IR BR p0 p1 p2 g0 g1 g2 g3 g4 g5 g6
     by_cases hlq : q < g.s.length
     ·obtain ⟨b, off, rfl, hb, hcell⟩ := IX.get q hlq
      have c0 := hcell (q - 1) (by omega)
      have c1 := hcell q hlq
      have t1 : ((q : Int) - 1).toNat = q - 1 := by omega
      have n0 : (0 : Int) ≤ (q : Int) - 1 := by omega
      have n1 : (q : Int) - 1 < (g.s.length : Int) := by omega
      have n2 : (0 : Int) ≤ (q : Int) := by omega
      have n3 : (q : Int) < (g.s.length : Int) := by omega
      clear hcell
      by_cases hr : g.s[q - 1] < g.s[q]
      ·go_wp2
       go_quiet (fail)
       go_wp2
       go_roundw
       case rel =>
        refine ⟨q + 1, by omega, by go_num, by omega, ?_, ?_, IX.drewN _, below_drewN BX _, fun j h h' => ?_⟩
        ·rw [← r6]; exact (below_drewN (Below.refl (w.heap.size + 2) _) _).cell (by simp)
        ·exact Nat.lt_of_lt_of_le rz (below_drewN (Below.refl (w.heap.size + 2) _) _).size
        ·by_cases e : j + 1 = q
         ·subst e; exact hr
         ·exact HX.out j h (by omega)
       case measure => simp [intOf]; omega
      ·have HG : Hid (rising g.s = false) := by
        show _ = _
        rw [Bool.eq_false_iff]
        intro hx
        have := HQ.out.1 hx (q - 1) (by omega)
        have e : q - 1 + 1 = q := by omega
        simp only [e] at this
        exact hr this
       clear HQ
       go_wp2
       go_quiet (fail)
       go_wp2
       go_ret
       exact ⟨ret_int (by rw [HF.out, if_pos HG.out]), below_drewN BX _⟩
     ·go_wp2
      go_ret
      refine ⟨ret_int ?_, BX⟩
      rw [HF.out, if_neg]
      have : rising g.s = true := HQ.out.2 fun j h => HX.out j h (by omega)
      simp [this]
 ·have HF : Hid (ckGs c g = ckSp g.sp) := by show _ = _; rw [HR.out, if_pos hsp]
  have hne : (ckSp g.sp != 0) = true := by simpa using hsp
  clear HR
  go_wp2
  go_ret
  exact ⟨ret_int HF.out.symm, B1⟩
end
section
open Go.RowKit

theorem wrapk {x : Int} (h : wrap64 x = x) : IntKind.i64.wrap x = x := by
 rw [IntKind.wrap_i64]
 unfold wrap64 at h
 exact h

theorem doSpan_any (k : Int) (s t : Sp) (w : World) (hk : k = 5 ∨ k = 6 ∨ k = 7) (hs : s.Ok) (ht : t.Ok) :
  Calls Tryz.prog 63 #[.int .i64 k, sv s, sv t] w fun e w' => e = .returned (sv (doSp k s t)) ∧ Below w.heap.size w w' := by
 by_cases h : (s.n || t.n) = true
 ·have := doSpan_n k s t w h
  unfold doSp
  rw [if_pos h]
  exact this
 ·have e0 : doSp k s t = hull (opOf k s.lo t.lo) (opOf k s.lo t.hi) (opOf k s.hi t.lo) (opOf k s.hi t.hi) := by unfold doSp; rw [if_neg h]
  rw [e0]
  obtain ⟨n, lo, hi⟩ := s
  obtain ⟨n', lo', hi'⟩ := t
  cases n with
  | true => exact absurd rfl h
  | false =>
   cases n' with
   | true => exact absurd rfl h
   | false =>
    rcases hk with rfl | rfl | rfl
    ·exact doSpan_add lo hi lo' hi' _ _ _ _ w (wrapk (wrap_add hs.1 ht.1)) (wrapk (wrap_add hs.1 ht.2.1)) (wrapk (wrap_add hs.2.1 ht.1)) (wrapk (wrap_add hs.2.1 ht.2.1))
    ·exact doSpan_sub lo hi lo' hi' _ _ _ _ w (wrapk (wrap_sub hs.1 ht.1)) (wrapk (wrap_sub hs.1 ht.2.1)) (wrapk (wrap_sub hs.2.1 ht.1)) (wrapk (wrap_sub hs.2.1 ht.2.1))
    ·exact doSpan_mul lo hi lo' hi' _ _ _ _ w (wrapk (wrap_mul hs.1 ht.1)) (wrapk (wrap_mul hs.1 ht.2.1)) (wrapk (wrap_mul hs.2.1 ht.1)) (wrapk (wrap_mul hs.2.1 ht.2.1))

theorem joinSpan_any (s t : Sp) (w : World) :
  Calls Tryz.prog 58 #[sv s, sv t, .bool false] w fun e w' => e = .returned (sv (joinSp s t)) ∧ Below w.heap.size w w' := by
 by_cases h : (s.n || t.n) = true
 ·exact joinSpan_n s t false w h
 ·obtain ⟨n, lo, hi⟩ := s
  obtain ⟨n', lo', hi'⟩ := t
  cases n with
  | true => exact absurd rfl h
  | false =>
   cases n' with
   | true => exact absurd rfl h
   | false => exact joinSpan_f lo hi lo' hi' w
end
section
set_option maxHeartbeats 4000000
set_option maxRecDepth 10000
open Go.RowKit
attribute [local go_sem ↓] Go.wp_at_zero Go.wp_at_succ

theorem IntsAt.news {w : World} {ss : Option Addr} {l : List Int} (h : IntsAt w ss l) : ∀ ad, ss = some ad → ∀ j u, (l.map (Value.int .i64))[j]? = some u → w.cell? (ad.add j) = some u := by
 intro ad e j u hj
 obtain ⟨hjl, rfl⟩ := List.getElem?_eq_some_iff.1 hj
 rw [List.length_map] at hjl
 rcases h with h | ⟨b, off, e', hb, hc⟩
 ·rw [h] at hjl; simp at hjl
 ·rw [e'] at e
  cases e
  rw [Addr.add_lit, hc j hjl]
  simp
theorem copyOne_any (g : Gs) (ss : Option Addr) (gc : Nat) (w : World) (hI : IntsAt w ss g.s) (hl : g.s.length ≤ 1000000) :
  Calls Tryz.prog 57 #[gv g ss gc] w fun e w' => (∃ js jc, e = .returned (gv g js jc) ∧ IntsAt w' js g.s ∧ g.s.length ≤ jc ∧ jc ≤ maxLen ∧ ∀ a, js = some a → w.heap.size ≤ a.block) ∧ Below w.heap.size w w' := by
 obtain ⟨ti, hi, hz0, hz1, hz2⟩ := info_parts Tryz.info_int
 have hb0 : Below w.heap.size w ((w.alloc (.cells #[.bool g.n, .bool g.sp.n, .int .i64 g.sp.lo, .int .i64 g.sp.hi, .bool g.t, .bool g.f, .slice ss g.s.length gc] 61)).alloc (.cells #[.bool false, .bool false, .int .i64 0, .int .i64 0, .bool false, .bool false, .slice none 0 0] 61)) := by go_grown
 have G0 : Cells ((w.alloc (.cells #[.bool g.n, .bool g.sp.n, .int .i64 g.sp.lo, .int .i64 g.sp.hi, .bool g.t, .bool g.f, .slice ss g.s.length gc] 61)).alloc (.cells #[.bool false, .bool false, .int .i64 0, .int .i64 0, .bool false, .bool false, .slice none 0 0] 61)) w.heap.size [.bool g.n, .bool g.sp.n, .int .i64 g.sp.lo, .int .i64 g.sp.hi, .bool g.t, .bool g.f, .slice ss g.s.length gc] := (Cells.new w 61 [.bool g.n, .bool g.sp.n, .int .i64 g.sp.lo, .int .i64 g.sp.hi, .bool g.t, .bool g.f, .slice ss g.s.length gc]).call (by go_grown)
 have Z0 : Cells ((w.alloc (.cells #[.bool g.n, .bool g.sp.n, .int .i64 g.sp.lo, .int .i64 g.sp.hi, .bool g.t, .bool g.f, .slice ss g.s.length gc] 61)).alloc (.cells #[.bool false, .bool false, .int .i64 0, .int .i64 0, .bool false, .bool false, .slice none 0 0] 61)) (w.heap.size + 1) [.bool false, .bool false, .int .i64 0, .int .i64 0, .bool false, .bool false, .slice none 0 0] := by
  have h := Cells.new (w.alloc (.cells #[.bool g.n, .bool g.sp.n, .int .i64 g.sp.lo, .int .i64 g.sp.hi, .bool g.t, .bool g.f, .slice ss g.s.length gc] 61)) 61 [.bool false, .bool false, .int .i64 0, .int .i64 0, .bool false, .bool false, .slice none 0 0]
  rw [World.size_alloc] at h
  exact h
 have I0 := hI.call hb0
 have hsz : ((w.alloc (.cells #[.bool g.n, .bool g.sp.n, .int .i64 g.sp.lo, .int .i64 g.sp.hi, .bool g.t, .bool g.f, .slice ss g.s.length gc] 61)).alloc (.cells #[.bool false, .bool false, .int .i64 0, .int .i64 0, .bool false, .bool false, .slice none 0 0] 61)).heap.size = w.heap.size + 1 + 1 := by simp
 have HSZ := hideH hsz
 clear hI hsz
 go_enter Tryz.func57, Tryz.ntmps57
 go_upto_region 1 with fail
 generalize ((w.alloc (.cells #[.bool g.n, .bool g.sp.n, .int .i64 g.sp.lo, .int .i64 g.sp.hi, .bool g.t, .bool g.f, .slice ss g.s.length gc] 61)).alloc (.cells #[.bool false, .bool false, .int .i64 0, .int .i64 0, .bool false, .bool false, .slice none 0 0] 61)) = w1 at *
 have OWE := World.ownsRow_made w1 (e := 3) (size := 1) #[] 0 (Nat.le_refl _) (Nat.zero_le _) rfl
 have I1 := I0.call (w' := w1.alloc (.cells #[] 3)) (by go_grown)
 have G1 := G0.call (w' := w1.alloc (.cells #[] 3)) (by go_grown)
 have Z1 := Z0.call (w' := w1.alloc (.cells #[] 3)) (by go_grown)
 have c4 := G1.1 6 _ rfl
 have hlt : w.heap.size < w1.heap.size := G0.2.1
 go_wp2_with (at_builtin; refine wpList_append_any _ rfl _ _ 59 rfl w1.heap.size 3 ti (.int .i64 0) 1 8 Tryz.underlying59 hi hz0 hz1 hz2 rfl (by decide) _ _ _ rfl OWE ss g.s.length gc (g.s.map (.int .i64)) rfl ?qc1 ?qc0 ?qc2 ?qc3 ?qc4 ?qc5 ?qc6 ?_)
 case qc1 => simp
 case qc0 =>
  intro e
  rcases I0 with h | ⟨b, off, e', _⟩
  ·rw [h]; rfl
  ·rw [e'] at e; cases e
 case qc2 => exact I1.news
 case qc3 => intro u hu; obtain ⟨x, -, rfl⟩ := List.mem_map.1 hu; rfl
 case qc4 => unfold maxLen; omega
 case qc5 => omega
 case qc6 => first | omega | (rw [World.size_alloc]; omega) | (simp; omega) | simp
 intro v' w2 hown hgrow hat
 have hbg : Below w1.heap.size w1 w2 := ((Below.refl _ w1).alloc (Nat.le_refl _) _).grown hgrow (by simp) (fun k hk => by cases hk; exact Nat.le_refl _)
 (try rw [List.nil_append] at hown)
 obtain ⟨js, jc, rfl, JI, J1, J2, JF⟩ := IntsAt.own hown
 have G2 := G0.call hbg
 have Z2 := Z0.call hbg
 have B2 := hb0.trans (hbg.mono hb0.size)
 have HJ : Hid (IntsIn (fun b => w.heap.size + 1 + 1 ≤ b) w2 js g.s) := by
  show IntsIn _ _ _ _
  rcases JI with h | ⟨b, off, e, hb, hc⟩
  ·exact .inl h
  ·have := JF _ e
   have h2 := HSZ.out
   simp only at this
   exact .inr ⟨b, off, e, by omega, hb, hc⟩
 have HF : Hid (∀ a, js = some a → w.heap.size ≤ a.block) := fun a ha => by have := JF a ha; have := hb0.size; omega
 clear hown hgrow hat G0 Z0 G1 Z1 I0 I1 OWE c4 hlt hbg hb0 JI JF HSZ
 have g0 := G2.1 0 _ rfl
 have g1 := G2.1 1 _ rfl
 have g2 := G2.1 2 _ rfl
 have g3 := G2.1 3 _ rfl
 have g4 := G2.1 4 _ rfl
 have g5 := G2.1 5 _ rfl
 have g6 := G2.1 6 _ rfl
 have fg0 := G2.2.2 0
 have fg1 := G2.2.2 1
 have fg2 := G2.2.2 2
 have fg3 := G2.2.2 3
 have fg4 := G2.2.2 4
 have fg5 := G2.2.2 5
 have fg6 := G2.2.2 6
 have z0 := Z2.1 0 _ rfl
 have z1 := Z2.1 1 _ rfl
 have z2 := Z2.1 2 _ rfl
 have z3 := Z2.1 3 _ rfl
 have z4 := Z2.1 4 _ rfl
 have z5 := Z2.1 5 _ rfl
 have z6 := Z2.1 6 _ rfl
 have fz0 := Z2.2.2 0
 have fz1 := Z2.2.2 1
 have fz2 := Z2.2.2 2
 have fz3 := Z2.2.2 3
 have fz4 := Z2.2.2 4
 have fz5 := Z2.2.2 5
 have fz6 := Z2.2.2 6
 go_wp2
 refine bodyPost_ret (v := .agg #[.bool g.n, .bool g.sp.n, .int .i64 g.sp.lo, .int .i64 g.sp.hi, .bool g.t, .bool g.f, .slice js g.s.length jc]) (by simp [results, Tryz.results57, go_sem, z0, z1, z2, z3, z4, z5, z6]) rfl ⟨⟨js, jc, rfl, (HJ.out.same (fun b hb _ => ?_) ?_).at, J1, J2, HF.out⟩, ?_⟩
 ·have n1 : b ≠ w.heap.size := by omega
  have n2 : b ≠ w.heap.size + 1 := by omega
  rw [Below.heap_setCell _ _ _ _ n2, Below.heap_setCell _ _ _ _ n2, Below.heap_setCell _ _ _ _ n2, Below.heap_setCell _ _ _ _ n2, Below.heap_setCell _ _ _ _ n2, Below.heap_setCell _ _ _ _ n2, Below.heap_setCell _ _ _ _ n2, Below.heap_setCell _ _ _ _ n1]
 ·simp [World.setCell]
 ·exact (((((((B2.setCell (by simp only; omega) _).setCell (by simp only; omega) _).setCell (by simp only; omega) _).setCell (by simp only; omega) _).setCell (by simp only; omega) _).setCell (by simp only; omega) _).setCell (by simp only; omega) _).setCell (by simp only; omega) _
end
end Go.Proofs.YtmapdpcfanecdabGreat
