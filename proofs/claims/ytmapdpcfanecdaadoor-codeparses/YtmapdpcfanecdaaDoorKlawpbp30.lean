/- Walks over package code: the text of a program. -/
import Derived.Test.YtmapdpcfanecdaaDoorKlawpbp21
import Derived.Test.YtmapdpcfanecdaaDoorKlawpbp22
import Derived.Test.YtmapdpcfanecdaaDoorKlawpbp23
import Derived.Test.YtmapdpcfanecdaaDoorKlawpbp24
import Derived.Test.YtmapdpcfanecdaaDoorKlawpbp29
import Derived.Test.YtmapdpcfanecdaaDoorKlawpbp09
import Derived.Deep.RegionHeld3
namespace Go.Proofs.YtmapdpcfanecdaaDoor
set_option linter.unusedVariables false
set_option linter.unusedSimpArgs false
open Go.RowKit

theorem printInstr_any (N : Nat) (i : Ins) (w : World) (hs : ShpAt N shps w) (ht : Tab w) (h : btw i.k 1 19 = true) (hf : i.Fits) :
    Calls Tryd.prog 32 #[.map (some N), .agg #[.int .i64 i.k, .int .i64 i.to, .int .i64 i.a, .int .i64 i.b, .int .i64 i.n, .int .i64 i.g]] w fun e w' => e = .returned (.string (lineB i ++ ⟨#[10]⟩)) ∧ Below w.heap.size w w' := by
  obtain ⟨k, tt, a, b, n, g⟩ := i
  obtain ⟨htt, ha, hb, hn, hg⟩ := hf
  simp only at h htt ha hb hn hg
  rcases btw_cases h with rfl | rfl | rfl | rfl | rfl | rfl | rfl | rfl | rfl | rfl | rfl | rfl | rfl | rfl | rfl | rfl | rfl | rfl | rfl
  · exact printInstr_1 N tt a b n g w hs ht htt hn
  · exact printInstr_2 N tt a b n g w hs ht htt hn
  · exact printInstr_3 N tt a b n g w hs ht htt
  · exact printInstr_4 N tt a b n g w hs ht htt ha
  · exact printInstr_5 N tt a b n g w hs ht htt ha hb
  · exact printInstr_6 N tt a b n g w hs ht htt ha hb
  · exact printInstr_7 N tt a b n g w hs ht htt ha hb
  · exact printInstr_8 N tt a b n g w hs ht htt ha hb
  · exact printInstr_9 N tt a b n g w hs ht htt ha hb
  · exact printInstr_10 N tt a b n g w hs ht htt ha
  · exact printInstr_11 N tt a b n g w hs ht htt
  · exact printInstr_12 N tt a b n g w hs ht htt ha hn
  · exact printInstr_13 N tt a b n g w hs ht ha hb hn
  · exact printInstr_14 N tt a b n g w hs ht htt hn
  · exact printInstr_15 N tt a b n g w hs ht ha hg
  · exact printInstr_16 N tt a b n g w hs ht hg
  · exact printInstr_17 N tt a b n g w hs ht ha
  · exact printInstr_18 N tt a b n g w hs ht ha
  · exact printInstr_19 N tt a b n g w hs ht

theorem head_join (V F : Int) : joinB [⟨#[118, 97, 114, 115]⟩, itoaB V, ⟨#[102, 105, 101, 108, 100, 115]⟩, itoaB F] ++ ⟨#[10]⟩ = headB V F := by
  rw [joinB_cons]
  apply ByteArray.ext
  simp [headB]

set_option maxHeartbeats 2000000 in
set_option maxRecDepth 20000 in
theorem printHead_any (V F : Int) (s : Option Addr) (len cap : Nat) (w : World) (hV : fits V) (hF : fits F) (ht : Tab w) :
    Calls Tryd.prog 31 #[.agg #[.int .i64 V, .int .i64 F, .slice s len cap]] w fun e w' => e = .returned (.string (headB V F)) ∧ Below w.heap.size w w' := by
  have hb0 : Below w.heap.size w (w.alloc (.cells #[.int .i64 V, .int .i64 F, .slice s len cap] 24)) := by go_grown
  have hres : Hid (joinB [⟨#[118, 97, 114, 115]⟩, itoaB V, ⟨#[102, 105, 101, 108, 100, 115]⟩, itoaB F] ++ ⟨#[10]⟩ = headB V F) := head_join V F
  have hsz : Hid ((joinB [⟨#[118, 97, 114, 115]⟩, itoaB V, ⟨#[102, 105, 101, 108, 100, 115]⟩, itoaB F]).size ≤ 1000) := by
    show _ ≤ _
    have s1 : (⟨#[118, 97, 114, 115]⟩ : ByteArray).size = 4 := rfl
    have s2 : (⟨#[102, 105, 101, 108, 100, 115]⟩ : ByteArray).size = 6 := rfl
    have l1 := itoaB_size V hV
    have l2 := itoaB_size F hF
    simp only [joinB_size, joinSize, s1, s2, List.map_cons, List.map_nil, List.sum_cons, List.sum_nil]
    omega
  have K : ∀ wx, Below (w.heap.size + 1) (w.alloc (.cells #[.int .i64 V, .int .i64 F, .slice s len cap] 24)) wx → wx.cell? ⟨w.heap.size, 0, none⟩ = some (.int .i64 V) ∧ wx.cell? ⟨w.heap.size, 1, none⟩ = some (.int .i64 F) := by
    intro wx hb
    rw [hb.cell (by simp), hb.cell (by simp)]
    simp [go_sem]
  go_enter Tryd.func31, Tryd.ntmps31
  go_wp2
  go_region_held3 (fun w' => w'.cell? ⟨w.heap.size, 0, none⟩ = some (.int .i64 V) ∧ w'.cell? ⟨w.heap.size, 1, none⟩ = some (.int .i64 F))
    (first | exact K _ (Below.refl _ _).drew | exact K _ HB3 | exact K _ HB2' | exact K _ HB2 | exact K _ HB1)
    (first
      | (go_at_call 62; refine (itoa_any V _ hV ?tb).mono ?_; (case tb => exact ht.below hb0.drew); rintro e u1 ⟨rfl, hu1⟩; have HB1 : Below (w.heap.size + 1) (w.alloc (.cells #[.int .i64 V, .int .i64 F, .slice s len cap] 24)) u1 := (Below.refl _ _).drew.trans (Below.mono hu1 (by simp)))
      | (go_at_call 62; refine (itoa_any F _ hF ?tb).mono ?_; (case tb => exact ht.below (hb0.trans (HB1.mono (by omega)))); rintro e u2 ⟨rfl, hu2⟩; have HB2 : Below (w.heap.size + 1) (w.alloc (.cells #[.int .i64 V, .int .i64 F, .slice s len cap] 24)) u2 := HB1.trans (hu2.mono (by have := HB1.size; simp at this; omega)); have HB2' := Below.alloc HB2 (by have := HB2.size; simp at this; omega) (.cells #[.string ⟨#[118, 97, 114, 115]⟩, .string (itoaB V), .string ⟨#[102, 105, 101, 108, 100, 115]⟩, .string (itoaB F)] 9))
      | (go_at_call 61; refine (printLine_own (w.heap.size + 1) _ [⟨#[118, 97, 114, 115]⟩, itoaB V, ⟨#[102, 105, 101, 108, 100, 115]⟩, itoaB F] _ ?ow (by simp) (by simp) hsz.out).mono ?_; (case ow => exact (World.ownsRow_lit (base := w.heap.size + 1) (e := 9) (size := 1) u2 #[.string ⟨#[118, 97, 114, 115]⟩, .string (itoaB V), .string ⟨#[102, 105, 101, 108, 100, 115]⟩, .string (itoaB F)] 4 (by have := HB2.size; simp at this; omega) (by decide) rfl)); rintro e u3 ⟨rfl, hu3⟩; have HB3 : Below (w.heap.size + 1) (w.alloc (.cells #[.int .i64 V, .int .i64 F, .slice s len cap] 24)) u3 := HB2'.trans (hu3.mono (by have := HB2'.size; simp at this; simp; omega))))
  go_wp2
  go_ret
  exact ⟨ret_str hres.out, hb0.trans (HB3.mono (by omega))⟩
end Go.Proofs.YtmapdpcfanecdaaDoor
