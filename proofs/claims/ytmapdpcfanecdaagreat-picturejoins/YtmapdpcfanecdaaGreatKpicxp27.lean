/- Walks over the document's own answers: guesses: GuessIn. -/
import Derived.Test.YtmapdpcfanecdaaGreatKpicxp18
import Derived.Test.YtmapdpcfanecdaaGreatKpicxp25
namespace Go.Proofs.YtmapdpcfanecdaaGreat
set_option linter.unusedVariables false
set_option linter.unusedSimpArgs false
open Go.RowKit

set_option maxHeartbeats 8000000 in
set_option maxRecDepth 10000 in
theorem guessIn_any (g : Gs) (ss : Option Addr) (gc : Nat) (h : Gs) (st : Option Addr) (hc : Nat) (w : World) (hs : IntsAt w ss g.s) (hgl : g.s.length ≤ 9223372036854775807) (ht : IntsAt w st h.s) (hlt' : h.s.length ≤ 9223372036854775807) :
    Calls Tryz.prog 14 #[gv g ss gc, gv h st hc] w fun e w' => e = .returned (.bool (inGs g h)) ∧ Below w.heap.size w w' := by
  obtain ⟨G0, H0, B0⟩ := two_at w g ss gc h st hc
  have I0 := hs.below B0 (Nat.le_refl _)
  have J0 := ht.below B0 (Nat.le_refl _)
  have HW := hideH (fun w => spanIn_any g.sp h.sp w)
  have HR : Hid (inGs g h = (!(g.n && !h.n) && (!(g.t && !h.t) && (!(g.f && !h.f) && (spIn g.sp h.sp && g.s.all fun x => h.s.contains x))))) := rfl
  generalize inGs g h = res at HR ⊢
  generalize spIn g.sp h.sp = si at HR HW
  clear hs ht
  obtain ⟨n, sp, t, f, sl⟩ := g
  obtain ⟨n', sp', t', f', h'⟩ := h
  simp only at hgl hlt'
  go_enter Tryz.func14, Tryz.ntmps14
  rcases three_ways n n' with ⟨rfl, rfl⟩ | rfl | ⟨rfl, rfl⟩
  · go_wp2
    go_ret
    exact ⟨ret_bool (by rw [HR.out]; rfl), B0⟩
  · rcases three_ways t t' with ⟨rfl, rfl⟩ | rfl | ⟨rfl, rfl⟩
    · go_wp2
      go_ret
      exact ⟨ret_bool (by rw [HR.out]; rfl), B0⟩
    · rcases three_ways f f' with ⟨rfl, rfl⟩ | rfl | ⟨rfl, rfl⟩
      · go_wp2
        go_ret
        exact ⟨ret_bool (by rw [HR.out]; rfl), B0⟩
      · go_wp2_with (go_at_call 50; fail)
        refine (HW.out _).mono ?_
        rintro e w1 ⟨rfl, hb1⟩
        have G1 := G0.call hb1
        have H1 := H0.call hb1
        have I1 := I0.call hb1
        have J1 := J0.call hb1
        have B1 := B0.trans (hb1.mono B0.size)
        clear hb1 G0 H0 I0 J0 B0 HW
        cases si with
        | false =>
          go_wp2
          go_ret
          exact ⟨ret_bool (by rw [HR.out]; simp), B1⟩
        | true =>
          have HR' : Hid (res = sl.all fun x => h'.contains x) := by show _ = _; rw [HR.out]; simp
          clear HR
          go_wp2
          go_loopw [5] (fun i wr => ∃ k : Nat, k ≤ sl.length ∧ i = .int .i64 k ∧ GuAt wr w.heap.size 0 ⟨false, sp, false, false, sl⟩ ss gc ∧ GuAt wr (w.heap.size + 1) 0 ⟨n', sp', t', f', h'⟩ st hc ∧ IntsAt wr ss sl ∧ IntsAt wr st h' ∧ Below w.heap.size w wr ∧ Hid (∀ j (h : j < sl.length), j < k → h'.contains sl[j] = true)) (fun i _ => sl.length - (intOf i).toNat)
          case atStart => exact ⟨0, Nat.zero_le _, rfl, G1, H1, I1, J1, B1, fun j h h' => by omega⟩
          case round =>
            obtain ⟨k, hk, rfl, GR, HR2, IR, JR, BR, HK⟩ := hrel
            clear G1 H1 I1 J1 B1
            obtain ⟨⟨g0, g1, g2, g3, g4, g5, g6⟩, gz⟩ := id GR
            obtain ⟨⟨k0, k1, k2, k3, k4, k5, k6⟩, kz⟩ := id HR2
            simp only [Nat.zero_add] at g0 g1 g2 g3 g4 g5 g6 k0 k1 k2 k3 k4 k5 k6
            by_cases hlt : k < sl.length
            · obtain ⟨b, off, rfl, hb, hcell⟩ := IR.get k hlt
              have c0 := hcell k hlt
              have n0 : (0 : Int) ≤ (k : Int) := by omega
              have n1 : (k : Int) < (sl.length : Int) := by omega
              clear hcell
              go_wp2
              go_region_held3 (fun wx => wx.cell? ⟨w.heap.size, 6, none⟩ = some (.slice (some ⟨b, off, none⟩) sl.length gc) ∧ wx.cell? ⟨w.heap.size + 1, 6, none⟩ = some (.slice st h'.length hc) ∧ wx.cell? ⟨b, off + k, none⟩ = some (.int .i64 sl[k]))
                (exact ⟨g6, k6, c0⟩)
                ((go_at_call 49; refine (hasR_any sl[k] st hc h' _ hlt' JR.drew).mono ?_; rintro e w2 ⟨rfl, hw2⟩; have hw3 := hw2.symm; subst hw3))
              have HD : Hid (decide (sl[k] ∈ h') = h'.contains sl[k]) := by show _ = _; simp
              generalize decide (sl[k] ∈ h') = d at *
              cases d with
              | true =>
                go_wp2
                go_roundw
                case rel =>
                  refine ⟨k + 1, by omega, by go_num, GR.drew, HR2.drew, IR.drew, JR.drew, BR.drew, fun j h h2 => ?_⟩
                  by_cases e : j = k
                  · subst e; exact HD.out.symm
                  · exact HK.out j h (by omega)
                case measure => simp [intOf]; omega
              | false =>
                have HF : Hid (res = false) := by
                  show _ = _
                  rw [HR'.out, Bool.eq_false_iff]
                  intro hx
                  have := List.all_eq_true.1 hx sl[k] (List.getElem_mem _)
                  rw [← HD.out] at this
                  cases this
                go_wp2
                go_ret
                exact ⟨ret_bool HF.out.symm, BR.drew⟩
            · have HF : Hid (res = true) := by
                show _ = _
                rw [HR'.out, List.all_eq_true]
                intro x hx
                obtain ⟨j, hj, rfl⟩ := List.getElem_of_mem hx
                exact HK.out j hj (by omega)
              go_wp2
              go_ret
              exact ⟨ret_bool HF.out.symm, BR⟩
      · go_wp2_with (go_at_call 50; fail)
        refine (HW.out _).mono ?_
        rintro e w1 ⟨rfl, hb1⟩
        have G1 := G0.call hb1
        have H1 := H0.call hb1
        have I1 := I0.call hb1
        have J1 := J0.call hb1
        have B1 := B0.trans (hb1.mono B0.size)
        clear hb1 G0 H0 I0 J0 B0 HW
        cases si with
        | false =>
          go_wp2
          go_ret
          exact ⟨ret_bool (by rw [HR.out]; simp), B1⟩
        | true =>
          have HR' : Hid (res = sl.all fun x => h'.contains x) := by show _ = _; rw [HR.out]; simp
          clear HR
          go_wp2
          go_loopw [5] (fun i wr => ∃ k : Nat, k ≤ sl.length ∧ i = .int .i64 k ∧ GuAt wr w.heap.size 0 ⟨false, sp, false, true, sl⟩ ss gc ∧ GuAt wr (w.heap.size + 1) 0 ⟨n', sp', t', true, h'⟩ st hc ∧ IntsAt wr ss sl ∧ IntsAt wr st h' ∧ Below w.heap.size w wr ∧ Hid (∀ j (h : j < sl.length), j < k → h'.contains sl[j] = true)) (fun i _ => sl.length - (intOf i).toNat)
          case atStart => exact ⟨0, Nat.zero_le _, rfl, G1, H1, I1, J1, B1, fun j h h' => by omega⟩
          case round =>
            obtain ⟨k, hk, rfl, GR, HR2, IR, JR, BR, HK⟩ := hrel
            clear G1 H1 I1 J1 B1
            obtain ⟨⟨g0, g1, g2, g3, g4, g5, g6⟩, gz⟩ := id GR
            obtain ⟨⟨k0, k1, k2, k3, k4, k5, k6⟩, kz⟩ := id HR2
            simp only [Nat.zero_add] at g0 g1 g2 g3 g4 g5 g6 k0 k1 k2 k3 k4 k5 k6
            by_cases hlt : k < sl.length
            · obtain ⟨b, off, rfl, hb, hcell⟩ := IR.get k hlt
              have c0 := hcell k hlt
              have n0 : (0 : Int) ≤ (k : Int) := by omega
              have n1 : (k : Int) < (sl.length : Int) := by omega
              clear hcell
              go_wp2
              go_region_held3 (fun wx => wx.cell? ⟨w.heap.size, 6, none⟩ = some (.slice (some ⟨b, off, none⟩) sl.length gc) ∧ wx.cell? ⟨w.heap.size + 1, 6, none⟩ = some (.slice st h'.length hc) ∧ wx.cell? ⟨b, off + k, none⟩ = some (.int .i64 sl[k]))
                (exact ⟨g6, k6, c0⟩)
                ((go_at_call 49; refine (hasR_any sl[k] st hc h' _ hlt' JR.drew).mono ?_; rintro e w2 ⟨rfl, hw2⟩; have hw3 := hw2.symm; subst hw3))
              have HD : Hid (decide (sl[k] ∈ h') = h'.contains sl[k]) := by show _ = _; simp
              generalize decide (sl[k] ∈ h') = d at *
              cases d with
              | true =>
                go_wp2
                go_roundw
                case rel =>
                  refine ⟨k + 1, by omega, by go_num, GR.drew, HR2.drew, IR.drew, JR.drew, BR.drew, fun j h h2 => ?_⟩
                  by_cases e : j = k
                  · subst e; exact HD.out.symm
                  · exact HK.out j h (by omega)
                case measure => simp [intOf]; omega
              | false =>
                have HF : Hid (res = false) := by
                  show _ = _
                  rw [HR'.out, Bool.eq_false_iff]
                  intro hx
                  have := List.all_eq_true.1 hx sl[k] (List.getElem_mem _)
                  rw [← HD.out] at this
                  cases this
                go_wp2
                go_ret
                exact ⟨ret_bool HF.out.symm, BR.drew⟩
            · have HF : Hid (res = true) := by
                show _ = _
                rw [HR'.out, List.all_eq_true]
                intro x hx
                obtain ⟨j, hj, rfl⟩ := List.getElem_of_mem hx
                exact HK.out j hj (by omega)
              go_wp2
              go_ret
              exact ⟨ret_bool HF.out.symm, BR⟩
    · rcases three_ways f f' with ⟨rfl, rfl⟩ | rfl | ⟨rfl, rfl⟩
      · go_wp2
        go_ret
        exact ⟨ret_bool (by rw [HR.out]; rfl), B0⟩
      · go_wp2_with (go_at_call 50; fail)
        refine (HW.out _).mono ?_
        rintro e w1 ⟨rfl, hb1⟩
        have G1 := G0.call hb1
        have H1 := H0.call hb1
        have I1 := I0.call hb1
        have J1 := J0.call hb1
        have B1 := B0.trans (hb1.mono B0.size)
        clear hb1 G0 H0 I0 J0 B0 HW
        cases si with
        | false =>
          go_wp2
          go_ret
          exact ⟨ret_bool (by rw [HR.out]; simp), B1⟩
        | true =>
          have HR' : Hid (res = sl.all fun x => h'.contains x) := by show _ = _; rw [HR.out]; simp
          clear HR
          go_wp2
          go_loopw [5] (fun i wr => ∃ k : Nat, k ≤ sl.length ∧ i = .int .i64 k ∧ GuAt wr w.heap.size 0 ⟨false, sp, true, false, sl⟩ ss gc ∧ GuAt wr (w.heap.size + 1) 0 ⟨n', sp', true, f', h'⟩ st hc ∧ IntsAt wr ss sl ∧ IntsAt wr st h' ∧ Below w.heap.size w wr ∧ Hid (∀ j (h : j < sl.length), j < k → h'.contains sl[j] = true)) (fun i _ => sl.length - (intOf i).toNat)
          case atStart => exact ⟨0, Nat.zero_le _, rfl, G1, H1, I1, J1, B1, fun j h h' => by omega⟩
          case round =>
            obtain ⟨k, hk, rfl, GR, HR2, IR, JR, BR, HK⟩ := hrel
            clear G1 H1 I1 J1 B1
            obtain ⟨⟨g0, g1, g2, g3, g4, g5, g6⟩, gz⟩ := id GR
            obtain ⟨⟨k0, k1, k2, k3, k4, k5, k6⟩, kz⟩ := id HR2
            simp only [Nat.zero_add] at g0 g1 g2 g3 g4 g5 g6 k0 k1 k2 k3 k4 k5 k6
            by_cases hlt : k < sl.length
            · obtain ⟨b, off, rfl, hb, hcell⟩ := IR.get k hlt
              have c0 := hcell k hlt
              have n0 : (0 : Int) ≤ (k : Int) := by omega
              have n1 : (k : Int) < (sl.length : Int) := by omega
              clear hcell
              go_wp2
              go_region_held3 (fun wx => wx.cell? ⟨w.heap.size, 6, none⟩ = some (.slice (some ⟨b, off, none⟩) sl.length gc) ∧ wx.cell? ⟨w.heap.size + 1, 6, none⟩ = some (.slice st h'.length hc) ∧ wx.cell? ⟨b, off + k, none⟩ = some (.int .i64 sl[k]))
                (exact ⟨g6, k6, c0⟩)
                ((go_at_call 49; refine (hasR_any sl[k] st hc h' _ hlt' JR.drew).mono ?_; rintro e w2 ⟨rfl, hw2⟩; have hw3 := hw2.symm; subst hw3))
              have HD : Hid (decide (sl[k] ∈ h') = h'.contains sl[k]) := by show _ = _; simp
              generalize decide (sl[k] ∈ h') = d at *
              cases d with
              | true =>
                go_wp2
                go_roundw
                case rel =>
                  refine ⟨k + 1, by omega, by go_num, GR.drew, HR2.drew, IR.drew, JR.drew, BR.drew, fun j h h2 => ?_⟩
                  by_cases e : j = k
                  · subst e; exact HD.out.symm
                  · exact HK.out j h (by omega)
                case measure => simp [intOf]; omega
              | false =>
                have HF : Hid (res = false) := by
                  show _ = _
                  rw [HR'.out, Bool.eq_false_iff]
                  intro hx
                  have := List.all_eq_true.1 hx sl[k] (List.getElem_mem _)
                  rw [← HD.out] at this
                  cases this
                go_wp2
                go_ret
                exact ⟨ret_bool HF.out.symm, BR.drew⟩
            · have HF : Hid (res = true) := by
                show _ = _
                rw [HR'.out, List.all_eq_true]
                intro x hx
                obtain ⟨j, hj, rfl⟩ := List.getElem_of_mem hx
                exact HK.out j hj (by omega)
              go_wp2
              go_ret
              exact ⟨ret_bool HF.out.symm, BR⟩
      · go_wp2_with (go_at_call 50; fail)
        refine (HW.out _).mono ?_
        rintro e w1 ⟨rfl, hb1⟩
        have G1 := G0.call hb1
        have H1 := H0.call hb1
        have I1 := I0.call hb1
        have J1 := J0.call hb1
        have B1 := B0.trans (hb1.mono B0.size)
        clear hb1 G0 H0 I0 J0 B0 HW
        cases si with
        | false =>
          go_wp2
          go_ret
          exact ⟨ret_bool (by rw [HR.out]; simp), B1⟩
        | true =>
          have HR' : Hid (res = sl.all fun x => h'.contains x) := by show _ = _; rw [HR.out]; simp
          clear HR
          go_wp2
          go_loopw [5] (fun i wr => ∃ k : Nat, k ≤ sl.length ∧ i = .int .i64 k ∧ GuAt wr w.heap.size 0 ⟨false, sp, true, true, sl⟩ ss gc ∧ GuAt wr (w.heap.size + 1) 0 ⟨n', sp', true, true, h'⟩ st hc ∧ IntsAt wr ss sl ∧ IntsAt wr st h' ∧ Below w.heap.size w wr ∧ Hid (∀ j (h : j < sl.length), j < k → h'.contains sl[j] = true)) (fun i _ => sl.length - (intOf i).toNat)
          case atStart => exact ⟨0, Nat.zero_le _, rfl, G1, H1, I1, J1, B1, fun j h h' => by omega⟩
          case round =>
            obtain ⟨k, hk, rfl, GR, HR2, IR, JR, BR, HK⟩ := hrel
            clear G1 H1 I1 J1 B1
            obtain ⟨⟨g0, g1, g2, g3, g4, g5, g6⟩, gz⟩ := id GR
            obtain ⟨⟨k0, k1, k2, k3, k4, k5, k6⟩, kz⟩ := id HR2
            simp only [Nat.zero_add] at g0 g1 g2 g3 g4 g5 g6 k0 k1 k2 k3 k4 k5 k6
            by_cases hlt : k < sl.length
            · obtain ⟨b, off, rfl, hb, hcell⟩ := IR.get k hlt
              have c0 := hcell k hlt
              have n0 : (0 : Int) ≤ (k : Int) := by omega
              have n1 : (k : Int) < (sl.length : Int) := by omega
              clear hcell
              go_wp2
              go_region_held3 (fun wx => wx.cell? ⟨w.heap.size, 6, none⟩ = some (.slice (some ⟨b, off, none⟩) sl.length gc) ∧ wx.cell? ⟨w.heap.size + 1, 6, none⟩ = some (.slice st h'.length hc) ∧ wx.cell? ⟨b, off + k, none⟩ = some (.int .i64 sl[k]))
                (exact ⟨g6, k6, c0⟩)
                ((go_at_call 49; refine (hasR_any sl[k] st hc h' _ hlt' JR.drew).mono ?_; rintro e w2 ⟨rfl, hw2⟩; have hw3 := hw2.symm; subst hw3))
              have HD : Hid (decide (sl[k] ∈ h') = h'.contains sl[k]) := by show _ = _; simp
              generalize decide (sl[k] ∈ h') = d at *
              cases d with
              | true =>
                go_wp2
                go_roundw
                case rel =>
                  refine ⟨k + 1, by omega, by go_num, GR.drew, HR2.drew, IR.drew, JR.drew, BR.drew, fun j h h2 => ?_⟩
                  by_cases e : j = k
                  · subst e; exact HD.out.symm
                  · exact HK.out j h (by omega)
                case measure => simp [intOf]; omega
              | false =>
                have HF : Hid (res = false) := by
                  show _ = _
                  rw [HR'.out, Bool.eq_false_iff]
                  intro hx
                  have := List.all_eq_true.1 hx sl[k] (List.getElem_mem _)
                  rw [← HD.out] at this
                  cases this
                go_wp2
                go_ret
                exact ⟨ret_bool HF.out.symm, BR.drew⟩
            · have HF : Hid (res = true) := by
                show _ = _
                rw [HR'.out, List.all_eq_true]
                intro x hx
                obtain ⟨j, hj, rfl⟩ := List.getElem_of_mem hx
                exact HK.out j hj (by omega)
              go_wp2
              go_ret
              exact ⟨ret_bool HF.out.symm, BR⟩
  · rcases three_ways t t' with ⟨rfl, rfl⟩ | rfl | ⟨rfl, rfl⟩
    · go_wp2
      go_ret
      exact ⟨ret_bool (by rw [HR.out]; rfl), B0⟩
    · rcases three_ways f f' with ⟨rfl, rfl⟩ | rfl | ⟨rfl, rfl⟩
      · go_wp2
        go_ret
        exact ⟨ret_bool (by rw [HR.out]; rfl), B0⟩
      · go_wp2_with (go_at_call 50; fail)
        refine (HW.out _).mono ?_
        rintro e w1 ⟨rfl, hb1⟩
        have G1 := G0.call hb1
        have H1 := H0.call hb1
        have I1 := I0.call hb1
        have J1 := J0.call hb1
        have B1 := B0.trans (hb1.mono B0.size)
        clear hb1 G0 H0 I0 J0 B0 HW
        cases si with
        | false =>
          go_wp2
          go_ret
          exact ⟨ret_bool (by rw [HR.out]; simp), B1⟩
        | true =>
          have HR' : Hid (res = sl.all fun x => h'.contains x) := by show _ = _; rw [HR.out]; simp
          clear HR
          go_wp2
          go_loopw [5] (fun i wr => ∃ k : Nat, k ≤ sl.length ∧ i = .int .i64 k ∧ GuAt wr w.heap.size 0 ⟨true, sp, false, false, sl⟩ ss gc ∧ GuAt wr (w.heap.size + 1) 0 ⟨true, sp', t', f', h'⟩ st hc ∧ IntsAt wr ss sl ∧ IntsAt wr st h' ∧ Below w.heap.size w wr ∧ Hid (∀ j (h : j < sl.length), j < k → h'.contains sl[j] = true)) (fun i _ => sl.length - (intOf i).toNat)
          case atStart => exact ⟨0, Nat.zero_le _, rfl, G1, H1, I1, J1, B1, fun j h h' => by omega⟩
          case round =>
            obtain ⟨k, hk, rfl, GR, HR2, IR, JR, BR, HK⟩ := hrel
            clear G1 H1 I1 J1 B1
            obtain ⟨⟨g0, g1, g2, g3, g4, g5, g6⟩, gz⟩ := id GR
            obtain ⟨⟨k0, k1, k2, k3, k4, k5, k6⟩, kz⟩ := id HR2
            simp only [Nat.zero_add] at g0 g1 g2 g3 g4 g5 g6 k0 k1 k2 k3 k4 k5 k6
            by_cases hlt : k < sl.length
            · obtain ⟨b, off, rfl, hb, hcell⟩ := IR.get k hlt
              have c0 := hcell k hlt
              have n0 : (0 : Int) ≤ (k : Int) := by omega
              have n1 : (k : Int) < (sl.length : Int) := by omega
              clear hcell
              go_wp2
              go_region_held3 (fun wx => wx.cell? ⟨w.heap.size, 6, none⟩ = some (.slice (some ⟨b, off, none⟩) sl.length gc) ∧ wx.cell? ⟨w.heap.size + 1, 6, none⟩ = some (.slice st h'.length hc) ∧ wx.cell? ⟨b, off + k, none⟩ = some (.int .i64 sl[k]))
                (exact ⟨g6, k6, c0⟩)
                ((go_at_call 49; refine (hasR_any sl[k] st hc h' _ hlt' JR.drew).mono ?_; rintro e w2 ⟨rfl, hw2⟩; have hw3 := hw2.symm; subst hw3))
              have HD : Hid (decide (sl[k] ∈ h') = h'.contains sl[k]) := by show _ = _; simp
              generalize decide (sl[k] ∈ h') = d at *
              cases d with
              | true =>
                go_wp2
                go_roundw
                case rel =>
                  refine ⟨k + 1, by omega, by go_num, GR.drew, HR2.drew, IR.drew, JR.drew, BR.drew, fun j h h2 => ?_⟩
                  by_cases e : j = k
                  · subst e; exact HD.out.symm
                  · exact HK.out j h (by omega)
                case measure => simp [intOf]; omega
              | false =>
                have HF : Hid (res = false) := by
                  show _ = _
                  rw [HR'.out, Bool.eq_false_iff]
                  intro hx
                  have := List.all_eq_true.1 hx sl[k] (List.getElem_mem _)
                  rw [← HD.out] at this
                  cases this
                go_wp2
                go_ret
                exact ⟨ret_bool HF.out.symm, BR.drew⟩
            · have HF : Hid (res = true) := by
                show _ = _
                rw [HR'.out, List.all_eq_true]
                intro x hx
                obtain ⟨j, hj, rfl⟩ := List.getElem_of_mem hx
                exact HK.out j hj (by omega)
              go_wp2
              go_ret
              exact ⟨ret_bool HF.out.symm, BR⟩
      · go_wp2_with (go_at_call 50; fail)
        refine (HW.out _).mono ?_
        rintro e w1 ⟨rfl, hb1⟩
        have G1 := G0.call hb1
        have H1 := H0.call hb1
        have I1 := I0.call hb1
        have J1 := J0.call hb1
        have B1 := B0.trans (hb1.mono B0.size)
        clear hb1 G0 H0 I0 J0 B0 HW
        cases si with
        | false =>
          go_wp2
          go_ret
          exact ⟨ret_bool (by rw [HR.out]; simp), B1⟩
        | true =>
          have HR' : Hid (res = sl.all fun x => h'.contains x) := by show _ = _; rw [HR.out]; simp
          clear HR
          go_wp2
          go_loopw [5] (fun i wr => ∃ k : Nat, k ≤ sl.length ∧ i = .int .i64 k ∧ GuAt wr w.heap.size 0 ⟨true, sp, false, true, sl⟩ ss gc ∧ GuAt wr (w.heap.size + 1) 0 ⟨true, sp', t', true, h'⟩ st hc ∧ IntsAt wr ss sl ∧ IntsAt wr st h' ∧ Below w.heap.size w wr ∧ Hid (∀ j (h : j < sl.length), j < k → h'.contains sl[j] = true)) (fun i _ => sl.length - (intOf i).toNat)
          case atStart => exact ⟨0, Nat.zero_le _, rfl, G1, H1, I1, J1, B1, fun j h h' => by omega⟩
          case round =>
            obtain ⟨k, hk, rfl, GR, HR2, IR, JR, BR, HK⟩ := hrel
            clear G1 H1 I1 J1 B1
            obtain ⟨⟨g0, g1, g2, g3, g4, g5, g6⟩, gz⟩ := id GR
            obtain ⟨⟨k0, k1, k2, k3, k4, k5, k6⟩, kz⟩ := id HR2
            simp only [Nat.zero_add] at g0 g1 g2 g3 g4 g5 g6 k0 k1 k2 k3 k4 k5 k6
            by_cases hlt : k < sl.length
            · obtain ⟨b, off, rfl, hb, hcell⟩ := IR.get k hlt
              have c0 := hcell k hlt
              have n0 : (0 : Int) ≤ (k : Int) := by omega
              have n1 : (k : Int) < (sl.length : Int) := by omega
              clear hcell
              go_wp2
              go_region_held3 (fun wx => wx.cell? ⟨w.heap.size, 6, none⟩ = some (.slice (some ⟨b, off, none⟩) sl.length gc) ∧ wx.cell? ⟨w.heap.size + 1, 6, none⟩ = some (.slice st h'.length hc) ∧ wx.cell? ⟨b, off + k, none⟩ = some (.int .i64 sl[k]))
                (exact ⟨g6, k6, c0⟩)
                ((go_at_call 49; refine (hasR_any sl[k] st hc h' _ hlt' JR.drew).mono ?_; rintro e w2 ⟨rfl, hw2⟩; have hw3 := hw2.symm; subst hw3))
              have HD : Hid (decide (sl[k] ∈ h') = h'.contains sl[k]) := by show _ = _; simp
              generalize decide (sl[k] ∈ h') = d at *
              cases d with
              | true =>
                go_wp2
                go_roundw
                case rel =>
                  refine ⟨k + 1, by omega, by go_num, GR.drew, HR2.drew, IR.drew, JR.drew, BR.drew, fun j h h2 => ?_⟩
                  by_cases e : j = k
                  · subst e; exact HD.out.symm
                  · exact HK.out j h (by omega)
                case measure => simp [intOf]; omega
              | false =>
                have HF : Hid (res = false) := by
                  show _ = _
                  rw [HR'.out, Bool.eq_false_iff]
                  intro hx
                  have := List.all_eq_true.1 hx sl[k] (List.getElem_mem _)
                  rw [← HD.out] at this
                  cases this
                go_wp2
                go_ret
                exact ⟨ret_bool HF.out.symm, BR.drew⟩
            · have HF : Hid (res = true) := by
                show _ = _
                rw [HR'.out, List.all_eq_true]
                intro x hx
                obtain ⟨j, hj, rfl⟩ := List.getElem_of_mem hx
                exact HK.out j hj (by omega)
              go_wp2
              go_ret
              exact ⟨ret_bool HF.out.symm, BR⟩
    · rcases three_ways f f' with ⟨rfl, rfl⟩ | rfl | ⟨rfl, rfl⟩
      · go_wp2
        go_ret
        exact ⟨ret_bool (by rw [HR.out]; rfl), B0⟩
      · go_wp2_with (go_at_call 50; fail)
        refine (HW.out _).mono ?_
        rintro e w1 ⟨rfl, hb1⟩
        have G1 := G0.call hb1
        have H1 := H0.call hb1
        have I1 := I0.call hb1
        have J1 := J0.call hb1
        have B1 := B0.trans (hb1.mono B0.size)
        clear hb1 G0 H0 I0 J0 B0 HW
        cases si with
        | false =>
          go_wp2
          go_ret
          exact ⟨ret_bool (by rw [HR.out]; simp), B1⟩
        | true =>
          have HR' : Hid (res = sl.all fun x => h'.contains x) := by show _ = _; rw [HR.out]; simp
          clear HR
          go_wp2
          go_loopw [5] (fun i wr => ∃ k : Nat, k ≤ sl.length ∧ i = .int .i64 k ∧ GuAt wr w.heap.size 0 ⟨true, sp, true, false, sl⟩ ss gc ∧ GuAt wr (w.heap.size + 1) 0 ⟨true, sp', true, f', h'⟩ st hc ∧ IntsAt wr ss sl ∧ IntsAt wr st h' ∧ Below w.heap.size w wr ∧ Hid (∀ j (h : j < sl.length), j < k → h'.contains sl[j] = true)) (fun i _ => sl.length - (intOf i).toNat)
          case atStart => exact ⟨0, Nat.zero_le _, rfl, G1, H1, I1, J1, B1, fun j h h' => by omega⟩
          case round =>
            obtain ⟨k, hk, rfl, GR, HR2, IR, JR, BR, HK⟩ := hrel
            clear G1 H1 I1 J1 B1
            obtain ⟨⟨g0, g1, g2, g3, g4, g5, g6⟩, gz⟩ := id GR
            obtain ⟨⟨k0, k1, k2, k3, k4, k5, k6⟩, kz⟩ := id HR2
            simp only [Nat.zero_add] at g0 g1 g2 g3 g4 g5 g6 k0 k1 k2 k3 k4 k5 k6
            by_cases hlt : k < sl.length
            · obtain ⟨b, off, rfl, hb, hcell⟩ := IR.get k hlt
              have c0 := hcell k hlt
              have n0 : (0 : Int) ≤ (k : Int) := by omega
              have n1 : (k : Int) < (sl.length : Int) := by omega
              clear hcell
              go_wp2
              go_region_held3 (fun wx => wx.cell? ⟨w.heap.size, 6, none⟩ = some (.slice (some ⟨b, off, none⟩) sl.length gc) ∧ wx.cell? ⟨w.heap.size + 1, 6, none⟩ = some (.slice st h'.length hc) ∧ wx.cell? ⟨b, off + k, none⟩ = some (.int .i64 sl[k]))
                (exact ⟨g6, k6, c0⟩)
                ((go_at_call 49; refine (hasR_any sl[k] st hc h' _ hlt' JR.drew).mono ?_; rintro e w2 ⟨rfl, hw2⟩; have hw3 := hw2.symm; subst hw3))
              have HD : Hid (decide (sl[k] ∈ h') = h'.contains sl[k]) := by show _ = _; simp
              generalize decide (sl[k] ∈ h') = d at *
              cases d with
              | true =>
                go_wp2
                go_roundw
                case rel =>
                  refine ⟨k + 1, by omega, by go_num, GR.drew, HR2.drew, IR.drew, JR.drew, BR.drew, fun j h h2 => ?_⟩
                  by_cases e : j = k
                  · subst e; exact HD.out.symm
                  · exact HK.out j h (by omega)
                case measure => simp [intOf]; omega
              | false =>
                have HF : Hid (res = false) := by
                  show _ = _
                  rw [HR'.out, Bool.eq_false_iff]
                  intro hx
                  have := List.all_eq_true.1 hx sl[k] (List.getElem_mem _)
                  rw [← HD.out] at this
                  cases this
                go_wp2
                go_ret
                exact ⟨ret_bool HF.out.symm, BR.drew⟩
            · have HF : Hid (res = true) := by
                show _ = _
                rw [HR'.out, List.all_eq_true]
                intro x hx
                obtain ⟨j, hj, rfl⟩ := List.getElem_of_mem hx
                exact HK.out j hj (by omega)
              go_wp2
              go_ret
              exact ⟨ret_bool HF.out.symm, BR⟩
      · go_wp2_with (go_at_call 50; fail)
        refine (HW.out _).mono ?_
        rintro e w1 ⟨rfl, hb1⟩
        have G1 := G0.call hb1
        have H1 := H0.call hb1
        have I1 := I0.call hb1
        have J1 := J0.call hb1
        have B1 := B0.trans (hb1.mono B0.size)
        clear hb1 G0 H0 I0 J0 B0 HW
        cases si with
        | false =>
          go_wp2
          go_ret
          exact ⟨ret_bool (by rw [HR.out]; simp), B1⟩
        | true =>
          have HR' : Hid (res = sl.all fun x => h'.contains x) := by show _ = _; rw [HR.out]; simp
          clear HR
          go_wp2
          go_loopw [5] (fun i wr => ∃ k : Nat, k ≤ sl.length ∧ i = .int .i64 k ∧ GuAt wr w.heap.size 0 ⟨true, sp, true, true, sl⟩ ss gc ∧ GuAt wr (w.heap.size + 1) 0 ⟨true, sp', true, true, h'⟩ st hc ∧ IntsAt wr ss sl ∧ IntsAt wr st h' ∧ Below w.heap.size w wr ∧ Hid (∀ j (h : j < sl.length), j < k → h'.contains sl[j] = true)) (fun i _ => sl.length - (intOf i).toNat)
          case atStart => exact ⟨0, Nat.zero_le _, rfl, G1, H1, I1, J1, B1, fun j h h' => by omega⟩
          case round =>
            obtain ⟨k, hk, rfl, GR, HR2, IR, JR, BR, HK⟩ := hrel
            clear G1 H1 I1 J1 B1
            obtain ⟨⟨g0, g1, g2, g3, g4, g5, g6⟩, gz⟩ := id GR
            obtain ⟨⟨k0, k1, k2, k3, k4, k5, k6⟩, kz⟩ := id HR2
            simp only [Nat.zero_add] at g0 g1 g2 g3 g4 g5 g6 k0 k1 k2 k3 k4 k5 k6
            by_cases hlt : k < sl.length
            · obtain ⟨b, off, rfl, hb, hcell⟩ := IR.get k hlt
              have c0 := hcell k hlt
              have n0 : (0 : Int) ≤ (k : Int) := by omega
              have n1 : (k : Int) < (sl.length : Int) := by omega
              clear hcell
              go_wp2
              go_region_held3 (fun wx => wx.cell? ⟨w.heap.size, 6, none⟩ = some (.slice (some ⟨b, off, none⟩) sl.length gc) ∧ wx.cell? ⟨w.heap.size + 1, 6, none⟩ = some (.slice st h'.length hc) ∧ wx.cell? ⟨b, off + k, none⟩ = some (.int .i64 sl[k]))
                (exact ⟨g6, k6, c0⟩)
                ((go_at_call 49; refine (hasR_any sl[k] st hc h' _ hlt' JR.drew).mono ?_; rintro e w2 ⟨rfl, hw2⟩; have hw3 := hw2.symm; subst hw3))
              have HD : Hid (decide (sl[k] ∈ h') = h'.contains sl[k]) := by show _ = _; simp
              generalize decide (sl[k] ∈ h') = d at *
              cases d with
              | true =>
                go_wp2
                go_roundw
                case rel =>
                  refine ⟨k + 1, by omega, by go_num, GR.drew, HR2.drew, IR.drew, JR.drew, BR.drew, fun j h h2 => ?_⟩
                  by_cases e : j = k
                  · subst e; exact HD.out.symm
                  · exact HK.out j h (by omega)
                case measure => simp [intOf]; omega
              | false =>
                have HF : Hid (res = false) := by
                  show _ = _
                  rw [HR'.out, Bool.eq_false_iff]
                  intro hx
                  have := List.all_eq_true.1 hx sl[k] (List.getElem_mem _)
                  rw [← HD.out] at this
                  cases this
                go_wp2
                go_ret
                exact ⟨ret_bool HF.out.symm, BR.drew⟩
            · have HF : Hid (res = true) := by
                show _ = _
                rw [HR'.out, List.all_eq_true]
                intro x hx
                obtain ⟨j, hj, rfl⟩ := List.getElem_of_mem hx
                exact HK.out j hj (by omega)
              go_wp2
              go_ret
              exact ⟨ret_bool HF.out.symm, BR⟩
end Go.Proofs.YtmapdpcfanecdaaGreat
