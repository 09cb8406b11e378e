/- Histories: whether one is right, as the reference tells it. -/
import Derived.Test.YtbfklpopodmalaaHF
namespace Go.Proofs.Ytbfklpopodmalaa
open Go.RowKit
set_option maxRecDepth 100000 in
set_option maxHeartbeats 4000000 in

theorem rright_any (v : Value) (h : List Ev) (w : World) (hv : KE.IsL w w.heap.size v h) (hl : h.length ≤ 1000) :
    Calls Try.prog 8 #[v] w fun e w' => e = .returned (.bool (rgB h)) ∧ Below w.heap.size w w' := by
  have HV := Lib.hid hv
  obtain ⟨A, c0, rfl, hc0⟩ := hv.shape
  clear hv
  have HFl := Lib.hid (fun k hk e => rgB_false (h := h) (k := k) hk e)
  have HTr := Lib.hid (fun e => rgB_true (h := h) e)
  have HCL := Lib.hid (fun (k : Nat) (x : Int) => show cntE (h.take k) x ≤ 1000 from Nat.le_trans (List.length_filter_le _ _) (by rw [List.length_take]; omega))
  have HCT := Lib.hid (fun (k : Nat) (hk : k < h.length) (x : Int) => cntE_take h k _ (getD_some hk) x)
  have N0 := Lib.hid (show Ni (w.alloc (.cells #[.int .i64 0, .int .i64 0, .int .i64 0, .int .i64 0, .int .i64 0, .int .i64 0, .int .i64 0, .int .i64 0, .int .i64 0] 38)) w.heap.size (fun i => ((cntE (h.take 0) (i : Int) : Nat) : Int)) by
    refine ⟨fun i hi => ?_, fun i => by simp [go_sem], by simp⟩
    rcases (show i = 0 ∨ i = 1 ∨ i = 2 ∨ i = 3 ∨ i = 4 ∨ i = 5 ∨ i = 6 ∨ i = 7 ∨ i = 8 by omega) with rfl | rfl | rfl | rfl | rfl | rfl | rfl | rfl | rfl <;> simp [go_sem, cntE])
  have HB0 := Lib.hid (Below.al (Below.refl w.heap.size w) (.cells #[.int .i64 0, .int .i64 0, .int .i64 0, .int .i64 0, .int .i64 0, .int .i64 0, .int .i64 0, .int .i64 0, .int .i64 0] 38))
  generalize rgB h = z at *
  go_enter Try.func8, Try.ntmps8
  go_wp2
  go_loopg [4] h.length (fun gh i wr => ∃ k : Nat, k ≤ h.length ∧ gh = h.length - k ∧ i = .int .i64 k ∧ Ni wr w.heap.size (fun i => ((cntE (h.take k) (i : Int) : Nat) : Int)) ∧ (∀ i, i < k → okB h i = true) ∧ Below w.heap.size w wr)
  case atStart => exact ⟨0, Nat.zero_le _, rfl, rfl, N0.out, fun i hi => absurd hi (Nat.not_lt_zero _), HB0.out⟩
  case round =>
    obtain ⟨k, hk, rfl, rfl, hni, hall, hbl⟩ := hrel
    have N := Lib.hid hni
    have HAll := Lib.hid hall
    have HB := Lib.hid hbl
    clear hni hall hbl
    by_cases hlt : k < h.length
    · have HFk := Lib.hid (HFl.out k hlt)
      have HCT := Lib.hid (HCT.out k hlt)
      have HCL := Lib.hid (HCL.out k)
      obtain ⟨b, off, rfl, hb, _, hcell⟩ := ev_cells (HV.out.then HB.out) (by omega)
      obtain ⟨e0, e1, e2, e3⟩ := hcell k hlt
      have hprev := fun (j : Nat) (hj : k = j + 1) => (hcell j (by omega)).2.2.2
      have hok : okB h k = (decide (1 ≤ (h.getD k ev0).a) && (decide (k = 0) || decide ((h.getD (k - 1) ev0).a < (h.getD k ev0).a)) && decide (1 ≤ (h.getD k ev0).w) && decide ((h.getD k ev0).w ≤ 8) &&
        decide ((h.getD k ev0).k = ((cntE (h.take k) (h.getD k ev0).w % 3 : Nat) : Int) + 1) && decide ((h.getD k ev0).n = ((cntE (h.take k) (h.getD k ev0).w / 3 : Nat) : Int) + 1)) := rfl
      obtain ⟨d, hd⟩ : ∃ d, h.getD k ev0 = d := ⟨_, rfl⟩
      rw [hd] at hok e0 e1 e2 e3 HCT
      clear hcell hd
      obtain ⟨dk, dw, dn, da⟩ := d
      simp only at e0 e1 e2 e3 hok
      obtain ⟨wo, hwo⟩ : ∃ wo, wo = wr.alloc (.cells #[.int .i64 dk, .int .i64 dw, .int .i64 dn, .int .i64 da] 35) := ⟨_, rfl⟩
      have NO := Lib.hid (show Ni wo w.heap.size (fun i => ((cntE (h.take k) (i : Int) : Nat) : Int)) by rw [hwo]; exact N.out.alloc _)
      have HBo := Lib.hid (show Below w.heap.size w wo by rw [hwo]; exact Below.al HB.out _)
      have y0 : wo.cell? ⟨wr.heap.size, 0, none⟩ = some (.int .i64 dk) := by rw [hwo]; simp [go_sem]
      have y1 : wo.cell? ⟨wr.heap.size, 1, none⟩ = some (.int .i64 dw) := by rw [hwo]; simp [go_sem]
      have y2 : wo.cell? ⟨wr.heap.size, 2, none⟩ = some (.int .i64 dn) := by rw [hwo]; simp [go_sem]
      have y3 : wo.cell? ⟨wr.heap.size, 3, none⟩ = some (.int .i64 da) := by rw [hwo]; simp [go_sem]
      by_cases h1 : da < 1
      · have HE := Lib.hid (HFk.out (by rw [hok, decide_eq_false (show ¬ 1 ≤ da by omega)]; simp))
        have x1 : decide (da < 1) = true := decide_eq_true h1
        clear hok hprev
        go_wp2_with fail
        rw [← hwo]
        clear hwo
        go_quiet (fail)
        go_wp2
        go_ret
        exact ⟨ret_b HE.out.symm, below_drewN HBo.out _⟩

      have x1 : decide (da < 1) = false := decide_eq_false h1
      by_cases hk0 : k = 0
      · subst hk0
        simp only [Nat.zero_mul, Nat.add_zero] at e0 e1 e2 e3
        have HOK := Lib.hid hok
        clear hok hprev
        by_cases h3 : dw < 1
        · have HE := Lib.hid (HFk.out (by rw [HOK.out, decide_eq_false (show ¬ 1 ≤ dw by omega)]; simp))
          have x3 : decide (dw < 1) = true := decide_eq_true h3
          go_wp2_with fail
          rw [← hwo]
          clear hwo
          go_quiet (fail)
          go_wp2
          go_ret
          exact ⟨ret_b HE.out.symm, below_drewN HBo.out _⟩

        have x3 : decide (dw < 1) = false := decide_eq_false h3
        by_cases h4 : 8 < dw
        · have HE := Lib.hid (HFk.out (by rw [HOK.out, decide_eq_false (show ¬ dw ≤ 8 by omega)]; simp))
          have x4 : decide (8 < dw) = true := decide_eq_true h4
          go_wp2_with fail
          rw [← hwo]
          clear hwo
          go_quiet (fail)
          go_wp2
          go_ret
          exact ⟨ret_b HE.out.symm, below_drewN HBo.out _⟩

        have x4 : decide (8 < dw) = false := decide_eq_false h4
        obtain ⟨x, rfl⟩ := Int.eq_ofNat_of_zero_le (show 0 ≤ dw by omega)
        have hx9 : x < 9 := by omega
        have n0 := NO.out.c x hx9
        have hxi : ((x : Int) < 9) := by omega
        have hxz : ¬ ((x : Int) < 0) := by omega
        have hxa : decide ((x : Int) < 0) = false := decide_eq_false (by omega)
        have hxb : decide (9 ≤ (x : Int)) = false := decide_eq_false (by omega)
        have hxc : decide (9 ≤ x) = false := decide_eq_false (by omega)
        have hund := Try.underlying38
        have nz := NO.out.z x
        have hcl := HCL.out (x : Int)
        have HCT := Lib.hid (HCT.out)
        simp only at n0 HCT HOK
        obtain ⟨c, hcx⟩ : ∃ c, cntE (h.take 0) (x : Int) = c := ⟨_, rfl⟩
        have HCX := Lib.hid hcx
        rw [hcx] at n0 hcl HOK
        clear hcx
        have hm : (c : Int).tmod 3 = ((c % 3 : Nat) : Int) := rfl
        have hq : (c : Int).tdiv 3 = ((c / 3 : Nat) : Int) := rfl
        obtain ⟨m3, hm3⟩ : ∃ m, c % 3 = m := ⟨_, rfl⟩
        obtain ⟨q3, hq3⟩ : ∃ m, c / 3 = m := ⟨_, rfl⟩
        rw [hm3] at hm HOK
        rw [hq3] at hq HOK
        have hw1 : IntKind.i64.wrap ((m3 : Int) + 1) = (m3 : Int) + 1 := by rw [IntKind.wrap_i64]; omega
        have hw2 : IntKind.i64.wrap ((q3 : Int) + 1) = (q3 : Int) + 1 := by rw [IntKind.wrap_i64]; omega
        have hw3 : IntKind.i64.wrap (q3 : Int) = (q3 : Int) := by rw [IntKind.wrap_i64]; omega
        have hw4 : IntKind.i64.wrap ((c : Int) + 1) = (c : Int) + 1 := by rw [IntKind.wrap_i64]; omega
        clear hm3 hq3
        by_cases h5 : ¬ dk = (m3 : Int) + 1
        · have HE := Lib.hid (HFk.out (by rw [HOK.out, decide_eq_false h5]; simp))
          go_wp2_with fail
          rw [← hwo]
          clear hwo
          go_quiet (fail)
          go_wp2_with fail
          go_quiet (fail)
          go_wp2
          go_ret
          exact ⟨ret_b HE.out.symm, below_drewN (below_drewN HBo.out _) _⟩

        replace h5 := Classical.not_not.1 h5
        by_cases h6 : ¬ dn = (q3 : Int) + 1
        · have HE := Lib.hid (HFk.out (by rw [HOK.out, decide_eq_false h6]; simp))
          subst h5
          go_wp2_with fail
          rw [← hwo]
          clear hwo
          go_quiet (fail)
          go_wp2_with fail
          go_quiet (fail)
          go_wp2
          go_ret
          exact ⟨ret_b HE.out.symm, below_drewN (below_drewN HBo.out _) _⟩

        replace h6 := Classical.not_not.1 h6
        have HT := Lib.hid (show okB h 0 = true by rw [HOK.out]; simp [h5, h6]; omega)
        subst h5; subst h6
        go_wp2_with fail
        rw [← hwo]
        clear hwo
        go_quiet (fail)
        go_wp2_with fail
        go_quiet (fail)
        go_wp2
        go_roundg (h.length - (0 + 1))
        case measure => omega
        case rel => exact ⟨0 + 1, by omega, rfl, num_i (by omega), Ni.set (NO.out.drewN _) x _ (fun i hi => by
          show ((cntE (h.take (0 + 1)) (i : Int) : Nat) : Int) = if i = x then (c : Int) + 1 else ((cntE (h.take 0) (i : Int) : Nat) : Int)
          rw [HCT.out]
          by_cases e : i = x
          · subst e
            rw [if_pos rfl, if_pos rfl, HCX.out]
            omega
          · rw [if_neg (by omega), if_neg e]
            omega), fun i hi => by
          rcases Nat.lt_or_eq_of_le (Nat.le_of_lt_succ hi) with h' | rfl
          · exact HAll.out i h'
          · exact HT.out, Below.st (below_drewN HBo.out _) (Nat.le_refl _)⟩

      · obtain ⟨j, rfl⟩ : ∃ j, k = j + 1 := ⟨k - 1, by omega⟩
        have p3 := keep_cell (Below.al (Below.refl wr.heap.size wr) (.cells #[.int .i64 dk, .int .i64 dw, .int .i64 dn, .int .i64 da] 35)) (hprev j rfl)
        rw [← hwo] at p3
        rw [Nat.add_sub_cancel] at hok
        have HOK := Lib.hid hok
        clear hok hprev
        generalize (h.getD j ev0).a = pa at *
        have hs1 : IntKind.i64.wrap (((j + 1 : Nat) : Int) - 1) = (j : Int) := by rw [IntKind.wrap_i64]; omega
        have hs2 : IntKind.i64.wrap ((j : Int) + 1 - 1) = (j : Int) := by rw [IntKind.wrap_i64]; omega
        have hjl : j < h.length := by omega
        by_cases h2 : da ≤ pa
        · have HE := Lib.hid (HFk.out (by rw [HOK.out, decide_eq_false (show ¬ pa < da by omega)]; simp))
          have x2 : decide (da ≤ pa) = true := decide_eq_true h2
          go_wp2_with fail
          rw [← hwo]
          clear hwo
          go_quiet (fail)
          go_wp2
          go_ret
          exact ⟨ret_b HE.out.symm, below_drewN HBo.out _⟩

        have x2 : decide (da ≤ pa) = false := decide_eq_false h2
        by_cases h3 : dw < 1
        · have HE := Lib.hid (HFk.out (by rw [HOK.out, decide_eq_false (show ¬ 1 ≤ dw by omega)]; simp))
          have x3 : decide (dw < 1) = true := decide_eq_true h3
          go_wp2_with fail
          rw [← hwo]
          clear hwo
          go_quiet (fail)
          go_wp2
          go_ret
          exact ⟨ret_b HE.out.symm, below_drewN HBo.out _⟩

        have x3 : decide (dw < 1) = false := decide_eq_false h3
        by_cases h4 : 8 < dw
        · have HE := Lib.hid (HFk.out (by rw [HOK.out, decide_eq_false (show ¬ dw ≤ 8 by omega)]; simp))
          have x4 : decide (8 < dw) = true := decide_eq_true h4
          go_wp2_with fail
          rw [← hwo]
          clear hwo
          go_quiet (fail)
          go_wp2
          go_ret
          exact ⟨ret_b HE.out.symm, below_drewN HBo.out _⟩

        have x4 : decide (8 < dw) = false := decide_eq_false h4
        obtain ⟨x, rfl⟩ := Int.eq_ofNat_of_zero_le (show 0 ≤ dw by omega)
        have hx9 : x < 9 := by omega
        have n0 := NO.out.c x hx9
        have hxi : ((x : Int) < 9) := by omega
        have hxz : ¬ ((x : Int) < 0) := by omega
        have hxa : decide ((x : Int) < 0) = false := decide_eq_false (by omega)
        have hxb : decide (9 ≤ (x : Int)) = false := decide_eq_false (by omega)
        have hxc : decide (9 ≤ x) = false := decide_eq_false (by omega)
        have hund := Try.underlying38
        have nz := NO.out.z x
        have hcl := HCL.out (x : Int)
        have HCT := Lib.hid (HCT.out)
        simp only at n0 HCT HOK
        obtain ⟨c, hcx⟩ : ∃ c, cntE (h.take (j + 1)) (x : Int) = c := ⟨_, rfl⟩
        have HCX := Lib.hid hcx
        rw [hcx] at n0 hcl HOK
        clear hcx
        have hm : (c : Int).tmod 3 = ((c % 3 : Nat) : Int) := rfl
        have hq : (c : Int).tdiv 3 = ((c / 3 : Nat) : Int) := rfl
        obtain ⟨m3, hm3⟩ : ∃ m, c % 3 = m := ⟨_, rfl⟩
        obtain ⟨q3, hq3⟩ : ∃ m, c / 3 = m := ⟨_, rfl⟩
        rw [hm3] at hm HOK
        rw [hq3] at hq HOK
        have hw1 : IntKind.i64.wrap ((m3 : Int) + 1) = (m3 : Int) + 1 := by rw [IntKind.wrap_i64]; omega
        have hw2 : IntKind.i64.wrap ((q3 : Int) + 1) = (q3 : Int) + 1 := by rw [IntKind.wrap_i64]; omega
        have hw3 : IntKind.i64.wrap (q3 : Int) = (q3 : Int) := by rw [IntKind.wrap_i64]; omega
        have hw4 : IntKind.i64.wrap ((c : Int) + 1) = (c : Int) + 1 := by rw [IntKind.wrap_i64]; omega
        clear hm3 hq3
        by_cases h5 : ¬ dk = (m3 : Int) + 1
        · have HE := Lib.hid (HFk.out (by rw [HOK.out, decide_eq_false h5]; simp))
          go_wp2_with fail
          rw [← hwo]
          clear hwo
          go_quiet (fail)
          go_wp2_with fail
          go_quiet (fail)
          go_wp2
          go_ret
          exact ⟨ret_b HE.out.symm, below_drewN (below_drewN HBo.out _) _⟩

        replace h5 := Classical.not_not.1 h5
        by_cases h6 : ¬ dn = (q3 : Int) + 1
        · have HE := Lib.hid (HFk.out (by rw [HOK.out, decide_eq_false h6]; simp))
          subst h5
          go_wp2_with fail
          rw [← hwo]
          clear hwo
          go_quiet (fail)
          go_wp2_with fail
          go_quiet (fail)
          go_wp2
          go_ret
          exact ⟨ret_b HE.out.symm, below_drewN (below_drewN HBo.out _) _⟩

        replace h6 := Classical.not_not.1 h6
        have HT := Lib.hid (show okB h (j + 1) = true by rw [HOK.out]; simp [h5, h6]; omega)
        subst h5; subst h6
        go_wp2_with fail
        rw [← hwo]
        clear hwo
        go_quiet (fail)
        go_wp2_with fail
        go_quiet (fail)
        go_wp2
        go_roundg (h.length - ((j + 1) + 1))
        case measure => omega
        case rel => exact ⟨(j + 1) + 1, by omega, rfl, num_i (by omega), Ni.set (NO.out.drewN _) x _ (fun i hi => by
          show ((cntE (h.take ((j + 1) + 1)) (i : Int) : Nat) : Int) = if i = x then (c : Int) + 1 else ((cntE (h.take (j + 1)) (i : Int) : Nat) : Int)
          rw [HCT.out]
          by_cases e : i = x
          · subst e
            rw [if_pos rfl, if_pos rfl, HCX.out]
            omega
          · rw [if_neg (by omega), if_neg e]
            omega), fun i hi => by
          rcases Nat.lt_or_eq_of_le (Nat.le_of_lt_succ hi) with h' | rfl
          · exact HAll.out i h'
          · exact HT.out, Below.st (below_drewN HBo.out _) (Nat.le_refl _)⟩

    · obtain rfl : k = h.length := by omega
      have HE := Lib.hid (HTr.out HAll.out)
      go_wp2
      go_ret
      exact ⟨ret_b HE.out.symm, HB.out⟩
end Go.Proofs.Ytbfklpopodmalaa
