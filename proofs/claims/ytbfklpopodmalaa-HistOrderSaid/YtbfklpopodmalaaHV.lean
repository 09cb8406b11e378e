/- Histories: the laws. -/
import Derived.Test.YtbfklpopodmalaaHU
import Derived.Test.YtbfklpopodmalaaHG
namespace Go.Proofs.Ytbfklpopodmalaa
open Go.RowKit Go.Maps
theorem allE_le (h : List Ev) (q : Int) : (allE h q).length ≤ h.length := by have := allE_len h q h.length; rw [List.take_length] at this; exact this
theorem opE_le (h : List Ev) : (opE h).length ≤ h.length := Nat.le_trans (List.length_filter_le _ _) (allE_le h 1)
set_option maxRecDepth 100000 in
set_option maxHeartbeats 4000000 in

theorem histRight_walk (v : Value) (h : List Ev) (w : World) (hv : KE.IsL w w.heap.size v h) : Calls Try.prog 3 #[v] w fun e w' => e = .returned (.bool true) ∧ Below w.heap.size w w' := by
  have HH := Lib.hid hv
  have HB0 := Lib.hid (Below.refl w.heap.size w)
  have HA2 := Lib.hid (allE_le h 2)
  have HA3 := Lib.hid (allE_le h 3)
  have HA0 := Lib.hid (opE_le h)
  have hl9 := hv.2.2
  obtain ⟨A, c, rfl, hc⟩ := hv.shape
  clear hv hc
  by_cases hl : 200 < h.length
  · go_enter Try.func3, Try.ntmps3
    go_wp2_with fail
    refine (lives19 _).mono ?_
    rintro e k1 ⟨rfl, hb⟩
    have HBk1 := Lib.hid (Below.call HB0.out hb)
    clear hb
    go_wp2
    go_ret
    exact ⟨rfl, HBk1.out⟩
  · go_enter Try.func3, Try.ntmps3
    go_wp2_with fail
    refine (lives19 _).mono ?_
    rintro e k1 ⟨rfl, hb⟩
    have HBk1 := Lib.hid (Below.call HB0.out hb)
    have HH := Lib.hid (HH.out.then hb)
    clear hb
    go_wp2_with fail
    refine (right_any _ h _ HH.out (by omega)).mono ?_
    rintro e k2 ⟨rfl, hb⟩
    have HBk2 := Lib.hid (Below.call HBk1.out hb)
    have HH := Lib.hid (HH.out.then hb)
    clear hb
    go_wp2_with fail
    refine (rright_any _ h _ HH.out (by omega)).mono ?_
    rintro e k3 ⟨rfl, hb⟩
    have HBk3 := Lib.hid (Below.call HBk2.out hb)
    have HH := Lib.hid (HH.out.then hb)
    clear hb
    go_wp2_with fail
    refine (done_any _ h _ HH.out (by omega)).mono ?_
    rintro e k4 ⟨vL1, rfl, ho, hb⟩
    have HBk4 := Lib.hid (Below.call HBk3.out hb)
    have HH := Lib.hid (HH.out.then hb)
    have L1 := Lib.hid (ho.isL (by have := HA2.out; omega))
    clear ho
    clear hb
    obtain ⟨A1, c1, rfl, _⟩ := L1.out.shape
    go_wp2_with fail
    refine (all_any _ h 2 _ HH.out (by omega)).mono ?_
    rintro e k5 ⟨vL2, rfl, ho, hb⟩
    have HBk5 := Lib.hid (Below.call HBk4.out hb)
    have HH := Lib.hid (HH.out.then hb)
    have L1 := Lib.hid (L1.out.then hb)
    have L2 := Lib.hid (ho.isL (by have := HA2.out; omega))
    clear ho
    clear hb
    go_wp2_with fail
    refine (csame_any _ _ _ _ _ L1.out L2.out).mono ?_
    rintro e k6 ⟨rfl, dq, rfl⟩
    obtain ⟨k6, hk6⟩ : ∃ W, W = k5.drewN dq := ⟨_, rfl⟩
    have hb : Below k5.heap.size k5 k6 := by rw [hk6]; exact below_drewN (Below.refl _ _) _
    rw [← hk6]
    clear hk6
    have HBk6 := Lib.hid (Below.call HBk5.out hb)
    have HH := Lib.hid (HH.out.then hb)
    have L1 := Lib.hid (L1.out.then hb)
    have L2 := Lib.hid (L2.out.then hb)
    clear hb
    rw [decide_eq_true rfl]
    clear L1 L2
    go_wp2_with fail
    refine (told_any _ h _ HH.out (by omega)).mono ?_
    rintro e k7 ⟨vL1, rfl, ho, hb⟩
    have HBk7 := Lib.hid (Below.call HBk6.out hb)
    have HH := Lib.hid (HH.out.then hb)
    have L1 := Lib.hid (ho.isL (by have := HA3.out; omega))
    clear ho
    clear hb
    obtain ⟨A1, c1, rfl, _⟩ := L1.out.shape
    go_wp2_with fail
    refine (all_any _ h 3 _ HH.out (by omega)).mono ?_
    rintro e k8 ⟨vL2, rfl, ho, hb⟩
    have HBk8 := Lib.hid (Below.call HBk7.out hb)
    have HH := Lib.hid (HH.out.then hb)
    have L1 := Lib.hid (L1.out.then hb)
    have L2 := Lib.hid (ho.isL (by have := HA3.out; omega))
    clear ho
    clear hb
    go_wp2_with fail
    refine (csame_any _ _ _ _ _ L1.out L2.out).mono ?_
    rintro e k9 ⟨rfl, dq, rfl⟩
    obtain ⟨k9, hk9⟩ : ∃ W, W = k8.drewN dq := ⟨_, rfl⟩
    have hb : Below k8.heap.size k8 k9 := by rw [hk9]; exact below_drewN (Below.refl _ _) _
    rw [← hk9]
    clear hk9
    have HBk9 := Lib.hid (Below.call HBk8.out hb)
    have HH := Lib.hid (HH.out.then hb)
    have L1 := Lib.hid (L1.out.then hb)
    have L2 := Lib.hid (L2.out.then hb)
    clear hb
    rw [decide_eq_true rfl]
    clear L1 L2
    go_wp2_with fail
    refine (popen_any _ h _ HH.out (by omega)).mono ?_
    rintro e k10 ⟨vL1, rfl, ho, hb⟩
    have HBk10 := Lib.hid (Below.call HBk9.out hb)
    have HH := Lib.hid (HH.out.then hb)
    have L1 := Lib.hid (ho.isL (by have := HA0.out; omega))
    clear ho
    clear hb
    obtain ⟨A1, c1, rfl, _⟩ := L1.out.shape
    go_wp2_with fail
    refine (open_any _ h _ HH.out (by omega)).mono ?_
    rintro e k11 ⟨vL2, rfl, ho, hb⟩
    have HBk11 := Lib.hid (Below.call HBk10.out hb)
    have HH := Lib.hid (HH.out.then hb)
    have L1 := Lib.hid (L1.out.then hb)
    have L2 := Lib.hid (ho.isL (by have := HA0.out; omega))
    clear ho
    clear hb
    go_wp2_with fail
    refine (csame_any _ _ _ _ _ L1.out L2.out).mono ?_
    rintro e k12 ⟨rfl, dq, rfl⟩
    obtain ⟨k12, hk12⟩ : ∃ W, W = k11.drewN dq := ⟨_, rfl⟩
    have hb : Below k11.heap.size k11 k12 := by rw [hk12]; exact below_drewN (Below.refl _ _) _
    rw [← hk12]
    clear hk12
    have HBk12 := Lib.hid (Below.call HBk11.out hb)
    have HH := Lib.hid (HH.out.then hb)
    have L1 := Lib.hid (L1.out.then hb)
    have L2 := Lib.hid (L2.out.then hb)
    clear hb
    rw [decide_eq_true rfl]
    go_wp2
    go_ret
    exact ⟨ret_b (by simp), HBk12.out⟩
set_option maxRecDepth 100000 in
set_option maxHeartbeats 4000000 in

theorem histDone_walk (v : Value) (h : List Ev) (w : World) (hv : KE.IsL w w.heap.size v h) : Calls Try.prog 4 #[v] w fun e w' => e = .returned (.bool true) ∧ Below w.heap.size w w' := by
  have HH := Lib.hid hv
  have HB0 := Lib.hid (Below.refl w.heap.size w)
  have HA2 := Lib.hid (allE_le h 2)
  have HFT := Lib.hid (fun hr : rgB h = true => done_fitB ((rgB_iff h).1 hr))
  have hl9 := hv.2.2
  obtain ⟨A, c, rfl, hc⟩ := hv.shape
  clear hv hc
  by_cases hl : 200 < h.length
  · go_enter Try.func4, Try.ntmps4
    go_wp2_with fail
    refine (lives19 _).mono ?_
    rintro e k1 ⟨rfl, hb⟩
    have HBk1 := Lib.hid (Below.call HB0.out hb)
    clear hb
    go_wp2
    go_ret
    exact ⟨rfl, HBk1.out⟩
  · have hd : decide (200 < h.length) = false := decide_eq_false hl
    have hd2 : decide ((200 : Int) < (h.length : Nat)) = false := decide_eq_false (by omega)
    go_enter Try.func4, Try.ntmps4
    go_wp2_with fail
    refine (rright_any _ h _ HH.out (by omega)).mono ?_
    rintro e k1 ⟨rfl, hb⟩
    have HBk1 := Lib.hid (Below.call HB0.out hb)
    have HH := Lib.hid (HH.out.then hb)
    clear hb
    cases hr : rgB h
    case false =>
      go_wp2_with fail
      refine (lives19 _).mono ?_
      rintro e k2 ⟨rfl, hb⟩
      have HBk2 := Lib.hid (Below.call HBk1.out hb)
      have HH := Lib.hid (HH.out.then hb)
      clear hb
      go_wp2
      go_ret
      exact ⟨rfl, HBk2.out⟩
    case true =>
      have HF := Lib.hid (HFT.out hr)
      go_wp2_with fail
      refine (lives19 _).mono ?_
      rintro e k2 ⟨rfl, hb⟩
      have HBk2 := Lib.hid (Below.call HBk1.out hb)
      have HH := Lib.hid (HH.out.then hb)
      clear hb
      go_wp2_with fail
      refine (right_any _ h _ HH.out (by omega)).mono ?_
      rintro e k3 ⟨rfl, hb⟩
      have HBk3 := Lib.hid (Below.call HBk2.out hb)
      have HH := Lib.hid (HH.out.then hb)
      clear hb
      rw [hr]
      go_wp2_with fail
      refine (done_any _ h _ HH.out (by omega)).mono ?_
      rintro e k4 ⟨vL1, rfl, ho, hb⟩
      have HBk4 := Lib.hid (Below.call HBk3.out hb)
      have HH := Lib.hid (HH.out.then hb)
      have L1 := Lib.hid (ho.isL (by have := HA2.out; omega))
      clear ho
      clear hb
      obtain ⟨A1, c1, rfl, _⟩ := L1.out.shape
      go_wp2_with fail
      refine (fits_any _ _ h _ _ HH.out L1.out (by omega) (by have := HA2.out; omega)).mono ?_
      rintro e k5 ⟨rfl, hb⟩
      have HBk5 := Lib.hid (Below.call HBk4.out hb)
      have HH := Lib.hid (HH.out.then hb)
      have L1 := Lib.hid (L1.out.then hb)
      clear hb
      rw [HF.out]
      go_wp2
      go_ret
      exact ⟨rfl, HBk5.out⟩
set_option maxRecDepth 100000 in
set_option maxHeartbeats 4000000 in

theorem histOrder_walk (v : Value) (h : List Ev) (a1 a2 b1 b2 c1 c2 : Int) (w : World) (hv : KE.IsL w w.heap.size v h) : Calls Try.prog 5 #[v, .agg #[.int .i64 a1, .int .i64 a2], .agg #[.int .i64 b1, .int .i64 b2], .agg #[.int .i64 c1, .int .i64 c2]] w fun e w' => e = .returned (.bool true) ∧ Below w.heap.size w w' := by
  obtain ⟨w0, hw0⟩ : ∃ w0, w0 = (((w.alloc (.cells #[.int .i64 a1, .int .i64 a2] 31)).alloc (.cells #[.int .i64 b1, .int .i64 b2] 31)).alloc (.cells #[.int .i64 c1, .int .i64 c2] 31)) := ⟨_, rfl⟩
  have HB0 := Lib.hid (show Below w.heap.size w w0 by rw [hw0]; exact Below.al (Below.al (Below.al (Below.refl _ _) _) _) _)
  have HH := Lib.hid (hv.then HB0.out)
  have x0 : w0.cell? ⟨w.heap.size, 0, none⟩ = some (.int .i64 a1) := by rw [hw0]; simp [go_sem]
  have x1 : w0.cell? ⟨w.heap.size, 1, none⟩ = some (.int .i64 a2) := by rw [hw0]; simp [go_sem]
  have y0 : w0.cell? ⟨w.heap.size + 1, 0, none⟩ = some (.int .i64 b1) := by rw [hw0]; simp [go_sem]
  have y1 : w0.cell? ⟨w.heap.size + 1, 1, none⟩ = some (.int .i64 b2) := by rw [hw0]; simp [go_sem]
  have z0 : w0.cell? ⟨w.heap.size + 1 + 1, 0, none⟩ = some (.int .i64 c1) := by rw [hw0]; simp [go_sem]
  have z1 : w0.cell? ⟨w.heap.size + 1 + 1, 1, none⟩ = some (.int .i64 c2) := by rw [hw0]; simp [go_sem]
  have HR := Lib.hid (fun hr : rgB h = true => (rgB_iff h).1 hr)
  have hl9 := hv.2.2
  obtain ⟨A, c, rfl, hc⟩ := hv.shape
  clear hv hc
  by_cases hl : 200 < h.length
  · go_enter Try.func5, Try.ntmps5
    go_upto_region 1 with fail
    rw [← hw0]
    clear hw0
    go_wp2_with fail
    refine (lives19 _).mono ?_
    rintro e k1 ⟨rfl, hb⟩
    have HBk1 := Lib.hid (Below.call HB0.out hb)
    clear hb
    go_wp2
    go_ret
    exact ⟨rfl, HBk1.out⟩
  · have hd : decide (200 < h.length) = false := decide_eq_false hl
    have hd2 : decide ((200 : Int) < (h.length : Nat)) = false := decide_eq_false (by omega)
    go_enter Try.func5, Try.ntmps5
    go_upto_region 1 with fail
    rw [← hw0]
    clear hw0
    go_wp2_with fail
    refine (rright_any _ h _ HH.out (by omega)).mono ?_
    rintro e k1 ⟨rfl, hb⟩
    have HBk1 := Lib.hid (Below.call HB0.out hb)
    have HH := Lib.hid (HH.out.then hb)
    replace x0 := keep_cell hb x0
    replace x1 := keep_cell hb x1
    replace y0 := keep_cell hb y0
    replace y1 := keep_cell hb y1
    replace z0 := keep_cell hb z0
    replace z1 := keep_cell hb z1
    clear hb
    cases hr : rgB h
    case false =>
      go_wp2_with fail
      refine (lives19 _).mono ?_
      rintro e k2 ⟨rfl, hb⟩
      have HBk2 := Lib.hid (Below.call HBk1.out hb)
      have HH := Lib.hid (HH.out.then hb)
      replace x0 := keep_cell hb x0
      replace x1 := keep_cell hb x1
      replace y0 := keep_cell hb y0
      replace y1 := keep_cell hb y1
      replace z0 := keep_cell hb z0
      replace z1 := keep_cell hb z1
      clear hb
      go_wp2
      go_ret
      exact ⟨rfl, HBk2.out⟩
    case true =>
      have HAA := Lib.hid (show befB h (a1, a2) (a1, a2) = false from Bool.eq_false_iff.2 fun k => bef_irr (HR.out hr) _ ((befB_iff _ _ _).1 k))
      have HBA := Lib.hid (fun k : befB h (a1, a2) (b1, b2) = true => show befB h (b1, b2) (a1, a2) = false from Bool.eq_false_iff.2 fun j => bef_asym (HR.out hr) ((befB_iff _ _ _).1 k) ((befB_iff _ _ _).1 j))
      have HAC := Lib.hid (fun (k : befB h (a1, a2) (b1, b2) = true) (j : befB h (b1, b2) (c1, c2) = true) => (befB_iff _ _ _).2 (bef_trans (HR.out hr) ((befB_iff _ _ _).1 k) ((befB_iff _ _ _).1 j)))
      go_wp2_with fail
      refine (lives19 _).mono ?_
      rintro e k2 ⟨rfl, hb⟩
      have HBk2 := Lib.hid (Below.call HBk1.out hb)
      have HH := Lib.hid (HH.out.then hb)
      replace x0 := keep_cell hb x0
      replace x1 := keep_cell hb x1
      replace y0 := keep_cell hb y0
      replace y1 := keep_cell hb y1
      replace z0 := keep_cell hb z0
      replace z1 := keep_cell hb z1
      clear hb
      go_wp2_with fail
      refine (before_any _ h a1 a2 a1 a2 _ HH.out).mono ?_
      rintro e k3 ⟨rfl, hb⟩
      have HBk3 := Lib.hid (Below.call HBk2.out hb)
      have HH := Lib.hid (HH.out.then hb)
      replace x0 := keep_cell hb x0
      replace x1 := keep_cell hb x1
      replace y0 := keep_cell hb y0
      replace y1 := keep_cell hb y1
      replace z0 := keep_cell hb z0
      replace z1 := keep_cell hb z1
      clear hb
      rw [HAA.out]
      go_wp2_with fail
      refine (before_any _ h a1 a2 b1 b2 _ HH.out).mono ?_
      rintro e k4 ⟨rfl, hb⟩
      have HBk4 := Lib.hid (Below.call HBk3.out hb)
      have HH := Lib.hid (HH.out.then hb)
      replace x0 := keep_cell hb x0
      replace x1 := keep_cell hb x1
      replace y0 := keep_cell hb y0
      replace y1 := keep_cell hb y1
      replace z0 := keep_cell hb z0
      replace z1 := keep_cell hb z1
      clear hb
      cases hab : befB h (a1, a2) (b1, b2)
      case false =>
        go_wp2_with fail
        refine (before_any _ h a1 a2 b1 b2 _ HH.out).mono ?_
        rintro e k5 ⟨rfl, hb⟩
        have HBk5 := Lib.hid (Below.call HBk4.out hb)
        have HH := Lib.hid (HH.out.then hb)
        replace x0 := keep_cell hb x0
        replace x1 := keep_cell hb x1
        replace y0 := keep_cell hb y0
        replace y1 := keep_cell hb y1
        replace z0 := keep_cell hb z0
        replace z1 := keep_cell hb z1
        clear hb
        rw [hab]
        go_wp2
        go_ret
        exact ⟨rfl, HBk5.out⟩
      case true =>
        go_wp2_with fail
        refine (before_any _ h b1 b2 a1 a2 _ HH.out).mono ?_
        rintro e k5 ⟨rfl, hb⟩
        have HBk5 := Lib.hid (Below.call HBk4.out hb)
        have HH := Lib.hid (HH.out.then hb)
        replace x0 := keep_cell hb x0
        replace x1 := keep_cell hb x1
        replace y0 := keep_cell hb y0
        replace y1 := keep_cell hb y1
        replace z0 := keep_cell hb z0
        replace z1 := keep_cell hb z1
        clear hb
        rw [HBA.out hab]
        go_wp2_with fail
        refine (before_any _ h a1 a2 b1 b2 _ HH.out).mono ?_
        rintro e k6 ⟨rfl, hb⟩
        have HBk6 := Lib.hid (Below.call HBk5.out hb)
        have HH := Lib.hid (HH.out.then hb)
        replace x0 := keep_cell hb x0
        replace x1 := keep_cell hb x1
        replace y0 := keep_cell hb y0
        replace y1 := keep_cell hb y1
        replace z0 := keep_cell hb z0
        replace z1 := keep_cell hb z1
        clear hb
        rw [hab]
        go_wp2_with fail
        refine (before_any _ h b1 b2 c1 c2 _ HH.out).mono ?_
        rintro e k7 ⟨rfl, hb⟩
        have HBk7 := Lib.hid (Below.call HBk6.out hb)
        have HH := Lib.hid (HH.out.then hb)
        replace x0 := keep_cell hb x0
        replace x1 := keep_cell hb x1
        replace y0 := keep_cell hb y0
        replace y1 := keep_cell hb y1
        replace z0 := keep_cell hb z0
        replace z1 := keep_cell hb z1
        clear hb
        cases hbc : befB h (b1, b2) (c1, c2)
        case false =>
          go_wp2
          go_ret
          exact ⟨rfl, HBk7.out⟩
        case true =>
          go_wp2_with fail
          refine (before_any _ h a1 a2 c1 c2 _ HH.out).mono ?_
          rintro e k8 ⟨rfl, hb⟩
          have HBk8 := Lib.hid (Below.call HBk7.out hb)
          have HH := Lib.hid (HH.out.then hb)
          replace x0 := keep_cell hb x0
          replace x1 := keep_cell hb x1
          replace y0 := keep_cell hb y0
          replace y1 := keep_cell hb y1
          replace z0 := keep_cell hb z0
          replace z1 := keep_cell hb z1
          clear hb
          rw [HAC.out hab hbc]
          go_wp2
          go_ret
          exact ⟨rfl, HBk8.out⟩
end Go.Proofs.Ytbfklpopodmalaa
