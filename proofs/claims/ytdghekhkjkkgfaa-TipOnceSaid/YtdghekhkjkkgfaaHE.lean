/- Tips: the first fresh one, the first held one, as the reference tells it. -/
import Derived.Test.YtdghekhkjkkgfaaHD
namespace Go.Proofs.Ytdghekhkjkkgfaa
open Go.RowKit

set_option maxRecDepth 100000 in
set_option maxHeartbeats 2000000 in
theorem rnext_any (v : Value) (xs : List (Int × Int)) (f : Int) (w : World) (hv : KT.IsL w w.heap.size v xs) : Calls Try.prog 31 #[v, .int .i64 f] w fun e w' => e = .returned (fsV (fstV (frP xs f) xs.length)) ∧ Below w.heap.size w w' := by
  obtain ⟨A, c, rfl, hc⟩ := hv.shape
  have HV := Lib.hid hv
  have hl := hv.2.2
  clear hv
  go_enter Try.func31, Try.ntmps31
  go_wp2
  go_loopw [6] (fun i wr => ∃ k : Nat, i = .int .i64 k ∧ k ≤ xs.length ∧ (∀ j, j < k → frP xs f j = false) ∧ Below w.heap.size w wr) (fun i _ => xs.length - (intOf i).toNat)
  case atStart => exact ⟨0, rfl, Nat.zero_le _, fun j hj => absurd hj (Nat.not_lt_zero j), Below.refl _ _⟩
  case round =>
    obtain ⟨k, rfl, hk, hkp, hbl⟩ := hrel
    have HB := Lib.hid hbl
    have HKP := Lib.hid hkp
    clear hkp hbl
    by_cases hlt : k < xs.length
    · obtain ⟨b, off, rfl, hb, hbc, hcell⟩ := tip_cells (HV.out.below HB.out) (by omega)
      obtain ⟨e1, e2⟩ := hcell k hlt
      have hP : frP xs f k = (decide (f ≤ (k : Int)) && (ofV (xs.getD k (0, 0)).1 (xs.getD k (0, 0)).2 == 1)) := rfl
      clear hcell
      generalize xs.getD k (0, 0) = t at *
      obtain ⟨t1, t2⟩ := t
      dsimp only at *
      have HA := Lib.hid (fun w => rright_any t1 t2 w)
      have HP := Lib.hid hP
      have HOF := Lib.hid (of_cases t1 t2)
      clear hP
      have hbw : b < wr.heap.size := Nat.lt_of_lt_of_le hb HB.out.size
      by_cases hfk : f ≤ (k : Int)
      · rw [decide_eq_true hfk, Bool.true_and] at HP
        by_cases h0 : ofV t1 t2 = 0
        · rw [h0] at HA HP
          have HN := Lib.hid (show frP xs f k = false from HP.out.trans (by simp))
          rw [show (!((0 : Int) == 0)) = false from rfl] at HA
          clear h0 HP HOF
          go_wp2_with fail
          refine (HA.out _).mono ?_
          rintro e w2 ⟨rfl, hb2⟩
          have HB2 := Lib.hid (Below.call HB.out hb2)
          have e1' := keep_cell hb2 e1
          have e2' := keep_cell hb2 e2
          clear hb2 e1 e2
          go_wp2
          go_roundw
          case rel => exact ⟨k + 1, num_i (by omega), by omega, fun j hj => by
            by_cases h : j = k
            · subst h; exact HN.out
            · exact HKP.out j (by omega), HB2.out⟩
          case measure => simp [intOf]; omega
        · have hs := HOF.out.resolve_left h0
          rw [hs] at HP HA
          rw [show (!(t1 == 0)) = true by simp; omega] at HA
          clear HOF hs h0
          by_cases h1 : t1 = 1
          · subst h1
            have HIT := HP.out.trans (show ((1 : Int) == 1) = true from rfl)
            have HIT := Lib.hid HIT
            go_wp2_with fail
            refine (HA.out _).mono ?_
            rintro e w2 ⟨rfl, hb2⟩
            have HB2 := Lib.hid (Below.call HB.out hb2)
            have e1' := keep_cell hb2 e1
            have e2' := keep_cell hb2 e2
            clear hb2 e1 e2
            go_wp2
            go_ret2
            refine ⟨?_, HB2.out⟩
            rw [fst_hit _ _ k hlt HIT.out fun j hj => HKP.out j hj]
            rfl
          · have HN := Lib.hid (HP.out.trans (show (t1 == 1) = false by simpa using h1))
            go_wp2_with fail
            refine (HA.out _).mono ?_
            rintro e w2 ⟨rfl, hb2⟩
            have HB2 := Lib.hid (Below.call HB.out hb2)
            have e1' := keep_cell hb2 e1
            have e2' := keep_cell hb2 e2
            clear hb2 e1 e2
            go_wp2
            go_roundw
            case rel => exact ⟨k + 1, num_i (by omega), by omega, fun j hj => by
              by_cases h : j = k
              · subst h; exact HN.out
              · exact HKP.out j (by omega), HB2.out⟩
            case measure => simp [intOf]; omega
      · have HN := Lib.hid (show frP xs f k = false from HP.out.trans (by rw [decide_eq_false hfk, Bool.false_and]))
        go_wp2
        go_roundw
        case rel => exact ⟨k + 1, num_i (by omega), by omega, fun j hj => by
          by_cases h : j = k
          · subst h; exact HN.out
          · exact HKP.out j (by omega), HB.out⟩
        case measure => simp [intOf]; omega
    · go_wp2
      go_ret2
      refine ⟨?_, HB.out⟩
      rw [fst_none _ _ fun j hj => HKP.out j (by omega)]
      rfl

set_option maxRecDepth 100000 in
set_option maxHeartbeats 2000000 in
theorem rheld_any (v : Value) (xs : List (Int × Int)) (a : Int) (w : World) (hv : KT.IsL w w.heap.size v xs) : Calls Try.prog 33 #[v, .int .i64 a] w fun e w' => e = .returned (fsV (fstV (hdP xs a 0) xs.length)) ∧ Below w.heap.size w w' := by
  obtain ⟨A, c, rfl, hc⟩ := hv.shape
  have HV := Lib.hid hv
  have hl := hv.2.2
  clear hv
  go_enter Try.func33, Try.ntmps33
  go_wp2
  go_loopw [6] (fun i wr => ∃ k : Nat, i = .int .i64 k ∧ k ≤ xs.length ∧ (∀ j, j < k → hdP xs a 0 j = false) ∧ Below w.heap.size w wr) (fun i _ => xs.length - (intOf i).toNat)
  case atStart => exact ⟨0, rfl, Nat.zero_le _, fun j hj => absurd hj (Nat.not_lt_zero j), Below.refl _ _⟩
  case round =>
    obtain ⟨k, rfl, hk, hkp, hbl⟩ := hrel
    have HB := Lib.hid hbl
    have HKP := Lib.hid hkp
    clear hkp hbl
    by_cases hlt : k < xs.length
    · obtain ⟨b, off, rfl, hb, hbc, hcell⟩ := tip_cells (HV.out.below HB.out) (by omega)
      obtain ⟨e1, e2⟩ := hcell k hlt
      have hP : hdP xs a 0 k = (decide ((0 : Int) ≤ (k : Int)) && (ofV (xs.getD k (0, 0)).1 (xs.getD k (0, 0)).2 == 2 && (xs.getD k (0, 0)).2 == a)) := rfl
      clear hcell
      generalize xs.getD k (0, 0) = t at *
      obtain ⟨t1, t2⟩ := t
      dsimp only at *
      have HA := Lib.hid (fun w => rright_any t1 t2 w)
      have HP := Lib.hid hP
      have HOF := Lib.hid (of_cases t1 t2)
      clear hP
      have hbw : b < wr.heap.size := Nat.lt_of_lt_of_le hb HB.out.size
      rw [decide_eq_true (show (0 : Int) ≤ (k : Int) by omega), Bool.true_and] at HP
      by_cases h0 : ofV t1 t2 = 0
      · rw [h0] at HA HP
        have HN := Lib.hid (show hdP xs a 0 k = false from HP.out.trans (by simp))
        rw [show (!((0 : Int) == 0)) = false from rfl] at HA
        clear h0 HP HOF
        go_wp2_with fail
        refine (HA.out _).mono ?_
        rintro e w2 ⟨rfl, hb2⟩
        have HB2 := Lib.hid (Below.call HB.out hb2)
        have e1' := keep_cell hb2 e1
        have e2' := keep_cell hb2 e2
        clear hb2 e1 e2
        go_wp2
        go_roundw
        case rel => exact ⟨k + 1, num_i (by omega), by omega, fun j hj => by
          by_cases h : j = k
          · subst h; exact HN.out
          · exact HKP.out j (by omega), HB2.out⟩
        case measure => simp [intOf]; omega
      · have hs := HOF.out.resolve_left h0
        rw [hs] at HP HA
        rw [show (!(t1 == 0)) = true by simp; omega] at HA
        clear HOF hs h0
        by_cases h1 : t1 = 2
        · subst h1
          by_cases h2 : t2 = a
          · subst h2
            have HIT : hdP xs t2 0 k = true := HP.out.trans (by simp)
            have HIT := Lib.hid HIT
            go_wp2_with fail
            refine (HA.out _).mono ?_
            rintro e w2 ⟨rfl, hb2⟩
            have HB2 := Lib.hid (Below.call HB.out hb2)
            have e1' := keep_cell hb2 e1
            have e2' := keep_cell hb2 e2
            clear hb2 e1 e2
            go_wp2
            go_ret2
            refine ⟨?_, HB2.out⟩
            rw [fst_hit _ _ k hlt HIT.out fun j hj => HKP.out j hj]
            rfl
          · have HN := Lib.hid (HP.out.trans (show ((2 : Int) == 2 && t2 == a) = false by simpa using h2))
            go_wp2_with fail
            refine (HA.out _).mono ?_
            rintro e w2 ⟨rfl, hb2⟩
            have HB2 := Lib.hid (Below.call HB.out hb2)
            have e1' := keep_cell hb2 e1
            have e2' := keep_cell hb2 e2
            clear hb2 e1 e2
            go_wp2
            go_roundw
            case rel => exact ⟨k + 1, num_i (by omega), by omega, fun j hj => by
              by_cases h : j = k
              · subst h; exact HN.out
              · exact HKP.out j (by omega), HB2.out⟩
            case measure => simp [intOf]; omega
        · have HN := Lib.hid (HP.out.trans (show (t1 == 2 && t2 == a) = false by simp [h1]))
          go_wp2_with fail
          refine (HA.out _).mono ?_
          rintro e w2 ⟨rfl, hb2⟩
          have HB2 := Lib.hid (Below.call HB.out hb2)
          have e1' := keep_cell hb2 e1
          have e2' := keep_cell hb2 e2
          clear hb2 e1 e2
          go_wp2
          go_roundw
          case rel => exact ⟨k + 1, num_i (by omega), by omega, fun j hj => by
            by_cases h : j = k
            · subst h; exact HN.out
            · exact HKP.out j (by omega), HB2.out⟩
          case measure => simp [intOf]; omega
    · go_wp2
      go_ret2
      refine ⟨?_, HB.out⟩
      rw [fst_none _ _ fun j hj => HKP.out j (by omega)]
      rfl
end Go.Proofs.Ytdghekhkjkkgfaa
