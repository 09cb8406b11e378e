/- The volume of a float by the reference. -/
import Derived.Test.YtdnifilmckialaaDoorWG
namespace Go.Proofs.YtdnifilmckialaaDoor
open Go.RowKit

set_option maxHeartbeats 1000000 in
theorem rof_low (b : Nat) (hlow : cls b < 4) (w : World) : Calls Tryd.prog 31 #[.int .u64 b] w fun e w' => e = .returned (.tuple #[.int .i64 (ofV b), .int .i64 (ofE b)]) ∧ ∃ d, w' = w.drewN d := by
  have hr := cls_range b
  have hv := ofV_0 b (by omega)
  rw [hv]
  have hc : cls b = 1 ∨ cls b = 2 ∨ cls b = 3 := by omega
  clear hv hr
  rcases hc with hc | hc | hc
  all_goals first | rw [ofE_1 b hc] | rw [ofE_2 b hc] | rw [ofE_3 b hc]
  all_goals
    have H := fun w => rclass_any b w
    rw [hc] at H
    have H' := Lib.hid H
    clear H hc hlow
    go_enter Tryd.func31, Tryd.ntmps31
    go_wp2_with (go_at_call 16; refine (H'.out _).mono ?_; rintro e w' ⟨rfl, rfl⟩)
    go_ret2
    exact ⟨rfl, 0, rfl⟩
theorem pm_minus (b : Nat) (h4 : 4 ≤ cls b) (hm : mns b = true) : pm b = -(odd b : Int) := by
  unfold pm
  rw [if_neg (by omega), hm]
  rfl
set_option maxHeartbeats 1000000 in
theorem rof_minus (b : Nat) (h : b < 18446744073709551616) (h4 : 4 ≤ cls b) (hm : mns b = true) (w : World) : Calls Tryd.prog 31 #[.int .u64 b] w fun e w' => e = .returned (.tuple #[.int .i64 (ofV b), .int .i64 (ofE b)]) ∧ ∃ d, w' = w.drewN d := by
  have he := ofE_m b h4 hm
  have hv := ofV_0 b (by omega)
  rw [hv, he]
  obtain ⟨_, _, _, o1, o2⟩ := man_odd b h4
  have hp : ∀ w : World, Calls Tryd.prog 13 #[.int .u64 b] w fun e w' => e = .returned (.tuple #[.int .i64 (-(odd b : Int)), .int .i64 (pe b)]) ∧ w = w' := fun w => by
    have := rparts_any b h w
    rw [pm_minus b h4 hm] at this
    exact this
  have HP := Lib.hid hp
  have c1 : (cls b == 1) = false := by rw [beq_eq_false_iff_ne]; omega
  have c2 : (cls b == 2) = false := by rw [beq_eq_false_iff_ne]; omega
  have c3 : (cls b == 3) = false := by rw [beq_eq_false_iff_ne]; omega
  clear he hv hp
  go_enter Tryd.func31, Tryd.ntmps31
  go_wp2_with (first | (go_at_call 16; refine (rclass_any _ _).mono ?_; rintro e w' ⟨rfl, rfl⟩) | (go_at_call 13; refine (HP.out _).mono ?_; rintro e w' ⟨rfl, rfl⟩))
  go_ret2
  exact ⟨rfl, 0, rfl⟩

/-- The end: what a number of nanolitres comes to. -/
theorem of_end (b n : Nat) (h4 : 4 ≤ cls b) (hm : mns b = false) (e1 : (1099511627776 < n ↔ 1099511627776 < nanoOf b)) (e2 : n ≤ 1099511627776 → nanoOf b = n) : (1099511627776 < n → ofV b = 0 ∧ ofE b = 4) ∧ (n ≤ 1099511627776 → ofV b = n ∧ ofE b = 0) := by
  have he := ofE_p b h4 hm
  refine ⟨fun h => ?_, fun h => ?_⟩
  · rw [if_pos (by omega)] at he
    exact ⟨ofV_0 b (by omega), he⟩
  · rw [if_neg (by omega)] at he
    exact ⟨by rw [ofV_n b h4 he]; exact e2 h, he⟩

set_option maxHeartbeats 2000000 in
theorem rof_frac (b : Nat) (h : b < 18446744073709551616) (h4 : 4 ≤ cls b) (hm : mns b = false) (hneg : pe b < 0) (w : World) : Calls Tryd.prog 31 #[.int .u64 b] w fun e w' => e = .returned (.tuple #[.int .i64 (ofV b), .int .i64 (ofE b)]) ∧ ∃ d, w' = w.drewN d := by
  obtain ⟨_, _, _, o1, o2⟩ := man_odd b h4
  have hpe := pe_bd b
  have hp : ∀ w : World, Calls Tryd.prog 13 #[.int .u64 b] w fun e w' => e = .returned (.tuple #[.int .i64 (odd b), .int .i64 (pe b)]) ∧ w = w' := fun w => by
    have := rparts_any b h w
    rw [pm_plus b h4 hm] at this
    exact this
  have hn : -64 ≤ pe b → ∀ w : World, Calls Tryd.prog 46 #[.int .u64 ((odd b : Int) * 1000), .int .i64 (-pe b)] w fun e' w' => e' = .returned (.int .u64 (nanoOf b)) ∧ ∃ d, w' = w.drewN d := fun hh w => by
    have := round_any (odd b * 1000) (-pe b).toNat (by omega) (by omega) (by omega) w
    rw [near_rnd _ _ hneg hh (by omega), show (((-pe b).toNat : Nat) : Int) = -pe b from by omega] at this
    exact this
  have hlow : pe b < -64 → nanoOf b = 0 := fun hh => by unfold nanoOf near; rw [if_pos (by omega)]
  have hub : nanoOf b ≤ 9223372036854775807 := near_lt _ _ (by omega)
  have hend := of_end b (nanoOf b) h4 hm (by omega) (by omega)
  have HP := Lib.hid hp
  have HN := Lib.hid hn
  have HL := Lib.hid hlow
  have HE := Lib.hid hend
  have c1 : (cls b == 1) = false := by rw [beq_eq_false_iff_ne]; omega
  have c2 : (cls b == 2) = false := by rw [beq_eq_false_iff_ne]; omega
  have c3 : (cls b == 3) = false := by rw [beq_eq_false_iff_ne]; omega
  clear hp hn hlow hend
  by_cases hh : pe b < -64
  · have e2 := HE.out.2 (by rw [HL.out hh]; omega)
    rw [HL.out hh] at e2
    rw [e2.1, e2.2]
    clear e2
    go_enter Tryd.func31, Tryd.ntmps31
    go_wp2_with (first | (go_at_call 16; refine (rclass_any _ _).mono ?_; rintro e w' ⟨rfl, rfl⟩) | (go_at_call 13; refine (HP.out _).mono ?_; rintro e w' ⟨rfl, rfl⟩))
    go_ret2
    exact ⟨rfl, 0, rfl⟩
  · have hn' := HN.out (by omega)
    have HN' := Lib.hid hn'
    clear hn'
    go_enter Tryd.func31, Tryd.ntmps31
    go_wp2_with (first | (go_at_call 16; refine (rclass_any _ _).mono ?_; rintro e w' ⟨rfl, rfl⟩) | (go_at_call 13; refine (HP.out _).mono ?_; rintro e w' ⟨rfl, rfl⟩) | (go_at_call 46; refine (HN'.out _).mono ?_; rintro e' w' ⟨rfl, d, rfl⟩))
    generalize nanoOf b = V at *
    go_loop [6, 7] (fun n i => n = .int .u64 V ∧ i = .int .i64 0) (fun _ i => 0)
    case atStart => exact ⟨rfl, rfl⟩
    case round =>
      obtain ⟨rfl, rfl⟩ := hrel
      go_wp2
      all_goals go_ret2
      all_goals first
        | (have e := HE.out.1 (by omega); exact ⟨ret_ii (by rw [e.1]; rfl) (by rw [e.2]), _, by trivial⟩)
        | (have e := HE.out.2 (by omega); exact ⟨ret_ii (by rw [e.1]) (by rw [e.2]), _, by trivial⟩)
set_option maxHeartbeats 2000000 in
theorem rof_up (b : Nat) (h : b < 18446744073709551616) (h4 : 4 ≤ cls b) (hm : mns b = false) (hup : 0 ≤ pe b) (w : World) : Calls Tryd.prog 31 #[.int .u64 b] w fun e w' => e = .returned (.tuple #[.int .i64 (ofV b), .int .i64 (ofE b)]) ∧ ∃ d, w' = w.drewN d := by
  obtain ⟨_, _, _, o1, o2⟩ := man_odd b h4
  have hpe := pe_bd b
  have hp : ∀ w : World, Calls Tryd.prog 13 #[.int .u64 b] w fun e w' => e = .returned (.tuple #[.int .i64 (odd b), .int .i64 (pe b)]) ∧ w = w' := fun w => by
    have := rparts_any b h w
    rw [pm_plus b h4 hm] at this
    exact this
  have hend : ∀ n i : Nat, (n = odd b * 1000 * 2 ^ i) → (i : Int) ≤ pe b → ((i : Int) = pe b ∨ 1099511627776 < n) → (1099511627776 < n → ofV b = 0 ∧ ofE b = 4) ∧ (n ≤ 1099511627776 → ofV b = n ∧ ofE b = 0) := fun n i hn hi hd => by
    subst hn
    have hx := near_dbl (odd b * 1000) i (pe b) hup hi hd
    exact of_end b _ h4 hm hx.1 hx.2
  have HP := Lib.hid hp
  have HE := Lib.hid hend
  have c1 : (cls b == 1) = false := by rw [beq_eq_false_iff_ne]; omega
  have c2 : (cls b == 2) = false := by rw [beq_eq_false_iff_ne]; omega
  have c3 : (cls b == 3) = false := by rw [beq_eq_false_iff_ne]; omega
  clear hp hend
  generalize odd b = p at *
  generalize pe b = e at *
  go_enter Tryd.func31, Tryd.ntmps31
  go_wp2_with (first | (go_at_call 16; refine (rclass_any _ _).mono ?_; rintro e w' ⟨rfl, rfl⟩) | (go_at_call 13; refine (HP.out _).mono ?_; rintro e w' ⟨rfl, rfl⟩))
  go_loop [6, 7] (fun n j => ∃ n' i : Nat, n' = p * 1000 * 2 ^ i ∧ (i : Int) ≤ e ∧ n' < 18446744073709551616 ∧ n = .int .u64 n' ∧ j = .int .i64 i) (fun _ j => (e - intOf j).toNat)
  case atStart => exact ⟨p * 1000, 0, by simp, by omega, by omega, by rw [Int.natCast_mul]; rfl, rfl⟩
  case round =>
    obtain ⟨n', i, hn, hi, hb, rfl, rfl⟩ := hrel
    have HN := Lib.hid hn
    clear hn
    by_cases k1 : (i : Int) < e
    · by_cases k2 : (n' : Int) ≤ 1099511627776
      · go_wp2
        go_round
        case rel => exact ⟨2 * n', i + 1, by rw [dbl, ← HN.out], by omega, by omega, by rw [Int.natCast_mul]; rfl, num_i (by omega)⟩
        case measure => simp [intOf]; omega
      · have e1 := HE.out n' i HN.out hi (by omega)
        have E1 := Lib.hid (e1.1 (by omega))
        clear e1
        go_wp2
        go_ret2
        exact ⟨ret_ii (by rw [E1.out.1]; rfl) (by rw [E1.out.2]), 0, by trivial⟩
    · have e1 := HE.out n' i HN.out hi (by omega)
      have E1 := Lib.hid e1
      have k1' : decide ((i : Int) < e) = false := by simpa using k1
      clear e1
      go_wp2
      all_goals go_ret2
      all_goals first
        | (have e := E1.out.1 (by omega); exact ⟨ret_ii (by rw [e.1]; rfl) (by rw [e.2]), 0, by trivial⟩)
        | (have e := E1.out.2 (by omega); exact ⟨ret_ii (by rw [e.1]) (by rw [e.2]), 0, by trivial⟩)
theorem rof_any (b : Nat) (h : b < 18446744073709551616) (w : World) : Calls Tryd.prog 31 #[.int .u64 b] w fun e w' => e = .returned (.tuple #[.int .i64 (ofV b), .int .i64 (ofE b)]) ∧ ∃ d, w' = w.drewN d := by
  by_cases h4 : 4 ≤ cls b
  · cases hm : mns b
    · by_cases hn : pe b < 0
      · exact rof_frac b h h4 hm hn w
      · exact rof_up b h h4 hm (by omega) w
    · exact rof_minus b h h4 hm w
  · exact rof_low b (by omega) w
end Go.Proofs.YtdnifilmckialaaDoor
