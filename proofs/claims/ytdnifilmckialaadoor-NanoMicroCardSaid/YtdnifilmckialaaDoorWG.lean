/- The volume of a float: what the program and the reference answer. -/
import Derived.Test.YtdnifilmckialaaDoorWE
import Derived.Test.YtdnifilmckialaaDoorMathF
namespace Go.Proofs.YtdnifilmckialaaDoor
open Go.RowKit

theorem ret_ie {a c : Int} (b : Int) (h : a = c) : Ending.returned (.tuple #[.int .i64 a, .int .i64 b]) = .returned (.tuple #[.int .i64 c, .int .i64 b]) := by rw [h]

set_option maxHeartbeats 400000 in
theorem nearest_neg (p : Nat) (e : Int) (hp : p < 9223372036854775808) (he : -63 ≤ e) (h1 : e < 0) (w : World) : Calls Tryd.prog 49 #[.int .i64 p, .int .i64 e] w fun e' w' => e' = .returned (.int .i64 (near p e)) ∧ ∃ d, w' = w.drewN d := by
  have hs : ∀ (w : World), Calls Tryd.prog 52 #[.int .u64 p, .int .i64 (-e)] w fun e' w' => e' = .returned (.int .i64 (near p e)) ∧ ∃ d, w' = w.drewN d := fun w => by
    have h := nshort_any p (-e).toNat hp (by omega) (by omega) w
    rw [near_rnd p e h1 (by omega) hp, show (((-e).toNat : Nat) : Int) = -e from by omega] at h
    exact h
  have HS := Lib.hid hs
  clear hs
  go_enter Tryd.func49, Tryd.ntmps49
  go_wp2_with (go_at_call 52; refine (HS.out _).mono ?_; rintro e' w' ⟨rfl, d, rfl⟩)
  go_ret
  exact ⟨rfl, _, rfl⟩
set_option maxHeartbeats 400000 in
theorem nearest_low (p : Nat) (e : Int) (he : e < -63) (w : World) : Calls Tryd.prog 49 #[.int .i64 p, .int .i64 e] w fun e' w' => e' = .returned (.int .i64 (near p e)) ∧ ∃ d, w' = w.drewN d := by
  have hn : near p e = 0 := by unfold near; rw [if_pos he]
  rw [hn]
  clear hn
  go_enter Tryd.func49, Tryd.ntmps49
  go_wp2
  go_ret
  exact ⟨rfl, 0, rfl⟩
theorem quo_40 (k : Nat) : (1099511627776 : Int) / 2 ^ min k 64 = (1099511627776 / 2 ^ k : Nat) := by
  have e : ((1099511627776 / 2 ^ min k 64 : Nat) : Int) = (1099511627776 : Int) / 2 ^ min k 64 := by
    rw [Int.natCast_ediv, Int.natCast_pow]
    rfl
  rw [← e]
  by_cases h : k ≤ 64
  · rw [Nat.min_eq_left h]
  · have h1 := pow_mono (a := 64) (b := k) (by omega)
    rw [Nat.min_eq_right (by omega), Nat.div_eq_of_lt (a := 1099511627776) (b := 2 ^ k) (by omega)]
set_option maxHeartbeats 400000 in
theorem nearest_up (p : Nat) (e : Int) (h0 : 0 < p) (hp : p < 9223372036854775808) (he : 0 ≤ e) (h2 : e ≤ 2000) (w : World) : Calls Tryd.prog 49 #[.int .i64 p, .int .i64 e] w fun e' w' => e' = .returned (.int .i64 (near p e)) ∧ ∃ d, w' = w.drewN d := by
  obtain ⟨k, rfl⟩ := Int.eq_ofNat_of_zero_le he
  have hn : near p (k : Int) = if 1099511627776 / 2 ^ k < p then 1099511627777 else p * 2 ^ k := by
    unfold near
    rw [if_neg (by omega), if_neg (by omega), Int.toNat_natCast]
  have hq := quo_40 k
  by_cases hlt : 1099511627776 / 2 ^ k < p
  · rw [if_pos hlt] at hn
    rw [hn]
    clear hn
    generalize 1099511627776 / 2 ^ k = q at *
    go_enter Tryd.func49, Tryd.ntmps49
    go_wp2
    go_ret
    exact ⟨rfl, 0, rfl⟩
  · have hk : k ≤ 40 := by
      apply Nat.le_of_not_lt
      intro hh
      have h1 := pow_mono (a := 41) (b := k) (by omega)
      rw [Nat.div_eq_of_lt (by omega)] at hlt
      omega
    have hle : p * 2 ^ k ≤ 1099511627776 := by
      rw [quo_lt] at hlt
      omega
    rw [if_neg hlt] at hn
    rw [hn]
    have hm : min k 64 = k := Nat.min_eq_left (by omega)
    rw [hm] at hq
    have hw : wrap64 ((p : Int) * 2 ^ k) = (p * 2 ^ k : Nat) := by
      have e : (p : Int) * 2 ^ k = ((p * 2 ^ k : Nat) : Int) := by rw [Int.natCast_mul, Int.natCast_pow]; rfl
      rw [e]
      exact IntWalk.wrap64_in _ ⟨by omega, by omega⟩
    clear hn hm
    generalize 1099511627776 / 2 ^ k = q at *
    generalize p * 2 ^ k = r at *
    go_enter Tryd.func49, Tryd.ntmps49
    go_wp2
    go_ret
    exact ⟨ret_i hw, 0, rfl⟩
theorem nearest_any (p : Nat) (e : Int) (h0 : 0 < p) (hp : p < 9223372036854775808) (h2 : e ≤ 2000) (w : World) : Calls Tryd.prog 49 #[.int .i64 p, .int .i64 e] w fun e' w' => e' = .returned (.int .i64 (near p e)) ∧ ∃ d, w' = w.drewN d := by
  by_cases h : e < -63
  · exact nearest_low p e h w
  · by_cases h1 : e < 0
    · exact nearest_neg p e hp (by omega) h1 w
    · exact nearest_up p e h0 hp (by omega) h2 w
theorem pm_plus (b : Nat) (h4 : 4 ≤ cls b) (hm : mns b = false) : pm b = odd b := by
  unfold pm
  rw [if_neg (by omega), hm]
  rfl
theorem pe_bd (b : Nat) : -1074 ≤ pe b ∧ pe b ≤ 1023 := by
  unfold pe
  have := exq_bd b
  split
  · omega
  · have := (man_odd b (by omega)).2.2.1
    omega
theorem ofE_1 (b : Nat) (h : cls b = 1) : ofE b = 20 := by unfold ofE; rw [if_pos h]
theorem ofE_2 (b : Nat) (h : cls b = 2) : ofE b = 21 := by unfold ofE; rw [if_neg (by omega), if_pos h]
theorem ofE_3 (b : Nat) (h : cls b = 3) : ofE b = 0 := by unfold ofE; rw [if_neg (by omega), if_neg (by omega), if_pos h]
theorem ofE_m (b : Nat) (h : 4 ≤ cls b) (hm : mns b = true) : ofE b = 22 := by unfold ofE; rw [if_neg (by omega), if_neg (by omega), if_neg (by omega), if_pos hm]
theorem ofE_p (b : Nat) (h : 4 ≤ cls b) (hm : mns b = false) : ofE b = if 1099511627776 < nanoOf b then 4 else 0 := by unfold ofE; rw [if_neg (by omega), if_neg (by omega), if_neg (by omega), if_neg (by simp [hm])]
theorem ofV_0 (b : Nat) (h : cls b < 4 ∨ ofE b ≠ 0) : ofV b = 0 := by unfold ofV; rw [if_neg (by omega)]
theorem ofV_n (b : Nat) (h : 4 ≤ cls b) (h0 : ofE b = 0) : ofV b = nanoOf b := by unfold ofV; rw [if_pos ⟨h, h0⟩]
set_option maxHeartbeats 1000000 in
theorem of_low (b : Nat) (h : b < 18446744073709551616) (hlow : cls b < 4) (w : World) : Calls Tryd.prog 30 #[.float .f64 b] w fun e w' => e = .returned (.tuple #[.int .i64 (ofV b), .int .i64 (ofE b)]) ∧ ∃ d, w' = w.drewN d := by
  have hr := cls_range b
  have hv := ofV_0 b (by omega)
  rw [hv]
  have hc : cls b = 1 ∨ cls b = 2 ∨ cls b = 3 := by omega
  clear hv hr
  rcases hc with hc | hc | hc
  · rw [ofE_1 b hc]
    have H : ∀ w : World, Calls Tryd.prog 15 #[.float .f64 b] w fun e w' => e = .returned (.int .i64 1) ∧ w = w' := fun w => by
      have := class_any b h w
      rw [hc] at this
      exact this
    have H' := Lib.hid H
    clear H hc hlow
    go_enter Tryd.func30, Tryd.ntmps30
    go_wp2_with (go_at_call 15; refine (H'.out _).mono ?_; rintro e w' ⟨rfl, rfl⟩)
    go_ret2
    exact ⟨rfl, 0, rfl⟩
  · rw [ofE_2 b hc]
    have H : ∀ w : World, Calls Tryd.prog 15 #[.float .f64 b] w fun e w' => e = .returned (.int .i64 2) ∧ w = w' := fun w => by
      have := class_any b h w
      rw [hc] at this
      exact this
    have H' := Lib.hid H
    clear H hc hlow
    go_enter Tryd.func30, Tryd.ntmps30
    go_wp2_with (go_at_call 15; refine (H'.out _).mono ?_; rintro e w' ⟨rfl, rfl⟩)
    go_ret2
    exact ⟨rfl, 0, rfl⟩
  · rw [ofE_3 b hc]
    have H : ∀ w : World, Calls Tryd.prog 15 #[.float .f64 b] w fun e w' => e = .returned (.int .i64 3) ∧ w = w' := fun w => by
      have := class_any b h w
      rw [hc] at this
      exact this
    have H' := Lib.hid H
    clear H hc hlow
    go_enter Tryd.func30, Tryd.ntmps30
    go_wp2_with (go_at_call 15; refine (H'.out _).mono ?_; rintro e w' ⟨rfl, rfl⟩)
    go_ret2
    exact ⟨rfl, 0, rfl⟩
set_option maxHeartbeats 1000000 in
theorem of_minus (b : Nat) (h : b < 18446744073709551616) (h4 : 4 ≤ cls b) (hm : mns b = true) (w : World) : Calls Tryd.prog 30 #[.float .f64 b] w fun e w' => e = .returned (.tuple #[.int .i64 (ofV b), .int .i64 (ofE b)]) ∧ ∃ d, w' = w.drewN d := by
  have he := ofE_m b h4 hm
  have hv := ofV_0 b (by omega)
  rw [hv, he]
  have c1 : (cls b == 1) = false := by rw [beq_eq_false_iff_ne]; omega
  have c2 : (cls b == 2) = false := by rw [beq_eq_false_iff_ne]; omega
  have c3 : (cls b == 3) = false := by rw [beq_eq_false_iff_ne]; omega
  clear he hv
  go_enter Tryd.func30, Tryd.ntmps30
  go_wp2_with (first | (go_at_call 15; refine (class_any _ h _).mono ?_; rintro e w' ⟨rfl, rfl⟩) | (go_at_call 17; refine (minus_any _ h _).mono ?_; rintro e w' ⟨rfl, rfl⟩))
  go_ret2
  exact ⟨rfl, 0, rfl⟩
set_option maxHeartbeats 1000000 in
theorem of_plus (b : Nat) (h : b < 18446744073709551616) (h4 : 4 ≤ cls b) (hm : mns b = false) (w : World) (hT : Tab w) : Calls Tryd.prog 30 #[.float .f64 b] w fun e w' => e = .returned (.tuple #[.int .i64 (ofV b), .int .i64 (ofE b)]) ∧ ∃ d, w' = w.drewN d := by
  obtain ⟨_, _, _, o1, o2⟩ := man_odd b h4
  have hpe := pe_bd b
  have hn : ∀ w : World, Calls Tryd.prog 49 #[.int .i64 ((odd b : Int) * 1000), .int .i64 (pe b)] w fun e' w' => e' = .returned (.int .i64 (nanoOf b)) ∧ ∃ d, w' = w.drewN d := fun w =>
    nearest_any (odd b * 1000) (pe b) (by omega) (by omega) (by omega) w
  have hp : ∀ w : World, Tab w → Calls Tryd.prog 12 #[.float .f64 b] w fun e w' => e = .returned (.tuple #[.int .i64 (odd b), .int .i64 (pe b)]) ∧ w = w' := fun w hT => by
    have := parts_any b h w hT
    rw [pm_plus b h4 hm] at this
    exact this
  have he := ofE_p b h4 hm
  have hv1 := ofV_n b h4
  have hv0 := ofV_0 b
  have HN := Lib.hid hn
  have HP := Lib.hid hp
  have HE := Lib.hid he
  have HV1 := Lib.hid hv1
  have HV0 := Lib.hid hv0
  have c1 : (cls b == 1) = false := by rw [beq_eq_false_iff_ne]; omega
  have c2 : (cls b == 2) = false := by rw [beq_eq_false_iff_ne]; omega
  have c3 : (cls b == 3) = false := by rw [beq_eq_false_iff_ne]; omega
  clear hn hp he hv1 hv0
  go_enter Tryd.func30, Tryd.ntmps30
  go_wp2_with (first | (go_at_call 15; refine (class_any _ h _).mono ?_; rintro e w' ⟨rfl, rfl⟩) | (go_at_call 17; refine (minus_any _ h _).mono ?_; rintro e w' ⟨rfl, rfl⟩) | (go_at_call 12; refine (HP.out _ hT).mono ?_; rintro e w' ⟨rfl, rfl⟩) | (go_at_call 49; refine (HN.out _).mono ?_; rintro e' w' ⟨rfl, d, rfl⟩))
  all_goals go_ret2
  · have e1 : ofE b = 4 := by rw [HE.out, if_pos (by omega)]
    exact ⟨ret_ii (by rw [HV0.out (by omega)]; rfl) e1.symm, _, rfl⟩
  · have e1 : ofE b = 0 := by rw [HE.out, if_neg (by omega)]
    exact ⟨ret_ii (by rw [HV1.out e1]) e1.symm, _, rfl⟩
theorem of_any (b : Nat) (h : b < 18446744073709551616) (w : World) (hT : Tab w) : Calls Tryd.prog 30 #[.float .f64 b] w fun e w' => e = .returned (.tuple #[.int .i64 (ofV b), .int .i64 (ofE b)]) ∧ ∃ d, w' = w.drewN d := by
  by_cases h4 : 4 ≤ cls b
  · cases hm : mns b
    · exact of_plus b h h4 hm w hT
    · exact of_minus b h h4 hm w
  · exact of_low b h (by omega) w
end Go.Proofs.YtdnifilmckialaaDoor
