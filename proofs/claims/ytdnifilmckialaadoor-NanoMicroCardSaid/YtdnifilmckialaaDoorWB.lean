/- The parts of a float, as the program takes them and as the reference does: one pair of numbers. -/
import Derived.Test.YtdnifilmckialaaDoorWA
import Derived.Test.YtdnifilmckialaaDoorMathB
import Derived.Shelf.Spec.TrailingZeros
import Derived.LoopTactic
namespace Go.Proofs.YtdnifilmckialaaDoor
open Go.RowKit

/-- The library's table, as its initialiser lays it. -/
def Tab (w : World) : Prop := ∀ j, j < 64 → w.cell? ⟨1, j, none⟩ = some (.int .u8 (Lib.deBruijn64tab.getD j 0))

set_option maxHeartbeats 1000000 in
theorem tz64_some (x k idx : Nat) (w : World) (hx0 : ((x : Int) == 0) = false)
    (key : IntKind.u64.wrap (bits BinOp.and IntKind.u64 (x : Int) (IntKind.u64.wrap (-(x : Int))) * 285870213051353865) / 288230376151711744 = (idx : Int))
    (hi : idx < 64) (hk : k < 64) (hcell : w.cell? ⟨1, idx, none⟩ = some (.int .u8 k)) :
    Calls Tryd.prog 37 #[.int .u64 x] w fun e w' => e = .returned (.int .i64 k) ∧ w = w' := by
  go_enter Tryd.func37, Tryd.ntmps37
  go_wp2_with (simp only [key])
  go_ret
  exact ⟨rfl, rfl⟩
theorem tz64_any (x : Nat) (hx : x < 18446744073709551616) (hx0 : x ≠ 0) (w : World) (hT : Tab w) :
    Calls Tryd.prog 37 #[.int .u64 x] w fun e w' => e = .returned (.int .i64 (Lib.ctz 64 x)) ∧ w = w' := by
  obtain ⟨hlow, hk⟩ := Lib.lowest_bit 64 x hx0 hx
  obtain ⟨hi, htab⟩ := Lib.deBruijn64_at _ hk
  have hcell := hT _ hi
  rw [htab] at hcell
  exact tz64_some x _ _ w (by simp; omega) (tz64_key x _ hx hx0 hlow) hi hk hcell

theorem ret_ii {a b c d : Int} (h : a = c) (k : b = d) : Ending.returned (.tuple #[.int .i64 a, .int .i64 b]) = .returned (.tuple #[.int .i64 c, .int .i64 d]) := by rw [h, k]
theorem num_i {a b : Int} (h : a = b) : Value.int .i64 a = .int .i64 b := by rw [h]
theorem man_5 (b : Nat) (h : (cls b == 5) = true) : (b : Int) % 4503599627370496 + 4503599627370496 = (man b : Nat) := by
  rw [beq_iff_eq] at h
  unfold man
  rw [if_pos h]
  omega
theorem man_4 (b : Nat) (h : (cls b == 5) = false) : (b : Int) % 4503599627370496 = (man b : Nat) := by
  rw [beq_eq_false_iff_ne] at h
  unfold man
  rw [if_neg h]
  omega
theorem exq_5 (b : Nat) (h : (cls b == 5) = true) : (b : Int) / 4503599627370496 % 2048 - 1075 = exq b := by
  rw [beq_iff_eq] at h
  unfold exq
  rw [if_pos h]
theorem exq_4 (b : Nat) (h : (cls b == 5) = false) : -1074 = exq b := by
  rw [beq_eq_false_iff_ne] at h
  unfold exq
  rw [if_neg h]
theorem mns_of (b : Nat) (h4 : 4 ≤ cls b) : mns b = decide (9223372036854775808 ≤ b) := by
  have e : (cls b != 1) = true := by rw [bne_iff_ne]; omega
  unfold mns
  rw [e, Bool.and_true]
/-- The parts' end, out of what the loop has come to. -/
theorem pm_of (b m k : Nat) (h4 : 4 ≤ cls b) (e : man b = m * 2 ^ k) (hm : m % 2 = 1) : pm b = (if 9223372036854775808 ≤ b then -(m : Int) else m) ∧ pe b = exq b + k := by
  obtain ⟨e1, e2⟩ := odd_of b k m h4 e hm
  have hn : ¬ cls b < 4 := by omega
  unfold pm pe
  simp only [if_neg hn, mns_of b h4, e1, e2, decide_eq_true_eq, and_self]

set_option maxHeartbeats 400000 in
theorem rparts_low (b : Nat) (hlow : cls b < 4) (w : World) : Calls Tryd.prog 13 #[.int .u64 b] w fun e w' => e = .returned (.tuple #[.int .i64 (pm b), .int .i64 (pe b)]) ∧ w = w' := by
  go_enter Tryd.func13, Tryd.ntmps13
  go_wp2_with (go_at_call 16; refine (rclass_any _ _).mono ?_; rintro e w' ⟨rfl, rfl⟩)
  go_ret2
  refine ⟨ret_ii ?_ ?_, rfl⟩
  · unfold pm; rw [if_pos hlow]
  · unfold pe; rw [if_pos hlow]
set_option maxHeartbeats 1000000 in
theorem rparts_high (b : Nat) (h : b < 18446744073709551616) (h4 : 4 ≤ cls b) (w : World) : Calls Tryd.prog 13 #[.int .u64 b] w fun e w' => e = .returned (.tuple #[.int .i64 (pm b), .int .i64 (pe b)]) ∧ w = w' := by
  have hm := man_bd b h4
  have hx := exq_bd b
  have m5 := man_5 b
  have m4 := man_4 b
  have x5 := exq_5 b
  have x4 := exq_4 b
  have M5 := Lib.hid m5
  have M4 := Lib.hid m4
  have X5 := Lib.hid x5
  have X4 := Lib.hid x4
  clear m5 m4 x5 x4
  by_cases h5 : (cls b == 5) = true
  · go_enter Tryd.func13, Tryd.ntmps13
    go_wp2_with (go_at_call 16; refine (rclass_any _ _).mono ?_; rintro e w' ⟨rfl, rfl⟩)
    go_loop [5, 6] (fun m e => ∃ (m' k : Nat), man b = m' * 2 ^ k ∧ k ≤ 52 ∧ m' < 9007199254740992 ∧ m = .int .i64 m' ∧ e = .int .i64 (exq b + k)) (fun m _ => (intOf m).toNat)
    case atStart => exact ⟨man b, 0, by simp, by omega, by omega, num_i (M5.out h5), num_i (by rw [X5.out h5]; simp)⟩
    case round =>
      obtain ⟨m', k, he, hk, hm', rfl, rfl⟩ := hrel
      have HE := Lib.hid he
      clear he
      go_wp2
      · go_round
        case rel =>
          obtain ⟨e1, e2, e3⟩ := half_step (man b) k m' (by omega) (by omega) HE.out (by simp only [beq_iff_eq] at *; omega)
          exact ⟨m' / 2, k + 1, e1, e2, by omega, num_i (by omega), num_i (by omega)⟩
        case measure =>
          obtain ⟨e1, e2, e3⟩ := half_step (man b) k m' (by omega) (by omega) HE.out (by simp only [beq_iff_eq] at *; omega)
          simp [intOf]; omega
      · go_ret2
        simp only [beq_iff_eq, beq_eq_false_iff_ne] at *
        obtain ⟨e1, e2⟩ := pm_of b m' k h4 HE.out (by omega)
        exact ⟨ret_ii (by rw [e1, if_pos (by omega)]) e2.symm, by trivial⟩
      · go_ret2
        simp only [beq_iff_eq, beq_eq_false_iff_ne] at *
        obtain ⟨e1, e2⟩ := pm_of b m' k h4 HE.out (by omega)
        exact ⟨ret_ii (by rw [e1, if_neg (by omega)]) e2.symm, by trivial⟩
  · have h5' : (cls b == 5) = false := by simpa using h5
    clear h5
    go_enter Tryd.func13, Tryd.ntmps13
    go_wp2_with (go_at_call 16; refine (rclass_any _ _).mono ?_; rintro e w' ⟨rfl, rfl⟩)
    go_loop [5, 6] (fun m e => ∃ (m' k : Nat), man b = m' * 2 ^ k ∧ k ≤ 52 ∧ m' < 9007199254740992 ∧ m = .int .i64 m' ∧ e = .int .i64 (exq b + k)) (fun m _ => (intOf m).toNat)
    case atStart => exact ⟨man b, 0, by simp, by omega, by omega, num_i (M4.out h5'), num_i (by rw [X4.out h5']; simp)⟩
    case round =>
      obtain ⟨m', k, he, hk, hm', rfl, rfl⟩ := hrel
      have HE := Lib.hid he
      clear he
      go_wp2
      · go_round
        case rel =>
          obtain ⟨e1, e2, e3⟩ := half_step (man b) k m' (by omega) (by omega) HE.out (by simp only [beq_iff_eq] at *; omega)
          exact ⟨m' / 2, k + 1, e1, e2, by omega, num_i (by omega), num_i (by omega)⟩
        case measure =>
          obtain ⟨e1, e2, e3⟩ := half_step (man b) k m' (by omega) (by omega) HE.out (by simp only [beq_iff_eq] at *; omega)
          simp [intOf]; omega
      · go_ret2
        simp only [beq_iff_eq, beq_eq_false_iff_ne] at *
        obtain ⟨e1, e2⟩ := pm_of b m' k h4 HE.out (by omega)
        exact ⟨ret_ii (by rw [e1, if_pos (by omega)]) e2.symm, by trivial⟩
      · go_ret2
        simp only [beq_iff_eq, beq_eq_false_iff_ne] at *
        obtain ⟨e1, e2⟩ := pm_of b m' k h4 HE.out (by omega)
        exact ⟨ret_ii (by rw [e1, if_neg (by omega)]) e2.symm, by trivial⟩
theorem rparts_any (b : Nat) (h : b < 18446744073709551616) (w : World) : Calls Tryd.prog 13 #[.int .u64 b] w fun e w' => e = .returned (.tuple #[.int .i64 (pm b), .int .i64 (pe b)]) ∧ w = w' := by
  by_cases h4 : 4 ≤ cls b
  · exact rparts_high b h h4 w
  · exact rparts_low b (by omega) w

set_option maxHeartbeats 400000 in
theorem parts_low (b : Nat) (h : b < 18446744073709551616) (hlow : cls b < 4) (w : World) : Calls Tryd.prog 12 #[.float .f64 b] w fun e w' => e = .returned (.tuple #[.int .i64 (pm b), .int .i64 (pe b)]) ∧ w = w' := by
  have hb := fun b => run_bits b
  go_enter Tryd.func12, Tryd.ntmps12
  go_wp2_with (go_at_call 15; refine (class_any _ h _).mono ?_; rintro e w' ⟨rfl, rfl⟩)
  go_ret2
  refine ⟨ret_ii ?_ ?_, rfl⟩
  · unfold pm; rw [if_pos hlow]
  · unfold pe; rw [if_pos hlow]
/-- The fraction's bits, the exponent's. -/
def frc (b : Nat) : Nat := b % 4503599627370496
def xpt (b : Nat) : Int := (b : Int) / 4503599627370496 % 2048
theorem tz_man (b : Nat) (h4 : 4 ≤ cls b) (w : World) (hT : Tab w) : Calls Tryd.prog 37 #[.int .u64 (man b)] w fun e w' => e = .returned (.int .i64 (tzs b)) ∧ w = w' := by
  have hm := man_bd b h4
  exact tz64_any (man b) (by omega) (by omega) w hT
theorem odd_quo (b : Nat) (h4 : 4 ≤ cls b) : wrap64 ((man b : Int) / 2 ^ tzs b) = (odd b : Int) := by
  obtain ⟨_, _, _, _, h5⟩ := man_odd b h4
  have e : ((man b : Int) / 2 ^ tzs b) = (odd b : Int) := by
    unfold odd
    rw [Int.natCast_ediv, Int.natCast_pow]
    rfl
  rw [e]
  exact IntWalk.wrap64_in _ ⟨by omega, by omega⟩
theorem pm_pos (b : Nat) (h4 : 4 ≤ cls b) (hm : mns b = false) : wrap64 ((man b : Int) / 2 ^ tzs b) = pm b := by
  rw [odd_quo b h4]
  unfold pm
  rw [if_neg (by omega), hm]
  rfl
theorem pm_neg (b : Nat) (h4 : 4 ≤ cls b) (hm : mns b = true) : wrap64 (-wrap64 ((man b : Int) / 2 ^ tzs b)) = pm b := by
  obtain ⟨_, _, _, _, h5⟩ := man_odd b h4
  rw [odd_quo b h4]
  unfold pm
  rw [if_neg (by omega), hm, if_pos rfl]
  exact IntWalk.wrap64_in _ ⟨by omega, by omega⟩
theorem pe_high (b : Nat) (h4 : 4 ≤ cls b) : pe b = exq b + tzs b := by
  unfold pe
  rw [if_neg (by omega)]
set_option maxHeartbeats 1000000 in
theorem parts_5 (b : Nat) (h : b < 18446744073709551616) (h5 : (cls b == 5) = true) (w : World) (hT : Tab w) : Calls Tryd.prog 12 #[.float .f64 b] w fun e w' => e = .returned (.tuple #[.int .i64 (pm b), .int .i64 (pe b)]) ∧ w = w' := by
  have hb := fun b => run_bits b
  have h4 : 4 ≤ cls b := by rw [beq_iff_eq] at h5; omega
  have f1 : bits .and .u64 (b : Int) 4503599627370495 = (frc b : Nat) := and_frac b h
  have f2 : bits .or .u64 (frc b : Int) 4503599627370496 = (man b : Nat) := by
    rw [or_hidden _ (by unfold frc; omega)]
    have := man_5 b h5
    unfold frc
    omega
  have f3 : bits .and .u64 ((b : Int) / 4503599627370496) 2047 = xpt b := by
    have := and_exp (b / 4503599627370496) (by omega)
    unfold xpt
    rw [show ((b : Int) / 4503599627370496) = ((b / 4503599627370496 : Nat) : Int) from by omega, this]
    omega
  have x0 : 0 ≤ xpt b := by unfold xpt; omega
  have x1 : xpt b ≤ 2047 := by unfold xpt; omega
  have hm := man_bd b h4
  have hz := (man_odd b h4).2.2.1
  go_enter Tryd.func12, Tryd.ntmps12
  go_wp2_with (first | (go_at_call 15; refine (class_any _ h _).mono ?_; rintro e w' ⟨rfl, rfl⟩) | (go_at_call 37; refine (tz_man b h4 _ hT).mono ?_; rintro e w' ⟨rfl, rfl⟩) | (go_at_call 17; refine (minus_any _ h _).mono ?_; rintro e w' ⟨rfl, rfl⟩))
  all_goals go_ret2
  · exact ⟨ret_ii (pm_neg b h4 (by assumption)) (by rw [pe_high b h4, ← exq_5 b h5]; unfold xpt; omega), by trivial⟩
  · exact ⟨ret_ii (pm_pos b h4 (by assumption)) (by rw [pe_high b h4, ← exq_5 b h5]; unfold xpt; omega), by trivial⟩
set_option maxHeartbeats 1000000 in
theorem parts_4 (b : Nat) (h : b < 18446744073709551616) (hc4 : (cls b == 4) = true) (w : World) (hT : Tab w) : Calls Tryd.prog 12 #[.float .f64 b] w fun e w' => e = .returned (.tuple #[.int .i64 (pm b), .int .i64 (pe b)]) ∧ w = w' := by
  have hb := fun b => run_bits b
  have h4 : 4 ≤ cls b := by rw [beq_iff_eq] at hc4; omega
  have h5 : (cls b == 5) = false := by rw [beq_iff_eq] at hc4; rw [beq_eq_false_iff_ne]; omega
  have f1 : bits .and .u64 (b : Int) 4503599627370495 = (man b : Nat) := by
    rw [and_frac b h]
    have := man_4 b h5
    omega
  have hm := man_bd b h4
  have hz := (man_odd b h4).2.2.1
  go_enter Tryd.func12, Tryd.ntmps12
  go_wp2_with (first | (go_at_call 15; refine (class_any _ h _).mono ?_; rintro e w' ⟨rfl, rfl⟩) | (go_at_call 37; refine (tz_man b h4 _ hT).mono ?_; rintro e w' ⟨rfl, rfl⟩) | (go_at_call 17; refine (minus_any _ h _).mono ?_; rintro e w' ⟨rfl, rfl⟩))
  all_goals go_ret2
  · exact ⟨ret_ii (pm_neg b h4 (by assumption)) (by rw [pe_high b h4, ← exq_4 b h5]), by trivial⟩
  · exact ⟨ret_ii (pm_pos b h4 (by assumption)) (by rw [pe_high b h4, ← exq_4 b h5]), by trivial⟩
theorem parts_any (b : Nat) (h : b < 18446744073709551616) (w : World) (hT : Tab w) : Calls Tryd.prog 12 #[.float .f64 b] w fun e w' => e = .returned (.tuple #[.int .i64 (pm b), .int .i64 (pe b)]) ∧ w = w' := by
  have hr := cls_range b
  by_cases h4 : cls b < 4
  · exact parts_low b h h4 w
  · by_cases h5 : cls b = 5
    · exact parts_5 b h (by rw [h5]; rfl) w hT
    · exact parts_4 b h (by rw [beq_iff_eq]; omega) w hT
end Go.Proofs.YtdnifilmckialaaDoor
