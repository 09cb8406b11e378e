/- What the small functions on floats' bits answer: the class, the sign, the rank, and Go's own NaN, Inf and Copysign. -/
import Derived.Test.YtdnifilmckialaaDoorChecked
import Derived.Test.YtdnifilmckialaaDoorMathE
import Derived.WalkKit
import Derived.WalkLawsBesides
import Derived.WalkSpells
import Derived.Outline
import Derived.Laws.Cover2
import Derived.KernelRfl
import Derived.Lib.Hide
namespace Go.Proofs.YtdnifilmckialaaDoor
open Go.RowKit

theorem run_bits (b : Nat) (w : World) : (callFunc 19 #[.float .f64 b]).run Tryd.prog w = .ok (.value (.int .u64 b)) w := by
  rw [run_callFunc_extern Tryd.func19 (by kernel_rfl) (by kernel_rfl) (by kernel_rfl) (e := Extern.MathFloatBits.float64bits) (by kernel_rfl)]
  rfl
theorem run_frombits (b : Int) (w : World) : (callFunc 41 #[.int .u64 b]).run Tryd.prog w = .ok (.value (.float .f64 b.toNat)) w := by
  rw [run_callFunc_extern Tryd.func41 (by kernel_rfl) (by kernel_rfl) (by kernel_rfl) (e := Extern.MathFloatBits.float64frombits) (by kernel_rfl)]
  rfl

theorem bits_any (b : Nat) (w : World) : Calls Tryd.prog 11 #[.float .f64 b] w fun e w' => e = .returned (.int .u64 b) ∧ w = w' := by
  have hb := fun b => run_bits b
  go_enter Tryd.func11, Tryd.ntmps11
  go_wp2
  go_ret
  exact ⟨rfl, rfl⟩

set_option maxHeartbeats 400000 in
theorem class_any (b : Nat) (h : b < 18446744073709551616) (w : World) : Calls Tryd.prog 15 #[.float .f64 b] w fun e w' => e = .returned (.int .i64 (cls b)) ∧ w = w' := by
  have hb := fun b => run_bits b
  go_enter Tryd.func15, Tryd.ntmps15
  go_wp2
  all_goals
    go_ret
    refine ⟨ret_i ?_, rfl⟩
    have e := andNot_sign b h
    simp only [e, beq_iff_eq, beq_eq_false_iff_ne] at *
    clear e hb
    first
      | exact ((cls_1 b).2 (by omega)).symm
      | exact ((cls_2 b).2 (by omega)).symm
      | exact ((cls_3 b).2 (by omega)).symm
      | exact ((cls_4 b).2 (by omega)).symm
      | exact ((cls_5 b).2 (by omega)).symm

set_option maxHeartbeats 400000 in
theorem rclass_any (b : Nat) (w : World) : Calls Tryd.prog 16 #[.int .u64 b] w fun e w' => e = .returned (.int .i64 (cls b)) ∧ w = w' := by
  go_enter Tryd.func16, Tryd.ntmps16
  go_wp2
  all_goals
    go_ret
    refine ⟨ret_i ?_, rfl⟩
    simp only [beq_iff_eq, beq_eq_false_iff_ne, bne_iff_ne, bne_eq_false_iff_eq] at *
    first
      | exact ((cls_1 b).2 (by omega)).symm
      | exact ((cls_2 b).2 (by omega)).symm
      | exact ((cls_3 b).2 (by omega)).symm
      | exact ((cls_4 b).2 (by omega)).symm
      | exact ((cls_5 b).2 (by omega)).symm

set_option maxHeartbeats 400000 in
theorem minus_any (b : Nat) (h : b < 18446744073709551616) (w : World) : Calls Tryd.prog 17 #[.float .f64 b] w fun e w' => e = .returned (.bool (mns b)) ∧ w = w' := by
  have hb := fun b => run_bits b
  go_enter Tryd.func17, Tryd.ntmps17
  go_wp2_with (go_at_call 15; refine (class_any _ h _).mono ?_; rintro e w' ⟨rfl, rfl⟩)
  all_goals
    go_ret
    refine ⟨ret_b ?_, rfl⟩
    unfold mns
  · rw [decide_eq_true (by omega), Bool.true_and]
  · rw [decide_eq_false (by omega), Bool.false_and]

set_option maxHeartbeats 400000 in
theorem rminus_any (b : Nat) (h : b < 18446744073709551616) (w : World) : Calls Tryd.prog 18 #[.int .u64 b] w fun e w' => e = .returned (.bool (mns b)) ∧ w = w' := by
  have hr := cls_range b
  go_enter Tryd.func18, Tryd.ntmps18
  go_wp2_with (go_at_call 16; refine (rclass_any _ _).mono ?_; rintro e w' ⟨rfl, rfl⟩)
  all_goals
    go_ret
    refine ⟨ret_b ?_, rfl⟩
    unfold mns
  · have e1 : (cls b != 1) = true := by rw [bne_iff_ne]; omega
    rw [e1, Bool.and_true, Bool.eq_iff_iff, beq_iff_eq, decide_eq_true_eq]
    omega
  · have e1 : (cls b != 1) = false := by rw [bne_eq_false_iff_eq]; omega
    rw [e1, Bool.and_false]

set_option maxHeartbeats 400000 in
theorem rrank_any (b : Nat) (h : b < 18446744073709551616) (w : World) : Calls Tryd.prog 22 #[.int .u64 b] w fun e w' => e = .returned (.int .u64 (rnk b)) ∧ w = w' := by
  go_enter Tryd.func22, Tryd.ntmps22
  go_wp2_with (go_at_call 16; refine (rclass_any _ _).mono ?_; rintro e w' ⟨rfl, rfl⟩)
  all_goals
    go_ret
    refine ⟨ret_u ?_, rfl⟩
    simp only [beq_iff_eq, beq_eq_false_iff_ne] at *
    try rw [IntKind.wrap_u64]
    unfold rnk
    (repeat' split) <;> omega

set_option maxHeartbeats 400000 in
theorem nan_any (w : World) : Calls Tryd.prog 38 #[] w fun e w' => e = .returned (.float .f64 9221120237041090561) ∧ w = w' := by
  have hc := fun b => run_frombits b
  go_enter Tryd.func38, Tryd.ntmps38
  go_wp2
  go_ret
  exact ⟨rfl, rfl⟩
set_option maxHeartbeats 400000 in
theorem copysign_any (a b : Nat) (ha : a < 18446744073709551616) (hb1 : b < 18446744073709551616) (w : World) : Calls Tryd.prog 39 #[.float .f64 a, .float .f64 b] w fun e w' => e = .returned (.float .f64 (a % 9223372036854775808 + b / 9223372036854775808 * 9223372036854775808)) ∧ w = w' := by
  have hb := fun b => run_bits b
  have hc := fun b => run_frombits b
  go_enter Tryd.func39, Tryd.ntmps39
  go_wp2
  go_ret
  refine ⟨ret_f ?_, rfl⟩
  rw [andNot_sign a ha, and_sign b hb1]
  have hd : b / 9223372036854775808 = 0 ∨ b / 9223372036854775808 = 1 := by omega
  rcases hd with hd | hd
  · rw [hd, Nat.zero_mul]
    have e := u64_or_nat (a % 9223372036854775808) 0 (by omega) (by decide)
    rw [e, Int.toNat_natCast, Nat.or_zero]
    rfl
  · rw [hd]
    have e := or_top (a % 9223372036854775808) (by omega)
    rw [show ((1 * 9223372036854775808 : Nat) : Int) = 9223372036854775808 from rfl, e, Int.toNat_natCast]
set_option maxHeartbeats 400000 in
theorem inf_any (n : Int) (w : World) : Calls Tryd.prog 40 #[.int .i64 n] w fun e w' => e = .returned (.float .f64 (if 0 ≤ n then 9218868437227405312 else 18442240474082181120)) ∧ w = w' := by
  have hc := fun b => run_frombits b
  go_enter Tryd.func40, Tryd.ntmps40
  go_wp2
  all_goals
    go_ret
    refine ⟨ret_f ?_, rfl⟩
  · rfl
  · rfl


theorem xor_max (b : Nat) (h : b < 18446744073709551616) : bits .xor .u64 IntKind.u64.max (b : Int) = ((18446744073709551615 - b : Nat) : Int) := by
  rw [show IntKind.u64.max = 18446744073709551615 from rfl]
  exact xor_all b h
set_option maxRecDepth 100000 in
set_option maxHeartbeats 400000 in
theorem rank_any (b : Nat) (h64 : b < 18446744073709551616) (w : World) : Calls Tryd.prog 47 #[.float .f64 b] w fun e w' => e = .returned (.int .u64 (rnk b)) ∧ w = w' := by
  have hb := fun b => run_bits b
  have hs : IntKind.u64.signed = false := rfl
  by_cases hd : decide ((9223372036854775808 : Int) ≤ (b : Int)) = true
  all_goals
    go_enter Tryd.func47, Tryd.ntmps47
    go_wp2_with (go_at_call 15; refine (class_any _ h64 _).mono ?_; rintro e w' ⟨rfl, rfl⟩)
    all_goals
      go_ret
      refine ⟨ret_u ?_, rfl⟩
      simp only [beq_iff_eq, beq_eq_false_iff_ne, decide_eq_true_eq] at *
      have x1 := xor_max b h64
      have x2 : b < 9223372036854775808 → _ := or_top b
      try rw [x1]
      try rw [x2 (by omega)]
      clear x1 x2
      unfold rnk
      (repeat' split) <;> omega

set_option maxHeartbeats 400000 in
theorem ahead_any (a b : Nat) (ha : a < 18446744073709551616) (hb : b < 18446744073709551616) (w : World) : Calls Tryd.prog 23 #[.float .f64 a, .float .f64 b] w fun e w' => e = .returned (.bool (ahd a b)) ∧ w = w' := by
  go_enter Tryd.func23, Tryd.ntmps23
  go_wp2_with fail
  refine (rank_any _ ha _).mono ?_
  rintro e w' ⟨rfl, rfl⟩
  go_wp2_with fail
  refine (rank_any _ hb _).mono ?_
  rintro e w' ⟨rfl, rfl⟩
  go_wp2_with fail
  go_ret
  refine ⟨ret_b ?_, rfl⟩
  simp [ahd]
set_option maxHeartbeats 400000 in
theorem same_any (a b : Nat) (ha : a < 18446744073709551616) (hb : b < 18446744073709551616) (w : World) : Calls Tryd.prog 24 #[.float .f64 a, .float .f64 b] w fun e w' => e = .returned (.bool (sam a b)) ∧ w = w' := by
  go_enter Tryd.func24, Tryd.ntmps24
  go_wp2_with fail
  refine (rank_any _ ha _).mono ?_
  rintro e w' ⟨rfl, rfl⟩
  go_wp2_with fail
  refine (rank_any _ hb _).mono ?_
  rintro e w' ⟨rfl, rfl⟩
  go_wp2_with fail
  go_ret
  refine ⟨ret_b ?_, rfl⟩
  rw [Bool.eq_iff_iff]
  simp [sam]
  omega
end Go.Proofs.YtdnifilmckialaaDoor
