/- Rounding, the length of a number, its size and sign: what the program's and the reference's functions answer. -/
import Derived.Test.YtdnifilmckialaaDoorWB
import Derived.Test.YtdnifilmckialaaDoorMathC
import Derived.Shelf.Strconv.Itoa0
import Derived.Deep.QuietTactic
import Derived.BigQuiet
namespace Go.Proofs.YtdnifilmckialaaDoor
open Go.RowKit

theorem size_any (m : Int) (h1 : -9223372036854775808 ≤ m) (h2 : m ≤ 9223372036854775807) (w : World) : Calls Tryd.prog 43 #[.int .i64 m] w fun e w' => e = .returned (.int .u64 m.natAbs) ∧ w = w' := by
  go_enter Tryd.func43, Tryd.ntmps43
  go_wp2
  all_goals
    go_ret
    refine ⟨ret_u ?_, rfl⟩
    try simp only [IntKind.wrap_u64, wrap64]
    omega

/-- A sign on bits. -/
def sgn (m : Int) (b : Nat) : Nat := if m < 0 then b + 9223372036854775808 else b
theorem sign_any (m : Int) (b : Nat) (h : b < 9223372036854775808) (w : World) : Calls Tryd.prog 44 #[.int .i64 m, .int .u64 b] w fun e w' => e = .returned (.int .u64 (sgn m b)) ∧ w = w' := by
  go_enter Tryd.func44, Tryd.ntmps44
  go_wp2
  all_goals
    go_ret
    refine ⟨ret_u ?_, rfl⟩
    unfold sgn
    try simp only [IntKind.wrap_u64]
    split <;> omega

set_option maxHeartbeats 400000 in
theorem length_any (n : Nat) (h : n < 18446744073709551616) (w : World) : Calls Tryd.prog 45 #[.int .u64 n] w fun e w' => e = .returned (.int .i64 (Lib.bitLen n)) ∧ w = w' := by
  go_enter Tryd.func45, Tryd.ntmps45
  go_wp2
  go_loop [0, 3] (fun m e => ∃ (m' k : Nat), k + Lib.bitLen m' = Lib.bitLen n ∧ m' ≤ n ∧ k ≤ 64 ∧ m = .int .u64 m' ∧ e = .int .i64 k) (fun m _ => (intOf m).toNat)
  case atStart => exact ⟨n, 0, by simp, by omega, by omega, rfl, rfl⟩
  case round =>
    obtain ⟨m', k, he, hm', hk, rfl, rfl⟩ := hrel
    have hl : m' ≠ 0 → Lib.bitLen m' = 1 + Lib.bitLen (m' / 2) := fun h0 => Lib.bitLen_half m' h0 (by omega)
    have HL := Lib.hid hl
    have HE := Lib.hid he
    have HB := Lib.hid (Lib.bitLen_le n 64 (by omega) h)
    clear he hl
    go_wp2
    · go_round
      case rel =>
        have e1 := HL.out (by omega)
        have e2 := HE.out
        have e3 := HB.out
        exact ⟨m' / 2, k + 1, by omega, by omega, by omega, by rw [show ((m' / 2 : Nat) : Int) = (m' : Int) / 2 from by omega], num_i (by omega)⟩
      case measure => simp [intOf]; omega
    · go_ret
      have e2 := HE.out
      obtain rfl : m' = 0 := by omega
      exact ⟨ret_i (by rw [← e2]; simp [Lib.bitLen, Lib.bitLenAux]), by trivial⟩

/-- The library's Len64, at this program's own numbers. -/
def lenRen : Go.Shelf.Ren := ⟨fun | 129 => 50 | n => n, fun | 53 => 23 | 3 => 3 | 4 => 4 | 46 => 57 | 5 => 5 | 9 => 9 | n => n, fun | n => n⟩
theorem lenLaid : Go.Proofs.Lays.n129 Tryd.prog lenRen where
  mixed := by kernel_rfl
  f129 := Tryd.func50.trans (congrArg some (by kernel_rfl))
  t3 := Tryd.underlying3
  a3 := Tryd.isAgg3
  z3 := Tryd.sizeOf3
  v3 := Tryd.zeroValue3
  t4 := Tryd.underlying4
  a4 := Tryd.isAgg4
  z4 := Tryd.sizeOf4
  v4 := Tryd.zeroValue4
  t5 := Tryd.underlying5
  a5 := Tryd.isAgg5
  z5 := Tryd.sizeOf5
  v5 := Tryd.zeroValue5
  t9 := Tryd.underlying9
  a9 := Tryd.isAgg9
  z9 := Tryd.sizeOf9
  v9 := Tryd.zeroValue9
  t46 := Tryd.underlying57
  a46 := Tryd.isAgg57
  z46 := Tryd.sizeOf57
  v46 := Tryd.zeroValue57
  t53 := Tryd.underlying23
  a53 := Tryd.isAgg23
  z53 := Tryd.sizeOf23
  v53 := Tryd.zeroValue23
theorem len64_any (n : Nat) (h : n < 18446744073709551616) (w : World) : Calls Tryd.prog 50 #[.int .u64 n] w fun e w' => e = .returned (.int .i64 (Lib.bitLen n)) ∧ w = w' :=
  (Any.bits_Len64 lenLaid n w (by omega) (by omega)).mono fun _ _ ⟨he, hw⟩ => ⟨he, hw.symm⟩

/-- What the shifts of a rounding come to. -/
theorem shift_facts (n k : Nat) (h : n < 18446744073709551616) (k1 : 1 ≤ k) (k2 : k ≤ 64) :
    (n : Int) / 2 ^ k = (n / 2 ^ k : Nat) ∧ IntKind.u64.wrap ((n : Int) - IntKind.u64.wrap (((n / 2 ^ k : Nat) : Int) * 2 ^ k)) = (n % 2 ^ k : Nat) ∧ IntKind.u64.wrap ((2 : Int) ^ (k - 1)) = (2 ^ (k - 1) : Nat) ∧ n / 2 ^ k ≤ 9223372036854775807 := by
  have e0 : (n : Int) / 2 ^ k = (n / 2 ^ k : Nat) := by rw [Int.natCast_ediv, Int.natCast_pow]; rfl
  have e1 : (((n / 2 ^ k : Nat) : Int) * 2 ^ k) = ((n / 2 ^ k * 2 ^ k : Nat) : Int) := by rw [Int.natCast_mul, Int.natCast_pow]; rfl
  have e2 := Nat.div_add_mod n (2 ^ k)
  rw [Nat.mul_comm] at e2
  have e3 : n / 2 ^ k * 2 ^ k ≤ n := by omega
  have e4 : ((2 : Int) ^ (k - 1)) = ((2 ^ (k - 1) : Nat) : Int) := by rw [Int.natCast_pow]; rfl
  have e5 : 2 ^ (k - 1) ≤ 2 ^ 63 := pow_mono (by omega)
  have e6 : n / 2 ^ k ≤ n / 2 := by
    apply Nat.div_le_div_left _ (by decide)
    have := pow_mono k1
    omega
  refine ⟨e0, ?_, ?_, by omega⟩
  · rw [e1, IntKind.wrap_u64, IntKind.wrap_u64]
    generalize n / 2 ^ k * 2 ^ k = Q at *
    generalize n % 2 ^ k = R at *
    clear e0 e1 e4 e5 e6
    omega
  · rw [e4, IntKind.wrap_u64]
    generalize 2 ^ (k - 1) = P at *
    clear e0 e1 e2 e3 e4 e6
    omega
theorem rem2 (q : Nat) : ((q : Int).tmod 2 == 1) = decide (q % 2 = 1) := by
  rw [Int.tmod_eq_emod_of_nonneg (by omega), Bool.eq_iff_iff, beq_iff_eq, decide_eq_true_eq]
  omega

set_option maxHeartbeats 1000000 in
theorem short_any (n k : Nat) (h : n < 18446744073709551616) (k1 : 1 ≤ k) (k2 : k ≤ 64) (w : World) : Calls Tryd.prog 51 #[.int .u64 n, .int .i64 k] w fun e w' => e = .returned (.int .u64 (rnd n k)) ∧ ∃ d, w' = w.drewN d := by
  obtain ⟨f1, f2, f3, f4⟩ := shift_facts n k h k1 k2
  have hf : rnd n k = rndq (n / 2 ^ k) (n % 2 ^ k) (2 ^ (k - 1)) := rfl
  generalize n / 2 ^ k = q at *
  generalize n % 2 ^ k = r at *
  generalize 2 ^ (k - 1) = p at *
  have hc : decide ((k : Int) ≤ 0) = false := by simp; omega
  have HF := Lib.hid hf
  clear hf
  go_enter Tryd.func51, Tryd.ntmps51
  go_wp2_with (fail)
  go_quiet (fail)
  go_wp2
  all_goals
    go_ret
    simp only [beq_iff_eq, beq_eq_false_iff_ne] at *
    refine ⟨ret_u ?_, _, rfl⟩
    rw [HF.out]
    unfold rndq
    split <;> omega
set_option maxHeartbeats 1000000 in
theorem nshort_any (n k : Nat) (h : n < 9223372036854775808) (k1 : 1 ≤ k) (k2 : k ≤ 64) (w : World) : Calls Tryd.prog 52 #[.int .u64 n, .int .i64 k] w fun e w' => e = .returned (.int .i64 (rnd n k)) ∧ ∃ d, w' = w.drewN d := by
  obtain ⟨f1, f2, f3, f4⟩ := shift_facts n k (by omega) k1 k2
  have f5 : n / 2 ^ k ≤ 4611686018427387904 := by
    have e6 : n / 2 ^ k ≤ n / 2 := by
      apply Nat.div_le_div_left _ (by decide)
      have := pow_mono k1
      omega
    omega
  have hf : rnd n k = rndq (n / 2 ^ k) (n % 2 ^ k) (2 ^ (k - 1)) := rfl
  generalize n / 2 ^ k = q at *
  generalize n % 2 ^ k = r at *
  generalize 2 ^ (k - 1) = p at *
  have HF := Lib.hid hf
  clear hf
  go_enter Tryd.func52, Tryd.ntmps52
  go_wp2_with (fail)
  go_quiet (fail)
  go_wp2
  all_goals
    go_ret
    simp only [beq_iff_eq, beq_eq_false_iff_ne] at *
    refine ⟨ret_i ?_, _, rfl⟩
    rw [HF.out]
    unfold rndq
    split <;> omega

theorem quo_facts (n k : Nat) (k2 : k ≤ 63) : (n : Int) / 2 ^ k = (n / 2 ^ k : Nat) ∧ IntKind.u64.wrap ((2 : Int) ^ k) = (2 ^ k : Nat) ∧ 1 ≤ 2 ^ k := by
  have e4 : ((2 : Int) ^ k) = ((2 ^ k : Nat) : Int) := by rw [Int.natCast_pow]; rfl
  have e5 : 2 ^ k ≤ 2 ^ 63 := pow_mono k2
  refine ⟨by rw [Int.natCast_ediv, Int.natCast_pow]; rfl, ?_, Nat.two_pow_pos _⟩
  rw [e4, IntKind.wrap_u64]
  generalize 2 ^ k = P at *
  clear e4
  omega
set_option maxHeartbeats 1000000 in
theorem round_any (n k : Nat) (h : n < 18446744073709551616) (k1 : 1 ≤ k) (k2 : k ≤ 64) (w : World) : Calls Tryd.prog 46 #[.int .u64 n, .int .i64 k] w fun e w' => e = .returned (.int .u64 (rnd n k)) ∧ ∃ d, w' = w.drewN d := by
  obtain ⟨f1, f2, f3, f4⟩ := shift_facts n k h k1 k2
  have hf : rnd n k = rndq (n / 2 ^ k) (n % 2 ^ k) (2 ^ (k - 1)) := rfl
  by_cases hk : k = 64
  · subst hk
    have e1 : n / 2 ^ 64 = 0 := by omega
    have e2 : n % 2 ^ 64 = n := by omega
    rw [e1, e2] at hf
    have f3' : IntKind.u64.wrap (9223372036854775808 : Int) = (2 ^ 63 : Nat) := by rw [IntKind.wrap_u64]; decide
    have HF := Lib.hid hf
    clear hf f1 f2 f3 f4 e1 e2
    go_enter Tryd.func46, Tryd.ntmps46
    go_wp2
    all_goals
      go_ret
      refine ⟨ret_u ?_, 0, rfl⟩
      rw [HF.out]
      unfold rndq
      split <;> omega
  · have g2 := (quo_facts n k (by omega)).2.1
    have g3 := (quo_facts n k (by omega)).2.2
    have g4 : (n : Int) % ((2 ^ k : Nat) : Int) = ((n % 2 ^ k : Nat) : Int) := (Int.natCast_emod _ _).symm
    have hc : decide ((k : Int) < 64) = true := by simp; omega
    generalize n / 2 ^ k = q at *
    generalize n % 2 ^ k = r at *
    generalize 2 ^ (k - 1) = p at *
    generalize 2 ^ k = P at *
    have HF := Lib.hid hf
    clear hf
    go_enter Tryd.func46, Tryd.ntmps46
    go_wp2_with (fail)
    go_quiet (fail)
    go_wp2
    all_goals
      go_ret
      simp only [beq_iff_eq, beq_eq_false_iff_ne] at *
      refine ⟨ret_u ?_, _, rfl⟩
      rw [HF.out]
      unfold rndq
      split <;> omega
end Go.Proofs.YtdnifilmckialaaDoor
