/- Plain mathematics of floats' bits, with no program in it: classes, signs, ranks, odd parts, rounding. -/
import Derived.Laws.BitsAllLaws
import Derived.Laws.Bits64
import Derived.Lib.TrailingZeros
import Derived.Lib.BitFns
import Ieee.Arith
namespace Go.Proofs.YtdnifilmckialaaDoor

/-- The class of a float's bits. -/
def cls (b : Nat) : Int :=
  if b / 4503599627370496 % 2048 = 2047 then (if b % 4503599627370496 = 0 then 2 else 1)
  else if b / 4503599627370496 % 2048 = 0 then (if b % 4503599627370496 = 0 then 3 else 4) else 5

/-- Has it a minus? -/
def mns (b : Nat) : Bool := decide (9223372036854775808 ≤ b) && cls b != 1

/-- The place in the order. -/
def rnk (b : Nat) : Nat :=
  if cls b = 1 then 18446744073709551615 else if 9223372036854775808 ≤ b then 18446744073709551615 - b else b + 9223372036854775808

theorem andNot_sign (b : Nat) (h : b < 18446744073709551616) : bits .andNot .u64 (b : Int) 9223372036854775808 = ((b % 9223372036854775808 : Nat) : Int) := by
  have e := u64_andNot_nat b 9223372036854775808 h (by omega)
  have e2 : b &&& (18446744073709551615 - 9223372036854775808) = b % 9223372036854775808 := Nat.and_two_pow_sub_one_eq_mod b 63
  rw [e2] at e
  exact e
theorem and_frac (b : Nat) (h : b < 18446744073709551616) : bits .and .u64 (b : Int) 4503599627370495 = ((b % 4503599627370496 : Nat) : Int) := by
  have e := u64_and_nat b 4503599627370495 h (by omega)
  have e2 : b &&& 4503599627370495 = b % 4503599627370496 := Nat.and_two_pow_sub_one_eq_mod b 52
  rw [e2] at e
  exact e
theorem and_exp (b : Nat) (h : b < 18446744073709551616) : bits .and .u64 (b : Int) 2047 = ((b % 2048 : Nat) : Int) := by
  have e := u64_and_nat b 2047 h (by omega)
  have e2 : b &&& 2047 = b % 2048 := Nat.and_two_pow_sub_one_eq_mod b 11
  rw [e2] at e
  exact e
theorem and_sign (b : Nat) (h : b < 18446744073709551616) : bits .and .u64 (b : Int) 9223372036854775808 = ((b / 9223372036854775808 * 9223372036854775808 : Nat) : Int) := by
  have e := u64_and_nat b 9223372036854775808 h (by omega)
  have e2 : b &&& 9223372036854775808 = b / 9223372036854775808 % 2 * 9223372036854775808 := nat_bit 63 b
  have e3 : b / 9223372036854775808 % 2 = b / 9223372036854775808 := by omega
  rw [e2, e3] at e
  exact e
theorem or_top (b : Nat) (h : b < 9223372036854775808) : bits .or .u64 (b : Int) 9223372036854775808 = ((b + 9223372036854775808 : Nat) : Int) := by
  have e := u64_or_nat b 9223372036854775808 (by omega) (by omega)
  have e2 : 9223372036854775808 ||| b = 9223372036854775808 + b := nat_join 63 9223372036854775808 b (by decide) h
  rw [Nat.or_comm, e2, Nat.add_comm] at e
  exact e
theorem top_or (b : Nat) (h : b < 9223372036854775808) : bits .or .u64 9223372036854775808 (b : Int) = ((b + 9223372036854775808 : Nat) : Int) := by
  have e := u64_or_nat 9223372036854775808 b (by omega) (by omega)
  have e2 : 9223372036854775808 ||| b = 9223372036854775808 + b := nat_join 63 9223372036854775808 b (by decide) h
  rw [e2, Nat.add_comm] at e
  exact e
theorem or_hidden (b : Nat) (h : b < 4503599627370496) : bits .or .u64 (b : Int) 4503599627370496 = ((b + 4503599627370496 : Nat) : Int) := by
  have e := u64_or_nat b 4503599627370496 (by omega) (by omega)
  have e2 : 4503599627370496 ||| b = 4503599627370496 + b := nat_join 52 4503599627370496 b (by decide) h
  rw [Nat.or_comm, e2, Nat.add_comm] at e
  exact e
theorem xor_all (b : Nat) (h : b < 18446744073709551616) : bits .xor .u64 18446744073709551615 (b : Int) = ((18446744073709551615 - b : Nat) : Int) := by
  show IntKind.u64.wrap ((BitVec.ofInt 64 (18446744073709551615 : Int) ^^^ BitVec.ofInt 64 (b : Int)).toNat : Int) = _
  have h1 : BitVec.ofInt 64 (18446744073709551615 : Int) = BitVec.allOnes 64 := by decide
  rw [h1, BitVec.allOnes_xor, BitVec.toNat_not, ofInt_u64 b h, IntKind.wrap_u64]
  omega

theorem cls_range (b : Nat) : 1 ≤ cls b ∧ cls b ≤ 5 := by unfold cls; (repeat' split) <;> omega
theorem cls_1 (b : Nat) : cls b = 1 ↔ 9218868437227405312 < b % 9223372036854775808 := by
  unfold cls; (repeat' split) <;> omega
theorem cls_2 (b : Nat) : cls b = 2 ↔ b % 9223372036854775808 = 9218868437227405312 := by
  unfold cls; (repeat' split) <;> omega
theorem cls_3 (b : Nat) : cls b = 3 ↔ b % 9223372036854775808 = 0 := by
  unfold cls; (repeat' split) <;> omega
theorem cls_4 (b : Nat) : cls b = 4 ↔ 0 < b % 9223372036854775808 ∧ b % 9223372036854775808 ≤ 4503599627370495 := by
  unfold cls; (repeat' split) <;> omega
theorem cls_5 (b : Nat) : cls b = 5 ↔ 4503599627370495 < b % 9223372036854775808 ∧ b % 9223372036854775808 < 9218868437227405312 := by
  unfold cls; (repeat' split) <;> omega
theorem ret_u {a b : Int} (h : a = b) : Ending.returned (.int .u64 a) = .returned (.int .u64 b) := by rw [h]
theorem ret_i {a b : Int} (h : a = b) : Ending.returned (.int .i64 a) = .returned (.int .i64 b) := by rw [h]
theorem ret_b {a b : Bool} (h : a = b) : Ending.returned (.bool a) = .returned (.bool b) := by rw [h]
theorem ret_f {a b : Nat} (h : a = b) : Ending.returned (.float .f64 a) = .returned (.float .f64 b) := by rw [h]

end Go.Proofs.YtdnifilmckialaaDoor
