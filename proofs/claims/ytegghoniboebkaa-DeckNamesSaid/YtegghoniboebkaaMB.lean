/- The digits of a number, as plain mathematics. -/
import Derived.Test.YtegghoniboebkaaMA
namespace Go.Proofs.Ytegghoniboebkaa

/-- The sign of a digit. -/
def dg (k : Nat) : UInt8 := UInt8.ofNat (48 + k)
/-- The digits of a number, the greatest first. -/
def dig (n : Nat) : List UInt8 := if n < 10 then [dg n] else dig (n / 10) ++ [dg (n % 10)]
/-- The text of a number. -/
def txt (n : Int) : List UInt8 := if n < 0 then 45 :: dig n.natAbs else dig n.natAbs

theorem dg_toNat (k : Nat) (h : k < 10) : (dg k).toNat = 48 + k := by
  rw [dg, UInt8.toNat_ofNat']
  omega
theorem dig_small (n : Nat) (h : n < 10) : dig n = [dg n] := by rw [dig, if_pos h]
theorem dig_great (n : Nat) (h : ¬ n < 10) : dig n = dig (n / 10) ++ [dg (n % 10)] := by rw [dig, if_neg h]
theorem dig_len (j : Nat) : ∀ n : Nat, n < 10 ^ (j + 1) → (dig n).length ≤ j + 1 := by
  induction j with
  | zero => intro n h; rw [dig_small n (by simpa using h)]; simp
  | succ j ih =>
    intro n h
    by_cases h10 : n < 10
    · rw [dig_small n h10]; simp
    · rw [dig_great n h10, List.length_append]
      have := ih (n / 10) (by rw [Nat.pow_succ] at h; omega)
      simp only [List.length_cons, List.length_nil]
      omega
theorem dig_pos (n : Nat) : 1 ≤ (dig n).length := by
  by_cases h10 : n < 10
  · rw [dig_small n h10]; simp
  · rw [dig_great n h10, List.length_append]; simp
theorem dig_19 (n : Nat) (h : n ≤ 9223372036854775808) : (dig n).length ≤ 19 := dig_len 18 n (by omega)
theorem dig_20 (n : Nat) (h : n < 18446744073709551616) : (dig n).length ≤ 20 := dig_len 19 n (by omega)
end Go.Proofs.Ytegghoniboebkaa
