/- Of its parts a float is made again. -/
import Derived.Test.YtdnifilmckialaaDoorMathB
import Derived.Test.YtdnifilmckialaaDoorWD
namespace Go.Proofs.YtdnifilmckialaaDoor

theorem odd_bits (b : Nat) (h : 4 ≤ cls b) : Lib.bitLen (odd b) + tzs b ≤ 53 ∧ (4503599627370496 ≤ man b → Lib.bitLen (odd b) + tzs b = 53) ∧ 1 ≤ Lib.bitLen (odd b) := by
  obtain ⟨h1, h2, h3, h4, h5⟩ := man_odd b h
  obtain ⟨_, hm⟩ := man_bd b h
  obtain ⟨k1, k2, k3, k4⟩ := bitLen_bd (odd b) (by omega) (by omega)
  have e1 : 2 ^ (Lib.bitLen (odd b) - 1 + tzs b) ≤ man b := by
    rw [h1, Nat.pow_add]
    exact Nat.mul_le_mul_right _ k3
  have e2 : man b < 2 ^ (Lib.bitLen (odd b) + tzs b) := by
    rw [h1, Nat.pow_add]
    exact Nat.mul_lt_mul_of_pos_right k4 (Nat.two_pow_pos _)
  have e3 : Lib.bitLen (odd b) - 1 + tzs b < 53 := by
    apply Nat.lt_of_not_le
    intro hh
    have := pow_mono hh
    have : (2 : Nat) ^ 53 = 9007199254740992 := by decide
    omega
  refine ⟨by omega, fun hg => ?_, k1⟩
  have e4 : 52 < Lib.bitLen (odd b) + tzs b := by
    apply Nat.lt_of_not_le
    intro hh
    have := pow_mono hh
    have : (2 : Nat) ^ 52 = 4503599627370496 := by decide
    omega
  omega
theorem mk_size (b : Nat) (h : 4 ≤ cls b) : mkBits (odd b) (pe b) = b % 9223372036854775808 := by
  obtain ⟨h1, h2, h3, h4, h5⟩ := man_odd b h
  obtain ⟨g1, g2, g3⟩ := odd_bits b h
  obtain ⟨x1, x2⟩ := exq_bd b
  have hpe : pe b = exq b + tzs b := by unfold pe; rw [if_neg (by omega)]
  have hr := cls_range b
  have hl : lastp (odd b) (pe b) = exq b := by
    unfold lastp
    rw [hpe]
    by_cases c5 : cls b = 5
    · have hm : 4503599627370496 ≤ man b := by unfold man; rw [if_pos c5]; omega
      have := g2 hm
      omega
    · have : exq b = -1074 := by unfold exq; rw [if_neg c5]
      omega
  have hk : kept (odd b) (pe b) = man b := by
    unfold kept
    rw [hl, if_pos (by omega), hpe, show (exq b + (tzs b : Int) - exq b).toNat = tzs b by omega]
    exact h1.symm
  rw [mkBits_mid _ _ (by omega) (by omega) (by omega), hl, hk]
  by_cases c5 : cls b = 5
  · have e1 : man b = b % 4503599627370496 + 4503599627370496 := by unfold man; rw [if_pos c5]
    have e2 : exq b = (b : Int) / 4503599627370496 % 2048 - 1075 := by unfold exq; rw [if_pos c5]
    rw [cls_5] at c5
    have f1 : b % 9223372036854775808 = b / 4503599627370496 % 2048 * 4503599627370496 + b % 4503599627370496 := by omega
    have f2 : exq b = ((b / 4503599627370496 % 2048 : Nat) : Int) - 1075 := by omega
    have f3 : b % 4503599627370496 < 4503599627370496 := Nat.mod_lt _ (by decide)
    rw [f1] at c5 ⊢
    rw [e1, f2]
    clear hk hl e1 e2 f1 f2 h1 h2 h3 h4 h5 g1 g2 g3 x1 x2 hpe hr h
    generalize b / 4503599627370496 % 2048 = E at *
    generalize b % 4503599627370496 = F at *
    have f4 : ((E : Int) - 1075 + 1074).toNat = E - 1 := by omega
    rw [f4]
    have f5 : 1 ≤ E := by omega
    have f6 : E ≤ 2046 := by omega
    rw [Nat.min_eq_left (by omega)]
    omega
  · have e1 : man b = b % 4503599627370496 := by unfold man; rw [if_neg c5]
    have e2 : exq b = -1074 := by unfold exq; rw [if_neg c5]
    have c4 : cls b = 4 := by omega
    rw [cls_4] at c4
    rw [e1, e2, show ((-1074 : Int) + 1074).toNat = 0 from rfl, Nat.zero_mul, Nat.zero_add]
    clear hk hl e1 e2 h1 h2 h3 h4 h5 g1 g2 g3 x1 x2 hpe hr h
    have f1 : b % 4503599627370496 = b % 9223372036854775808 := by omega
    rw [f1, Nat.min_eq_left (by omega)]
theorem mk_parts (b : Nat) (hb : b < 18446744073709551616) (h : 4 ≤ cls b) : mk (pm b) (pe b) = b := by
  have hs := mk_size b h
  obtain ⟨h1, h2, h3, h4, h5⟩ := man_odd b h
  unfold mk pm
  rw [if_neg (by omega)]
  have c1 : cls b ≠ 1 := by omega
  by_cases hn : 9223372036854775808 ≤ b
  · have : mns b = true := by simp [mns, hn, c1]
    rw [if_pos this, show (-(odd b : Int)).natAbs = odd b by omega, hs]
    unfold sgn
    rw [if_pos (by omega)]
    omega
  · have : mns b = false := by simp [mns, hn]
    rw [if_neg (by simp [this]), show ((odd b : Int)).natAbs = odd b by omega, hs]
    unfold sgn
    rw [if_neg (by omega)]
    omega
end Go.Proofs.YtdnifilmckialaaDoor
