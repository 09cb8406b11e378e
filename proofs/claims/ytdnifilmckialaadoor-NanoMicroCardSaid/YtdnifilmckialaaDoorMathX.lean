/- Plain mathematics: a whole number of nanolitres divided by 1000, to the nearest float. -/
import Derived.Test.YtdnifilmckialaaDoorMathG
import Derived.Test.YtdnifilmckialaaDoorWD
import Derived.Laws.FloatArith
namespace Go.Proofs.YtdnifilmckialaaDoor
open Ieee

/-- a / b, rounded to the nearest whole number, of two the even one. -/
def rne (a b : Nat) : Nat := if b < 2 * (a % b) ∨ (2 * (a % b) = b ∧ a / b % 2 = 1) then a / b + 1 else a / b
theorem rne_mul (a b c : Nat) (hc : 0 < c) : rne (a * c) (b * c) = rne a b := by
  have e1 : a * c / (b * c) = a / b := Nat.mul_div_mul_right _ _ hc
  have e2 : a * c % (b * c) = a % b * c := Nat.mul_mod_mul_right _ _ _
  unfold rne
  rw [e1, e2, ← Nat.mul_assoc]
  have c1 : (b * c < 2 * (a % b) * c) ↔ (b < 2 * (a % b)) := Nat.mul_lt_mul_right hc
  have c2 : (2 * (a % b) * c = b * c) ↔ (2 * (a % b) = b) := Nat.mul_right_cancel_iff hc
  simp only [c1, c2]
theorem rne_near (a : Nat) : 2 * (rne a 1000 * 1000) ≤ 2 * a + 1000 ∧ 2 * a ≤ 2 * (rne a 1000 * 1000) + 1000 := by
  unfold rne
  split <;> omega
/-- The reference's rounding, by its last digit. -/
theorem rne_last (a : Nat) : (if 2 * a / 1000 % 2 = 1 ∧ (0 < 2 * a % 1000 ∨ 2 * a / 1000 / 2 % 2 = 1) then 2 * a / 1000 / 2 + 1 else 2 * a / 1000 / 2) = rne a 1000 := by
  unfold rne
  split <;> split <;> omega
/-- The model's rounding. -/
theorem cut_at (neg : Bool) (n d : Nat) (h : d ≤ n.log2 + 2) : Toward.even.cut neg n d = if 2 ^ d < 2 * (n % 2 ^ d) ∨ (2 ^ d = 2 * (n % 2 ^ d) ∧ n / 2 ^ d % 2 = 1) then n / 2 ^ d + 1 else n / 2 ^ d := by
  unfold Toward.cut
  simp only [Nat.min_eq_left h, Nat.shiftLeft_eq, Nat.one_mul]
  generalize n % 2 ^ d = r
  generalize n / 2 ^ d = q
  generalize 2 ^ d = g
  by_cases c : g < 2 * r ∨ (g = 2 * r ∧ q % 2 = 1)
  · rw [if_pos c]
    have : (decide (g < 2 * r) || g == 2 * r && q % 2 == 1) = true := by simpa using c
    rw [this]
    rfl
  · rw [if_neg c]
    have : (decide (g < 2 * r) || g == 2 * r && q % 2 == 1) = false := by
      rw [← Bool.not_eq_true]
      simpa using c
    rw [this]
    rfl
/-- By two digits more, by three. -/
theorem cut_2 (X n s : Nat) (neg : Bool) (hn : n = 2 * (X / 1000) + s) (hs : (X % 1000 = 0 ∧ s = 0) ∨ (X % 1000 ≠ 0 ∧ s = 1)) : Toward.even.cut neg n 2 = rne X 2000 := by
  rw [cut_at neg n 2 (by omega)]
  unfold rne
  simp only [show (2 : Nat) ^ 2 = 4 from rfl]
  split <;> split <;> omega
theorem cut_3 (X n s : Nat) (neg : Bool) (hl : 1 ≤ n.log2) (hn : n = 2 * (X / 1000) + s) (hs : (X % 1000 = 0 ∧ s = 0) ∨ (X % 1000 ≠ 0 ∧ s = 1)) : Toward.even.cut neg n 3 = rne X 4000 := by
  rw [cut_at neg n 3 (by omega)]
  unfold rne
  simp only [show (2 : Nat) ^ 3 = 8 from rfl]
  split <;> split <;> omega
theorem log2_eq (n k : Nat) (h1 : 2 ^ k ≤ n) (h2 : n < 2 ^ (k + 1)) : n.log2 = k := by
  have hn : n ≠ 0 := by have := Nat.two_pow_pos k; omega
  have a := (Nat.le_log2 hn).2 h1
  have b := (Nat.log2_lt hn).2 h2
  omega
theorem read_word (neg : Bool) (E F : Nat) (h1 : 1 ≤ E) (h2 : E ≤ 2046) (hF : F < 4503599627370496) : double.read (double.word neg (E * 4503599627370496 + F)) = .number neg (4503599627370496 + F) ((E : Int) - 1075) := by
  have hr : E * 4503599627370496 + F < 9223372036854775808 := by omega
  have e1 : (double.word neg (E * 4503599627370496 + F) / 9223372036854775808 % 2 == 1) = neg := by
    unfold Format.word
    rw [sw]
    cases neg
    · simp only [Bool.false_eq_true, if_false, beq_eq_false_iff_ne]
      omega
    · simp only [if_true, beq_iff_eq]
      omega
  have e2 : double.word neg (E * 4503599627370496 + F) % 9223372036854775808 = E * 4503599627370496 + F := by
    unfold Format.word
    rw [sw]
    cases neg
    · simp only [Bool.false_eq_true, if_false]
      omega
    · simp only [if_true]
      omega
  unfold Format.read
  simp only [sw, bn, ir, lp]
  rw [e1, e2, if_neg (by omega), if_pos (by omega)]
  have e3 : (E * 4503599627370496 + F) % 4503599627370496 = F := by omega
  have e4 : (E * 4503599627370496 + F) / 4503599627370496 = E := by omega
  rw [e3, e4]
  congr 1
  omega
theorem cut_0 (neg : Bool) (n : Nat) : Toward.even.cut neg n 0 = n := by
  rw [cut_at neg n 0 (by omega)]
  simp [Nat.mod_one]
theorem rung_sum (L M : Nat) (h : L ≤ 52) (m1 : 4503599627370496 ≤ M) (m2 : M < 9007199254740992) : min ((L + 1022) * 4503599627370496 + M) 9218868437227405312 = (L + 1023) * 4503599627370496 + (M - 4503599627370496) := by
  rw [Nat.min_eq_left (by omega)]
  omega
theorem fb : double.fractionBits = 52 := rfl
/-- A whole number of at most 2^53 as a float, read again. -/
theorem read_whole (S : Nat) (h0 : 1 ≤ S) (h : S ≤ 9007199254740992) (neg : Bool) : ∃ (M K : Nat), double.read (double.nearest neg S 0) = .number neg M (11 - (K : Int)) ∧ 4503599627370496 ≤ M ∧ M < 9007199254740992 ∧ 10 ≤ K ∧ K ≤ 63 ∧ M * 2 ^ 11 = S * 2 ^ K := by
  by_cases hS : S = 9007199254740992
  · subst hS
    refine ⟨4503599627370496, 10, ?_, by omega, by omega, by omega, by omega, by decide +kernel⟩
    cases neg <;> decide +kernel
  · obtain ⟨L, hL⟩ : ∃ L, S.log2 = L := ⟨_, rfl⟩
    have b1 : 2 ^ L ≤ S := by rw [← hL]; exact Nat.log2_self_le (by omega)
    have b2 : S < 2 ^ (L + 1) := by rw [← hL]; exact Nat.lt_log2_self
    have b3 : L ≤ 52 := by
      apply Nat.le_of_not_lt
      intro hh
      have := pow_mono (a := 53) (b := L) (by omega)
      omega
    have m1 : 4503599627370496 ≤ S * 2 ^ (52 - L) := by
      have := Nat.mul_le_mul_right (2 ^ (52 - L)) b1
      rw [← Nat.pow_add, show L + (52 - L) = 52 by omega] at this
      exact this
    have m2 : S * 2 ^ (52 - L) < 9007199254740992 := by
      have := Nat.mul_lt_mul_of_pos_right b2 (Nat.two_pow_pos (52 - L))
      rw [← Nat.pow_add, show L + 1 + (52 - L) = 53 by omega] at this
      exact this
    have m3 : S * 2 ^ (52 - L) * 2 ^ 11 = S * 2 ^ (63 - L) := by
      rw [Nat.mul_assoc, ← Nat.pow_add, show 52 - L + 11 = 63 - L by omega]
    refine ⟨S * 2 ^ (52 - L), 63 - L, ?_, m1, m2, by omega, by omega, m3⟩
    have e : double.nearest neg S 0 = double.word neg ((L + 1023) * 4503599627370496 + (S * 2 ^ (52 - L) - 4503599627370496)) := by
      unfold Format.nearest
      rw [if_neg (by omega)]
      simp only [hL, fb, lp, bn, ir]
      have l1 : max (0 + (L : Int) - ((52 : Nat) : Int)) (-1074) = (L : Int) - 52 := by omega
      rw [l1]
      have l2 : (0 - ((L : Int) - 52)).toNat = 52 - L := by omega
      have l3 : ((L : Int) - 52 - 0).toNat = 0 := by omega
      have l4 : ((L : Int) - 52 - -1074).toNat = L + 1022 := by omega
      rw [l2, l3, l4, cut_0, Nat.shiftLeft_eq]
      rw [rung_sum L _ b3 m1 m2]
    rw [e, read_word neg (L + 1023) _ (by omega) (by omega) (by omega)]
    generalize S * 2 ^ (52 - L) = M at *
    have k1 : 4503599627370496 + (M - 4503599627370496) = M := by omega
    have k2 : ((L + 1023 : Nat) : Int) - 1075 = 11 - ((63 - L : Nat) : Int) := by omega
    rw [k1, k2]
end Go.Proofs.YtdnifilmckialaaDoor
