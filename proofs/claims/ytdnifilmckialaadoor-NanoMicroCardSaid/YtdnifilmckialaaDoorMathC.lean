/- Plain mathematics: rounding to the nearest whole number, of two the even one; the bits of the float next to n * 2^e. -/
import Derived.Test.YtdnifilmckialaaDoorMathB
import Derived.Lib.ItoaNum
namespace Go.Proofs.YtdnifilmckialaaDoor

/-- Rounded, out of a quotient, a rest and the half. -/
def rndq (q r hf : Nat) : Nat := if hf < r ∨ (r = hf ∧ q % 2 = 1) then q + 1 else q
/-- n / 2^k, rounded. -/
def rnd (n k : Nat) : Nat := rndq (n / 2 ^ k) (n % 2 ^ k) (2 ^ (k - 1))

theorem rndq_le (q r hf : Nat) : q ≤ rndq q r hf ∧ rndq q r hf ≤ q + 1 := by
  unfold rndq
  split <;> omega

/-- The power of the last bit. -/
def lastp (n : Nat) (e : Int) : Int := max (e + Lib.bitLen n - 53) (-1074)
/-- What is kept of the number. -/
def kept (n : Nat) (e : Int) : Nat := if lastp n e ≤ e then n * 2 ^ (e - lastp n e).toNat else rnd n (lastp n e - e).toNat
def infB : Nat := 9218868437227405312
/-- The bits of the float that is nearest to n * 2^e. -/
def mkBits (n : Nat) (e : Int) : Nat :=
  if n = 0 ∨ e < -1138 then 0 else if 1023 < e then infB else min ((lastp n e + 1074).toNat * 4503599627370496 + kept n e) infB

theorem bitLen_bd (n : Nat) (h0 : n ≠ 0) (h : n < 18446744073709551616) : 1 ≤ Lib.bitLen n ∧ Lib.bitLen n ≤ 64 ∧ 2 ^ (Lib.bitLen n - 1) ≤ n ∧ n < 2 ^ Lib.bitLen n := by
  obtain ⟨a, b, c⟩ := Lib.bitLenAux_bounds 64 n h h0
  have d := Lib.bitLen_le n 64 (by omega) h
  exact ⟨a, d, b, c⟩

theorem pow_mono {a b : Nat} (h : a ≤ b) : 2 ^ a ≤ 2 ^ b := Nat.pow_le_pow_right (by decide) h

theorem kept_le (n : Nat) (e : Int) (h0 : n ≠ 0) (h : n < 18446744073709551616) : kept n e ≤ 9007199254740992 := by
  obtain ⟨l1, l2, l3, l4⟩ := bitLen_bd n h0 h
  unfold kept
  split
  · rename_i hle
    have hl : e + Lib.bitLen n - 53 ≤ lastp n e := by unfold lastp; omega
    have e1 : n * 2 ^ (e - lastp n e).toNat < 2 ^ Lib.bitLen n * 2 ^ (e - lastp n e).toNat := Nat.mul_lt_mul_of_pos_right l4 (Nat.two_pow_pos _)
    rw [← Nat.pow_add] at e1
    have e2 : 2 ^ (Lib.bitLen n + (e - lastp n e).toNat) ≤ 2 ^ 53 := pow_mono (by omega)
    omega
  · rename_i hle
    have hl : e + Lib.bitLen n - 53 ≤ lastp n e := by unfold lastp; omega
    have e1 := (rndq_le (n / 2 ^ (lastp n e - e).toNat) (n % 2 ^ (lastp n e - e).toNat) (2 ^ ((lastp n e - e).toNat - 1))).2
    have e2 : n / 2 ^ (lastp n e - e).toNat < 2 ^ 53 := by
      rw [Nat.div_lt_iff_lt_mul (Nat.two_pow_pos _), ← Nat.pow_add]
      have := pow_mono (a := Lib.bitLen n) (b := 53 + (lastp n e - e).toNat) (by omega)
      omega
    unfold rnd
    omega

theorem kept_ge (n : Nat) (e : Int) (h0 : n ≠ 0) (h : n < 18446744073709551616) (hl : -1074 < lastp n e) : 4503599627370496 ≤ kept n e := by
  obtain ⟨l1, l2, l3, l4⟩ := bitLen_bd n h0 h
  have hla : lastp n e = e + Lib.bitLen n - 53 := by unfold lastp at hl ⊢; omega
  unfold kept
  split
  · rename_i hle
    have e1 : 2 ^ (Lib.bitLen n - 1) * 2 ^ (e - lastp n e).toNat ≤ n * 2 ^ (e - lastp n e).toNat := Nat.mul_le_mul_right _ l3
    rw [← Nat.pow_add] at e1
    have e2 : 2 ^ 52 ≤ 2 ^ (Lib.bitLen n - 1 + (e - lastp n e).toNat) := pow_mono (by omega)
    omega
  · rename_i hle
    have e1 := (rndq_le (n / 2 ^ (lastp n e - e).toNat) (n % 2 ^ (lastp n e - e).toNat) (2 ^ ((lastp n e - e).toNat - 1))).1
    have e2 : 2 ^ 52 ≤ n / 2 ^ (lastp n e - e).toNat := by
      rw [Nat.le_div_iff_mul_le (Nat.two_pow_pos _), ← Nat.pow_add]
      have := pow_mono (a := 52 + (lastp n e - e).toNat) (b := Lib.bitLen n - 1) (by omega)
      omega
    unfold rnd
    omega

theorem mkBits_le (n : Nat) (e : Int) : mkBits n e ≤ 9218868437227405312 := by
  unfold mkBits infB
  (repeat' split) <;> omega
theorem mkBits_none (n : Nat) (e : Int) (h : n = 0 ∨ e < -1138) : mkBits n e = 0 := by unfold mkBits; rw [if_pos h]
theorem mkBits_far (n : Nat) (e : Int) (h : n ≠ 0) (he : 1023 < e) : mkBits n e = 9218868437227405312 := by
  unfold mkBits
  rw [if_neg (by omega), if_pos he]
  rfl
theorem mkBits_mid (n : Nat) (e : Int) (h : n ≠ 0) (h1 : -1138 ≤ e) (h2 : e ≤ 1023) : mkBits n e = min ((lastp n e + 1074).toNat * 4503599627370496 + kept n e) 9218868437227405312 := by
  unfold mkBits
  rw [if_neg (by omega), if_neg (by omega)]
  rfl
theorem mkBits_inf (n : Nat) (e : Int) (h0 : n ≠ 0) (h : n < 18446744073709551616) (he : 1024 < e + Lib.bitLen n) : mkBits n e = 9218868437227405312 := by
  obtain ⟨l1, l2, l3, l4⟩ := bitLen_bd n h0 h
  by_cases hf : 1023 < e
  · exact mkBits_far n e h0 hf
  · have hla : lastp n e = e + Lib.bitLen n - 53 := by unfold lastp; omega
    have := kept_ge n e h0 h (by omega)
    rw [mkBits_mid n e h0 (by omega) (by omega)]
    omega
/-- Below 2^52: the power is the least one. -/
theorem mkBits_low (n : Nat) (e : Int) (h0 : n ≠ 0) (h : n < 18446744073709551616) (h1 : -1138 ≤ e) (he : e + Lib.bitLen n ≤ 1024) (hk : kept n e < 4503599627370496) : mkBits n e = kept n e := by
  obtain ⟨l1, l2, l3, l4⟩ := bitLen_bd n h0 h
  have hla : lastp n e = -1074 := by
    by_cases hh : -1074 < lastp n e
    · have := kept_ge n e h0 h hh
      omega
    · unfold lastp at hh ⊢; omega
  rw [mkBits_mid n e h0 h1 (by omega), hla]
  omega
theorem mkBits_full (n : Nat) (e : Int) (h0 : n ≠ 0) (h : n < 18446744073709551616) (h1 : -1138 ≤ e) (he : e + Lib.bitLen n ≤ 1024) : lastp n e ≤ 971 ∧ (lastp n e + 1074).toNat * 4503599627370496 + kept n e ≤ 9218868437227405312 ∧ mkBits n e = (lastp n e + 1074).toNat * 4503599627370496 + kept n e := by
  obtain ⟨l1, l2, l3, l4⟩ := bitLen_bd n h0 h
  have hk := kept_le n e h0 h
  have hla : lastp n e ≤ 971 := by unfold lastp; omega
  have hb : (lastp n e + 1074).toNat * 4503599627370496 + kept n e ≤ 9218868437227405312 := by omega
  refine ⟨hla, hb, ?_⟩
  rw [mkBits_mid n e h0 h1 (by omega)]
  omega
end Go.Proofs.YtdnifilmckialaaDoor
