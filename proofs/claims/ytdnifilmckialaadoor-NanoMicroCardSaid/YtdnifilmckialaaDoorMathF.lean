/- Plain mathematics: the volume of a float, and why it has none. -/
import Derived.Test.YtdnifilmckialaaDoorMathC
namespace Go.Proofs.YtdnifilmckialaaDoor

/-- The whole number next to p * 2^e; 2^40 + 1 for all that is above 2^40, where e is no minus. -/
def near (p : Nat) (e : Int) : Nat :=
  if e < -63 then 0 else if e < 0 then rnd p (-e).toNat else if 1099511627776 / 2 ^ e.toNat < p then 1099511627777 else p * 2 ^ e.toNat
def nanoOf (b : Nat) : Nat := near (odd b * 1000) (pe b)
/-- The error, the volume. -/
def ofE (b : Nat) : Int :=
  if cls b = 1 then 20 else if cls b = 2 then 21 else if cls b = 3 then 0 else if mns b = true then 22 else if 1099511627776 < nanoOf b then 4 else 0
def ofV (b : Nat) : Nat := if 4 ≤ cls b ∧ ofE b = 0 then nanoOf b else 0

theorem quo_lt (p k : Nat) : 1099511627776 / 2 ^ k < p ↔ 1099511627776 < p * 2 ^ k := by
  rw [Nat.div_lt_iff_lt_mul (Nat.two_pow_pos _)]
theorem near_neg (p : Nat) (e : Int) (h : e < 0) (hp : p < 9223372036854775808) : near p e ≤ 9223372036854775807 := by
  unfold near
  split
  · omega
  · have := (rndq_le (p / 2 ^ (-e).toNat) (p % 2 ^ (-e).toNat) (2 ^ ((-e).toNat - 1))).2
    have h6 : p / 2 ^ (-e).toNat ≤ p / 2 := by
      apply Nat.div_le_div_left _ (by decide)
      have := pow_mono (a := 1) (b := (-e).toNat) (by omega)
      omega
    unfold rnd
    omega
theorem near_far (p : Nat) (e : Int) (h : 0 ≤ e) : near p e ≤ 1099511627777 := by
  unfold near
  rw [if_neg (by omega), if_neg (by omega)]
  split
  · omega
  · rename_i hh
    rw [quo_lt] at hh
    omega
theorem near_lt (p : Nat) (e : Int) (hp : p < 9223372036854775808) : near p e ≤ 9223372036854775807 := by
  by_cases h : e < 0
  · exact near_neg p e h hp
  · have := near_far p e (by omega)
    omega
/-- At 2^-64 a number below 2^63 is less than a half. -/
theorem rnd_64 (p : Nat) (hp : p < 9223372036854775808) : rnd p 64 = 0 := by
  unfold rnd rndq
  have h1 : p / 2 ^ 64 = 0 := by omega
  have h2 : p % 2 ^ 64 = p := by omega
  have h3 : 2 ^ (64 - 1) = 9223372036854775808 := rfl
  rw [h1, h2, h3, if_neg (by omega)]
theorem near_rnd (p : Nat) (e : Int) (h : e < 0) (h1 : -64 ≤ e) (hp : p < 9223372036854775808) : rnd p (-e).toNat = near p e := by
  unfold near
  by_cases hh : e < -63
  · obtain rfl : e = -64 := by omega
    rw [if_pos hh]
    exact rnd_64 p hp
  · rw [if_neg hh, if_pos h]
/-- What the reference's doubling comes to. -/
theorem near_dbl (p i : Nat) (e : Int) (h : 0 ≤ e) (hi : (i : Int) ≤ e) (hd : (i : Int) = e ∨ 1099511627776 < p * 2 ^ i) : (1099511627776 < p * 2 ^ i ↔ 1099511627776 < near p e) ∧ (p * 2 ^ i ≤ 1099511627776 → near p e = p * 2 ^ i) := by
  have hk : ∃ k, e.toNat = i + k := ⟨e.toNat - i, by omega⟩
  obtain ⟨k, hk⟩ := hk
  have hm : p * 2 ^ i ≤ p * 2 ^ e.toNat := Nat.mul_le_mul_left _ (pow_mono (by omega))
  unfold near
  rw [if_neg (by omega), if_neg (by omega)]
  rcases hd with hd | hd
  · have e1 : e.toNat = i := by omega
    rw [e1]
    split
    · rename_i hh
      rw [quo_lt] at hh
      exact ⟨by omega, by omega⟩
    · rename_i hh
      rw [quo_lt] at hh
      exact ⟨by omega, by omega⟩
  · have hh : 1099511627776 / 2 ^ e.toNat < p := by rw [quo_lt]; omega
    rw [if_pos hh]
    exact ⟨by omega, by omega⟩
theorem dbl (p i : Nat) : p * 2 ^ (i + 1) = 2 * (p * 2 ^ i) := by rw [Nat.pow_succ, Nat.mul_comm (2 ^ i) 2, Nat.mul_left_comm]
end Go.Proofs.YtdnifilmckialaaDoor
