/- Plain mathematics: the odd part of a whole number and its power of 2. -/
import Derived.Test.YtdnifilmckialaaDoorMath
import Derived.Below
namespace Go.Proofs.YtdnifilmckialaaDoor

theorem ctzFrom_mul : ∀ (f k m : Nat), m % 2 = 1 → k < f → Lib.ctzFrom f (m * 2 ^ k) = k
  | 0, k, m, _, h => by omega
  | f + 1, 0, m, hm, _ => by simp [Lib.ctzFrom, hm]
  | f + 1, k + 1, m, hm, h => by
    have e : m * 2 ^ (k + 1) = 2 * (m * 2 ^ k) := by rw [Nat.pow_succ, Nat.mul_comm (2 ^ k) 2, Nat.mul_left_comm]
    unfold Lib.ctzFrom
    rw [e, if_neg (by omega), Nat.mul_div_cancel_left _ (by decide), ctzFrom_mul f k m hm (by omega)]
    omega

theorem ctz_mul (k m : Nat) (hm : m % 2 = 1) (hk : k < 64) : Lib.ctz 64 (m * 2 ^ k) = k := by
  have h0 : m * 2 ^ k ≠ 0 := by
    have := Nat.two_pow_pos k
    have h1 : 0 < m * 2 ^ k := Nat.mul_pos (by omega) this
    omega
  unfold Lib.ctz
  rw [if_neg h0]
  exact ctzFrom_mul 64 k m hm hk

/-- The mantissa, the power of its last bit. -/
def man (b : Nat) : Nat := if cls b = 5 then b % 4503599627370496 + 4503599627370496 else b % 4503599627370496
def exq (b : Nat) : Int := if cls b = 5 then (b : Int) / 4503599627370496 % 2048 - 1075 else -1074
def tzs (b : Nat) : Nat := Lib.ctz 64 (man b)
def odd (b : Nat) : Nat := man b / 2 ^ tzs b
/-- The parts. -/
def pm (b : Nat) : Int := if cls b < 4 then 0 else if mns b then -(odd b : Int) else odd b
def pe (b : Nat) : Int := if cls b < 4 then 0 else exq b + tzs b

theorem man_bd (b : Nat) (h : 4 ≤ cls b) : 0 < man b ∧ man b < 9007199254740992 := by
  unfold man
  split
  · omega
  · have : cls b = 4 := by have := cls_range b; omega
    rw [cls_4] at this
    omega
theorem exq_bd (b : Nat) : -1074 ≤ exq b ∧ exq b ≤ 971 := by
  unfold exq
  split
  · rename_i h
    rw [cls_5] at h
    omega
  · omega
/-- The mantissa is its odd part with the power of 2 that is taken out. -/
theorem man_odd (b : Nat) (h : 4 ≤ cls b) : man b = odd b * 2 ^ tzs b ∧ odd b % 2 = 1 ∧ tzs b ≤ 52 ∧ 0 < odd b ∧ odd b < 9007199254740992 := by
  obtain ⟨h0, h1⟩ := man_bd b h
  obtain ⟨m, hm, _⟩ := Lib.ctzFrom_spec 64 (man b) h0 (by omega)
  have e : tzs b = Lib.ctzFrom 64 (man b) := by unfold tzs Lib.ctz; rw [if_neg (by omega)]
  rw [← e] at hm
  have e2 : odd b = 2 * m + 1 := by unfold odd; rw [hm, Nat.mul_comm, Nat.mul_div_cancel _ (Nat.two_pow_pos _)]
  have e3 : man b = odd b * 2 ^ tzs b := by rw [e2, hm, Nat.mul_comm]
  have hle : 2 ^ tzs b ≤ man b := by rw [e3]; exact Nat.le_mul_of_pos_left _ (by omega)
  have hlt : tzs b < 53 := by
    apply Nat.lt_of_not_le
    intro hh
    have : 2 ^ 53 ≤ 2 ^ tzs b := Nat.pow_le_pow_right (by decide) hh
    omega
  have h4 : odd b ≤ man b := by rw [e3]; exact Nat.le_mul_of_pos_right _ (Nat.two_pow_pos _)
  exact ⟨e3, by omega, by omega, by omega, by omega⟩
/-- What a loop that halves comes to. -/
theorem odd_of (b k m : Nat) (h : 4 ≤ cls b) (e : man b = m * 2 ^ k) (hm : m % 2 = 1) : tzs b = k ∧ odd b = m := by
  obtain ⟨_, h1⟩ := man_bd b h
  have hk : k < 64 := by
    apply Nat.lt_of_not_le
    intro hh
    have : 2 ^ 64 ≤ 2 ^ k := Nat.pow_le_pow_right (by decide) hh
    have h3 : 2 ^ k ≤ m * 2 ^ k := Nat.le_mul_of_pos_left _ (by omega)
    omega
  have e1 : tzs b = k := by unfold tzs; rw [e]; exact ctz_mul k m hm hk
  refine ⟨e1, ?_⟩
  unfold odd
  rw [e1, e, Nat.mul_div_cancel _ (Nat.two_pow_pos _)]
theorem half_step (M k m : Nat) (h0 : 0 < M) (hM : M < 9007199254740992) (e : M = m * 2 ^ k) (hm : m % 2 = 0) : M = m / 2 * 2 ^ (k + 1) ∧ k + 1 ≤ 52 ∧ m / 2 < m := by
  have hm0 : m ≠ 0 := by intro h; subst h; simp at e; omega
  have e2 : m = 2 * (m / 2) := by omega
  have e3 : M = m / 2 * 2 ^ (k + 1) := by rw [Nat.pow_succ, Nat.mul_comm (2 ^ k) 2, Nat.mul_left_comm, ← Nat.mul_assoc, ← e2]; exact e
  refine ⟨e3, ?_, by omega⟩
  apply Nat.le_of_not_lt
  intro hh
  have : 2 ^ 53 ≤ 2 ^ (k + 1) := Nat.pow_le_pow_right (by decide) (by omega)
  have h3 : 2 ^ (k + 1) ≤ m / 2 * 2 ^ (k + 1) := Nat.le_mul_of_pos_left _ (by omega)
  omega
end Go.Proofs.YtdnifilmckialaaDoor
