/- Plain mathematics: rounding keeps the order; the model's order of positive floats is that of their values. -/
import Derived.Test.YtdnifilmckialaaDoorMathF
import Ieee.Arith
namespace Go.Proofs.YtdnifilmckialaaDoor

theorem rnd_mul (n k j : Nat) (hk : 1 ≤ k) : rnd (n * 2 ^ j) (k + j) = rnd n k := by
  have hp := Nat.two_pow_pos j
  have e1 : n * 2 ^ j / 2 ^ (k + j) = n / 2 ^ k := by rw [Nat.pow_add, Nat.mul_div_mul_right _ _ hp]
  have e2 : n * 2 ^ j % 2 ^ (k + j) = n % 2 ^ k * 2 ^ j := by rw [Nat.pow_add, Nat.mul_mod_mul_right]
  have e3 : 2 ^ (k + j - 1) = 2 ^ (k - 1) * 2 ^ j := by rw [← Nat.pow_add]; congr 1; omega
  unfold rnd rndq
  rw [e1, e2, e3]
  have c1 : (2 ^ (k - 1) * 2 ^ j < n % 2 ^ k * 2 ^ j) ↔ (2 ^ (k - 1) < n % 2 ^ k) := Nat.mul_lt_mul_right hp
  have c2 : (n % 2 ^ k * 2 ^ j = 2 ^ (k - 1) * 2 ^ j) ↔ (n % 2 ^ k = 2 ^ (k - 1)) := Nat.mul_right_cancel_iff hp
  simp only [c1, c2]
theorem rnd_exact (n k : Nat) : rnd (n * 2 ^ k) k = n := by
  unfold rnd rndq
  rw [Nat.mul_div_cancel _ (Nat.two_pow_pos k), Nat.mul_mod_left]
  have := Nat.two_pow_pos (k - 1)
  rw [if_neg (by omega)]
theorem half_pow (k : Nat) (hk : 1 ≤ k) : 2 ^ k = 2 * 2 ^ (k - 1) := by
  obtain ⟨j, rfl⟩ : ∃ j, k = j + 1 := ⟨k - 1, by omega⟩
  rw [Nat.pow_succ, Nat.add_sub_cancel, Nat.mul_comm]
theorem rnd_mono (n m k : Nat) (h : n ≤ m) : rnd n k ≤ rnd m k := by
  have hq : n / 2 ^ k ≤ m / 2 ^ k := Nat.div_le_div_right h
  have d1 := Nat.div_add_mod n (2 ^ k)
  have d2 := Nat.div_add_mod m (2 ^ k)
  unfold rnd rndq
  by_cases he : n / 2 ^ k = m / 2 ^ k
  · rw [he] at d1 ⊢
    have hr : n % 2 ^ k ≤ m % 2 ^ k := by omega
    generalize n % 2 ^ k = r at *
    generalize m % 2 ^ k = s at *
    generalize m / 2 ^ k = q at *
    (repeat' split) <;> omega
  · (repeat' split) <;> omega

/-- A positive float's value, in units of 2^-1074. -/
def val (b : Nat) : Nat := man b * 2 ^ (exq b + 1074).toNat
theorem val_odd (b : Nat) (h : 4 ≤ cls b) : val b = odd b * 2 ^ (pe b + 1074).toNat := by
  have e := (man_odd b h).1
  have hx := exq_bd b
  have e2 : (pe b + 1074).toNat = tzs b + (exq b + 1074).toNat := by
    unfold pe
    rw [if_neg (by omega)]
    omega
  unfold val
  rw [e2, Nat.pow_add, ← Nat.mul_assoc, ← e]
theorem near_val (k : Nat) (hk : k = 1074) (p : Nat) (e : Int) (hp : p < 9223372036854775808) (he : -1074 ≤ e) (h : near p e ≤ 1099511627776) : near p e = rnd (p * 2 ^ (e + 1074).toNat) k := by
  by_cases h1 : e < 0
  · have e2 : k = (-e).toNat + (e + 1074).toNat := by omega
    have e3 : rnd (p * 2 ^ (e + 1074).toNat) k = rnd p (-e).toNat := by
      have := rnd_mul p (-e).toNat (e + 1074).toNat (by omega)
      rw [← e2] at this
      exact this
    rw [e3]
    by_cases h2 : -64 ≤ e
    · exact (near_rnd p e h1 h2 hp).symm
    · have e4 : near p e = 0 := by unfold near; rw [if_pos (by omega)]
      rw [e4]
      unfold rnd rndq
      have p1 := pow_mono (a := 64) (b := (-e).toNat) (by omega)
      have p2 := pow_mono (a := 63) (b := (-e).toNat - 1) (by omega)
      rw [Nat.div_eq_of_lt (by omega), Nat.mod_eq_of_lt (by omega), if_neg (by omega)]
  · have e2 : (e + 1074).toNat = e.toNat + k := by omega
    rw [e2, Nat.pow_add, ← Nat.mul_assoc, rnd_exact]
    unfold near at h ⊢
    rw [if_neg (by omega), if_neg h1] at h ⊢
    split at h
    · omega
    · rename_i hh
      rw [if_neg hh]
theorem ofE_p' (b : Nat) (h : 4 ≤ cls b) (hm : mns b = false) : ofE b = if 1099511627776 < nanoOf b then 4 else 0 := by unfold ofE; rw [if_neg (by omega), if_neg (by omega), if_neg (by omega), if_neg (by simp [hm])]
/-- The volume of a float that has one, out of its value. -/
theorem ofV_val (k : Nat) (hk : k = 1074) (b : Nat) (h : 4 ≤ cls b) (h0 : ofE b = 0) (hm : mns b = false) : ofV b = rnd (val b * 1000) k := by
  have he := ofE_p' b h hm
  obtain ⟨_, _, _, o1, o2⟩ := man_odd b h
  have hb : -1074 ≤ pe b := by unfold pe; have := exq_bd b; split <;> omega
  have hn : nanoOf b ≤ 1099511627776 := by
    rw [h0] at he
    split at he
    · omega
    · omega
  have hv : ofV b = nanoOf b := by unfold ofV; rw [if_pos ⟨h, h0⟩]
  rw [hv]
  unfold nanoOf at hn ⊢
  rw [near_val k hk _ _ (by omega) hb hn, val_odd b h, Nat.mul_right_comm]

open Ieee
theorem sw : double.signWeight = 9223372036854775808 := by decide +kernel
theorem bn : double.binade = 4503599627370496 := by decide +kernel
theorem ir : double.infRung = 9218868437227405312 := by decide +kernel
theorem lp : double.leastPlace = -1074 := by decide +kernel
/-- How the model reads a positive float. -/
theorem read_pos (b : Nat) (h : b < 9223372036854775808) (h4 : 4 ≤ cls b) : double.read b = .number false (man b) (exq b) := by
  have hr := cls_range b
  unfold Format.read
  simp only [sw, bn, ir, lp]
  have e1 : (b / 9223372036854775808 % 2 == 1) = false := by rw [beq_eq_false_iff_ne]; omega
  have e2 : b % 9223372036854775808 = b := by omega
  rw [e1, e2]
  by_cases h5 : cls b = 5
  · have h5' := h5
    rw [cls_5, e2] at h5'
    rw [if_neg (by omega), if_pos (by omega)]
    unfold man exq
    rw [if_pos h5, if_pos h5]
    congr 1 <;> omega
  · have h4' : cls b = 4 := by omega
    have h4'' := h4'
    rw [cls_4, e2] at h4''
    rw [if_pos (by omega)]
    unfold man exq
    rw [if_neg h5, if_neg h5]
    congr 1
    omega
/-- How the model reads a nought. -/
theorem read_null (b : Nat) (h3 : cls b = 3) : ∃ s, double.read b = .number s 0 (-1074) := by
  rw [cls_3] at h3
  unfold Format.read
  simp only [sw, bn, ir, lp]
  rw [h3, if_pos (by omega)]
  exact ⟨_, rfl⟩
theorem order_pos (a b : Nat) (ha : a < 9223372036854775808) (ha4 : 4 ≤ cls a) (hb : b < 9223372036854775808) (hb4 : 4 ≤ cls b) : double.order a b = some (compare (val a : Int) (val b)) := by
  have xa := exq_bd a
  have xb := exq_bd b
  unfold Format.order
  rw [read_pos a ha ha4, read_pos b hb hb4]
  simp only [Datum.order, signed]
  have key : ∀ c d : Nat, ∀ j : Nat, compare ((c * 2 ^ j : Nat) : Int) ((d * 2 ^ j : Nat) : Int) = compare (c : Int) (d : Int) := by
    intro c d j
    have hp := Nat.two_pow_pos j
    simp only [compare, compareOfLessAndEq]
    have c1 : (((c * 2 ^ j : Nat) : Int) < ((d * 2 ^ j : Nat) : Int)) ↔ ((c : Int) < (d : Int)) := by
      rw [Int.ofNat_lt, Int.ofNat_lt]
      exact Nat.mul_lt_mul_right hp
    have c2 : (((c * 2 ^ j : Nat) : Int) = ((d * 2 ^ j : Nat) : Int)) ↔ ((c : Int) = (d : Int)) := by
      rw [Int.ofNat_inj, Int.ofNat_inj]
      exact Nat.mul_right_cancel_iff hp
    simp only [c1, c2]
  have va : val a = man a * 2 ^ (exq a - min (exq a) (exq b)).toNat * 2 ^ (min (exq a) (exq b) + 1074).toNat := by
    unfold val
    rw [Nat.mul_assoc, ← Nat.pow_add]
    congr 2
    omega
  have vb : val b = man b * 2 ^ (exq b - min (exq a) (exq b)).toNat * 2 ^ (min (exq a) (exq b) + 1074).toNat := by
    unfold val
    rw [Nat.mul_assoc, ← Nat.pow_add]
    congr 2
    omega
  rw [va, vb, key]
  simp only [Nat.shiftLeft_eq]
  rfl
theorem order_null (a b : Nat) (ha : a < 9223372036854775808) (ha4 : 4 ≤ cls a) (h3 : cls b = 3) : double.order a b = some .gt := by
  have hm := (man_bd a ha4).1
  obtain ⟨s, hs⟩ := read_null b h3
  unfold Format.order
  rw [read_pos a ha ha4, hs]
  have hz : signed s 0 ((-1074 : Int) - min (exq a) (-1074)).toNat = 0 := by
    unfold signed
    cases s <;> simp
  have hp := Nat.two_pow_pos (exq a - min (exq a) (-1074)).toNat
  have h0 : 0 < man a * 2 ^ (exq a - min (exq a) (-1074)).toNat := Nat.mul_pos hm hp
  have hx : signed false (man a) (exq a - min (exq a) (-1074)).toNat = ((man a * 2 ^ (exq a - min (exq a) (-1074)).toNat : Nat) : Int) := by
    unfold signed
    rw [Nat.shiftLeft_eq]
    rfl
  simp only [Datum.order]
  rw [hz, hx]
  generalize man a * 2 ^ (exq a - min (exq a) (-1074)).toNat = x at *
  have c1 : ¬ (x : Int) < 0 := by omega
  have c2 : ¬ (x : Int) = 0 := by omega
  simp only [compare, compareOfLessAndEq, if_neg c1, if_neg c2]
/-- A greater float has no smaller volume. -/
theorem ofV_mono (a b : Nat) (ha : a < 18446744073709551616) (hb : b < 18446744073709551616) (ea : ofE a = 0) (eb : ofE b = 0) (h : double.order a b = some .lt ∨ double.order a b = some .eq) : ofV a ≤ ofV b := by
  have cases4 : ∀ x, x < 18446744073709551616 → ofE x = 0 → cls x = 3 ∨ (4 ≤ cls x ∧ mns x = false ∧ x < 9223372036854775808) := by
    intro x hx ex
    have hr := cls_range x
    unfold ofE at ex
    by_cases h1 : cls x = 1
    · rw [if_pos h1] at ex; omega
    · by_cases h2 : cls x = 2
      · rw [if_neg h1, if_pos h2] at ex; omega
      · by_cases h3 : cls x = 3
        · exact Or.inl h3
        · refine Or.inr ⟨by omega, ?_⟩
          rw [if_neg h1, if_neg h2, if_neg h3] at ex
          by_cases hm : mns x = true
          · rw [if_pos hm] at ex; omega
          · have hm' : mns x = false := by simpa using hm
            refine ⟨hm', ?_⟩
            unfold mns at hm'
            have e1 : (cls x != 1) = true := by rw [bne_iff_ne]; exact h1
            rw [e1, Bool.and_true, decide_eq_false_iff_not] at hm'
            omega
  rcases cases4 a ha ea with a3 | ⟨a4, am, al⟩
  · have : ofV a = 0 := by unfold ofV; rw [if_neg (by omega)]
    omega
  · rcases cases4 b hb eb with b3 | ⟨b4, bm, bl⟩
    · rw [order_null a b al a4 b3] at h
      simp at h
    · rw [order_pos a b al a4 bl b4] at h
      have hv : val a ≤ val b := by
        simp only [compare, compareOfLessAndEq, Option.some.injEq] at h
        apply Nat.le_of_not_lt
        intro hh
        rw [if_neg (by omega), if_neg (by omega)] at h
        simp at h
      obtain ⟨k, hk⟩ : ∃ k : Nat, k = 1074 := ⟨_, rfl⟩
      rw [ofV_val k hk a a4 ea am, ofV_val k hk b b4 eb bm]
      exact rnd_mono _ _ k (Nat.mul_le_mul_right _ hv)
theorem ofV_le (b : Nat) : ofV b ≤ 1099511627776 := by
  unfold ofV
  split
  · rename_i h
    obtain ⟨h4, h0⟩ := h
    unfold ofE at h0
    rw [if_neg (by omega), if_neg (by omega), if_neg (by omega)] at h0
    split at h0
    · omega
    · split at h0
      · omega
      · omega
  · omega
theorem ofV_err (b : Nat) (h : ofE b ≠ 0) : ofV b = 0 := by unfold ofV; rw [if_neg (by omega)]
end Go.Proofs.YtdnifilmckialaaDoor
