/- Plain mathematics: the way back from the quotient to the volume. -/
import Derived.Test.YtdnifilmckialaaDoorMathY
namespace Go.Proofs.YtdnifilmckialaaDoor
open Ieee

/-- A number that lies less than a half from a whole one is rounded to it. -/
theorem rnd_close (p k S : Nat) (hk : 1 ≤ k) (h1 : 2 * S * 2 ^ k < 2 * p + 2 ^ k) (h2 : 2 * p < 2 * S * 2 ^ k + 2 ^ k) : rnd p k = S := by
  have hh := half_pow k hk
  have d := Nat.div_add_mod p (2 ^ k)
  have m := Nat.mod_lt p (Nat.two_pow_pos k)
  unfold rnd rndq
  generalize p / 2 ^ k = q at *
  generalize p % 2 ^ k = r at *
  generalize 2 ^ (k - 1) = hf at *
  rw [hh] at d m h1 h2
  clear hh
  have e1 : 2 * S * (2 * hf) = 4 * (S * hf) := Nat.mul_mul_mul_comm 2 S 2 hf
  have e2 : 2 * hf * q = 2 * (q * hf) := by rw [Nat.mul_assoc, Nat.mul_comm hf q]
  rw [e1] at h1 h2
  rw [e2] at d
  have up : ∀ a b : Nat, a < b → a * hf + hf ≤ b * hf := fun a b hab => by
    have := Nat.mul_le_mul_right hf (show a + 1 ≤ b from hab)
    rwa [Nat.add_mul, Nat.one_mul] at this
  split
  · rename_i c
    have c1 : hf ≤ r := by omega
    rcases Nat.lt_trichotomy S (q + 1) with g | g | g
    · have := up S (q + 1) g
      rw [Nat.add_mul, Nat.one_mul] at this
      omega
    · exact g.symm
    · have := up (q + 1) S g
      rw [Nat.add_mul, Nat.one_mul] at this
      omega
  · rename_i c
    have c1 : r ≤ hf := by omega
    rcases Nat.lt_trichotomy S q with g | g | g
    · have := up S q g
      omega
    · exact g.symm
    · have := up q S g
      omega
/-- The way back: the volume of the quotient. -/
theorem near_close (p : Nat) (e : Int) (S : Nat) (hS : S ≤ 1099511627776) (hS0 : 1 ≤ S) (hp : p < 9223372036854775808) (he : -1074 ≤ e) (k : Nat) (hk : k = 1074) (h1 : 2 * S * 2 ^ k < 2 * (p * 2 ^ (e + 1074).toNat) + 2 ^ k) (h2 : 2 * (p * 2 ^ (e + 1074).toNat) < 2 * S * 2 ^ k + 2 ^ k) : near p e = S := by
  have hr := rnd_close _ k S (by omega) h1 h2
  by_cases hneg : e < 0
  · have e2 : k = (-e).toNat + (e + 1074).toNat := by omega
    have e3 : rnd (p * 2 ^ (e + 1074).toNat) k = rnd p (-e).toNat := by
      have := rnd_mul p (-e).toNat (e + 1074).toNat (by omega)
      rw [← e2] at this
      exact this
    rw [e3] at hr
    by_cases h64 : -64 ≤ e
    · rw [← near_rnd p e hneg h64 hp]
      exact hr
    · exfalso
      have : rnd p (-e).toNat = 0 := by
        unfold rnd rndq
        have p1 := pow_mono (a := 64) (b := (-e).toNat) (by omega)
        have p2 := pow_mono (a := 63) (b := (-e).toNat - 1) (by omega)
        rw [Nat.div_eq_of_lt (by omega), Nat.mod_eq_of_lt (by omega), if_neg (by omega)]
      omega
  · have e2 : (e + 1074).toNat = e.toNat + k := by omega
    rw [e2, Nat.pow_add, ← Nat.mul_assoc, rnd_exact] at hr
    unfold near
    rw [if_neg (by omega), if_neg hneg]
    split
    · rename_i hh
      rw [quo_lt] at hh
      omega
    · exact hr
theorem back_arith (S m T c : Nat) (hn1 : 2 * (m * 1000) ≤ 2 * (S * T) + 1000) (hn2 : 2 * (S * T) ≤ 2 * (m * 1000) + 1000) (hT : 1000 < T) (hc : 0 < c) :
    2 * S * (T * c) < 2 * (m * c * 1000) + T * c ∧ 2 * (m * c * 1000) < 2 * S * (T * c) + T * c := by
  have a1 : 2 * (S * T) * c < (2 * (m * 1000) + T) * c := Nat.mul_lt_mul_of_pos_right (by omega) hc
  have a2 : 2 * (m * 1000) * c < (2 * (S * T) + T) * c := Nat.mul_lt_mul_of_pos_right (by omega) hc
  rw [Nat.add_mul] at a1 a2
  have e1 : 2 * S * (T * c) = 2 * (S * T) * c := by rw [← Nat.mul_assoc, Nat.mul_assoc 2 S T]
  have e2 : 2 * (m * c * 1000) = 2 * (m * 1000) * c := by rw [Nat.mul_right_comm m c 1000, ← Nat.mul_assoc]
  rw [e1, e2]
  exact ⟨a1, a2⟩
theorem pe_ge (b : Nat) : -1074 ≤ pe b := by
  have := exq_bd b
  unfold pe
  split <;> omega
theorem back_near (S t : Nat) (h0 : 1 ≤ S) (h : S ≤ 1099511627776) (t1 : 9007199254740992 ≤ S * 2 ^ t / 1000) (t2 : S * 2 ^ t / 1000 < 18014398509481984) : nanoOf (qbits S t) = S := by
  obtain ⟨q1, q2⟩ := power_bd S t h0 (by omega) t1 t2
  obtain ⟨b1, b2, b3⟩ := qbits_cls S t h0 (by omega) t1 t2
  have ht : 11 < t := by
    apply Nat.lt_of_not_le
    intro hh
    have := Nat.mul_le_mul h (pow_mono hh)
    omega
  have hn := rne_near (S * 2 ^ (t - 1))
  have hbig : 1000 < 2 ^ (t - 1) := Nat.lt_of_lt_of_le (show 1000 < 2 ^ 11 by decide) (pow_mono (by omega))
  have h4 : 4 ≤ cls (qbits S t) := by omega
  have o5 := (man_odd (qbits S t) h4).2.2.2.2
  have hodd : odd (qbits S t) * 1000 < 9223372036854775808 := by omega
  obtain ⟨k, hk, ek⟩ : ∃ k, k = 1074 ∧ t - 1 + (1075 - t) = k := ⟨1074, rfl, by omega⟩
  have hv := val_odd (qbits S t) h4
  rw [b3] at hv
  have hpe := pe_ge (qbits S t)
  clear b1 b2 b3 t1 t2 h4
  obtain ⟨g1, g2⟩ := back_arith S _ _ (2 ^ (1075 - t)) hn.1 hn.2 hbig (Nat.two_pow_pos _)
  rw [hv, ← Nat.pow_add] at g1 g2
  rw [ek] at g1 g2
  unfold nanoOf
  refine near_close _ _ S h h0 hodd hpe k hk ?_ ?_
  · rw [Nat.mul_right_comm (odd (qbits S t)) 1000]
    exact g1
  · rw [Nat.mul_right_comm (odd (qbits S t)) 1000]
    exact g2
theorem back_q (S t : Nat) (h0 : 1 ≤ S) (h : S ≤ 1099511627776) (t1 : 9007199254740992 ≤ S * 2 ^ t / 1000) (t2 : S * 2 ^ t / 1000 < 18014398509481984) : ofE (qbits S t) = 0 ∧ ofV (qbits S t) = S := by
  have hnear := back_near S t h0 h t1 t2
  obtain ⟨b1, b2, b3⟩ := qbits_cls S t h0 (by omega) t1 t2
  clear b3 t1 t2
  have hm : mns (qbits S t) = false := by
    have : decide (9223372036854775808 ≤ qbits S t) = false := decide_eq_false (by omega)
    unfold mns
    rw [this]
    rfl
  have h4 : 4 ≤ cls (qbits S t) := by omega
  have he : ofE (qbits S t) = 0 := by
    rw [ofE_p' _ h4 hm, hnear, if_neg (by omega)]
  refine ⟨he, ?_⟩
  unfold ofV
  rw [if_pos ⟨h4, he⟩]
  exact hnear
end Go.Proofs.YtdnifilmckialaaDoor
