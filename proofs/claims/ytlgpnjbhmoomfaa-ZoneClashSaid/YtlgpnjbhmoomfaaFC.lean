/- Plain mathematics of floats: what the sum and the difference of two floats are. -/
import Derived.Test.YtlgpnjbhmoomfaaFB
namespace Go.Proofs.Ytlgpnjbhmoomfaa
open Ieee

theorem word_vf (neg : Bool) (r : Nat) (h : r ≤ 9218868437227405312) : vf (double.word neg r) = sg neg r ∧ ¬ nan (double.word neg r) ∧ double.word neg r < 18446744073709551616 := by
  unfold Format.word vf sb rg nan
  rw [sw]
  cases neg
  · simp only [Bool.false_eq_true, if_false]
    have e1 : (r / 9223372036854775808 % 2 == 1) = false := by rw [beq_eq_false_iff_ne]; omega
    have e2 : r % 9223372036854775808 = r := by omega
    rw [e1, e2]
    exact ⟨rfl, by omega, by omega⟩
  · simp only [if_true]
    have e1 : ((9223372036854775808 + r) / 9223372036854775808 % 2 == 1) = true := by rw [beq_iff_eq]; omega
    have e2 : (9223372036854775808 + r) % 9223372036854775808 = r := by omega
    rw [e1, e2]
    exact ⟨rfl, by omega, by omega⟩
/-- Two infinities that are on either side. -/
def clash (a b : Nat) : Prop := rg a = 9218868437227405312 ∧ rg b = 9218868437227405312 ∧ sb a ≠ sb b
theorem R_big (X : Nat) (h : rv 9218868437227405312 ≤ X) : R X = 9218868437227405312 := by
  have h1 := R_mono h
  rw [R_rv _ (by omega)] at h1
  have := R_le X
  omega
theorem RI_pos (T : Int) (h : (rv 9218868437227405312 : Int) ≤ T) : RI T = 9218868437227405312 := by
  unfold RI sg
  rw [decide_eq_false (by omega), if_neg (by simp), R_big _ (by omega)]
  rfl
theorem RI_neg (T : Int) (h : T ≤ -(rv 9218868437227405312 : Int)) : RI T = -9218868437227405312 := by
  have hz : 0 < rv 9218868437227405312 := by
    have := rv_top 0 (by omega)
    omega
  unfold RI sg
  rw [decide_eq_true (by omega), if_pos rfl, R_big _ (by omega)]
  rfl
theorem xv_fin (b : Nat) (h : rg b < 9218868437227405312) : xv b = sg (sb b) (rv (rg b)) := by unfold xv rw'; rw [if_pos h]
theorem xv_inf (b : Nat) (h : rg b = 9218868437227405312) : xv b = sg (sb b) (2 * rv 9218868437227405312) := by unfold xv rw' big; rw [if_neg (by omega)]
theorem fin_bd (b : Nat) (h : rg b < 9218868437227405312) : -(rv 9218868437227405312 : Int) ≤ xv b ∧ xv b ≤ rv 9218868437227405312 := by
  have := rv_top _ h
  rw [xv_fin b h]
  unfold sg
  split <;> omega
theorem inf_sum (s : Bool) (T x : Int) (h : T = sg s (2 * rv 9218868437227405312) + x) (h1 : -(rv 9218868437227405312 : Int) ≤ x ∧ x ≤ rv 9218868437227405312) : RI T = sg s 9218868437227405312 := by
  subst h
  cases s
  · exact RI_pos _ (by unfold sg; rw [if_neg (by simp)]; omega)
  · exact RI_neg _ (by unfold sg; rw [if_pos rfl]; omega)
theorem write_inf (s : Bool) : double.write (.infinity s) = double.word s 9218868437227405312 := by
  unfold Format.write
  rw [ir]
/-- What a sum is, where there is one. -/
theorem add_some (a b : Nat) (ha : ¬ nan a) (hb : ¬ nan b) (hc : ¬ clash a b) : ∃ p, double.add a b = some p ∧ ¬ nan p ∧ p < 18446744073709551616 ∧ vf p = RI (xv a + xv b) := by
  have h1 := not_nan a ha
  have h2 := not_nan b hb
  unfold Format.add
  by_cases ia : rg a = 9218868437227405312
  · rw [read_inf a ia]
    by_cases ib : rg b = 9218868437227405312
    · rw [read_inf b ib]
      have hs : sb a = sb b := by
        apply Decidable.byContradiction
        intro hh
        exact hc ⟨ia, ib, hh⟩
      simp only [Datum.sum, hs, if_true, Option.map_some, write_inf]
      obtain ⟨w1, w2, w3⟩ := word_vf (sb b) 9218868437227405312 (by omega)
      refine ⟨_, rfl, w2, w3, ?_⟩
      rw [w1, xv_inf a ia, xv_inf b ib, hs]
      have hz : 0 < rv 9218868437227405312 := by
        have := rv_top 0 (by omega)
        omega
      cases sb b
      · exact (RI_pos _ (by unfold sg; rw [if_neg (by simp)]; omega)).symm
      · exact (RI_neg _ (by unfold sg; rw [if_pos rfl]; omega)).symm
    · obtain ⟨n, q, hr2, _, _⟩ := read_fin b (by omega)
      rw [hr2]
      simp only [Datum.sum, Option.map_some, write_inf]
      obtain ⟨w1, w2, w3⟩ := word_vf (sb a) 9218868437227405312 (by omega)
      refine ⟨_, rfl, w2, w3, ?_⟩
      rw [w1]
      exact (inf_sum (sb a) _ (xv b) (by rw [xv_inf a ia]) (fin_bd b (by omega))).symm
  · obtain ⟨m, p, hr, hp, hv⟩ := read_fin a (by omega)
    rw [hr]
    by_cases ib : rg b = 9218868437227405312
    · rw [read_inf b ib]
      simp only [Datum.sum, Option.map_some, write_inf]
      obtain ⟨w1, w2, w3⟩ := word_vf (sb b) 9218868437227405312 (by omega)
      refine ⟨_, rfl, w2, w3, ?_⟩
      rw [w1]
      exact (inf_sum (sb b) _ (xv a) (by rw [xv_inf b ib, Int.add_comm]) (fin_bd a (by omega))).symm
    · obtain ⟨n, q, hr2, hq, hv2⟩ := read_fin b (by omega)
      rw [hr2]
      simp only [Datum.sum, Option.map_some, Format.write]
      have hbase : -1074 ≤ min p q := by omega
      rw [nearest_R _ _ _ hbase]
      have hT : (signed (sb a) m (p - min p q).toNat + signed (sb b) n (q - min p q).toNat) * ((2 ^ (min p q + 1074).toNat : Nat) : Int) = xv a + xv b := by
        rw [xv_fin a (by omega), xv_fin b (by omega), Int.add_mul, signed_sg, signed_sg, ← sg_mul, ← sg_mul, Nat.mul_assoc, Nat.mul_assoc, ← Nat.pow_add, ← Nat.pow_add]
        rw [show (p - min p q).toNat + (min p q + 1074).toNat = (p + 1074).toNat by omega, show (q - min p q).toNat + (min p q + 1074).toNat = (q + 1074).toNat by omega, hv, hv2]
      rw [← hT]
      have hk := Nat.two_pow_pos (min p q + 1074).toNat
      generalize 2 ^ (min p q + 1074).toNat = k at *
      generalize signed (sb a) m (p - min p q).toNat + signed (sb b) n (q - min p q).toNat = T at *
      obtain ⟨w1, w2, w3⟩ := word_vf (if T = 0 then sb a && sb b else decide (T < 0)) (R (T.natAbs * k)) (R_le _)
      refine ⟨_, rfl, w2, w3, ?_⟩
      rw [w1]
      unfold RI
      rw [Int.natAbs_mul, Int.natAbs_natCast]
      by_cases hz : T = 0
      · subst hz
        rw [if_pos rfl, Int.zero_mul, Int.natAbs_zero, Nat.zero_mul, R_0]
        unfold sg
        simp
      · rw [if_neg hz]
        congr 1
        rw [decide_eq_decide]
        have hk' : (0 : Int) < k := by omega
        constructor
        · intro h; exact Int.mul_neg_of_neg_of_pos h hk'
        · intro h
          apply Int.lt_of_not_ge
          intro hh
          have := Int.mul_nonneg hh (Int.le_of_lt hk')
          omega
theorem add_none (a b : Nat) (h : nan a ∨ nan b ∨ clash a b) : double.add a b = none := by
  unfold Format.add
  rcases h with h | h | ⟨ia, ib, hs⟩
  · obtain ⟨s, t, e⟩ := read_nan a h
    rw [e]; rfl
  · obtain ⟨s, t, e⟩ := read_nan b h
    rw [e]
    cases double.read a <;> rfl
  · rw [read_inf a ia, read_inf b ib]
    simp only [Datum.sum, if_neg hs, Option.map_none]
/-- The float on the other side. -/
def flip (b : Nat) : Nat := if 9223372036854775808 ≤ b then b - 9223372036854775808 else b + 9223372036854775808
theorem flip_parts (b : Nat) (h : b < 18446744073709551616) : rg (flip b) = rg b ∧ sb (flip b) = !sb b := by
  unfold flip rg sb
  split
  · refine ⟨by omega, ?_⟩
    have e1 : (b / 9223372036854775808 % 2 == 1) = true := by rw [beq_iff_eq]; omega
    have e2 : ((b - 9223372036854775808) / 9223372036854775808 % 2 == 1) = false := by rw [beq_eq_false_iff_ne]; omega
    rw [e1, e2]; rfl
  · refine ⟨by omega, ?_⟩
    have e1 : (b / 9223372036854775808 % 2 == 1) = false := by rw [beq_eq_false_iff_ne]; omega
    have e2 : ((b + 9223372036854775808) / 9223372036854775808 % 2 == 1) = true := by rw [beq_iff_eq]; omega
    rw [e1, e2]; rfl
theorem nan_rg (b : Nat) : nan b ↔ 9218868437227405312 < rg b := Iff.rfl
theorem sub_flip (a b : Nat) (h : b < 18446744073709551616) : double.sub a b = double.add a (flip b) := by
  obtain ⟨h1, h2⟩ := flip_parts b h
  have e : double.read (flip b) = (double.read b).opposite := by
    unfold rg at h1
    unfold sb at h2
    unfold Format.read
    simp only [sw, bn, ir, lp]
    rw [h1, h2]
    (repeat' split) <;> rfl
  unfold Format.sub Format.add
  rw [e]
theorem xv_flip (b : Nat) (h : b < 18446744073709551616) : xv (flip b) = -xv b := by
  obtain ⟨h1, h2⟩ := flip_parts b h
  unfold xv sg
  rw [h1, h2]
  cases sb b <;> simp
/-- Two infinities on the same side. -/
def clashS (a b : Nat) : Prop := rg a = 9218868437227405312 ∧ rg b = 9218868437227405312 ∧ sb a = sb b
theorem clash_flip (a b : Nat) (h : b < 18446744073709551616) : clash a (flip b) ↔ clashS a b := by
  obtain ⟨h1, h2⟩ := flip_parts b h
  unfold clash clashS
  rw [h1, h2]
  cases sb a <;> cases sb b <;> simp
theorem sub_some (a b : Nat) (h64 : b < 18446744073709551616) (ha : ¬ nan a) (hb : ¬ nan b) (hc : ¬ clashS a b) : ∃ p, double.sub a b = some p ∧ ¬ nan p ∧ p < 18446744073709551616 ∧ vf p = RI (xv a - xv b) := by
  obtain ⟨h1, _⟩ := flip_parts b h64
  have hb' : ¬ nan (flip b) := by rw [nan_rg, h1]; exact hb
  obtain ⟨p, e1, e2, e3, e4⟩ := add_some a (flip b) ha hb' (by rw [clash_flip a b h64]; exact hc)
  refine ⟨p, by rw [sub_flip a b h64]; exact e1, e2, e3, ?_⟩
  rw [e4, xv_flip b h64]
  rfl
theorem sub_none (a b : Nat) (h64 : b < 18446744073709551616) (h : nan a ∨ nan b ∨ clashS a b) : double.sub a b = none := by
  obtain ⟨h1, _⟩ := flip_parts b h64
  rw [sub_flip a b h64]
  refine add_none _ _ ?_
  rcases h with h | h | h
  · exact .inl h
  · exact .inr (.inl (by rw [nan_rg, h1]; exact h))
  · exact .inr (.inr ((clash_flip a b h64).2 h))
end Go.Proofs.Ytlgpnjbhmoomfaa
