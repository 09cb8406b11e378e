/- Texts of numbers read: the reference's Parse. -/
import Derived.Test.YtegghoniboebkaaNE
namespace Go.Proofs.Ytegghoniboebkaa
open Go.RowKit

theorem rd_some {l : List UInt8} {m : Nat} (h : rd l = some m) : 1 ≤ l.length ∧ l.length ≤ 19 ∧ l.all isd = true ∧ m = val l ∧ m < 10 ^ 19 := by
  unfold rd at h
  split at h
  · rename_i hc
    injection h with h
    have := val_lt l hc.2.2
    have hp : 10 ^ l.length ≤ 10 ^ 19 := Nat.pow_le_pow_right (by decide) hc.2.1
    exact ⟨hc.1, hc.2.1, hc.2.2, h.symm, by omega⟩
  · cases h
theorem txt_head (n : Int) : mnus (txt n) = decide (n < 0) := by
  unfold txt mnus
  by_cases h : n < 0
  · simp [h]
  · rw [if_neg h, decide_eq_false h, decide_eq_false_iff_not]
    intro hh
    have ha := dig_all n.natAbs n.natAbs (Nat.le_refl _)
    match hd : dig n.natAbs with
    | [] => rw [hd] at hh; simp at hh
    | x :: r =>
      rw [hd] at hh ha
      obtain rfl : x = 45 := by simpa using hh
      rw [List.all_cons] at ha
      simp [isd] at ha
theorem txt_tail (n : Int) : dgs (txt n) = dig n.natAbs := by
  unfold dgs
  rw [txt_head]
  unfold txt
  by_cases h : n < 0
  · simp [h]
  · simp [h]
theorem mnus_len {l : List UInt8} (h : mnus l = true) : l = 45 :: l.drop 1 := by
  match l with
  | [] => simp [mnus] at h
  | x :: r =>
    obtain rfl : x = 45 := by simpa [mnus] using h
    rfl
theorem num_neg (m : Nat) (h : 9223372036854775808 < m) (h2 : m < 10 ^ 19) : 0 < wrap64 (-(wrap64 (m : Int))) := by unfold wrap64; omega
theorem num_pos (m : Nat) (h : 9223372036854775807 < m) (h2 : m < 10 ^ 19) : wrap64 (m : Int) < 0 := by unfold wrap64; omega
/-- What is refused, as the reference tells it. -/
theorem prs_zero (l : List UInt8) (m : Nat) (hr : rd (dgs l) = some m) (h0 : (dgs l).head? = some 48) (h1 : 1 < l.length) : prs l = none := by
  unfold prs
  rw [hr]
  simp only []
  rw [if_neg]
  intro ht
  have e := txt_tail (numOf l m)
  rw [ht] at e
  rw [e] at h0
  have hz := dig_head _ _ (Nat.le_refl _) h0
  have hN : numOf l m = 0 := by omega
  rw [hN] at ht
  rw [← ht, txt, if_neg (by decide), show (0 : Int).natAbs = 0 from rfl, dig_small 0 (by decide)] at h1
  exact absurd h1 (by simp)
theorem prs_big (l : List UInt8) (m : Nat) (hr : rd (dgs l) = some m) (h : (mnus l = false ∧ 9223372036854775807 < m) ∨ 9223372036854775808 < m) : prs l = none := by
  have hm := (rd_some hr).2.2.2.2
  unfold prs
  rw [hr]
  simp only []
  rw [if_neg]
  intro ht
  have e := txt_head (numOf l m)
  rw [ht] at e
  unfold numOf at e
  by_cases hmi : mnus l = true
  · rw [if_pos hmi, hmi] at e
    have := num_neg m (by rcases h with h | h; · rw [hmi] at h; cases h.1
                          · exact h) hm
    rw [decide_eq_false (by omega)] at e
    cases e
  · rw [if_neg hmi] at e
    have := num_pos m (by omega) hm
    rw [decide_eq_true (by omega)] at e
    exact hmi e
theorem prs_ok (l : List UInt8) (m : Nat) (hr : rd (dgs l) = some m) (h0 : ¬ ((dgs l).head? = some 48 ∧ 1 < l.length)) (h : ¬ ((mnus l = false ∧ 9223372036854775807 < m) ∨ 9223372036854775808 < m)) :
    prs l = some (if mnus l then -(m : Int) else m) ∧ (mnus l = true → 1 ≤ m) := by
  obtain ⟨h1, h19, ha, hv, hm⟩ := rd_some hr
  by_cases hmi : mnus l = true
  · have hl := mnus_len hmi
    have hd : dgs l = l.drop 1 := by rw [dgs, if_pos hmi]
    have hlen : l.length = (dgs l).length + 1 := by rw [hd]; conv => lhs; rw [hl]
                                                    rfl
    have hh : (dgs l).head? ≠ some 48 := fun k => h0 ⟨k, by omega⟩
    have e := dig_val (dgs l) ha h1 (Or.inl hh)
    rw [← hv] at e
    have hm1 : 1 ≤ m := by
      rcases Nat.eq_zero_or_pos m with h | h
      · rw [h, dig_small 0 (by decide)] at e
        rw [← e] at hh
        exact absurd rfl hh
      · exact h
    have hN : numOf l m = -(m : Int) := by
      unfold numOf
      rw [if_pos hmi]
      have : ¬ 9223372036854775808 < m := fun k => h (Or.inr k)
      unfold wrap64
      omega
    refine ⟨?_, fun _ => hm1⟩
    unfold prs
    rw [hr]
    simp only []
    rw [hN, if_pos hmi, if_pos]
    rw [txt, if_pos (by omega), show (-(m : Int)).natAbs = m by omega, e, hd]
    exact hl.symm
  · have hd : dgs l = l := by rw [dgs, if_neg hmi]
    have hmf : mnus l = false := by simpa using hmi
    have e := dig_val (dgs l) ha h1 (by
      by_cases hh : (dgs l).head? = some 48
      · refine Or.inr ?_
        have : ¬ 1 < l.length := fun k => h0 ⟨hh, k⟩
        rw [hd] at h1 ⊢
        omega
      · exact Or.inl hh)
    rw [← hv] at e
    have hN : numOf l m = (m : Int) := by
      unfold numOf
      rw [if_neg hmi]
      have : ¬ 9223372036854775807 < m := fun k => h (Or.inl ⟨hmf, k⟩)
      unfold wrap64
      omega
    refine ⟨?_, fun k => absurd k hmi⟩
    unfold prs
    rw [hr]
    simp only []
    rw [hN, if_neg hmi, if_pos]
    rw [txt, if_neg (by omega), show ((m : Int)).natAbs = m by omega, e, hd]
theorem prs_none (l : List UInt8) (hr : rd (dgs l) = none) : prs l = none := by
  unfold prs
  rw [hr]
/-- A number's text is read as it. -/
theorem prs_txt (n : Int) (h : fits n) : prs (txt n) = some n := by
  have hb : n.natAbs ≤ 9223372036854775808 := by unfold fits at h; omega
  have hr : rd (dgs (txt n)) = some n.natAbs := by rw [txt_tail, rd_dig _ hb]
  have hN : numOf (txt n) n.natAbs = n := by
    unfold numOf
    rw [txt_head]
    unfold fits at h
    unfold wrap64
    by_cases h0 : n < 0
    · rw [decide_eq_true h0, if_pos rfl]; omega
    · rw [decide_eq_false h0, if_neg (by decide)]; omega
  unfold prs
  rw [hr]
  simp only []
  rw [hN, if_pos rfl]
theorem prs_back (l : List UInt8) (n : Int) (h : prs l = some n) : txt n = l ∧ fits n := by
  unfold prs at h
  split at h
  · cases h
  · split at h
    · rename_i hh
      injection h with h
      refine ⟨by rw [← h]; exact hh, ?_⟩
      rw [← h, numOf]
      split <;> exact wrap64_in _
    · cases h
end Go.Proofs.Ytegghoniboebkaa
