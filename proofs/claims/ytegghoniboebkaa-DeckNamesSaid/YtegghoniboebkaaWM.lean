/- Plain mathematics of names: a place's name is read as it, and what is read has that name. -/
import Derived.Test.YtegghoniboebkaaWE
namespace Go.Proofs.Ytegghoniboebkaa
open Go.RowKit
theorem ltr_toNat (k : Nat) (h : k < 26) : (ltr k).toNat = 65 + k := by
  rw [ltr, UInt8.toNat_ofNat']
  omega
theorem isLt_iff (c : UInt8) : isLt c = true ↔ (65 ≤ c.toNat ∧ c.toNat ≤ 90) := by rw [isLt, decide_eq_true_eq]
theorem isLt_ltr (k : Nat) (h : k < 26) : isLt (ltr k) = true := by rw [isLt_iff, ltr_toNat k h]; omega
theorem ltr_of (c : UInt8) (h : isLt c = true) : ltr (c.toNat - 65) = c := by
  rw [isLt_iff] at h
  apply UInt8.toNat_inj.1
  rw [ltr_toNat _ (by omega)]
  omega
/-- A number's text begins with no letter. -/
theorem txt_first (n : Int) (l : List UInt8) : l = txt n → 0 < l.length ∧ isLt (l.getD 0 0) = false := by
  rintro rfl
  have hd : ∀ m : Nat, 0 < (dig m).length ∧ isLt ((dig m).getD 0 0) = false := by
    intro m
    induction m using Nat.strongRecOn with
    | _ m ih =>
      by_cases h : m < 10
      · rw [dig_small m h]
        refine ⟨by simp, ?_⟩
        rw [← Bool.not_eq_true, isLt_iff]
        have := dg_toNat m h
        simp only [List.getD_cons_zero]
        omega
      · have := ih (m / 10) (by omega)
        rw [dig_great m h]
        refine ⟨by simp, ?_⟩
        rw [List.getD_eq_getElem?_getD, List.getElem?_append_left this.1, ← List.getD_eq_getElem?_getD]
        exact this.2
  unfold txt
  split
  · exact ⟨by simp, rfl⟩
  · exact hd _
theorem nm_row (r : Nat) (h : r < 32) (t : List UInt8) (ht : 0 < t.length ∧ isLt (t.getD 0 0) = false) : rowK (nm r ++ t) = (nm r).length ∧ rowP (nm r ++ t) (nm r).length = (r : Int) := by
  by_cases h1 : r < 26
  · rw [nm_lo r h1]
    have h0 : ([ltr r] ++ t).getD 0 0 = ltr r := rfl
    have h2 : ([ltr r] ++ t).getD 1 0 = t.getD 0 0 := rfl
    refine ⟨rowK_stop _ 1 (by omega) (by simp) (fun i hi => ?_) (.inr (.inr (by rw [h2]; exact ht.2))), ?_⟩
    · obtain rfl : i = 0 := by omega
      rw [h0]; exact isLt_ltr r h1
    · show rowP _ 1 = _
      simp only [rowP]
      rw [h0, ltr_toNat r h1]
      omega
  · rw [nm_hi r h1]
    have h0 : ([65] ++ [ltr (r - 26)] ++ t).getD 0 0 = 65 := rfl
    have h2 : ([65] ++ [ltr (r - 26)] ++ t).getD 1 0 = ltr (r - 26) := rfl
    refine ⟨rowK_stop _ 2 (by omega) (by simp) (fun i hi => ?_) (.inl rfl), ?_⟩
    · have : i = 0 ∨ i = 1 := by omega
      rcases this with rfl | rfl
      · rw [h0]; decide
      · rw [h2]; exact isLt_ltr _ (by omega)
    · show rowP _ 2 = _
      simp only [rowP]
      rw [h0, h2, ltr_toNat _ (by omega)]
      show (((-1 : Int) + 1) * 26 + (((65 : UInt8).toNat : Int) - 65) + 1) * 26 + _ = _
      have : ((65 : UInt8).toNat : Int) = 65 := rfl
      rw [this]
      omega
theorem parse_name (p : Int × Int) (h : rightB p = true) : parseL (nameL p) = some p := by
  obtain ⟨a, b⟩ := p
  have hr := (right_iff _).1 h
  simp only at hr
  have hf : fits (b + 1) := by unfold fits; omega
  obtain ⟨k1, k2⟩ := nm_row a.toNat (by omega) (txt (b + 1)) (txt_first (b + 1) _ rfl)
  rw [nameL_yes h]
  unfold parseL
  have e : (nm a.toNat ++ txt (b + 1)).drop (nm a.toNat).length = txt (b + 1) := List.drop_left
  have hv : rowV (nm a.toNat ++ txt (b + 1)) = a := by rw [rowV, k1, k2]; omega
  simp only at *
  rw [hv, k1, e, prs_txt _ hf]
  simp only
  rw [show b + 1 - 1 = b by omega, if_pos h]
theorem name_parse (l : List UInt8) (p : Int × Int) (h : parseL l = some p) : rightB p = true ∧ nameL p = l := by
  unfold parseL at h
  cases hp : prs (l.drop (rowK l)) with
  | none => rw [hp] at h; cases h
  | some n =>
    rw [hp] at h
    simp only at h
    by_cases hr : rightB (rowV l, n - 1) = true
    · rw [if_pos hr] at h
      obtain rfl := Option.some.inj h
      refine ⟨hr, ?_⟩
      rw [nameL_yes hr]
      obtain ⟨hb, hf⟩ := prs_back _ _ hp
      have hrr := (right_iff _).1 hr
      simp only at hrr ⊢
      rw [show n - 1 + 1 = n by omega, hb]
      have hk := rowK_le l
      have key : nm (rowV l).toNat = l.take (rowK l) := by
        unfold rowV at *
        match l, hk with
        | [], _ => simp [rowK, rowP] at hrr
        | [a], _ =>
          by_cases ha : isLt a = true
          · have e : rowK [a] = 1 := by simp [rowK, ha]
            rw [e] at hrr ⊢
            have hv : rowP [a] 1 = ((a.toNat : Int) - 65) := by simp [rowP]
            rw [hv] at hrr ⊢
            have h2 := (isLt_iff a).1 ha
            rw [show ((a.toNat : Int) - 65).toNat = a.toNat - 65 by omega, nm_lo _ (by omega), ltr_of a ha]
            rfl
          · have e : rowK [a] = 0 := by simp [rowK, ha]
            rw [e] at hrr
            simp [rowP] at hrr
        | a :: b :: t, _ =>
          by_cases ha : isLt a = true
          · have h2 := (isLt_iff a).1 ha
            by_cases hb2 : isLt b = true
            · have h3 := (isLt_iff b).1 hb2
              have e : rowK (a :: b :: t) = 2 := by simp [rowK, ha, hb2]
              rw [e] at hrr ⊢
              have hv : rowP (a :: b :: t) 2 = ((a.toNat : Int) - 65 + 1) * 26 + ((b.toNat : Int) - 65) := by simp [rowP]
              rw [hv] at hrr ⊢
              have ha65 : a.toNat = 65 := by omega
              have ea : a = 65 := UInt8.toNat_inj.1 ha65
              rw [ha65] at *
              rw [show (((65 : Nat) : Int) - 65 + 1) * 26 + ((b.toNat : Int) - 65) = ((26 + (b.toNat - 65) : Nat) : Int) by omega]
              rw [Int.toNat_natCast, nm_hi _ (by omega), show 26 + (b.toNat - 65) - 26 = b.toNat - 65 by omega, ltr_of b hb2, ea]
              rfl
            · have e : rowK (a :: b :: t) = 1 := by simp [rowK, ha, hb2]
              rw [e] at hrr ⊢
              have hv : rowP (a :: b :: t) 1 = ((a.toNat : Int) - 65) := by simp [rowP]
              rw [hv] at hrr ⊢
              rw [show ((a.toNat : Int) - 65).toNat = a.toNat - 65 by omega, nm_lo _ (by omega), ltr_of a ha]
              rfl
          · have e : rowK (a :: b :: t) = 0 := by simp [rowK, ha]
            rw [e] at hrr
            simp [rowP] at hrr
      rw [key, List.take_append_drop]
    · rw [if_neg hr] at h
      cases h
end Go.Proofs.Ytegghoniboebkaa
