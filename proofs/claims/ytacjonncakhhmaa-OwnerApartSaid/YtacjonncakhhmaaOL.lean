/- Owners, with no program in it: what was taken and is given back; what is taken apart. -/
import Derived.Test.YtacjonncakhhmaaOE
namespace Go.Proofs.Ytacjonncakhhmaa
open Go.RowKit
theorem setAll_getD (ids : List Int) (x : Int) : ∀ o : List Int, (∀ y ∈ ids, 0 ≤ y) → ∀ j, j < o.length → (setAll o ids x).getD j 0 = if (j : Int) ∈ ids then x else o.getD j 0 := by
  induction ids with
  | nil => intro o _ j _; simp [setAll]
  | cons a r ih =>
    intro o h j hj
    have e : setAll o (a :: r) x = setAll (o.set a.toNat x) r x := rfl
    rw [e, ih _ (fun y hy => h y (List.mem_cons_of_mem _ hy)) j (by rw [List.length_set]; exact hj)]
    have ha := h a List.mem_cons_self
    by_cases hr : (j : Int) ∈ r
    · rw [if_pos hr, if_pos (List.mem_cons_of_mem _ hr)]
    · rw [if_neg hr]
      by_cases hja : (j : Int) = a
      · rw [if_pos (by rw [hja]; exact List.mem_cons_self), List.getD_eq_getElem?_getD, show a.toNat = j by omega, List.getElem?_set_self hj]
        rfl
      · rw [if_neg (by rw [List.mem_cons]; exact fun h => h.elim hja hr), List.getD_eq_getElem?_getD, List.getElem?_set_ne (by omega), List.getD_eq_getElem?_getD]
theorem list_ext (a b : List Int) (hl : a.length = b.length) (h : ∀ j, j < a.length → a.getD j 0 = b.getD j 0) : a = b := by
  apply List.ext_getElem hl
  intro j h1 h2
  have := h j h1
  rw [List.getD_eq_getElem?_getD, List.getElem?_eq_getElem h1, List.getD_eq_getElem?_getD, List.getElem?_eq_getElem h2] at this
  exact this
theorem rgO_iff (o : List Int) : rgO o = true ↔ ∀ j, j < o.length → 0 ≤ o.getD j 0 ∧ o.getD j 0 ≤ 8 := by
  unfold rgO
  rw [Bool.not_eq_true', List.any_eq_false]
  constructor
  · intro h j hj
    have := h _ (getD_mem' o j 0 hj)
    rw [Bool.not_eq_true] at this
    exact (whoB_iff _).1 this
  · intro h x hx
    obtain ⟨j, hj, e⟩ := List.getElem_of_mem hx
    have := h j hj
    rw [List.getD_eq_getElem?_getD, List.getElem?_eq_getElem hj, Option.getD_some, e] at this
    rw [Bool.not_eq_true]
    exact (whoB_iff _).2 this
theorem armO_iff (x : Int) : armO x = true ↔ 1 ≤ x ∧ x ≤ 8 := by unfold armO; rw [Bool.and_eq_true, decide_eq_true_eq, decide_eq_true_eq]
theorem not_has (n : Nat) (ids : List Int) : ids.any (fun x => !hasB n x) = false ↔ ∀ x ∈ ids, 0 ≤ x ∧ x < n := by
  refine ⟨has_all n ids, fun h => ?_⟩
  rw [List.any_eq_false]
  intro x hx
  rw [Bool.not_eq_true, Bool.not_eq_false']
  exact (hasB_iff n x).2 (h x hx)
theorem not_may (o ids : List Int) (q : Int → Bool) : ids.any (fun x => !q (o.getD x.toNat 0)) = false ↔ ∀ x ∈ ids, q (o.getD x.toNat 0) = true := by
  rw [List.any_eq_false]
  exact ⟨fun h x hx => by have := h x hx; rwa [Bool.not_eq_true, Bool.not_eq_false'] at this, fun h x hx => by rw [Bool.not_eq_true, Bool.not_eq_false']; exact h x hx⟩
/-- Where nothing is refused. -/
theorem ps_zero (o ids : List Int) (who : Int) (q : Int → Bool) (nt : Int) (hnt : nt ≠ 0) : psE o ids who q nt = 0 ↔ rgO o = true ∧ armO who = true ∧ Two.Inc ids ∧ (∀ x ∈ ids, 0 ≤ x ∧ x < o.length) ∧ ∀ x ∈ ids, q (o.getD x.toNat 0) = true := by
  rw [← not_has o.length ids, ← not_may o ids q]
  unfold psE
  by_cases h1 : (rgO o && armO who && decide (Two.Inc ids)) = true
  · rw [if_pos h1]
    rw [Bool.and_eq_true, Bool.and_eq_true, decide_eq_true_eq] at h1
    cases h2 : ids.any (fun x => !hasB o.length x)
    · cases h3 : ids.any (fun x => !q (o.getD x.toNat 0))
      · simp [h1.1.1, h1.1.2, h1.2]
      · simp [hnt]
    · simp
  · rw [if_neg h1]
    rw [Bool.and_eq_true, Bool.and_eq_true, decide_eq_true_eq] at h1
    refine ⟨fun h => (by cases h), fun ⟨a, b, c, _⟩ => absurd ⟨⟨a, b⟩, c⟩ h1⟩
theorem ps_list (o ids : List Int) (who : Int) (q : Int → Bool) (nt nx : Int) (hnt : nt ≠ 0) (h : psE o ids who q nt = 0) : psL o ids who q nx = setAll o ids nx := by
  obtain ⟨h1, h2, h3, h4, h5⟩ := (ps_zero o ids who q nt hnt).1 h
  unfold psL
  rw [(not_has o.length ids).2 h4, (not_may o ids q).2 h5, h1, h2, decide_eq_true h3]
  rfl
theorem ps_not (o ids : List Int) (who : Int) (q : Int → Bool) (nt : Int) (hnt : nt ≠ 1) (h3 : nt ≠ 3) (h0 : nt ≠ 0) (h : (∀ x ∈ ids, 0 ≤ x ∧ x < o.length) → ∀ x ∈ ids, q (o.getD x.toNat 0) = true) : psE o ids who q nt ≠ nt := by
  unfold psE
  by_cases h1 : (rgO o && armO who && decide (Two.Inc ids)) = true
  · rw [if_pos h1]
    cases h2 : ids.any (fun x => !hasB o.length x)
    · rw [(not_may o ids q).2 (h ((not_has _ _).1 h2))]
      simp only [Bool.false_eq_true, if_false]
      omega
    · simp only [if_true]
      omega
  · rw [if_neg h1]
    omega
theorem rg_set (o ids : List Int) (x : Int) (h : rgO o = true) (hx : 0 ≤ x ∧ x ≤ 8) (hin : ∀ y ∈ ids, 0 ≤ y) : rgO (setAll o ids x) = true := by
  rw [rgO_iff] at *
  intro j hj
  rw [setAll_len] at hj
  rw [setAll_getD ids x o hin j hj]
  split
  · exact hx
  · exact h j hj
/-- What was taken out of what was nobody's, and is given back. -/
theorem back_math (o ids : List Int) (who : Int) (h0 : ∀ x ∈ ids, (0 ≤ x ∧ x < o.length) → o.getD x.toNat 0 = 0) (h : psE o ids who (takeQ who) 140 = 0) :
    psL o ids who (takeQ who) who = setAll o ids who ∧ fstN (lkB (setAll o ids who) who) ids = (0, false) ∧ psE (setAll o ids who) ids who (giveQ who) 141 = 0 ∧ psL (setAll o ids who) ids who (giveQ who) 0 = o := by
  obtain ⟨h1, h2, h3, h4, h5⟩ := (ps_zero o ids who _ 140 (by decide)).1 h
  have hn : ∀ x ∈ ids, 0 ≤ x := fun x hx => (h4 x hx).1
  have hget : ∀ x ∈ ids, (setAll o ids who).getD x.toNat 0 = who := fun x hx => by
    rw [setAll_getD ids who o hn x.toNat (by have := h4 x hx; omega), if_pos]
    rw [show ((x.toNat : Nat) : Int) = x by have := hn x hx; omega]
    exact hx
  have hz : psE (setAll o ids who) ids who (giveQ who) 141 = 0 := by
    rw [ps_zero _ _ _ _ _ (by decide)]
    refine ⟨rg_set o ids who h1 ⟨by have := (armO_iff who).1 h2; omega, ((armO_iff who).1 h2).2⟩ hn, h2, h3, fun x hx => by rw [setAll_len]; exact h4 x hx, fun x hx => ?_⟩
    rw [hget x hx]
    exact decide_eq_true rfl
  refine ⟨ps_list o ids who _ 140 who (by decide) h, ?_, hz, ?_⟩
  · apply fstN_none
    intro j hj
    have hm := getD_mem' ids j 0 hj
    unfold lkB
    rw [hget _ hm, decide_eq_true rfl, (hasB_iff _ _).2 (by rw [setAll_len]; exact h4 _ hm)]
    rfl
  · rw [ps_list _ ids who _ 141 0 (by decide) hz]
    apply list_ext
    · rw [setAll_len, setAll_len]
    · intro j hj
      rw [setAll_len, setAll_len] at hj
      rw [setAll_getD ids 0 _ hn j (by rw [setAll_len]; exact hj), setAll_getD ids who o hn j hj]
      by_cases hm : (j : Int) ∈ ids
      · rw [if_pos hm]
        exact (h0 _ hm (h4 _ hm)).symm
      · rw [if_neg hm, if_neg hm]
/-- Two that take what is apart. -/
theorem apart_math (o s t : List Int) (x y : Int) (hst : ∀ z ∈ t, z ∉ s) (h : psE o s x (takeQ x) 140 = 0) (k : psE o t y (takeQ y) 140 = 0) :
    psL o s x (takeQ x) x = setAll o s x ∧ psE (setAll o s x) t y (takeQ y) 140 = 0 ∧ psL (setAll o s x) t y (takeQ y) y = setAll (setAll o s x) t y := by
  obtain ⟨h1, h2, h3, h4, h5⟩ := (ps_zero o s x _ 140 (by decide)).1 h
  obtain ⟨k1, k2, k3, k4, k5⟩ := (ps_zero o t y _ 140 (by decide)).1 k
  have hn : ∀ z ∈ s, 0 ≤ z := fun z hz => (h4 z hz).1
  have hz : psE (setAll o s x) t y (takeQ y) 140 = 0 := by
    rw [ps_zero _ _ _ _ _ (by decide)]
    refine ⟨rg_set o s x h1 ⟨by have := (armO_iff x).1 h2; omega, ((armO_iff x).1 h2).2⟩ hn, k2, k3, fun z hz => by rw [setAll_len]; exact k4 z hz, fun z hz => ?_⟩
    rw [setAll_getD s x o hn z.toNat (by have := k4 z hz; omega), if_neg]
    · exact k5 z hz
    · rw [show ((z.toNat : Nat) : Int) = z by have := k4 z hz; omega]
      exact hst z hz
  exact ⟨ps_list o s x _ 140 x (by decide) h, hz, ps_list _ t y _ 140 y (by decide) hz⟩
theorem apart_comm (o s t : List Int) (x y : Int) (hs : ∀ z ∈ s, 0 ≤ z) (ht : ∀ z ∈ t, 0 ≤ z) (hst : ∀ z ∈ t, z ∉ s) : setAll (setAll o s x) t y = setAll (setAll o t y) s x := by
  apply list_ext
  · rw [setAll_len, setAll_len, setAll_len, setAll_len]
  · intro j hj
    rw [setAll_len, setAll_len] at hj
    rw [setAll_getD t y _ ht j (by rw [setAll_len]; exact hj), setAll_getD s x o hs j hj, setAll_getD s x _ hs j (by rw [setAll_len]; exact hj), setAll_getD t y o ht j hj]
    by_cases h1 : (j : Int) ∈ t
    · rw [if_pos h1, if_neg (hst _ h1), if_pos h1]
    · rw [if_neg h1, if_neg h1]
theorem ps_in (o ids : List Int) (who : Int) (q : Int → Bool) (nt : Int) (hnt : nt ≠ 0) (h : psE o ids who q nt = 0) : ∀ z ∈ ids, 0 ≤ z := fun z hz => (((ps_zero o ids who q nt hnt).1 h).2.2.2.1 z hz).1
end Go.Proofs.Ytacjonncakhhmaa
