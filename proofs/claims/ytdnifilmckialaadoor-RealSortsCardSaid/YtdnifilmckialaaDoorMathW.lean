/- A list in order, against the ends and against another in order. -/
import Derived.Test.YtdnifilmckialaaDoorMathV
namespace Go.Proofs.YtdnifilmckialaaDoor

/-- Two floats are one. -/
def Same1 (a b : Nat) : Prop := a = b ∨ (cls a = 1 ∧ cls b = 1)
theorem getD_mem' {l : List Nat} {i : Nat} (h : i < l.length) : l.getD i 0 ∈ l := by
  rw [List.getD_eq_getElem?_getD, List.getElem?_eq_getElem h]
  exact List.getElem_mem h
theorem same_each (xs zs : List Nat) (hlt : ∀ x ∈ xs, x < 18446744073709551616) (hp : zs.Perm xs) (hs : Srt zs) (i : Nat) (hi : i < xs.length) : Same1 (zs.getD i 0) ((rsort xs).getD i 0) := by
  have e := ranks_eq zs (rsort xs) hs (rsort_sorted xs) (hp.trans (rsort_perm xs).symm)
  have h1 : i < zs.length := by rw [hp.length_eq]; exact hi
  have h2 : i < (rsort xs).length := by rw [rsort_length]; exact hi
  have e1 : (zs.map rnk)[i]? = ((rsort xs).map rnk)[i]? := by rw [e]
  rw [List.getElem?_map, List.getElem?_map, List.getElem?_eq_getElem h1, List.getElem?_eq_getElem h2] at e1
  have e2 : rnk (zs.getD i 0) = rnk ((rsort xs).getD i 0) := by
    rw [List.getD_eq_getElem?_getD, List.getD_eq_getElem?_getD, List.getElem?_eq_getElem h1, List.getElem?_eq_getElem h2]
    simpa using e1
  exact rnk_one _ _ (hlt _ (hp.subset (getD_mem' h1))) (hlt _ ((rsort_perm xs).subset (getD_mem' h2))) e2
theorem rnk_nan (x y : Nat) (hx : x < 18446744073709551616) (hy : y < 18446744073709551616) (h : cls x = 1) (hle : rnk x ≤ rnk y) : cls y = 1 := by
  have e : rnk x = 18446744073709551615 := by unfold rnk; rw [if_pos h]
  have e2 : rnk y ≤ 18446744073709551615 := by unfold rnk; (repeat' split) <;> omega
  rcases rnk_one x y hx hy (by omega) with rfl | ⟨_, h2⟩
  · exact h
  · exact h2
/-- Those that are numbers lie first. -/
theorem count_split (L : List Nat) (hlt : ∀ x ∈ L, x < 18446744073709551616) (hs : Srt L) : ∀ i, i < L.length → (cls (L.getD i 0) ≠ 1 ↔ i < L.countP (fun x => cls x != 1)) := by
  induction L with
  | nil => intro i hi; simp at hi
  | cons a L ih =>
    have ⟨h1, h2⟩ := List.pairwise_cons.1 hs
    have ih' := ih (fun x hx => hlt x (by simp [hx])) h2
    intro i hi
    by_cases c : cls a = 1
    · have hall : ∀ b ∈ L, cls b = 1 := fun b hb => rnk_nan a b (hlt a (by simp)) (hlt b (by simp [hb])) c (by have := h1 b hb; simpa [le] using this)
      have hcount : (a :: L).countP (fun x => cls x != 1) = 0 := by
        rw [List.countP_eq_zero]
        intro b hb
        rcases List.mem_cons.1 hb with rfl | hb
        · simp [c]
        · simp [hall b hb]
      rw [hcount]
      cases i with
      | zero => simp [c]
      | succ i =>
        have := hall _ (getD_mem' (l := L) (i := i) (by simpa using hi))
        simp only [List.getD_cons_succ]
        constructor
        · intro h; exact absurd this h
        · intro h; omega
    · have hc1 : (a :: L).countP (fun x => cls x != 1) = L.countP (fun x => cls x != 1) + 1 := by simp [c]
      rw [hc1]
      cases i with
      | zero => simp [c]
      | succ i =>
        have := ih' i (by simpa using hi)
        simp only [List.getD_cons_succ]
        rw [this]
        omega
theorem sorted_le (L : List Nat) (hs : Srt L) (i j : Nat) (hij : i ≤ j) (hj : j < L.length) : rnk (L.getD i 0) ≤ rnk (L.getD j 0) := by
  rcases Nat.lt_or_ge i j with h | h
  · have := List.pairwise_iff_getElem.1 hs i j (by omega) hj h
    rw [List.getD_eq_getElem?_getD, List.getD_eq_getElem?_getD, List.getElem?_eq_getElem (by omega), List.getElem?_eq_getElem hj]
    simpa [le] using this
  · rw [show i = j by omega]
    exact Nat.le_refl _
theorem at_of_mem {L : List Nat} {x : Nat} (h : x ∈ L) : ∃ i, i < L.length ∧ L.getD i 0 = x := by
  obtain ⟨i, hi, e⟩ := List.getElem_of_mem h
  exact ⟨i, hi, by rw [List.getD_eq_getElem?_getD, List.getElem?_eq_getElem hi]; exact e⟩
/-- The ends are the first and the last that are numbers, in the order. -/
theorem ends_sorted (xs : List Nat) (hlt : ∀ x ∈ xs, x < 18446744073709551616) :
    (ends xs).2.2 = (rsort xs).countP (fun x => cls x != 1) ∧ ((ends xs).2.2 = 0 → (ends xs).1 = 0 ∧ (ends xs).2.1 = 0) ∧
    ((ends xs).2.2 ≠ 0 → Same1 (ends xs).1 ((rsort xs).getD 0 0) ∧ Same1 (ends xs).2.1 ((rsort xs).getD ((ends xs).2.2 - 1) 0)) := by
  obtain ⟨h1, h2, h3, h4⟩ := ends_of xs
  have hcnt : xs.countP (fun x => cls x != 1) = (rsort xs).countP (fun x => cls x != 1) := ((rsort_perm xs).countP_eq _).symm
  have hltr : ∀ x ∈ rsort xs, x < 18446744073709551616 := fun x hx => hlt x ((rsort_perm xs).subset hx)
  refine ⟨h1.trans hcnt, h2, fun hn => ?_⟩
  obtain ⟨k1, k2, k3⟩ := h3 hn
  obtain ⟨l1, l2, l3⟩ := h4 hn
  have hsp := count_split (rsort xs) hltr (rsort_sorted xs)
  rw [hcnt] at h1
  rw [← h1] at hsp
  have hle : (ends xs).2.2 ≤ (rsort xs).length := by rw [h1]; exact List.countP_le_length
  generalize (ends xs).2.2 = k at *
  constructor
  · have c0 : cls ((rsort xs).getD 0 0) ≠ 1 := (hsp 0 (by omega)).2 (by omega)
    have m0 := getD_mem' (l := rsort xs) (i := 0) (by omega)
    obtain ⟨j, hj, ej⟩ := at_of_mem ((rsort_perm xs).symm.subset k1)
    have g1 := sorted_le (rsort xs) (rsort_sorted xs) 0 j (Nat.zero_le _) hj
    rw [ej] at g1
    have g2 := k3 _ ((rsort_perm xs).subset m0) c0
    exact rnk_one _ _ (hlt _ k1) (hltr _ m0) (by omega)
  · have c0 : cls ((rsort xs).getD (k - 1) 0) ≠ 1 := (hsp (k - 1) (by omega)).2 (by omega)
    have m0 := getD_mem' (l := rsort xs) (i := k - 1) (by omega)
    obtain ⟨j, hj, ej⟩ := at_of_mem ((rsort_perm xs).symm.subset l1)
    have hjk : j < k := (hsp j hj).1 (by rw [ej]; exact l2)
    have g1 := sorted_le (rsort xs) (rsort_sorted xs) j (k - 1) (by omega) (by omega)
    rw [ej] at g1
    have g2 := l3 _ ((rsort_perm xs).subset m0) c0
    exact rnk_one _ _ (hlt _ l1) (hltr _ m0) (by omega)
end Go.Proofs.YtdnifilmckialaaDoor
