/- The reference's order by inserting; the ends of a list that is in order. -/
import Derived.Test.YtdnifilmckialaaDoorMathS
import Derived.Test.YtdnifilmckialaaDoorMathE
namespace Go.Proofs.YtdnifilmckialaaDoor

/-- One more, behind those that are no greater. -/
def insR (L : List Nat) (x : Nat) : List Nat := L.takeWhile (fun y => le y x) ++ x :: L.dropWhile (fun y => le y x)
def rsort (l : List Nat) : List Nat := l.foldl insR []
theorem rsort_snoc (l : List Nat) (x : Nat) : rsort (l ++ [x]) = insR (rsort l) x := by simp [rsort, List.foldl_append]
theorem insR_perm (L : List Nat) (x : Nat) : (insR L x).Perm (L ++ [x]) := by
  unfold insR
  have h := List.perm_middle (a := x) (l₁ := L.takeWhile (fun y => le y x)) (l₂ := L.dropWhile (fun y => le y x))
  rw [List.takeWhile_append_dropWhile] at h
  exact h.trans (List.perm_append_singleton x L).symm
theorem le_of_not {a b : Nat} (h : le a b = false) : le b a = true := by
  simp only [le, decide_eq_false_iff_not, decide_eq_true_eq] at *
  omega
theorem insR_sorted (L : List Nat) (x : Nat) (h : Srt L) : Srt (insR L x) := by
  unfold insR Srt at *
  induction L with
  | nil => simp
  | cons a L ih =>
    have ⟨h1, h2⟩ := List.pairwise_cons.1 h
    by_cases c : le a x = true
    · rw [List.takeWhile_cons_of_pos (p := fun y => le y x) c, List.dropWhile_cons_of_pos (p := fun y => le y x) c, List.cons_append]
      refine List.pairwise_cons.2 ⟨fun b hb => ?_, ih h2⟩
      have hb' : b ∈ L ++ [x] := (insR_perm L x).subset hb
      rcases List.mem_append.1 hb' with hb' | hb'
      · exact h1 b hb'
      · rw [List.mem_singleton.1 hb']; exact c
    · have c' : le a x = false := by simpa using c
      rw [List.takeWhile_cons_of_neg (p := fun y => le y x) c, List.dropWhile_cons_of_neg (p := fun y => le y x) c, List.nil_append]
      refine List.pairwise_cons.2 ⟨fun b hb => ?_, h⟩
      rcases List.mem_cons.1 hb with rfl | hb
      · exact le_of_not c'
      · exact le_trans _ _ _ (le_of_not c') (h1 b hb)
theorem rsort_perm (l : List Nat) : (rsort l).Perm l := by
  have key : ∀ (l acc : List Nat), (l.foldl insR acc).Perm (acc ++ l) := by
    intro l
    induction l with
    | nil => intro acc; simp
    | cons a l ih =>
      intro acc
      have h1 := ih (insR acc a)
      have h2 := (insR_perm acc a).append_right l
      simpa using h1.trans h2
  simpa [rsort] using key l []
theorem rsort_sorted (l : List Nat) : Srt (rsort l) := by
  have key : ∀ (l acc : List Nat), Srt acc → Srt (l.foldl insR acc) := by
    intro l
    induction l with
    | nil => intro acc h; exact h
    | cons a l ih => intro acc h; exact ih _ (insR_sorted acc a h)
  exact key l [] srt_nil
theorem rsort_length (l : List Nat) : (rsort l).length = l.length := (rsort_perm l).length_eq
/-- Where the search for a place stands. -/
def Upto (L : List Nat) (x k : Nat) : Prop := ∀ y ∈ L.take k, le y x = true
theorem upto_0 (L : List Nat) (x : Nat) : Upto L x 0 := by intro y hy; simp at hy
theorem upto_s (L : List Nat) (x k : Nat) (h : Upto L x k) (hk : k < L.length) (hl : le (L.getD k 0) x = true) : Upto L x (k + 1) := by
  intro y hy
  rw [take_snoc_getD L k hk] at hy
  rcases List.mem_append.1 hy with hy | hy
  · exact h y hy
  · rw [List.mem_singleton.1 hy]; exact hl
theorem insR_at (L : List Nat) (x k : Nat) (h : Upto L x k) (hk : k ≤ L.length) (hl : k < L.length → le (L.getD k 0) x = false) : insR L x = L.take k ++ [x] ++ L.drop k := by
  have e1 : L.takeWhile (fun y => le y x) = L.take k ∧ L.dropWhile (fun y => le y x) = L.drop k := by
    induction k generalizing L with
    | zero =>
      cases L with
      | nil => simp
      | cons a L =>
        have := hl (by simp)
        simp only [List.getD_cons_zero] at this
        simp [this]
    | succ k ih =>
      cases L with
      | nil => simp
      | cons a L =>
        have ha : le a x = true := h a (by simp)
        have := ih L (fun y hy => h y (by simp [hy])) (by simpa using hk) (fun hh => by simpa using hl (by simpa using hh))
        simp [ha, this.1, this.2]
  unfold insR
  rw [e1.1, e1.2]
  simp
/-- What the ends are. -/
structure EndsOf (l : List Nat) (s : Nat × Nat × Nat) : Prop where
  count : s.2.2 = l.countP (fun x => cls x != 1)
  none : s.2.2 = 0 → s.1 = 0 ∧ s.2.1 = 0
  first : s.2.2 ≠ 0 → s.1 ∈ l ∧ cls s.1 ≠ 1 ∧ ∀ x ∈ l, cls x ≠ 1 → rnk s.1 ≤ rnk x
  last : s.2.2 ≠ 0 → s.2.1 ∈ l ∧ cls s.2.1 ≠ 1 ∧ ∀ x ∈ l, cls x ≠ 1 → rnk x ≤ rnk s.2.1
theorem endsOf_step (l : List Nat) (s : Nat × Nat × Nat) (f : Nat) (h : EndsOf l s) : EndsOf (l ++ [f]) (endStep s f) := by
  obtain ⟨a, b, n⟩ := s
  obtain ⟨h1, h2, h3, h4⟩ := h
  simp only at h1 h2 h3 h4
  by_cases c : cls f = 1
  · have e : endStep (a, b, n) f = (a, b, n) := by simp [endStep, c]
    rw [e]
    refine ⟨?_, h2, fun hn => ?_, fun hn => ?_⟩
    · simp [List.countP_append, c, h1]
    · obtain ⟨k1, k2, k3⟩ := h3 hn
      refine ⟨List.mem_append_left _ k1, k2, fun x hx hxc => ?_⟩
      rcases List.mem_append.1 hx with hx | hx
      · exact k3 x hx hxc
      · rw [List.mem_singleton.1 hx] at hxc; exact absurd c hxc
    · obtain ⟨k1, k2, k3⟩ := h4 hn
      refine ⟨List.mem_append_left _ k1, k2, fun x hx hxc => ?_⟩
      rcases List.mem_append.1 hx with hx | hx
      · exact k3 x hx hxc
      · rw [List.mem_singleton.1 hx] at hxc; exact absurd c hxc
  · have e : endStep (a, b, n) f = (if n = 0 ∨ ahd f a = true then f else a, if n = 0 ∨ ahd b f = true then f else b, n + 1) := by simp [endStep, c]
    rw [e]
    refine ⟨?_, fun hn => absurd hn (by simp), fun _ => ?_, fun _ => ?_⟩
    · simp [List.countP_append, c, h1]
    · simp only
      by_cases hn : n = 0
      · rw [if_pos (Or.inl hn)]
        refine ⟨by simp, c, fun x hx hxc => ?_⟩
        rcases List.mem_append.1 hx with hx | hx
        · rw [hn] at h1
          have := List.countP_eq_zero.1 h1.symm x hx
          simp [hxc] at this
        · rw [List.mem_singleton.1 hx]; exact Nat.le_refl _
      · obtain ⟨k1, k2, k3⟩ := h3 hn
        by_cases g : ahd f a = true
        · rw [if_pos (Or.inr g)]
          simp only [ahd, decide_eq_true_eq] at g
          refine ⟨by simp, c, fun x hx hxc => ?_⟩
          rcases List.mem_append.1 hx with hx | hx
          · have := k3 x hx hxc; omega
          · rw [List.mem_singleton.1 hx]; exact Nat.le_refl _
        · rw [if_neg (by simp [hn, g])]
          simp only [ahd, decide_eq_true_eq] at g
          refine ⟨List.mem_append_left _ k1, k2, fun x hx hxc => ?_⟩
          rcases List.mem_append.1 hx with hx | hx
          · exact k3 x hx hxc
          · rw [List.mem_singleton.1 hx]; omega
    · simp only
      by_cases hn : n = 0
      · rw [if_pos (Or.inl hn)]
        refine ⟨by simp, c, fun x hx hxc => ?_⟩
        rcases List.mem_append.1 hx with hx | hx
        · rw [hn] at h1
          have := List.countP_eq_zero.1 h1.symm x hx
          simp [hxc] at this
        · rw [List.mem_singleton.1 hx]; exact Nat.le_refl _
      · obtain ⟨k1, k2, k3⟩ := h4 hn
        by_cases g : ahd b f = true
        · rw [if_pos (Or.inr g)]
          simp only [ahd, decide_eq_true_eq] at g
          refine ⟨by simp, c, fun x hx hxc => ?_⟩
          rcases List.mem_append.1 hx with hx | hx
          · have := k3 x hx hxc; omega
          · rw [List.mem_singleton.1 hx]; exact Nat.le_refl _
        · rw [if_neg (by simp [hn, g])]
          simp only [ahd, decide_eq_true_eq] at g
          refine ⟨List.mem_append_left _ k1, k2, fun x hx hxc => ?_⟩
          rcases List.mem_append.1 hx with hx | hx
          · exact k3 x hx hxc
          · rw [List.mem_singleton.1 hx]; omega
theorem ends_of (l : List Nat) : EndsOf l (ends l) := by
  have key : ∀ (l p : List Nat) s, EndsOf p s → EndsOf (p ++ l) (l.foldl endStep s) := by
    intro l
    induction l with
    | nil => intro p s h; simpa using h
    | cons a l ih =>
      intro p s h
      have := ih (p ++ [a]) _ (endsOf_step p s a h)
      simpa using this
  have h0 : EndsOf [] (0, 0, 0) := ⟨rfl, fun _ => ⟨rfl, rfl⟩, fun h => absurd rfl h, fun h => absurd rfl h⟩
  simpa [ends] using key l [] _ h0
end Go.Proofs.YtdnifilmckialaaDoor
