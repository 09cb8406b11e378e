/- Rising lists of numbers, as plain mathematics: put, the set of a list, what two sets have together. -/
import Derived.Test.YtjpojidpmmodnaaMC
namespace Go.Proofs.Ytjpojidpmmodnaa

/-- Does a list rise? -/
def Inc (l : List Int) : Prop := l.Pairwise (· < ·)
instance (l : List Int) : Decidable (Inc l) := inferInstanceAs (Decidable (List.Pairwise _ l))
/-- A number put into a set. -/
def put : List Int → Int → List Int
  | [], n => [n]
  | x :: r, n => if x < n then x :: put r n else if x = n then x :: r else n :: x :: r
/-- The set of a list. -/
def mk (l : List Int) : List Int := l.foldl put []

theorem inc_cons {x : Int} {r : List Int} : Inc (x :: r) ↔ (∀ y ∈ r, x < y) ∧ Inc r := List.pairwise_cons
theorem inc_nil : Inc [] := List.Pairwise.nil
theorem inc_append {a b : List Int} : Inc (a ++ b) ↔ Inc a ∧ Inc b ∧ ∀ x ∈ a, ∀ y ∈ b, x < y := List.pairwise_append
theorem inc_filter {a : List Int} (p : Int → Bool) (h : Inc a) : Inc (a.filter p) := List.Pairwise.filter p h
theorem inc_drop {a : List Int} (k : Nat) (h : Inc a) : Inc (a.drop k) := List.Pairwise.sublist (List.drop_sublist k a) h
theorem inc_take {a : List Int} (k : Nat) (h : Inc a) : Inc (a.take k) := List.Pairwise.sublist (List.take_sublist k a) h
theorem inc_snoc {a : List Int} {x : Int} (h : Inc a) (hx : ∀ y ∈ a, y < x) : Inc (a ++ [x]) := inc_append.2 ⟨h, List.pairwise_singleton _ _, fun y hy z hz => by simp at hz; rw [hz]; exact hx y hy⟩
theorem inc_ext : ∀ {a b : List Int}, Inc a → Inc b → (∀ x, x ∈ a ↔ x ∈ b) → a = b
  | [], [], _, _, _ => rfl
  | [], y :: s, _, _, h => absurd ((h y).2 (by simp)) (by simp)
  | x :: r, [], _, _, h => absurd ((h x).1 (by simp)) (by simp)
  | x :: r, y :: s, ha, hb, h => by
    obtain ⟨h1, h2⟩ := inc_cons.1 ha
    obtain ⟨h3, h4⟩ := inc_cons.1 hb
    have hxy : x = y := by
      have e1 := (h x).1 (by simp)
      have e2 := (h y).2 (by simp)
      rcases List.mem_cons.1 e1 with e1 | e1
      · exact e1
      · rcases List.mem_cons.1 e2 with e2 | e2
        · exact e2.symm
        · have := h1 y e2
          have := h3 x e1
          omega
    subst hxy
    rw [inc_ext h2 h4 (fun z => ?_)]
    constructor
    · intro hz
      rcases List.mem_cons.1 ((h z).1 (by simp [hz])) with e | e
      · have := h1 z hz; omega
      · exact e
    · intro hz
      rcases List.mem_cons.1 ((h z).2 (by simp [hz])) with e | e
      · have := h3 z hz; omega
      · exact e
theorem mem_put (s : List Int) (n x : Int) : x ∈ put s n ↔ x ∈ s ∨ x = n := by
  induction s with
  | nil => simp [put]
  | cons y r ih =>
    rw [put]
    split
    · rw [List.mem_cons, List.mem_cons, ih, or_assoc]
    · split
      · rename_i h; subst h; simp; intro h; exact Or.inl h
      · rw [List.mem_cons, or_comm]
theorem inc_put {s : List Int} (n : Int) (h : Inc s) : Inc (put s n) := by
  induction s with
  | nil => exact List.pairwise_singleton _ _
  | cons y r ih =>
    obtain ⟨h1, h2⟩ := inc_cons.1 h
    rw [put]
    split
    · rename_i hy
      refine inc_cons.2 ⟨fun z hz => ?_, ih h2⟩
      rcases (mem_put r n z).1 hz with hz | hz
      · exact h1 z hz
      · omega
    · split
      · exact h
      · refine inc_cons.2 ⟨fun z hz => ?_, h⟩
        rcases List.mem_cons.1 hz with hz | hz
        · omega
        · have := h1 z hz; omega
theorem foldl_put (l : List Int) : ∀ s : List Int, Inc s → Inc (l.foldl put s) ∧ ∀ x, x ∈ l.foldl put s ↔ x ∈ s ∨ x ∈ l := by
  induction l with
  | nil => intro s h; exact ⟨h, fun x => by simp⟩
  | cons y r ih =>
    intro s h
    obtain ⟨h1, h2⟩ := ih (put s y) (inc_put y h)
    refine ⟨h1, fun x => ?_⟩
    rw [List.foldl_cons, h2, mem_put, List.mem_cons, or_assoc]
theorem inc_mk (l : List Int) : Inc (mk l) := (foldl_put l [] inc_nil).1
theorem mem_mk (l : List Int) (x : Int) : x ∈ mk l ↔ x ∈ l := by rw [mk, (foldl_put l [] inc_nil).2]; simp
theorem mk_inc {l : List Int} (h : Inc l) : mk l = l := inc_ext (inc_mk l) h (mem_mk l)
theorem mk_of {s l : List Int} (h : Inc s) (hm : ∀ x, x ∈ s ↔ x ∈ l) : s = mk l := inc_ext h (inc_mk l) fun x => by rw [hm, mem_mk]
theorem mk_snoc (l : List Int) (x : Int) : mk (l ++ [x]) = put (mk l) x := by rw [mk, List.foldl_append]; rfl
theorem foldl_put_eq {s : List Int} (h : Inc s) (l : List Int) : l.foldl put s = mk (s ++ l) := mk_of (foldl_put l s h).1 fun x => by rw [(foldl_put l s h).2, List.mem_append]

/-- Where a number is put. -/
theorem put_at : ∀ (s : List Int) (n : Int) (k : Nat), k ≤ s.length → (∀ i, i < k → s.getD i 0 < n) → (k < s.length → n < s.getD k 0) → put s n = s.take k ++ [n] ++ s.drop k
  | [], n, k, hk, _, _ => by
    have : k = 0 := by simpa using hk
    subst this; rfl
  | x :: r, n, 0, _, _, h2 => by
    have := h2 (by simp)
    simp at this
    rw [put, if_neg (by omega), if_neg (by omega)]
    rfl
  | x :: r, n, k + 1, hk, h1, h2 => by
    have h0 := h1 0 (by omega)
    simp at h0
    rw [put, if_pos h0, put_at r n k (by simpa using hk) (fun i hi => by simpa using h1 (i + 1) (by omega)) (fun hh => by simpa using h2 (by simpa using hh))]
    rfl
theorem put_there : ∀ (s : List Int) (n : Int) (k : Nat), k < s.length → (∀ i, i < k → s.getD i 0 < n) → s.getD k 0 = n → put s n = s
  | [], n, k, hk, _, _ => by simp at hk
  | x :: r, n, 0, _, _, h2 => by
    simp at h2
    rw [put, if_neg (by omega), if_pos h2]
  | x :: r, n, k + 1, hk, h1, h2 => by
    have h0 := h1 0 (by omega)
    simp at h0
    rw [put, if_pos h0, put_there r n k (by simpa using hk) (fun i hi => by simpa using h1 (i + 1) (by omega)) (by simpa using h2)]
theorem put_len_new (s : List Int) (n : Int) (h : n ∉ s) : (put s n).length = s.length + 1 := by
  induction s with
  | nil => rfl
  | cons y r ih =>
    rw [put]
    split
    · rw [List.length_cons, ih (fun hh => h (by simp [hh])), List.length_cons]
    · split
      · rename_i hy; exact absurd hy.symm (fun e => h (by simp [e]))
      · rfl
theorem put_old {s : List Int} (hs : Inc s) (n : Int) (h : n ∈ s) : put s n = s := inc_ext (inc_put n hs) hs fun x => by
  rw [mem_put]
  exact ⟨fun k => k.elim id (fun e => e ▸ h), Or.inl⟩
theorem mk_len_snoc (l : List Int) (x : Int) : (mk (l ++ [x])).length = (mk l).length + (if x ∈ l then 0 else 1) := by
  rw [mk_snoc]
  by_cases h : x ∈ l
  · rw [put_old (inc_mk l) x ((mem_mk l x).2 h), if_pos h, Nat.add_zero]
  · rw [put_len_new _ _ (fun k => h ((mem_mk l x).1 k)), if_neg h]
theorem mk_len_le (l : List Int) : (mk l).length ≤ l.length := by
  refine snoc_ind (p := fun l => (mk l).length ≤ l.length) (Nat.le_refl _) ?_ l
  intro l c ih
  rw [mk_len_snoc, List.length_append, List.length_cons, List.length_nil]
  split <;> omega

/-- The place of the first number that was there already. -/
def Tw (l : List Int) (t : Int) : Prop :=
  (t = -1 ∧ ∀ i, i < l.length → l.getD i 0 ∉ l.take i) ∨ (∃ i : Nat, i < l.length ∧ t = i ∧ l.getD i 0 ∈ l.take i ∧ ∀ j, j < i → l.getD j 0 ∉ l.take j)
theorem Tw.uniq {l : List Int} {t u : Int} (h : Tw l t) (k : Tw l u) : t = u := by
  rcases h with ⟨rfl, h⟩ | ⟨i, hi, rfl, h1, h2⟩ <;> rcases k with ⟨rfl, k⟩ | ⟨j, hj, rfl, k1, k2⟩
  · rfl
  · exact absurd k1 (h j hj)
  · exact absurd h1 (k i hi)
  · rcases Nat.lt_trichotomy i j with hh | hh | hh
    · exact absurd h1 (k2 i hh)
    · rw [hh]
    · exact absurd k1 (h2 j hh)
theorem mk_len_all (l : List Int) : (mk l).length = l.length ↔ ∀ i, i < l.length → l.getD i 0 ∉ l.take i := by
  refine snoc_ind (p := fun l => (mk l).length = l.length ↔ ∀ i, i < l.length → l.getD i 0 ∉ l.take i) ?_ ?_ l
  · simp [mk]
  · intro l c ih
    have hle := mk_len_le l
    have hlast : (l ++ [c]).getD l.length 0 = c := by simp
    have htake : (l ++ [c]).take l.length = l := by simp
    rw [mk_len_snoc, List.length_append, List.length_cons, List.length_nil]
    constructor
    · intro h i hi
      by_cases hc : c ∈ l
      · rw [if_pos hc] at h; omega
      · rw [if_neg hc] at h
        by_cases hil : i < l.length
        · have := ih.1 (by omega) i hil
          rw [List.take_append_of_le_length (by omega)]
          rw [List.getD_eq_getElem?_getD, List.getElem?_append_left hil, ← List.getD_eq_getElem?_getD]
          exact this
        · obtain rfl : i = l.length := by omega
          rw [hlast, htake]
          exact hc
    · intro h
      have hc : c ∉ l := by
        have := h l.length (by omega)
        rwa [hlast, htake] at this
      have := ih.2 (fun i hi => by
        have := h i (by omega)
        rw [List.take_append_of_le_length (by omega), List.getD_eq_getElem?_getD, List.getElem?_append_left hi, ← List.getD_eq_getElem?_getD] at this
        exact this)
      rw [if_neg hc]
      omega
theorem Tw.len {l : List Int} {t : Int} (h : Tw l t) : decide ((mk l).length = l.length) = decide (t = -1) := by
  rw [decide_eq_decide, mk_len_all]
  rcases h with ⟨rfl, h⟩ | ⟨i, hi, rfl, h1, h2⟩
  · exact ⟨fun _ => rfl, fun _ => h⟩
  · exact ⟨fun k => absurd h1 (k i hi), fun k => by omega⟩
end Go.Proofs.Ytjpojidpmmodnaa
