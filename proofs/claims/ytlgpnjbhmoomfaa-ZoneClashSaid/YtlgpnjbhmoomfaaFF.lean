/- Plain mathematics of borders that rise: in which lane a place lies, which lanes are touched. -/
import Derived.Test.YtlgpnjbhmoomfaaFE
namespace Go.Proofs.Ytlgpnjbhmoomfaa

/-- Borders that rise. -/
structure Rise (l : List Nat) : Prop where
  two : 2 ≤ l.length
  most : l.length ≤ 25
  num : ∀ i, i < l.length → ¬ nan (l.getD i 0)
  lt : ∀ i j, i < j → j < l.length → vf (l.getD i 0) < vf (l.getD j 0)
theorem Rise.le {l : List Nat} (h : Rise l) (i j : Nat) (hij : i ≤ j) (hj : j < l.length) : vf (l.getD i 0) ≤ vf (l.getD j 0) := by
  rcases Nat.lt_or_eq_of_le hij with h1 | h1
  · exact Int.le_of_lt (h.lt i j h1 hj)
  · rw [h1]; omega
theorem chk_all (l : List Nat) : ∀ n i, n = l.length - i → chkAt l i = 0 → ∀ j, i ≤ j → j < l.length → ¬ nan (l.getD j 0) ∧ (0 < j → leb (l.getD j 0) (l.getD (j - 1) 0) = false) := by
  intro n
  induction n with
  | zero => intro i hn _ j h1 h2; omega
  | succ n ih =>
    intro i hn hc j h1 h2
    rw [chkAt, if_pos (by omega)] at hc
    by_cases hnan : nanb (l.getD i 0) = true
    · rw [if_pos hnan] at hc; omega
    rw [if_neg hnan] at hc
    by_cases hb : 0 < i ∧ leb (l.getD i 0) (l.getD (i - 1) 0) = true
    · rw [if_pos hb] at hc; omega
    rw [if_neg hb] at hc
    by_cases hij : i = j
    · subst hij
      refine ⟨by unfold nanb at hnan; simpa using hnan, fun h0 => ?_⟩
      rw [← Bool.not_eq_true]
      exact fun hh => hb ⟨h0, hh⟩
    · exact ih (i + 1) (by omega) hc j (by omega) h2
theorem rise_of (l : List Nat) (h : chkE l = 0) : Rise l := by
  unfold chkE at h
  by_cases h1 : l.length < 2
  · rw [if_pos h1] at h; omega
  rw [if_neg h1] at h
  by_cases h2 : 25 < l.length
  · rw [if_pos h2] at h; omega
  rw [if_neg h2] at h
  have ha := chk_all l _ 0 rfl h
  have hnum : ∀ i, i < l.length → ¬ nan (l.getD i 0) := fun i hi => (ha i (Nat.zero_le _) hi).1
  have step : ∀ i, i + 1 < l.length → vf (l.getD i 0) < vf (l.getD (i + 1) 0) := fun i hi => by
    have h3 := (ha (i + 1) (Nat.zero_le _) hi).2 (by omega)
    rw [Nat.add_sub_cancel] at h3
    apply Int.lt_of_not_ge
    intro hh
    have := (leb_iff (l.getD (i + 1) 0) (l.getD i 0)).2 ⟨hnum _ hi, hnum _ (by omega), hh⟩
    rw [this] at h3
    cases h3
  refine ⟨by omega, by omega, hnum, fun i j hij => ?_⟩
  induction j with
  | zero => omega
  | succ j ih =>
    intro hj
    by_cases e : i = j
    · subst e; exact step i hj
    · exact Int.lt_trans (ih (by omega) (by omega)) (step j hj)
theorem ltb_num {a b : Nat} (ha : ¬ nan a) (hb : ¬ nan b) : ltb a b = decide (vf a < vf b) := by
  rw [Bool.eq_iff_iff, ltb_iff, decide_eq_true_eq]
  exact ⟨fun h => h.2.2, fun h => ⟨ha, hb, h⟩⟩
theorem leb_num {a b : Nat} (ha : ¬ nan a) (hb : ¬ nan b) : leb a b = decide (vf a ≤ vf b) := by
  rw [Bool.eq_iff_iff, leb_iff, decide_eq_true_eq]
  exact ⟨fun h => h.2.2, fun h => ⟨ha, hb, h⟩⟩
theorem gtb_num {a b : Nat} (ha : ¬ nan a) (hb : ¬ nan b) : gtb a b = decide (vf b < vf a) := by
  rw [Bool.eq_iff_iff, gtb_iff, decide_eq_true_eq]
  exact ⟨fun h => h.2.2, fun h => ⟨ha, hb, h⟩⟩
theorem geb_num {a b : Nat} (ha : ¬ nan a) (hb : ¬ nan b) : geb a b = decide (vf b ≤ vf a) := by
  rw [Bool.eq_iff_iff, geb_iff, decide_eq_true_eq]
  exact ⟨fun h => h.2.2, fun h => ⟨ha, hb, h⟩⟩

/-- The first lane that a lies below the upper border of; the last one that b is not below. -/
def loV (l : List Nat) (a : Nat) (k : Nat) : Nat := if k + 2 < l.length ∧ geb a (l.getD (k + 1) 0) = true then loV l a (k + 1) else k
termination_by l.length - k
def hiV (l : List Nat) (b : Nat) : Nat → Nat
  | 0 => 0
  | k + 1 => if ltb b (l.getD (k + 1) 0) = true then hiV l b k else k + 1
theorem lo_next (l : List Nat) (a k : Nat) (h : k + 2 < l.length) (hg : geb a (l.getD (k + 1) 0) = true) : loV l a (k + 1) = loV l a k := by
  rw [loV.eq_def l a k, if_pos ⟨h, hg⟩]
theorem lo_end (l : List Nat) (a k : Nat) (h : l.length ≤ k + 2 ∨ geb a (l.getD (k + 1) 0) = false) : loV l a k = k := by
  rw [loV, if_neg]
  rintro ⟨h1, h2⟩
  rcases h with h | h
  · omega
  · rw [h] at h2; cases h2
theorem hi_next (l : List Nat) (b k : Nat) (hg : ltb b (l.getD k 0) = true) (h0 : ltb b (l.getD 0 0) = false) : 0 < k ∧ hiV l b (k - 1) = hiV l b k := by
  cases k with
  | zero => rw [h0] at hg; cases hg
  | succ k =>
    refine ⟨by omega, ?_⟩
    rw [Nat.add_sub_cancel, hiV.eq_def l b (k + 1)]
    simp only [hg, if_true]
theorem hi_end (l : List Nat) (b k : Nat) (hg : ltb b (l.getD k 0) = false) : hiV l b k = k := by
  cases k with
  | zero => rfl
  | succ k =>
    rw [hiV, hg, if_neg (by simp)]
/-- Lies it off the rail? -/
def outB (l : List Nat) (a b : Nat) : Bool := gtb a (l.getD (l.length - 1) 0) || ltb b (l.getD 0 0)
theorem lo_spec (l : List Nat) (h : Rise l) (a : Nat) (ha : ¬ nan a) : ∀ n k, n = l.length - k → k + 2 ≤ l.length → (∀ j, j < k → vf (l.getD (j + 1) 0) ≤ vf a) →
    loV l a k + 2 ≤ l.length ∧ (∀ j, j < loV l a k → vf (l.getD (j + 1) 0) ≤ vf a) ∧ (loV l a k + 2 = l.length ∨ vf a < vf (l.getD (loV l a k + 1) 0)) := by
  intro n
  induction n with
  | zero => intro k h1 h2; omega
  | succ n ih =>
    intro k hn hk hj
    by_cases hc : k + 2 < l.length ∧ geb a (l.getD (k + 1) 0) = true
    · rw [loV, if_pos hc]
      refine ih (k + 1) (by omega) (by omega) fun j hj2 => ?_
      by_cases e : j = k
      · subst e
        exact ((geb_iff _ _).1 hc.2).2.2
      · exact hj j (by omega)
    · rw [loV, if_neg hc]
      refine ⟨hk, hj, ?_⟩
      by_cases e : k + 2 = l.length
      · exact .inl e
      · right
        have hg : ¬ geb a (l.getD (k + 1) 0) = true := fun hh => hc ⟨by omega, hh⟩
        rw [geb_num ha (h.num _ (by omega)), decide_eq_true_eq] at hg
        omega
theorem hi_spec (l : List Nat) (h : Rise l) (b : Nat) (hb : ¬ nan b) (h0 : vf (l.getD 0 0) ≤ vf b) : ∀ k, k < l.length →
    hiV l b k ≤ k ∧ vf (l.getD (hiV l b k) 0) ≤ vf b ∧ ∀ j, hiV l b k < j → j ≤ k → vf b < vf (l.getD j 0) := by
  intro k
  induction k with
  | zero => intro _; exact ⟨Nat.le_refl _, h0, fun j h1 h2 => by unfold hiV at h1; omega⟩
  | succ k ih =>
    intro hk
    obtain ⟨i1, i2, i3⟩ := ih (by omega)
    by_cases hc : ltb b (l.getD (k + 1) 0) = true
    · rw [hiV, if_pos hc]
      refine ⟨by omega, i2, fun j h1 h2 => ?_⟩
      by_cases e : j = k + 1
      · subst e
        exact ((ltb_iff _ _).1 hc).2.2
      · exact i3 j h1 (by omega)
    · rw [hiV, if_neg hc]
      rw [ltb_num hb (h.num _ hk), decide_eq_true_eq] at hc
      exact ⟨Nat.le_refl _, by omega, fun j h1 h2 => by omega⟩
/-- What is known of the touched lanes. -/
theorem lanes_spec (l : List Nat) (h : Rise l) (a b : Nat) (ha : ¬ nan a) (hb : ¬ nan b) (hab : vf a ≤ vf b) (ho : outB l a b = false) :
    loV l a 0 ≤ hiV l b (l.length - 2) ∧ hiV l b (l.length - 2) + 2 ≤ l.length ∧ (∀ j, j < loV l a 0 → vf (l.getD (j + 1) 0) ≤ vf a) ∧ (loV l a 0 + 2 = l.length ∨ vf a < vf (l.getD (loV l a 0 + 1) 0)) ∧
    vf (l.getD (hiV l b (l.length - 2)) 0) ≤ vf b ∧ (∀ j, hiV l b (l.length - 2) < j → j + 2 ≤ l.length → vf b < vf (l.getD j 0)) ∧ vf a ≤ vf (l.getD (l.length - 1) 0) ∧ vf (l.getD 0 0) ≤ vf b := by
  have h2 := h.two
  unfold outB at ho
  rw [Bool.or_eq_false_iff, gtb_num ha (h.num _ (by omega)), ltb_num hb (h.num _ (by omega)), decide_eq_false_iff_not, decide_eq_false_iff_not] at ho
  obtain ⟨o1, o2⟩ := ho
  obtain ⟨a1, a2, a3⟩ := lo_spec l h a ha _ 0 rfl (by omega) (fun j hj => by omega)
  obtain ⟨b1, b2, b3⟩ := hi_spec l h b hb (by omega) (l.length - 2) (by omega)
  refine ⟨?_, by omega, a2, a3, b2, fun j j1 j2 => b3 j j1 (by omega), by omega, by omega⟩
  apply Nat.le_of_not_lt
  intro hh
  have x := b3 (hiV l b (l.length - 2) + 1) (by omega) (by omega)
  have y := a2 (hiV l b (l.length - 2)) hh
  omega
/-- Is a lane touched? -/
def tchB (l : List Nat) (a b k : Nat) : Bool := (if k + 2 = l.length then leb a (l.getD (k + 1) 0) else ltb a (l.getD (k + 1) 0)) && geb b (l.getD k 0)
theorem tch_iff (l : List Nat) (h : Rise l) (a b : Nat) (ha : ¬ nan a) (hb : ¬ nan b) (hab : vf a ≤ vf b) (ho : outB l a b = false) (k : Nat) (hk : k + 2 ≤ l.length) :
    tchB l a b k = true ↔ loV l a 0 ≤ k ∧ k ≤ hiV l b (l.length - 2) := by
  obtain ⟨s1, s2, s3, s4, s5, s6, s7, s8⟩ := lanes_spec l h a b ha hb hab ho
  unfold tchB
  rw [Bool.and_eq_true, geb_num hb (h.num _ (by omega)), decide_eq_true_eq]
  constructor
  · rintro ⟨t1, t2⟩
    constructor
    · apply Nat.le_of_not_lt
      intro hh
      have x := s3 k hh
      rw [if_neg (by omega), ltb_num ha (h.num _ (by omega)), decide_eq_true_eq] at t1
      omega
    · apply Nat.le_of_not_lt
      intro hh
      have x := s6 k hh hk
      omega
  · rintro ⟨t1, t2⟩
    constructor
    · by_cases e : k + 2 = l.length
      · rw [if_pos e, leb_num ha (h.num _ (by omega)), decide_eq_true_eq]
        rw [show k + 1 = l.length - 1 by omega]
        exact s7
      · rw [if_neg e, ltb_num ha (h.num _ (by omega)), decide_eq_true_eq]
        rcases s4 with s4 | s4
        · omega
        · have := h.le (loV l a 0 + 1) (k + 1) (by omega) (by omega)
          omega
    · have := h.le k _ t2 (by omega)
      omega
theorem tch_out (l : List Nat) (h : Rise l) (a b : Nat) (ha : ¬ nan a) (hb : ¬ nan b) (ho : outB l a b = true) (k : Nat) (hk : k + 2 ≤ l.length) : tchB l a b k = false := by
  have h2 := h.two
  unfold outB at ho
  rw [Bool.or_eq_true, gtb_num ha (h.num _ (by omega)), ltb_num hb (h.num _ (by omega)), decide_eq_true_eq, decide_eq_true_eq] at ho
  rw [← Bool.not_eq_true]
  unfold tchB
  rw [Bool.and_eq_true, geb_num hb (h.num _ (by omega)), decide_eq_true_eq]
  rintro ⟨t1, t2⟩
  rcases ho with ho | ho
  · have x := h.le (k + 1) (l.length - 1) (by omega) (by omega)
    by_cases e : k + 2 = l.length
    · rw [if_pos e, leb_num ha (h.num _ (by omega)), decide_eq_true_eq] at t1
      omega
    · rw [if_neg e, ltb_num ha (h.num _ (by omega)), decide_eq_true_eq] at t1
      omega
  · have x := h.le 0 k (by omega) (by omega)
    omega
/-- All that are touched. -/
def tchs (l : List Nat) (a b : Nat) (k : Nat) : List Nat := (List.range k).filter (tchB l a b)
theorem tchs_out (l : List Nat) (h : Rise l) (a b : Nat) (ha : ¬ nan a) (hb : ¬ nan b) (ho : outB l a b = true) : tchs l a b (l.length - 1) = [] := by
  unfold tchs
  rw [List.filter_eq_nil_iff]
  intro k hk
  rw [List.mem_range] at hk
  rw [tch_out l h a b ha hb ho k (by omega)]
  simp
theorem tchs_in (l : List Nat) (h : Rise l) (a b : Nat) (ha : ¬ nan a) (hb : ¬ nan b) (hab : vf a ≤ vf b) (ho : outB l a b = false) :
    tchs l a b (l.length - 1) = List.range' (loV l a 0) (hiV l b (l.length - 2) - loV l a 0 + 1) := by
  obtain ⟨s1, s2, _⟩ := lanes_spec l h a b ha hb hab ho
  have hti := tch_iff l h a b ha hb hab ho
  generalize loV l a 0 = lo at *
  generalize hiV l b (l.length - 2) = hi at *
  unfold tchs
  have hs1 : ((List.range (l.length - 1)).filter (tchB l a b)).Pairwise (· < ·) := List.Pairwise.filter _ List.pairwise_lt_range
  have hs2 : (List.range' lo (hi - lo + 1)).Pairwise (· < ·) := List.pairwise_lt_range'
  refine List.Perm.eq_of_pairwise (le := (· < ·)) (fun x y _ _ h1 h2 => by omega) hs1 hs2 ?_
  refine (List.perm_ext_iff_of_nodup (hs1.imp (fun h => Nat.ne_of_lt h)) (hs2.imp (fun h => Nat.ne_of_lt h))).2 fun k => ?_
  rw [List.mem_filter, List.mem_range, List.mem_range'_1]
  constructor
  · rintro ⟨h1, h2⟩
    have := (hti k (by omega)).1 h2
    omega
  · rintro ⟨h1, h2⟩
    exact ⟨by omega, (hti k (by omega)).2 (by omega)⟩
/-- The reference's lane of a place. -/
def atV (l : List Nat) (x : Nat) : Nat → Nat
  | 0 => 0
  | k + 1 => if leb (l.getD k 0) x = true then k else atV l x k
theorem at_hi (l : List Nat) (h : Rise l) (x : Nat) (hx : ¬ nan x) : ∀ k, k < l.length → atV l x (k + 1) = hiV l x k := by
  intro k
  induction k with
  | zero => intro _; unfold atV hiV; split <;> rfl
  | succ k ih =>
    intro hk
    rw [atV, hiV, leb_num (h.num _ hk) hx, ltb_num hx (h.num _ hk), ih (by omega)]
    simp only [decide_eq_true_eq]
    by_cases hc : vf x < vf (l.getD (k + 1) 0)
    · rw [if_pos hc, if_neg (by omega)]
    · rw [if_neg hc, if_pos (by omega)]
theorem lo_hi (l : List Nat) (h : Rise l) (x : Nat) (hx : ¬ nan x) (ho : outB l x x = false) : loV l x 0 = hiV l x (l.length - 2) := by
  obtain ⟨s1, s2, s3, s4, s5, s6, s7, s8⟩ := lanes_spec l h x x hx hx (Int.le_refl _) ho
  apply Nat.le_antisymm s1
  apply Nat.le_of_not_lt
  intro hh
  rcases s4 with s4 | s4
  · omega
  · have := h.le (loV l x 0 + 1) _ hh (by omega)
    omega
theorem at_lo (l : List Nat) (h : Rise l) (x : Nat) (hx : ¬ nan x) (ho : outB l x x = false) : atV l x (l.length - 1) = loV l x 0 := by
  have h2 := h.two
  have := at_hi l h x hx (l.length - 2) (by omega)
  rw [show l.length - 2 + 1 = l.length - 1 by omega] at this
  rw [this, lo_hi l h x hx ho]
end Go.Proofs.Ytlgpnjbhmoomfaa
