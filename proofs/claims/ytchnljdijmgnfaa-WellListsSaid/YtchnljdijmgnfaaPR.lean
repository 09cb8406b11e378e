/- Plain mathematics of the reference's Join: one span put into joined spans. -/
import Derived.Test.YtchnljdijmgnfaaPG
namespace Go.Proofs.Ytchnljdijmgnfaa
open Go.RowKit

/-- Do two spans that are not empty meet, or are they beside each other? -/
def tch (y x : Int × Int) : Prop := y.1 ≤ x.2 + 1 ∧ x.1 ≤ y.2 + 1
theorem tch_iff {y x : Int × Int} (hy : y.1 ≤ y.2) (hx : x.1 ≤ x.2) : (meetsB y x = true ∨ besideB y x = true ∨ besideB x y = true) ↔ tch y x := by
  unfold meetsB besideB tch
  simp only [decide_eq_true_eq]
  omega
theorem hull_tch {y x : Int × Int} (hy : y.1 ≤ y.2) (hx : x.1 ≤ x.2) : hullV y x = (min y.1 x.1, max y.2 x.2) := by
  have := hullV_yy (a := y.1) (b := y.2) (c := x.1) (d := x.2) (by omega) (by omega)
  exact this
/-- What stands when k of the joined spans have been held against x0, which has grown to x. -/
structure RInv (o : List (Int × Int)) (x0 : Int × Int) (k : Nat) (x : Int × Int) (l : List (Int × Int)) : Prop where
  norm : Norm l
  ne : x.1 ≤ x.2
  low : ∀ y ∈ l, ∀ i, k ≤ i → i < o.length → y.2 + 1 < (o.getD i (0, 0)).1
  apart : ∀ y ∈ l, ¬ tch y x
  mem : ∀ n, (mem l n ∨ (x.1 ≤ n ∧ n ≤ x.2)) ↔ (mem (o.take k) n ∨ (x0.1 ≤ n ∧ n ≤ x0.2))
  len : l.length ≤ k
  fit : ∀ y ∈ l, fits y.1 ∧ fits y.2
  xfit : fits x.1 ∧ fits x.2
theorem RInv.start (o : List (Int × Int)) {x : Int × Int} (h : x.1 ≤ x.2) (hf : fits x.1 ∧ fits x.2) : RInv o x 0 x [] :=
  ⟨norm_nil, h, by simp, by simp, fun n => by rw [List.take_zero], Nat.le_refl _, by simp, hf⟩
theorem RInv.grow {o l : List (Int × Int)} {x0 x : Int × Int} {k : Nat} (h : RInv o x0 k x l) (ho : Norm o) (hk : k < o.length) (hf : fits (o.getD k (0, 0)).1 ∧ fits (o.getD k (0, 0)).2) (ht : tch (o.getD k (0, 0)) x) :
    RInv o x0 (k + 1) (hullV (o.getD k (0, 0)) x) l := by
  have hy := norm_ne ho k hk
  have hlow := fun z hz => h.low z hz k (Nat.le_refl _) hk
  have hm := mem_take o k hk
  have hx := h.ne
  have hxf := h.xfit
  rw [hull_tch hy hx]
  generalize o.getD k (0, 0) = y at *
  unfold tch at ht
  refine ⟨h.norm, by simp only; omega, fun z hz i hi hi2 => h.low z hz i (by omega) hi2, fun z hz => ?_, fun n => ?_, by have := h.len; omega, h.fit, by unfold fits at *; simp only; omega⟩
  · have a := h.apart z hz
    have b := hlow z hz
    have c := h.norm.2 z hz
    unfold tch at *
    simp only
    omega
  · rw [hm]
    have a := h.mem n
    simp only
    constructor
    · rintro (q | q)
      · exact (a.1 (.inl q)).elim (fun t => .inl (.inl t)) .inr
      · by_cases hq : y.1 ≤ n ∧ n ≤ y.2
        · exact .inl (.inr hq)
        · exact (a.1 (.inr (by omega))).elim (fun t => .inl (.inl t)) .inr
    · rintro ((q | q) | q)
      · exact (a.2 (.inl q)).elim .inl (fun t => .inr (by omega))
      · exact .inr (by omega)
      · exact (a.2 (.inr q)).elim .inl (fun t => .inr (by omega))
theorem RInv.keep {o l : List (Int × Int)} {x0 x : Int × Int} {k : Nat} (h : RInv o x0 k x l) (ho : Norm o) (hk : k < o.length) (hf : fits (o.getD k (0, 0)).1 ∧ fits (o.getD k (0, 0)).2) (ht : ¬ tch (o.getD k (0, 0)) x) :
    RInv o x0 (k + 1) x (l ++ [o.getD k (0, 0)]) := by
  have hy := norm_ne ho k hk
  have hlow := fun z hz => h.low z hz k (Nat.le_refl _) hk
  have hm := mem_take o k hk
  have hnx := fun i (hi : k + 1 ≤ i) (hi2 : i < o.length) => norm_at ho k i (by omega) hi2
  generalize o.getD k (0, 0) = y at *
  refine ⟨norm_append.2 ⟨h.norm, norm_one hy, fun z hz u hu => ?_⟩, h.ne, fun z hz i hi hi2 => ?_, fun z hz => ?_, fun n => ?_, by have := h.len; simp; omega, fun z hz => ?_, h.xfit⟩
  · rw [List.mem_singleton] at hu
    subst hu
    exact hlow z hz
  · rcases List.mem_append.1 hz with hz | hz
    · exact h.low z hz i (by omega) hi2
    · rw [List.mem_singleton] at hz
      subst hz
      exact hnx i hi hi2
  · rcases List.mem_append.1 hz with hz | hz
    · exact h.apart z hz
    · rw [List.mem_singleton] at hz
      subst hz
      exact ht
  · rw [hm, mem_append, mem_one]
    have a := h.mem n
    constructor
    · rintro ((q | q) | q)
      · exact (a.1 (.inl q)).elim (fun t => .inl (.inl t)) .inr
      · exact .inl (.inr q)
      · exact (a.1 (.inr q)).elim (fun t => .inl (.inl t)) .inr
    · rintro ((q | q) | q)
      · exact (a.2 (.inl q)).elim (fun t => .inl (.inl t)) .inr
      · exact .inl (.inr q)
      · exact (a.2 (.inr q)).elim (fun t => .inl (.inl t)) .inr
  · rcases List.mem_append.1 hz with hz | hz
    · exact h.fit z hz
    · rw [List.mem_singleton] at hz
      subst hz
      exact hf
/-- Where it is put: ahead of the first that begins no earlier. -/
theorem RInv.done {o l xs : List (Int × Int)} {x0 x : Int × Int} (h : RInv o x0 o.length x l) (k : Nat) (hk : k ≤ l.length) (hlo : ∀ i, i < k → (l.getD i (0, 0)).1 < x.1) (hhi : k < l.length → ¬ (l.getD k (0, 0)).1 < x.1) (ho : JoinR xs o) :
    JoinR (xs ++ [x0]) (l.take k ++ [x] ++ l.drop k) ∧ (∀ y ∈ l.take k ++ [x] ++ l.drop k, fits y.1 ∧ fits y.2) := by
  have hn := h.norm
  rw [← List.take_append_drop k l] at hn
  obtain ⟨n1, n2, n3⟩ := norm_append.1 hn
  have hne := h.ne
  refine ⟨⟨norm_append.2 ⟨norm_append.2 ⟨n1, norm_one h.ne, fun y hy z hz => ?_⟩, n2, fun y hy z hz => ?_⟩, fun n => ?_, ?_⟩, fun y hy => ?_⟩
  · rw [List.mem_singleton] at hz
    subst hz
    obtain ⟨i, hi, rfl⟩ := List.mem_iff_getElem.1 hy
    rw [List.length_take] at hi
    have a := hlo i (by omega)
    rw [List.getD_eq_getElem?_getD, List.getElem?_eq_getElem (by omega)] at a
    rw [List.getElem_take]
    simp only [Option.getD_some] at a
    have b := h.apart _ (List.getElem_mem (show i < l.length by omega))
    have c := h.norm.2 _ (List.getElem_mem (show i < l.length by omega))
    unfold tch at b
    omega
  · rcases List.mem_append.1 hy with hy | hy
    · exact n3 y hy z hz
    · rw [List.mem_singleton] at hy
      subst hy
      have hzl := List.mem_of_mem_drop hz
      have b := h.apart z hzl
      have c := h.norm.2 z hzl
      obtain ⟨i, hi, rfl⟩ := List.mem_iff_getElem.1 hz
      rw [List.length_drop] at hi
      rw [List.getElem_drop] at b c ⊢
      have a := hhi (by omega)
      have d : ¬ (l[k + i]'(by omega)).1 < y.1 := by
        rw [List.getD_eq_getElem?_getD, List.getElem?_eq_getElem (by omega)] at a
        simp only [Option.getD_some] at a
        rcases Nat.eq_zero_or_pos i with rfl | hi0
        · exact a
        · have e := norm_at h.norm k (k + i) (by omega) (by omega)
          rw [List.getD_eq_getElem?_getD, List.getD_eq_getElem?_getD, List.getElem?_eq_getElem (show k < l.length by omega), List.getElem?_eq_getElem (show k + i < l.length by omega)] at e
          simp only [Option.getD_some] at e
          have g := h.norm.2 _ (List.getElem_mem (show k < l.length by omega))
          omega
      unfold tch at b
      omega
  · rw [mem_append, mem_append, mem_one]
    have a := h.mem n
    have b := ho.mem n
    rw [List.take_length] at a
    have c : Go.Proofs.Ytchnljdijmgnfaa.mem l n ↔ Go.Proofs.Ytchnljdijmgnfaa.mem (l.take k) n ∨ Go.Proofs.Ytchnljdijmgnfaa.mem (l.drop k) n := by rw [← mem_append, List.take_append_drop]
    rw [mem_append, mem_one, ← b, ← a, c]
    constructor
    · rintro ((q | q) | q)
      · exact .inl (.inl q)
      · exact .inr q
      · exact .inl (.inr q)
    · rintro ((q | q) | q)
      · exact .inl (.inl q)
      · exact .inr q
      · exact .inl (.inr q)
  · have := h.len
    have := ho.len
    simp only [List.length_append, List.length_take, List.length_drop, List.length_cons, List.length_nil]
    omega
  · rcases List.mem_append.1 hy with hy | hy
    · rcases List.mem_append.1 hy with hy | hy
      · exact h.fit y (List.mem_of_mem_take hy)
      · rw [List.mem_singleton] at hy
        subst hy
        exact h.xfit
    · exact h.fit y (List.mem_of_mem_drop hy)
theorem JoinR.skip {xs o : List (Int × Int)} {x : Int × Int} (h : JoinR xs o) (hx : x.2 < x.1) : JoinR (xs ++ [x]) o := by
  refine ⟨h.norm, fun n => ?_, by have := h.len; simp; omega⟩
  rw [h.mem, mem_append, mem_one]
  exact ⟨.inl, fun t => t.elim id (fun u => by omega)⟩
end Go.Proofs.Ytchnljdijmgnfaa
