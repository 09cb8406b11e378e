/- Plain mathematics of gaps: what is in none of some joined spans. -/
import Derived.Test.YtchnljdijmgnfaaPM
namespace Go.Proofs.Ytchnljdijmgnfaa
open Go.RowKit

/-- The gaps that joined spans leave in a span. -/
structure GapR (j : List (Int × Int)) (s : Int × Int) (g : List (Int × Int)) : Prop where
  norm : Norm g
  mem : ∀ n, mem g n ↔ (s.1 ≤ n ∧ n ≤ s.2) ∧ ¬ mem j n
  len : g.length ≤ j.length + 1
  fit : ∀ y ∈ g, fits y.1 ∧ fits y.2
theorem GapR.unique {j g g' : List (Int × Int)} {s : Int × Int} (h : GapR j s g) (h' : GapR j s g') : g = g' := norm_unique h.norm h'.norm fun n => (h.mem n).trans (h'.mem n).symm
/-- What stands when k of them have been passed, rest being what is left of the span. -/
structure GInv (j : List (Int × Int)) (s : Int × Int) (k : Nat) (rest : Int × Int) (g : List (Int × Int)) : Prop where
  norm : Norm g
  mem : ∀ n, (mem g n ∨ ((rest.1 ≤ n ∧ n ≤ rest.2) ∧ ¬ mem (j.drop k) n)) ↔ ((s.1 ≤ n ∧ n ≤ s.2) ∧ ¬ mem j n)
  low : rest.1 ≤ rest.2 → ∀ y ∈ g, y.2 + 1 < rest.1
  len : g.length ≤ k
  fit : ∀ y ∈ g, fits y.1 ∧ fits y.2
  rfit : fits rest.1 ∧ fits rest.2
theorem GInv.start (j : List (Int × Int)) (s : Int × Int) (h : fits s.1 ∧ fits s.2) : GInv j s 0 s [] :=
  ⟨norm_nil, fun n => by rw [mem_nil, false_or, List.drop_zero], fun _ => by simp, Nat.le_refl _, by simp, h⟩
theorem mem_drop (l : List (Int × Int)) (k : Nat) (h : k < l.length) (n : Int) : mem (l.drop k) n ↔ ((l.getD k (0, 0)).1 ≤ n ∧ n ≤ (l.getD k (0, 0)).2) ∨ mem (l.drop (k + 1)) n := by
  have e : l.drop k = l.getD k (0, 0) :: l.drop (k + 1) := by
    rw [List.drop_eq_getElem_cons h, List.getD_eq_getElem?_getD, List.getElem?_eq_getElem h]
    rfl
  rw [e, mem_cons]
theorem drop_above {l : List (Int × Int)} (hl : Norm l) (k : Nat) (h : k < l.length) (n : Int) (hn : mem (l.drop (k + 1)) n) : (l.getD k (0, 0)).2 + 1 < n := by
  obtain ⟨y, hy, h1, h2⟩ := hn
  obtain ⟨i, hi, rfl⟩ := List.mem_iff_getElem.1 hy
  rw [List.getElem_drop] at h1
  have hi2 : k + 1 + i < l.length := by rw [List.length_drop] at hi; omega
  have h3 := norm_at hl k (k + 1 + i) (by omega) hi2
  rw [List.getD_eq_getElem?_getD (l := l) (i := k + 1 + i), List.getElem?_eq_getElem hi2] at h3
  simp only [Option.getD_some] at h3
  omega
/-- One that has nothing in common with what is left is passed. -/
theorem GInv.pass {j g : List (Int × Int)} {s rest : Int × Int} {k : Nat} (h : GInv j s k rest g) (hk : k < j.length) (hno : ∀ n, (rest.1 ≤ n ∧ n ≤ rest.2) → ¬ ((j.getD k (0, 0)).1 ≤ n ∧ n ≤ (j.getD k (0, 0)).2)) : GInv j s (k + 1) rest g := by
  refine ⟨h.norm, fun n => ?_, h.low, by have := h.len; omega, h.fit, h.rfit⟩
  rw [← h.mem n, mem_drop j k hk]
  constructor
  · rintro (q | ⟨q, r⟩)
    · exact .inl q
    · exact .inr ⟨q, fun t => t.elim (hno n q) r⟩
  · rintro (q | ⟨q, r⟩)
    · exact .inl q
    · exact .inr ⟨q, fun t => r (.inr t)⟩
/-- The gap ahead of one that begins behind the beginning of what is left. -/
def addG (g : List (Int × Int)) (lo c : Int) : List (Int × Int) := if lo < c then g ++ [(lo, c - 1)] else g
theorem addG_mem (g : List (Int × Int)) (lo c n : Int) : mem (addG g lo c) n ↔ mem g n ∨ (lo ≤ n ∧ n < c) := by
  unfold addG
  split
  · rw [mem_append, mem_one]
    simp only
    constructor
    · rintro (q | q)
      · exact .inl q
      · exact .inr ⟨q.1, by omega⟩
    · rintro (q | q)
      · exact .inl q
      · exact .inr ⟨q.1, by omega⟩
  · constructor
    · exact .inl
    · rintro (q | q)
      · exact q
      · omega
theorem addG_norm {g : List (Int × Int)} {lo c : Int} (h : Norm g) (hlow : ∀ y ∈ g, y.2 + 1 < lo) : Norm (addG g lo c) := by
  unfold addG
  split
  · refine norm_append.2 ⟨h, norm_one (by simp only; omega), fun x hx y hy => ?_⟩
    rw [List.mem_singleton] at hy
    subst hy
    exact hlow x hx
  · exact h
theorem addG_low {g : List (Int × Int)} {lo c hi : Int} (hlow : ∀ y ∈ g, y.2 + 1 < lo) (hlo : lo ≤ c) (hc : c ≤ hi) : ∀ y ∈ addG g lo c, y.2 + 1 < hi + 1 := by
  unfold addG
  intro y hy
  split at hy
  · rcases List.mem_append.1 hy with hy | hy
    · have := hlow y hy; omega
    · rw [List.mem_singleton] at hy
      subst hy
      simp only
      omega
  · have := hlow y hy; omega
theorem addG_len (g : List (Int × Int)) (lo c : Int) : (addG g lo c).length ≤ g.length + 1 := by
  unfold addG
  split <;> simp
theorem addG_fit {g : List (Int × Int)} {lo c : Int} (h : ∀ y ∈ g, fits y.1 ∧ fits y.2) (hl : fits lo) (hc : fits c) : ∀ y ∈ addG g lo c, fits y.1 ∧ fits y.2 := by
  unfold addG
  intro y hy
  split at hy
  · rcases List.mem_append.1 hy with hy | hy
    · exact h y hy
    · rw [List.mem_singleton] at hy
      subst hy
      unfold fits at *
      simp only
      omega
  · exact h y hy
/-- One that has something in common with what is left, and ends ahead of its end. -/
theorem GInv.cut {j g : List (Int × Int)} {s rest : Int × Int} {k : Nat} (h : GInv j s k rest g) (hj : Norm j) (hk : k < j.length) (lo hi : Int) (hlo : lo = max (j.getD k (0, 0)).1 rest.1) (hhi : hi = min (j.getD k (0, 0)).2 rest.2) (hle : lo ≤ hi) (hne : hi ≠ rest.2) (hf : fits (j.getD k (0, 0)).1) :
    GInv j s (k + 1) (hi + 1, rest.2) (addG g rest.1 lo) := by
  have hx := norm_ne hj k hk
  have hab := drop_above hj k hk
  have hm := mem_drop j k hk
  have hlw := h.low (by omega)
  have hrf := h.rfit
  generalize j.getD k (0, 0) = x at *
  refine ⟨addG_norm h.norm hlw, fun n => ?_, fun _ => addG_low hlw (by omega) hle, by have := h.len; have := addG_len g rest.1 lo; omega, addG_fit h.fit hrf.1 (by unfold fits at *; omega), by unfold fits at *; simp only; omega⟩
  rw [← h.mem n, addG_mem, hm]
  simp only
  constructor
  · rintro ((q | q) | ⟨q, r⟩)
    · exact .inl q
    · exact .inr ⟨by omega, fun t => t.elim (fun u => by omega) (fun u => by have := hab n u; omega)⟩
    · exact .inr ⟨by omega, fun t => t.elim (fun u => by omega) r⟩
  · rintro (q | ⟨q, r⟩)
    · exact .inl (.inl q)
    · have r1 : ¬ (x.1 ≤ n ∧ n ≤ x.2) := fun t => r (.inl t)
      by_cases hn : n < lo
      · exact .inl (.inr ⟨q.1, hn⟩)
      · exact .inr ⟨⟨by omega, q.2⟩, fun t => r (.inr t)⟩
/-- One that has something in common with what is left, up to its end. -/
theorem GInv.last {j g : List (Int × Int)} {s rest : Int × Int} {k : Nat} (h : GInv j s k rest g) (hj : Norm j) (hk : k < j.length) (lo hi : Int) (hlo : lo = max (j.getD k (0, 0)).1 rest.1) (hhi : hi = min (j.getD k (0, 0)).2 rest.2) (hle : lo ≤ hi) (he : hi = rest.2) (hf : fits (j.getD k (0, 0)).1) :
    GapR j s (addG g rest.1 lo) := by
  have hx := norm_ne hj k hk
  have hab := drop_above hj k hk
  have hm := mem_drop j k hk
  have hlw := h.low (by omega)
  have hrf := h.rfit
  generalize j.getD k (0, 0) = x at *
  refine ⟨addG_norm h.norm hlw, fun n => ?_, by have := h.len; have := addG_len g rest.1 lo; omega, addG_fit h.fit hrf.1 (by unfold fits at *; omega)⟩
  rw [← h.mem n, addG_mem, hm]
  constructor
  · rintro (q | q)
    · exact .inl q
    · exact .inr ⟨by omega, fun t => t.elim (fun u => by omega) (fun u => by have := hab n u; omega)⟩
  · rintro (q | ⟨q, r⟩)
    · exact .inl q
    · have r1 : ¬ (x.1 ≤ n ∧ n ≤ x.2) := fun t => r (.inl t)
      exact .inr ⟨q.1, by omega⟩
theorem GInv.done0 {j g : List (Int × Int)} {s rest : Int × Int} (h : GInv j s j.length rest g) (he : rest.2 < rest.1) : GapR j s g := by
  refine ⟨h.norm, fun n => ?_, by have := h.len; omega, h.fit⟩
  rw [← h.mem n]
  exact ⟨.inl, fun t => t.elim id (fun u => by omega)⟩
theorem GInv.done1 {j g : List (Int × Int)} {s rest : Int × Int} (h : GInv j s j.length rest g) (he : rest.1 ≤ rest.2) : GapR j s (g ++ [rest]) := by
  refine ⟨norm_append.2 ⟨h.norm, norm_one he, fun x hx y hy => ?_⟩, fun n => ?_, by have := h.len; simp; omega, fun y hy => ?_⟩
  · rw [List.mem_singleton] at hy
    subst hy
    exact h.low he x hx
  · rw [← h.mem n, mem_append, mem_one, List.drop_length, mem_nil]
    simp
  · rcases List.mem_append.1 hy with hy | hy
    · exact h.fit y hy
    · rw [List.mem_singleton] at hy
      subst hy
      exact h.rfit
theorem GapR.joined {j g : List (Int × Int)} {s : Int × Int} (h : GapR j s g) {r : List (Int × Int)} (hr : JoinR g r) : r = g := hr.unique (JoinR.self h.norm)
end Go.Proofs.Ytchnljdijmgnfaa
