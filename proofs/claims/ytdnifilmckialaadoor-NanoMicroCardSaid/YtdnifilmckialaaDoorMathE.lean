/- Plain mathematics: the ends of a list of floats. -/
import Derived.Test.YtdnifilmckialaaDoorMath
namespace Go.Proofs.YtdnifilmckialaaDoor
/-- Does one stand ahead of another? -/
def ahd (a b : Nat) : Bool := decide (rnk a < rnk b)
def sam (a b : Nat) : Bool := decide (rnk a = rnk b)

/-- The first, the last, how many: one float more. -/
def endStep (s : Nat × Nat × Nat) (f : Nat) : Nat × Nat × Nat :=
  if cls f = 1 then s else (if s.2.2 = 0 ∨ ahd f s.1 = true then f else s.1, if s.2.2 = 0 ∨ ahd s.2.1 f = true then f else s.2.1, s.2.2 + 1)
def ends (l : List Nat) : Nat × Nat × Nat := l.foldl endStep (0, 0, 0)
theorem ends_snoc (l : List Nat) (f : Nat) : ends (l ++ [f]) = endStep (ends l) f := by simp [ends, List.foldl_append]
theorem take_snoc_getD (l : List Nat) (k : Nat) (h : k < l.length) : l.take (k + 1) = l.take k ++ [l.getD k 0] := by
  rw [List.take_succ_eq_append_getElem h]
  simp [List.getD, h]
theorem ends_count (l : List Nat) : (ends l).2.2 ≤ l.length := by
  have h : ∀ (l : List Nat) (s : Nat × Nat × Nat), (l.foldl endStep s).2.2 ≤ s.2.2 + l.length := by
    intro l
    induction l with
    | nil => intro s; simp
    | cons a l ih =>
      intro s
      have := ih (endStep s a)
      have h2 : (endStep s a).2.2 ≤ s.2.2 + 1 := by unfold endStep; split <;> simp
      simp only [List.foldl_cons, List.length_cons]
      omega
  have := h l (0, 0, 0)
  simpa [ends] using this
theorem ends_lt (l : List Nat) (hl : ∀ x ∈ l, x < 18446744073709551616) : (ends l).1 < 18446744073709551616 ∧ (ends l).2.1 < 18446744073709551616 := by
  have h : ∀ (l : List Nat) (s : Nat × Nat × Nat), (∀ x ∈ l, x < 18446744073709551616) → s.1 < 18446744073709551616 → s.2.1 < 18446744073709551616 → (l.foldl endStep s).1 < 18446744073709551616 ∧ (l.foldl endStep s).2.1 < 18446744073709551616 := by
    intro l
    induction l with
    | nil => intro s _ h1 h2; exact ⟨h1, h2⟩
    | cons a l ih =>
      intro s hx h1 h2
      have ha := hx a (by simp)
      refine ih (endStep s a) (fun x hm => hx x (by simp [hm])) ?_ ?_
      · unfold endStep; split
        · exact h1
        · dsimp only; split
          · exact ha
          · exact h1
      · unfold endStep; split
        · exact h2
        · dsimp only; split
          · exact ha
          · exact h2
  exact h l (0, 0, 0) hl (by decide) (by decide)
end Go.Proofs.YtdnifilmckialaaDoor
