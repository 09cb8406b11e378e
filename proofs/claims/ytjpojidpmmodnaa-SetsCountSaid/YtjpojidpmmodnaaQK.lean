/- How many are in two sets together, as plain mathematics. -/
import Derived.Test.YtjpojidpmmodnaaQM
namespace Go.Proofs.Ytjpojidpmmodnaa

/-- In both; in the one alone. -/
def bothL (a b : List Int) : List Int := a.filter (fun y => decide (y ∈ b))
def lessL (a b : List Int) : List Int := a.filter (fun y => !decide (y ∈ b))
theorem mem_both {a b : List Int} {x : Int} : x ∈ bothL a b ↔ x ∈ a ∧ x ∈ b := by simp [bothL]
theorem mem_less {a b : List Int} {x : Int} : x ∈ lessL a b ↔ x ∈ a ∧ x ∉ b := by simp [lessL]
theorem inc_both {a : List Int} (b : List Int) (h : Inc a) : Inc (bothL a b) := inc_filter _ h
theorem inc_less {a : List Int} (b : List Int) (h : Inc a) : Inc (lessL a b) := inc_filter _ h
/-- What is in one alone. -/
def aloneL (a b : List Int) : List Int := mk (lessL a b ++ lessL b a)
theorem mem_alone {a b : List Int} {x : Int} : x ∈ aloneL a b ↔ (x ∈ a ∧ x ∉ b) ∨ (x ∈ b ∧ x ∉ a) := by
  rw [aloneL, mem_mk, List.mem_append, mem_less, mem_less]
theorem alone_both (a b : List Int) : bothL (aloneL a b) (bothL a b) = [] := by
  rw [List.eq_nil_iff_forall_not_mem]
  intro x hx
  rw [mem_both, mem_alone, mem_both] at hx
  obtain ⟨h1, h2, h3⟩ := hx
  rcases h1 with h1 | h1
  · exact h1.2 h3
  · exact h1.2 h2
theorem alone_either (a b : List Int) : mk (aloneL a b ++ bothL a b) = mk (a ++ b) := mk_of (inc_mk _) fun x => by
  rw [mem_mk, List.mem_append, List.mem_append, mem_alone, mem_both]
  by_cases h1 : x ∈ a <;> by_cases h2 : x ∈ b <;> simp [h1, h2]
theorem either_swap (a b : List Int) : mk (b ++ a) = mk (a ++ b) := mk_of (inc_mk _) fun x => by
  rw [mem_mk, List.mem_append, List.mem_append, or_comm]
theorem less_alone {a b : List Int} (ha : Inc a) : lessL (mk (a ++ b)) (aloneL a b) = bothL a b := inc_ext (inc_less _ (inc_mk _)) (inc_both _ ha) fun x => by
  rw [mem_less, mem_mk, List.mem_append, mem_alone, mem_both]
  by_cases h1 : x ∈ a <;> by_cases h2 : x ∈ b <;> simp [h1, h2]
theorem both_swap {a b : List Int} (ha : Inc a) (hb : Inc b) : bothL a b = bothL b a := inc_ext (inc_both _ ha) (inc_both _ hb) fun x => by
  rw [mem_both, mem_both, and_comm]
theorem parts_len (b : List Int) (p : Int → Bool) : (b.filter p).length + (b.filter (fun y => !p y)).length = b.length := by
  induction b with
  | nil => rfl
  | cons x r ih =>
    cases h : p x <;> simp [h] <;> omega
theorem foldl_len (l : List Int) : ∀ s : List Int, Inc l → (∀ x ∈ l, x ∉ s) → (l.foldl put s).length = s.length + l.length := by
  induction l with
  | nil => intro s _ _; simp
  | cons x r ih =>
    intro s hi h
    obtain ⟨h1, h2⟩ := inc_cons.1 hi
    rw [List.foldl_cons, ih (put s x) h2 (fun y hy => ?_), put_len_new s x (h x (by simp)), List.length_cons]
    · omega
    · rw [mem_put]
      rintro (k | k)
      · exact h y (by simp [hy]) k
      · have := h1 y hy
        omega
theorem count_len {a b : List Int} (ha : Inc a) (hb : Inc b) : (mk (a ++ b)).length + (bothL a b).length = a.length + b.length := by
  have e1 : mk (a ++ b) = (lessL b a).foldl put a := by
    rw [foldl_put_eq ha]
    refine mk_of (inc_mk _) fun x => ?_
    rw [mem_mk, List.mem_append, List.mem_append, mem_less]
    by_cases h1 : x ∈ a <;> simp [h1]
  rw [e1, foldl_len _ _ (inc_less _ hb) (fun x hx => (mem_less.1 hx).2), both_swap ha hb]
  have := parts_len b (fun y => decide (y ∈ a))
  unfold bothL lessL
  omega
theorem both_len (a b : List Int) : (bothL a b).length ≤ a.length := List.length_filter_le _ _
theorem less_len (a b : List Int) : (lessL a b).length ≤ a.length := List.length_filter_le _ _
theorem either_len (a b : List Int) : (mk (a ++ b)).length ≤ a.length + b.length := by
  have := mk_len_le (a ++ b)
  rwa [List.length_append] at this
theorem alone_len (a b : List Int) : (aloneL a b).length ≤ a.length + b.length := by
  have h := either_len (lessL a b) (lessL b a)
  have h1 := less_len a b
  have h2 := less_len b a
  unfold aloneL
  omega
end Go.Proofs.Ytjpojidpmmodnaa
