/- Two rising lists gone along together, as plain mathematics. -/
import Derived.Test.YtjpojidpmmodnaaQM
namespace Go.Proofs.Ytjpojidpmmodnaa

theorem takeS (l : List Int) (k : Nat) (h : k < l.length) : l.take (k + 1) = l.take k ++ [l.getD k 0] := by
  rw [List.take_succ_eq_append_getElem h, List.getD_eq_getElem?_getD, List.getElem?_eq_getElem h]
  rfl
theorem dropS (l : List Int) (k : Nat) (h : k < l.length) : l.drop k = l.getD k 0 :: l.drop (k + 1) := by
  rw [List.drop_eq_getElem_cons h, List.getD_eq_getElem?_getD, List.getElem?_eq_getElem h]
  rfl
theorem inc_after {l : List Int} (k : Nat) (h : k < l.length) (hi : Inc l) : ∀ y ∈ l.drop (k + 1), l.getD k 0 < y := by
  have h2 := inc_drop k hi
  rw [dropS l k h] at h2
  exact (inc_cons.1 h2).1

/-- What has been gathered of two lists, k of the one and t of the other passed. -/
structure OInv (a b : List Int) (k t : Nat) (all : List Int) : Prop where
  inc : Inc all
  mem : ∀ x, x ∈ all ↔ x ∈ a.take k ∨ x ∈ b.take t
  crossA : ∀ x ∈ all, ∀ y ∈ a.drop k, x < y
  crossB : ∀ x ∈ all, ∀ y ∈ b.drop t, x < y
  len : all.length ≤ k + t
/-- The same while the other list is gone along below n. -/
structure IInv (a b : List Int) (k : Nat) (n : Int) (t : Nat) (all : List Int) : Prop where
  inc : Inc all
  low : ∀ x ∈ all, x < n
  mem : ∀ x, (x ∈ all ∨ x = n) ↔ (x ∈ a.take k ∨ x ∈ b.take t) ∨ x = n
  crossB : ∀ x ∈ all, ∀ y ∈ b.drop t, x < y
  len : all.length ≤ k + t
theorem OInv.start (a b : List Int) : OInv a b 0 0 [] := ⟨inc_nil, fun x => by simp, fun x hx => by simp at hx, fun x hx => by simp at hx, by simp⟩
theorem OInv.enter {a b : List Int} {k t : Nat} {all : List Int} (h : OInv a b k t all) (hk : k < a.length) : IInv a b k (a.getD k 0) t all :=
  ⟨h.inc, fun x hx => h.crossA x hx _ (by rw [dropS a k hk]; simp), fun x => by rw [h.mem], h.crossB, h.len⟩
theorem IInv.less {a b : List Int} {k t : Nat} {n : Int} {all : List Int} (h : IInv a b k n t all) (hb : Inc b) (ht : t < b.length) (hx : b.getD t 0 < n) : IInv a b k n (t + 1) (all ++ [b.getD t 0]) := by
  have hd := dropS b t ht
  refine ⟨inc_snoc h.inc fun y hy => h.crossB y hy _ (by rw [hd]; simp), fun x hx2 => ?_, fun x => ?_, fun x hx2 y hy => ?_, by have := h.len; simp; omega⟩
  · rcases List.mem_append.1 hx2 with hx2 | hx2
    · exact h.low x hx2
    · have : x = b.getD t 0 := by simpa using hx2
      omega
  · have hm := h.mem x
    rw [takeS b t ht, List.mem_append, List.mem_append, List.mem_singleton]
    constructor
    · rintro ((h1 | h1) | h1)
      · rcases hm.1 (Or.inl h1) with (h2 | h2) | h2
        · exact Or.inl (Or.inl h2)
        · exact Or.inl (Or.inr (Or.inl h2))
        · exact Or.inr h2
      · exact Or.inl (Or.inr (Or.inr h1))
      · exact Or.inr h1
    · rintro ((h1 | h1 | h1) | h1)
      · rcases hm.2 (Or.inl (Or.inl h1)) with h2 | h2
        · exact Or.inl (Or.inl h2)
        · exact Or.inr h2
      · rcases hm.2 (Or.inl (Or.inr h1)) with h2 | h2
        · exact Or.inl (Or.inl h2)
        · exact Or.inr h2
      · exact Or.inl (Or.inr h1)
      · exact Or.inr h1
  · rcases List.mem_append.1 hx2 with hx2 | hx2
    · exact h.crossB x hx2 y (by rw [hd]; simp [hy])
    · have : x = b.getD t 0 := by simpa using hx2
      rw [this]
      exact inc_after t ht hb y hy
theorem IInv.same {a b : List Int} {k t : Nat} {n : Int} {all : List Int} (h : IInv a b k n t all) (ht : t < b.length) (hx : b.getD t 0 = n) : IInv a b k n (t + 1) all := by
  have hd := dropS b t ht
  refine ⟨h.inc, h.low, fun x => ?_, fun x hx2 y hy => h.crossB x hx2 y (by rw [hd]; simp [hy]), by have := h.len; omega⟩
  rw [takeS b t ht, List.mem_append, List.mem_singleton, hx, h.mem]
  constructor
  · rintro ((h1 | h1) | h1)
    · exact Or.inl (Or.inl h1)
    · exact Or.inl (Or.inr (Or.inl h1))
    · exact Or.inr h1
  · rintro ((h1 | h1 | h1) | h1)
    · exact Or.inl (Or.inl h1)
    · exact Or.inl (Or.inr h1)
    · exact Or.inr h1
    · exact Or.inr h1
theorem IInv.leave {a b : List Int} {k t : Nat} {all : List Int} (h : IInv a b k (a.getD k 0) t all) (ha : Inc a) (hb : Inc b) (hk : k < a.length) (hx : t < b.length → a.getD k 0 < b.getD t 0) : OInv a b (k + 1) t (all ++ [a.getD k 0]) := by
  refine ⟨inc_snoc h.inc h.low, fun x => ?_, fun x hx2 y hy => ?_, fun x hx2 y hy => ?_, by have := h.len; simp; omega⟩
  · rw [takeS a k hk, List.mem_append, List.mem_append, List.mem_singleton, h.mem]
    constructor
    · rintro ((h1 | h1) | h1)
      · exact Or.inl (Or.inl h1)
      · exact Or.inr h1
      · exact Or.inl (Or.inr h1)
    · rintro ((h1 | h1) | h1)
      · exact Or.inl (Or.inl h1)
      · exact Or.inr h1
      · exact Or.inl (Or.inr h1)
  · have h3 := inc_after k hk ha y hy
    rcases List.mem_append.1 hx2 with hx2 | hx2
    · have := h.low x hx2
      omega
    · have : x = a.getD k 0 := by simpa using hx2
      omega
  · rcases List.mem_append.1 hx2 with hx2 | hx2
    · exact h.crossB x hx2 y hy
    · have e : x = a.getD k 0 := by simpa using hx2
      rw [e]
      have ht : t < b.length := by
        rcases Nat.lt_or_ge t b.length with h | h
        · exact h
        · rw [List.drop_eq_nil_of_le h] at hy
          simp at hy
      have := hx ht
      rw [dropS b t ht] at hy
      rcases List.mem_cons.1 hy with hy | hy
      · omega
      · have := inc_after t ht hb y hy
        omega
theorem OInv.done {a b : List Int} {t : Nat} {all : List Int} (h : OInv a b a.length t all) (hb : Inc b) : all ++ b.drop t = Go.Proofs.Ytjpojidpmmodnaa.mk (a ++ b) := by
  refine mk_of (inc_append.2 ⟨h.inc, inc_drop t hb, h.crossB⟩) fun x => ?_
  rw [List.mem_append, List.mem_append, h.mem, List.take_length, or_assoc, ← List.mem_append, List.take_append_drop]

/-- Two lists gone along, parted by what is in the other one. -/
structure PInv (a b : List Int) (k t : Nat) : Prop where
  low : ∀ y ∈ b.take t, ∀ x ∈ a.drop k, y < x
theorem PInv.start (a b : List Int) : PInv a b 0 0 := ⟨fun y hy => by simp at hy⟩
theorem PInv.next {a b : List Int} {k t : Nat} (h : PInv a b k t) : PInv a b (k + 1) t := ⟨fun y hy x hx => h.low y hy x (by
  have : a.drop (k + 1) = (a.drop k).drop 1 := by rw [List.drop_drop]
  rw [this] at hx
  exact List.mem_of_mem_drop hx)⟩
/-- The numbers passed are below n. -/
def Pass (b : List Int) (t : Nat) (n : Int) : Prop := ∀ y ∈ b.take t, y < n
theorem PInv.enter {a b : List Int} {k t : Nat} (h : PInv a b k t) (hk : k < a.length) : Pass b t (a.getD k 0) := fun y hy => h.low y hy _ (by rw [dropS a k hk]; simp)
theorem Pass.step {b : List Int} {t : Nat} {n : Int} (h : Pass b t n) (ht : t < b.length) (hx : b.getD t 0 < n) : Pass b (t + 1) n := fun y hy => by
  rw [takeS b t ht] at hy
  rcases List.mem_append.1 hy with hy | hy
  · exact h y hy
  · have : y = b.getD t 0 := by simpa using hy
    omega
theorem Pass.leave {a b : List Int} {k t : Nat} (h : Pass b t (a.getD k 0)) (ha : Inc a) (hk : k < a.length) : PInv a b (k + 1) t := ⟨fun y hy x hx => by
  have := h y hy
  have := inc_after k hk ha x hx
  omega⟩
theorem Pass.not_mem {b : List Int} {t : Nat} {n : Int} (h : Pass b t n) (hb : Inc b) (hx : t < b.length → n < b.getD t 0) : n ∉ b := by
  intro hn
  rw [← List.take_append_drop t b] at hn
  rcases List.mem_append.1 hn with hn | hn
  · have := h n hn
    omega
  · have ht : t < b.length := by
      rcases Nat.lt_or_ge t b.length with h | h
      · exact h
      · rw [List.drop_eq_nil_of_le h] at hn
        simp at hn
    have := hx ht
    rw [dropS b t ht] at hn
    rcases List.mem_cons.1 hn with hn | hn
    · omega
    · have := inc_after t ht hb n hn
      omega
end Go.Proofs.Ytjpojidpmmodnaa
