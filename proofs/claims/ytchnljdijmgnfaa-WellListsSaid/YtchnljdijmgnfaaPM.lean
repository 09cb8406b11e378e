/- Plain mathematics of spans: joined lists, what is in them, and that there is one only for each set. -/
import Derived.Test.YtchnljdijmgnfaaAT
namespace Go.Proofs.Ytchnljdijmgnfaa
open Go.RowKit

/-- Is a number in one of some spans? -/
def mem (l : List (Int × Int)) (n : Int) : Prop := ∃ x ∈ l, x.1 ≤ n ∧ n ≤ x.2
/-- Spans that are not empty, rising, with a number between each two. -/
def Norm (l : List (Int × Int)) : Prop := l.Pairwise (fun x y => x.2 + 1 < y.1) ∧ ∀ x ∈ l, x.1 ≤ x.2
theorem mem_nil (n : Int) : mem [] n ↔ False := by simp [mem]
theorem mem_cons (x : Int × Int) (l : List (Int × Int)) (n : Int) : mem (x :: l) n ↔ (x.1 ≤ n ∧ n ≤ x.2) ∨ mem l n := by simp [mem]
theorem mem_append (l m : List (Int × Int)) (n : Int) : mem (l ++ m) n ↔ mem l n ∨ mem m n := by
  simp only [mem, List.mem_append]
  constructor
  · rintro ⟨x, hx | hx, h⟩
    · exact .inl ⟨x, hx, h⟩
    · exact .inr ⟨x, hx, h⟩
  · rintro (⟨x, hx, h⟩ | ⟨x, hx, h⟩)
    · exact ⟨x, .inl hx, h⟩
    · exact ⟨x, .inr hx, h⟩
theorem mem_one (x : Int × Int) (n : Int) : mem [x] n ↔ (x.1 ≤ n ∧ n ≤ x.2) := by simp [mem]
theorem norm_nil : Norm [] := ⟨List.Pairwise.nil, by simp⟩
theorem norm_cons {x : Int × Int} {l : List (Int × Int)} : Norm (x :: l) ↔ (x.1 ≤ x.2 ∧ ∀ y ∈ l, x.2 + 1 < y.1) ∧ Norm l := by
  unfold Norm
  rw [List.pairwise_cons]
  constructor
  · rintro ⟨⟨h1, h2⟩, h3⟩
    exact ⟨⟨h3 x (by simp), h1⟩, h2, fun y hy => h3 y (by simp [hy])⟩
  · rintro ⟨⟨h1, h2⟩, h3, h4⟩
    refine ⟨⟨h2, h3⟩, fun y hy => ?_⟩
    rcases List.mem_cons.1 hy with rfl | hy
    · exact h1
    · exact h4 y hy
theorem norm_append {l m : List (Int × Int)} : Norm (l ++ m) ↔ Norm l ∧ Norm m ∧ ∀ x ∈ l, ∀ y ∈ m, x.2 + 1 < y.1 := by
  unfold Norm
  rw [List.pairwise_append]
  constructor
  · rintro ⟨⟨h1, h2, h3⟩, h4⟩
    exact ⟨⟨h1, fun x hx => h4 x (by simp [hx])⟩, ⟨h2, fun x hx => h4 x (by simp [hx])⟩, h3⟩
  · rintro ⟨⟨h1, h2⟩, ⟨h3, h4⟩, h5⟩
    refine ⟨⟨h1, h3, h5⟩, fun x hx => ?_⟩
    rcases List.mem_append.1 hx with hx | hx
    · exact h2 x hx
    · exact h4 x hx
theorem norm_one {x : Int × Int} (h : x.1 ≤ x.2) : Norm [x] := norm_cons.2 ⟨⟨h, by simp⟩, norm_nil⟩
theorem norm_lo {x : Int × Int} {l : List (Int × Int)} (h : Norm (x :: l)) (n : Int) (hn : mem (x :: l) n) : x.1 ≤ n := by
  rcases (mem_cons x l n).1 hn with h1 | ⟨y, hy, h1⟩
  · exact h1.1
  · have h2 := (norm_cons.1 h).1
    have h3 := h2.2 y hy
    omega
theorem norm_unique {l m : List (Int × Int)} (hl : Norm l) (hm : Norm m) (h : ∀ n, mem l n ↔ mem m n) : l = m := by
  induction l generalizing m with
  | nil =>
    cases m with
    | nil => rfl
    | cons y t =>
      have h1 := (norm_cons.1 hm).1.1
      exact absurd ((h y.1).2 ((mem_cons _ _ _).2 (.inl ⟨Int.le_refl _, h1⟩))) (by simp [mem])
  | cons x r ih =>
    cases m with
    | nil =>
      have h1 := (norm_cons.1 hl).1.1
      exact absurd ((h x.1).1 ((mem_cons _ _ _).2 (.inl ⟨Int.le_refl _, h1⟩))) (by simp [mem])
    | cons y t =>
      obtain ⟨⟨hx, hxr⟩, hr⟩ := norm_cons.1 hl
      obtain ⟨⟨hy, hyt⟩, ht⟩ := norm_cons.1 hm
      have a1 := norm_lo hm x.1 ((h x.1).1 ((mem_cons _ _ _).2 (.inl ⟨Int.le_refl _, hx⟩)))
      have a2 := norm_lo hl y.1 ((h y.1).2 ((mem_cons _ _ _).2 (.inl ⟨Int.le_refl _, hy⟩)))
      have b1 : ¬ x.2 < y.2 := fun hlt => by
        rcases (mem_cons _ _ _).1 ((h (x.2 + 1)).2 ((mem_cons _ _ _).2 (.inl ⟨by omega, by omega⟩))) with k | ⟨z, hz, k⟩
        · omega
        · have := hxr z hz; omega
      have b2 : ¬ y.2 < x.2 := fun hlt => by
        rcases (mem_cons _ _ _).1 ((h (y.2 + 1)).1 ((mem_cons _ _ _).2 (.inl ⟨by omega, by omega⟩))) with k | ⟨z, hz, k⟩
        · omega
        · have := hyt z hz; omega
      have e : x = y := Prod.ext (by omega) (by omega)
      subst e
      rw [ih hr ht]
      intro n
      constructor
      · rintro ⟨z, hz, k⟩
        have := hxr z hz
        rcases (mem_cons _ _ _).1 ((h n).1 ((mem_cons _ _ _).2 (.inr ⟨z, hz, k⟩))) with k2 | k2
        · omega
        · exact k2
      · rintro ⟨z, hz, k⟩
        have := hyt z hz
        rcases (mem_cons _ _ _).1 ((h n).2 ((mem_cons _ _ _).2 (.inr ⟨z, hz, k⟩))) with k2 | k2
        · omega
        · exact k2
theorem attL_snoc (r : List (Int × Int)) (t s : Int × Int) : attL (r ++ [t]) s = if s.1 ≤ t.2 + 1 then r ++ [hullV t s] else r ++ [t] ++ [s] := by
  have e : (r ++ [t]).length - 1 = r.length := by simp
  have g : (r ++ [t]).getD r.length (0, 0) = t := by simp [List.getD_eq_getElem?_getD]
  unfold attL
  rw [if_neg (by simp), e, g]
  by_cases h : s.1 ≤ t.2 + 1
  · rw [if_pos h, if_pos h, List.set_append_right _ _ (Nat.le_refl _)]
    simp
  · rw [if_neg h, if_neg h]
/-- What is put behind joined spans that begin no later leaves joined spans. -/
theorem attL_ok {l : List (Int × Int)} {s : Int × Int} (hl : Norm l) (hs : s.1 ≤ s.2) (hb : ∀ x ∈ l, x.1 ≤ s.1) :
    Norm (attL l s) ∧ (∀ n, mem (attL l s) n ↔ mem l n ∨ (s.1 ≤ n ∧ n ≤ s.2)) ∧ (∀ x ∈ attL l s, x.1 ≤ s.1) ∧ (attL l s).length ≤ l.length + 1 := by
  rcases List.eq_nil_or_concat l with rfl | ⟨r, t, rfl⟩
  · rw [attL_nil]
    exact ⟨norm_one hs, fun n => by simp [mem], by simp, by simp⟩
  · rw [List.concat_eq_append] at *
    obtain ⟨hr, ht, hrt⟩ := norm_append.1 hl
    have ht1 := (norm_cons.1 ht).1.1
    have htb := hb t (by simp)
    rw [attL_snoc]
    by_cases h : s.1 ≤ t.2 + 1
    · rw [if_pos h]
      have e : hullV t s = (t.1, max t.2 s.2) := by
        have := hullV_yy (a := t.1) (b := t.2) (c := s.1) (d := s.2) (by omega) (by omega)
        rw [show t = (t.1, t.2) from rfl, show s = (s.1, s.2) from rfl, this, show min t.1 s.1 = t.1 by omega]
      rw [e]
      refine ⟨norm_append.2 ⟨hr, norm_one (by simp only; omega), fun x hx y hy => ?_⟩, fun n => ?_, fun x hx => ?_, by simp⟩
      · rw [List.mem_singleton] at hy
        subst hy
        exact hrt x hx t (by simp)
      · rw [mem_append, mem_append, mem_one, mem_one]
        simp only
        constructor
        · rintro (k | k)
          · exact .inl (.inl k)
          · by_cases h2 : n ≤ t.2
            · exact .inl (.inr ⟨k.1, h2⟩)
            · exact .inr ⟨by omega, by omega⟩
        · rintro ((k | k) | k)
          · exact .inl k
          · exact .inr ⟨k.1, by omega⟩
          · exact .inr ⟨by omega, by omega⟩
      · rcases List.mem_append.1 hx with hx | hx
        · exact hb x (by simp [hx])
        · rw [List.mem_singleton] at hx
          subst hx
          exact htb
    · rw [if_neg h]
      refine ⟨norm_append.2 ⟨hl, norm_one hs, fun x hx y hy => ?_⟩, fun n => ?_, fun x hx => ?_, by simp⟩
      · rw [List.mem_singleton] at hy
        subst hy
        rcases List.mem_append.1 hx with hx | hx
        · have := hrt x hx t (by simp); omega
        · rw [List.mem_singleton] at hx
          subst hx
          omega
      · rw [mem_append (r ++ [t]), mem_one]
      · rcases List.mem_append.1 hx with hx | hx
        · exact hb x hx
        · rw [List.mem_singleton] at hx
          subst hx
          exact Int.le_refl _
theorem mem_take (l : List (Int × Int)) (k : Nat) (h : k < l.length) (n : Int) : mem (l.take (k + 1)) n ↔ mem (l.take k) n ∨ ((l.getD k (0, 0)).1 ≤ n ∧ n ≤ (l.getD k (0, 0)).2) := by
  rw [take_getD l k h, mem_append, mem_one]
theorem norm_at {l : List (Int × Int)} (h : Norm l) (i j : Nat) (hij : i < j) (hj : j < l.length) : (l.getD i (0, 0)).2 + 1 < (l.getD j (0, 0)).1 := by
  rw [List.getD_eq_getElem?_getD, List.getD_eq_getElem?_getD, List.getElem?_eq_getElem hj, List.getElem?_eq_getElem (by omega)]
  exact List.pairwise_iff_getElem.1 h.1 i j (by omega) hj hij
theorem norm_ne {l : List (Int × Int)} (h : Norm l) (i : Nat) (hi : i < l.length) : (l.getD i (0, 0)).1 ≤ (l.getD i (0, 0)).2 := h.2 _ (getD_mem l i hi)
/-- What stands when k of the one and j of the other have been passed. -/
structure Mrg (a b m : List (Int × Int)) (k j : Nat) : Prop where
  norm : Norm m
  mem : ∀ n, mem m n ↔ mem (a.take k) n ∨ mem (b.take j) n
  lowA : k < a.length → ∀ y ∈ m, y.1 ≤ (a.getD k (0, 0)).1
  lowB : j < b.length → ∀ y ∈ m, y.1 ≤ (b.getD j (0, 0)).1
  len : m.length ≤ k + j
theorem Mrg.start (a b : List (Int × Int)) : Mrg a b [] 0 0 := ⟨norm_nil, fun n => by simp [mem_nil], fun _ => by simp, fun _ => by simp, by simp⟩
theorem Mrg.stepA {a b m : List (Int × Int)} {k j : Nat} (h : Mrg a b m k j) (ha : Norm a) (hk : k < a.length) (hle : j < b.length → (a.getD k (0, 0)).1 ≤ (b.getD j (0, 0)).1) : Mrg a b (attL m (a.getD k (0, 0))) (k + 1) j := by
  obtain ⟨h1, h2, h3, h4⟩ := attL_ok h.norm (norm_ne ha k hk) (h.lowA hk)
  refine ⟨h1, fun n => ?_, fun hk2 y hy => ?_, fun hj y hy => ?_, by have := h.len; omega⟩
  · rw [h2, h.mem, mem_take a k hk]
    constructor
    · rintro ((q | q) | q)
      · exact .inl (.inl q)
      · exact .inr q
      · exact .inl (.inr q)
    · rintro ((q | q) | q)
      · exact .inl (.inl q)
      · exact .inr q
      · exact .inl (.inr q)
  · have := h3 y hy
    have := norm_at ha k (k + 1) (by omega) hk2
    have := norm_ne ha k hk
    omega
  · have := h3 y hy
    have := hle hj
    omega
theorem Mrg.stepB {a b m : List (Int × Int)} {k j : Nat} (h : Mrg a b m k j) (hb : Norm b) (hj : j < b.length) (hle : k < a.length → (b.getD j (0, 0)).1 ≤ (a.getD k (0, 0)).1) : Mrg a b (attL m (b.getD j (0, 0))) k (j + 1) := by
  obtain ⟨h1, h2, h3, h4⟩ := attL_ok h.norm (norm_ne hb j hj) (h.lowB hj)
  refine ⟨h1, fun n => ?_, fun hk y hy => ?_, fun hj2 y hy => ?_, by have := h.len; omega⟩
  · rw [h2, h.mem, mem_take b j hj, or_assoc]
  · have := h3 y hy
    have := hle hk
    omega
  · have := h3 y hy
    have := norm_at hb j (j + 1) (by omega) hj2
    have := norm_ne hb j hj
    omega
/-- The joined spans of some spans. -/
structure JoinR (xs r : List (Int × Int)) : Prop where
  norm : Norm r
  mem : ∀ n, mem r n ↔ mem xs n
  len : r.length ≤ xs.length
theorem JoinR.unique {xs r r' : List (Int × Int)} (h : JoinR xs r) (h' : JoinR xs r') : r = r' := norm_unique h.norm h'.norm fun n => (h.mem n).trans (h'.mem n).symm
theorem JoinR.self {xs : List (Int × Int)} (h : Norm xs) : JoinR xs xs := ⟨h, fun _ => Iff.rfl, Nat.le_refl _⟩
theorem JoinR.nil : JoinR [] [] := JoinR.self norm_nil
theorem JoinR.one {x : Int × Int} (h : x.1 ≤ x.2) : JoinR [x] [x] := JoinR.self (norm_one h)
theorem JoinR.none {x : Int × Int} (h : x.2 < x.1) : JoinR [x] [] := ⟨norm_nil, fun n => by rw [mem_one, mem_nil]; exact ⟨False.elim, fun k => by omega⟩, by simp⟩
theorem Mrg.done {a b m xs ys : List (Int × Int)} (h : Mrg a b m a.length b.length) (ha : JoinR xs a) (hb : JoinR ys b) : JoinR (xs ++ ys) m := by
  refine ⟨h.norm, fun n => ?_, ?_⟩
  · rw [h.mem, List.take_length, List.take_length, mem_append, ha.mem, hb.mem]
  · have := h.len
    have := ha.len
    have := hb.len
    rw [List.length_append]
    omega
end Go.Proofs.Ytchnljdijmgnfaa
