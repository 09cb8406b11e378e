/- The names of places, put together with commas, are read as these places. -/
import Derived.Test.YtchnljdijmgnfaaWH
import Derived.Test.YtchnljdijmgnfaaWI
namespace Go.Proofs.Ytchnljdijmgnfaa
open Go.RowKit
theorem signs_all : (List.range 32).all (fun (a : Nat) => (List.range 48).all (fun (b : Nat) => (nameL ((a : Int), (b : Int))).all (fun c => c != 44 && c != 58))) = true := by kernel_rfl
theorem signs (p : Int × Int) (h : rightB p = true) : ∀ c ∈ nameL p, c ≠ 44 ∧ c ≠ 58 := by
  obtain ⟨a, b⟩ := p
  obtain ⟨h1, h2, h3, h4⟩ := (right_iff _).1 h
  simp only at h1 h2 h3 h4
  obtain ⟨a, rfl⟩ : ∃ k : Nat, a = (k : Int) := ⟨a.toNat, by omega⟩
  obtain ⟨b, rfl⟩ : ∃ k : Nat, b = (k : Int) := ⟨b.toNat, by omega⟩
  have q := signs_all
  rw [List.all_eq_true] at q
  have q1 := q a (List.mem_range.2 (by omega))
  rw [List.all_eq_true] at q1
  have q2 := q1 b (List.mem_range.2 (by omega))
  rw [List.all_eq_true] at q2
  intro c hc
  have := q2 c hc
  simpa using this
theorem nameL_ne (p : Int × Int) (h : rightB p = true) : nameL p ≠ [] := by
  rw [nameL_yes h]
  have := (nm_len p.1.toNat).1
  intro e
  have e2 := congrArg List.length e
  rw [List.length_append, List.length_nil] at e2
  omega
theorem cut_whole (l : List UInt8) (c : UInt8) (h : ∀ x ∈ l, x ≠ c) : cutA l c = l ∧ cutB l c = [] ∧ cutF l c = false := by
  induction l with
  | nil => exact ⟨rfl, rfl, rfl⟩
  | cons x l ih =>
    obtain ⟨i1, i2, i3⟩ := ih fun y hy => h y (List.mem_cons_of_mem _ hy)
    have hb : (x == c) = false := by (rw [beq_eq_false_iff_ne]; exact h x List.mem_cons_self)
    have hb2 : (x != c) = true := by (rw [bne_iff_ne]; exact h x List.mem_cons_self)
    refine ⟨?_, ?_, ?_⟩
    · unfold cutA at i1 ⊢; rw [List.takeWhile_cons, if_pos hb2, i1]
    · unfold cutB at i2 ⊢; rw [List.dropWhile_cons, if_pos hb2, i2]
    · unfold cutF at i3 ⊢; rw [List.any_cons, hb, Bool.false_or, i3]
theorem cut_at (l r : List UInt8) (c : UInt8) (h : ∀ x ∈ l, x ≠ c) : cutA (l ++ c :: r) c = l ∧ cutB (l ++ c :: r) c = r ∧ cutF (l ++ c :: r) c = true := by
  induction l with
  | nil => exact ⟨by simp [cutA], by simp [cutB], by simp [cutF]⟩
  | cons x l ih =>
    obtain ⟨i1, i2, i3⟩ := ih fun y hy => h y (List.mem_cons_of_mem _ hy)
    have hb : (x == c) = false := by (rw [beq_eq_false_iff_ne]; exact h x List.mem_cons_self)
    have hb2 : (x != c) = true := by (rw [bne_iff_ne]; exact h x List.mem_cons_self)
    rw [List.cons_append]
    refine ⟨?_, ?_, ?_⟩
    · unfold cutA at i1 ⊢; rw [List.takeWhile_cons, if_pos hb2, i1]
    · unfold cutB at i2 ⊢; rw [List.dropWhile_cons, if_pos hb2, i2]
    · unfold cutF at i3 ⊢; rw [List.any_cons, i3, Bool.or_true]
theorem ends_name (p : Int × Int) (h : rightB p = true) : endsL (nameL p) = some (p, p) := by
  obtain ⟨k1, k2, k3⟩ := cut_whole (nameL p) 58 fun x hx => (signs p h x hx).2
  unfold endsL lastL
  rw [k1, k3, parse_name p h]
  simp only [Bool.false_eq_true, if_false, parse_name p h, Int.min_self, Int.max_self]
theorem rect_one (p : Int × Int) : rect p p = [p] := by
  obtain ⟨a, b⟩ := p
  rw [rect]
  simp only [Int.sub_self]
  rw [show (0 + 1 : Int).toNat = 1 from rfl, rectR_succ, rowL_succ]
  simp [rectR, rowL]
/-- Names with commas between, from the first one on. -/
def joinR : List (Int × Int) → List UInt8
  | [] => []
  | [x] => nameL x
  | x :: y :: r => nameL x ++ 44 :: joinR (y :: r)
theorem joinR_snoc (a : List (Int × Int)) (x : Int × Int) : joinR (a ++ [x]) = (if a.length = 0 then [] else joinR a ++ [44]) ++ nameL x := by
  induction a with
  | nil => rfl
  | cons y a ih =>
    cases a with
    | nil => simp [joinR]
    | cons z a =>
      rw [if_neg (by simp)] at ih ⊢
      show nameL y ++ 44 :: joinR ((z :: a) ++ [x]) = _
      rw [ih]
      simp [joinR]
theorem joinN_R (xs : List (Int × Int)) (k : Nat) (h : k ≤ xs.length) : joinN xs k = joinR (xs.take k) := by
  induction k with
  | zero => rfl
  | succ k ih =>
    rw [joinN, ih (by omega), take_getD xs k (by omega), joinR_snoc, List.length_take, show min k xs.length = k by omega]
theorem listGo_join (ys : List (Int × Int)) : ∀ (k i : Nat) (m : List (Int × Int)), ys ≠ [] → (∀ x ∈ ys, rightB x = true) → ys.length ≤ k → m.length ≤ 384 →
    listGo k (joinR ys) i m = if m.length + ys.length ≤ 384 then (m ++ ys, 0, 0) else ([], 2, ((i + (384 - m.length) : Nat) : Int)) := by
  induction ys with
  | nil => intro k i m h; exact absurd rfl h
  | cons x r ih =>
    intro k i m _ hr hk hm
    cases k with
    | zero => simp at hk
    | succ k =>
      have hx := hr x List.mem_cons_self
      have hs := signs x hx
      have hq : ∃ F, cutA (joinR (x :: r)) 44 = nameL x ∧ cutF (joinR (x :: r)) 44 = F ∧ (F = true → r ≠ [] ∧ cutB (joinR (x :: r)) 44 = joinR r) ∧ (F = false → r = []) := by
        cases r with
        | nil =>
          obtain ⟨k1, k2, k3⟩ := cut_whole (nameL x) 44 fun c hc => (hs c hc).1
          exact ⟨false, k1, k3, (fun h => by cases h), fun _ => rfl⟩
        | cons y r =>
          obtain ⟨k1, k2, k3⟩ := cut_at (nameL x) (joinR (y :: r)) 44 fun c hc => (hs c hc).1
          exact ⟨true, k1, k3, (fun _ => ⟨by simp, k2⟩), fun h => by cases h⟩
      obtain ⟨F, q1, q2, q3, q4⟩ := hq
      rw [listGo, q1, ends_name x hx]
      simp only [Int.sub_self]
      rw [q2, rect_one]
      by_cases hfull : m.length = 384
      · rw [if_pos (by omega), if_neg (by simp; omega)]
        rw [hfull]
        rfl
      · rw [if_neg (by omega)]
        cases F with
        | true =>
          obtain ⟨p1, p2⟩ := q3 rfl
          rw [if_pos rfl, p2, ih k (i + 1) (m ++ [x]) p1 (fun y hy => hr y (List.mem_cons_of_mem _ hy)) (by simp at hk; omega) (by simp; omega)]
          by_cases hle : m.length + (x :: r).length ≤ 384
          · rw [if_pos hle, if_pos (by simp at hle ⊢; omega), List.append_assoc]
            rfl
          · rw [if_neg hle, if_neg (by simp at hle ⊢; omega)]
            simp only [List.length_append, List.length_cons, List.length_nil, Nat.zero_add]
            rw [show i + 1 + (384 - (m.length + 1)) = i + (384 - m.length) by omega]
        | false =>
          rw [if_neg (by simp), q4 rfl, if_pos (by simp; omega)]
theorem joinR_len (ys : List (Int × Int)) (h : ∀ x ∈ ys, rightB x = true) : ys.length ≤ (joinR ys).length := by
  induction ys with
  | nil => simp
  | cons x r ih =>
    have hx := nameL_ne x (h x List.mem_cons_self)
    have hl : 1 ≤ (nameL x).length := by
      cases hn : nameL x with
      | nil => exact absurd hn hx
      | cons a b => simp
    cases r with
    | nil => simpa [joinR] using hl
    | cons y r =>
      have := ih fun z hz => h z (List.mem_cons_of_mem _ hz)
      simp only [joinR, List.length_append, List.length_cons] at this ⊢
      omega
theorem listV_text (xs : List (Int × Int)) (h : xs.all rightB = true) : listV (textL xs) = if xs.length ≤ 384 then (xs, 0, 0) else ([], 2, 384) := by
  have hr : ∀ x ∈ xs, rightB x = true := List.all_eq_true.1 h
  rw [textL, if_pos h, joinN_R xs xs.length (Nat.le_refl _), List.take_length]
  by_cases h0 : xs = []
  · subst h0; rfl
  · have hl := joinR_len xs hr
    have hpos : 0 < xs.length := List.length_pos_iff.2 h0
    have hne : joinR xs ≠ [] := by intro e; rw [e] at hl; simp at hl; exact h0 hl
    rw [listV, if_neg hne, listGo_join xs _ 0 [] h0 hr (by omega) (by simp)]
    simp only [List.length_nil, Nat.zero_add, List.nil_append, Nat.sub_zero]
    rfl
end Go.Proofs.Ytchnljdijmgnfaa
