/- Plain mathematics: merging sorted runs two by two, and what it comes to. -/
import Derived.Test.YtdnifilmckialaaDoorMathE
namespace Go.Proofs.YtdnifilmckialaaDoor

def le (x y : Nat) : Bool := decide (rnk x ≤ rnk y)
theorem le_trans (a b c : Nat) (h : le a b = true) (k : le b c = true) : le a c = true := by
  simp only [le, decide_eq_true_eq] at *
  omega
theorem le_total (a b : Nat) : (le a b || le b a) = true := by
  simp only [le, Bool.or_eq_true, decide_eq_true_eq]
  omega
def Srt (l : List Nat) : Prop := l.Pairwise fun a b => le a b = true
/-- Two runs merged. -/
def mg (a b : List Nat) : List Nat := List.merge a b le
theorem mg_nil_left (b : List Nat) : mg [] b = b := List.nil_merge b
theorem mg_nil_right (a : List Nat) : mg a [] = a := List.merge_right a
theorem mg_cons (a b : Nat) (l r : List Nat) : mg (a :: l) (b :: r) = if ahd b a = true then b :: mg (a :: l) r else a :: mg l (b :: r) := by
  unfold mg
  rw [List.cons_merge_cons]
  by_cases h : rnk a ≤ rnk b
  · have h1 : le a b = true := by simpa [le] using h
    have h2 : ¬ ahd b a = true := by simp only [ahd, decide_eq_true_eq]; omega
    rw [if_pos h1, if_neg h2]
  · have h1 : ¬ le a b = true := by simpa [le] using h
    have h2 : ahd b a = true := by simp only [ahd, decide_eq_true_eq]; omega
    rw [if_neg h1, if_pos h2]
theorem mg_perm (a b : List Nat) : (mg a b).Perm (a ++ b) := List.merge_perm_append le
theorem mg_length (a b : List Nat) : (mg a b).length = a.length + b.length := by rw [(mg_perm a b).length_eq, List.length_append]
theorem mg_sorted (a b : List Nat) (ha : Srt a) (hb : Srt b) : Srt (mg a b) := List.pairwise_merge le_trans le_total a b ha hb

/-- The first and the second run of pair j, of runs of length n; the first j pairs merged. -/
def runA (n j : Nat) (l : List Nat) : List Nat := (l.drop (2 * n * j)).take n
def runB (n j : Nat) (l : List Nat) : List Nat := (l.drop (2 * n * j + n)).take n
def dn (n : Nat) : Nat → List Nat → List Nat
  | 0, _ => []
  | j + 1, l => dn n j l ++ mg (runA n j l) (runB n j l)
theorem run_app (n j : Nat) (l : List Nat) : runA n j l ++ runB n j l = (l.drop (2 * n * j)).take (2 * n) := by
  unfold runA runB
  rw [show 2 * n = n + n by omega, List.take_add, List.drop_drop]
theorem dn_perm (n : Nat) (l : List Nat) : ∀ j, (dn n j l).Perm (l.take (2 * n * j))
  | 0 => by simp [dn]
  | j + 1 => by
    have e : l.take (2 * n * (j + 1)) = l.take (2 * n * j) ++ (runA n j l ++ runB n j l) := by
      rw [run_app, Nat.mul_succ, List.take_add]
    rw [e]
    exact (dn_perm n l j).append (mg_perm _ _)
theorem dn_length (n : Nat) (l : List Nat) (j : Nat) : (dn n j l).length = min (2 * n * j) l.length := by rw [(dn_perm n l j).length_eq, List.length_take]
theorem dn_all (n : Nat) (l : List Nat) (j : Nat) (h : l.length ≤ 2 * n * j) : (dn n j l).Perm l := by
  have := dn_perm n l j
  rwa [List.take_of_length_le h] at this

/-- Each run of length n is in order. -/
def BS (n : Nat) (l : List Nat) : Prop := ∀ i, Srt ((l.drop (n * i)).take n)
theorem bs_one (l : List Nat) : BS 1 l := fun i => by
  have h : ((l.drop (1 * i)).take 1).length ≤ 1 := by rw [List.length_take]; omega
  generalize (l.drop (1 * i)).take 1 = m at h
  match m, h with
  | [], _ => exact List.Pairwise.nil
  | [x], _ => exact List.pairwise_singleton _ _
theorem bs_end (n : Nat) (l : List Nat) (h : BS n l) (hl : l.length ≤ n) : Srt l := by
  have := h 0
  rw [Nat.mul_zero, List.drop_zero, List.take_of_length_le hl] at this
  exact this
theorem runs_sorted (n j : Nat) (l : List Nat) (h : BS n l) : Srt (runA n j l) ∧ Srt (runB n j l) := by
  have h1 := h (2 * j)
  have h2 := h (2 * j + 1)
  have e1 : n * (2 * j) = 2 * n * j := by rw [Nat.mul_left_comm, Nat.mul_assoc]
  have e2 : n * (2 * j + 1) = 2 * n * j + n := by rw [Nat.mul_succ, e1]
  rw [e1] at h1
  rw [e2] at h2
  exact ⟨h1, h2⟩
theorem srt_nil : Srt [] := List.Pairwise.nil
theorem dn_bs (n : Nat) (l : List Nat) (h : BS n l) : ∀ j, BS (2 * n) (dn n j l)
  | 0 => fun i => by simpa [dn] using srt_nil
  | j + 1 => fun i => by
    obtain ⟨ha, hb⟩ := runs_sorted n j l h
    have ih := dn_bs n l h j i
    have hs := mg_sorted _ _ ha hb
    have hlen := dn_length n l j
    have hml : (mg (runA n j l) (runB n j l)).length ≤ 2 * n := by
      rw [mg_length, ← List.length_append, run_app, List.length_take]
      omega
    unfold dn
    by_cases hn : 2 * n * j ≤ l.length
    · have hl2 : (dn n j l).length = 2 * n * j := by omega
      generalize mg (runA n j l) (runB n j l) = m at *
      generalize dn n j l = d at *
      by_cases hi : i < j
      · have hle : 2 * n * i + 2 * n ≤ 2 * n * j := by
          rw [← Nat.mul_succ]
          exact Nat.mul_le_mul_left _ hi
        rw [List.drop_append_of_le_length (by omega), List.take_append_of_le_length (by rw [List.length_drop]; omega)]
        exact ih
      · by_cases he : i = j
        · subst he
          rw [← hl2, List.drop_left, List.take_of_length_le hml]
          exact hs
        · have hle : 2 * n * j + 2 * n ≤ 2 * n * i := by
            rw [← Nat.mul_succ]
            exact Nat.mul_le_mul_left _ (by omega)
          rw [List.drop_eq_nil_of_le (by rw [List.length_append]; omega), List.take_nil]
          exact srt_nil
    · have e : mg (runA n j l) (runB n j l) = [] := by
        apply List.eq_nil_of_length_eq_zero
        rw [mg_length, ← List.length_append, run_app, List.length_take, List.length_drop]
        omega
      rw [e, List.append_nil]
      exact ih
/-- Two lists in order that hold the same floats: place by place of one rank. -/
theorem ranks_eq (s t : List Nat) (hs : Srt s) (ht : Srt t) (hp : s.Perm t) : s.map rnk = t.map rnk := by
  apply List.Perm.eq_of_pairwise (le := fun a b : Nat => a ≤ b)
  · intro a b _ _ h1 h2
    omega
  · exact List.pairwise_map.2 (hs.imp fun h => by simpa [le] using h)
  · exact List.pairwise_map.2 (ht.imp fun h => by simpa [le] using h)
  · exact hp.map rnk
/-- Of one rank: one float, or both no-numbers. -/
theorem rnk_one (a b : Nat) (ha : a < 18446744073709551616) (hb : b < 18446744073709551616) (h : rnk a = rnk b) : a = b ∨ (cls a = 1 ∧ cls b = 1) := by
  by_cases c1 : cls a = 1
  · by_cases c2 : cls b = 1
    · exact Or.inr ⟨c1, c2⟩
    · exfalso
      have c2' := c2
      rw [cls_1] at c2'
      unfold rnk at h
      rw [if_pos c1, if_neg c2] at h
      split at h <;> omega
  · by_cases c2 : cls b = 1
    · exfalso
      have c1' := c1
      rw [cls_1] at c1'
      unfold rnk at h
      rw [if_neg c1, if_pos c2] at h
      split at h <;> omega
    · left
      unfold rnk at h
      rw [if_neg c1, if_neg c2] at h
      split at h <;> split at h <;> omega
end Go.Proofs.YtdnifilmckialaaDoor
