/- Plans: how many deeds a plan has; a count brought to what there is. -/
import Derived.Test.YtbflkdkbfidleaaUL
namespace Go.Proofs.Ytbflkdkbfidleaa
open Go.RowKit
def stV (n : Int) (l : Bool) : Int := if n < 0 ∨ n > 65536 then 0 else if l then 3 * n + 2 else 2 * n + 2
theorem steps_any (n : Int) (l : Bool) (w : World) : Calls Try.prog 32 #[.int .i64 n, .bool l] w fun e w' => e = .returned (.int .i64 (stV n l)) ∧ w = w' := by
  have hS : stV n l = if n < 0 ∨ n > 65536 then 0 else if l then 3 * n + 2 else 2 * n + 2 := rfl
  rw [hS]
  clear hS
  by_cases h1 : n < 0
  · rw [if_pos (Or.inl h1)]
    go_enter Try.func32, Try.ntmps32
    go_wp2
    go_ret
    exact ⟨rfl, rfl⟩
  by_cases h2 : n > 65536
  · rw [if_pos (Or.inr h2)]
    go_enter Try.func32, Try.ntmps32
    go_wp2
    go_ret
    exact ⟨rfl, rfl⟩
  rw [if_neg (by omega)]
  obtain ⟨m, rfl⟩ := Int.eq_ofNat_of_zero_le (show 0 ≤ n by omega)
  cases l
  all_goals
    simp only [Bool.false_eq_true, if_false, if_true]
    go_enter Try.func32, Try.ntmps32
    go_wp2
    go_ret
    exact ⟨rfl, rfl⟩
theorem rsteps_any (n : Int) (l : Bool) (w : World) : Calls Try.prog 33 #[.int .i64 n, .bool l] w fun e w' => e = .returned (.int .i64 (stV n l)) ∧ w = w' := by
  have hS : stV n l = if n < 0 ∨ n > 65536 then 0 else if l then 3 * n + 2 else 2 * n + 2 := rfl
  rw [hS]
  clear hS
  by_cases h1 : n < 0
  · rw [if_pos (Or.inl h1)]
    go_enter Try.func33, Try.ntmps33
    go_wp2
    go_ret
    exact ⟨rfl, rfl⟩
  by_cases h2 : n > 65536
  · rw [if_pos (Or.inr h2)]
    go_enter Try.func33, Try.ntmps33
    go_wp2
    go_ret
    exact ⟨rfl, rfl⟩
  rw [if_neg (by omega)]
  obtain ⟨m, rfl⟩ := Int.eq_ofNat_of_zero_le (show 0 ≤ n by omega)
  cases l
  all_goals
    simp only [Bool.false_eq_true, if_false, if_true]
    go_enter Try.func33, Try.ntmps33
    go_wp2
    go_ret
    exact ⟨rfl, rfl⟩
/-- A count of some things brought to what there is of them. -/
def wi (k : Int) (n : Nat) : Nat := min k.toNat n
theorem within_any (k : Int) (n : Nat) (w : World) : Calls Try.prog 55 #[.int .i64 k, .int .i64 n] w fun e w' => e = .returned (.int .i64 (wi k n)) ∧ w = w' := by
  have hW : ((wi k n : Nat) : Int) = if k < 0 then 0 else if k < n then k else n := by
    unfold wi
    split
    · omega
    · split <;> omega
  rw [hW]
  clear hW
  by_cases h1 : k < 0
  · rw [if_pos h1]
    go_enter Try.func55, Try.ntmps55
    go_wp2
    all_goals
      go_ret
      exact ⟨ret_i (by omega), rfl⟩
  · rw [if_neg h1]
    by_cases h2 : k < n
    · rw [if_pos h2]
      go_enter Try.func55, Try.ntmps55
      go_wp2
      all_goals
        go_ret
        exact ⟨ret_i (by omega), rfl⟩
    · rw [if_neg h2]
      go_enter Try.func55, Try.ntmps55
      go_wp2
      all_goals
        go_ret
        exact ⟨ret_i (by omega), rfl⟩
end Go.Proofs.Ytbflkdkbfidleaa
