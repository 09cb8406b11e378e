/- Small contracts that the law on any floats' order wants: two floats are one; the order and the ends of nothing. -/
import Derived.Test.YtdnifilmckialaaDoorWP
import Derived.Test.YtdnifilmckialaaDoorWV
import Derived.Test.YtdnifilmckialaaDoorMathW
namespace Go.Proofs.YtdnifilmckialaaDoor
open Go.RowKit

set_option maxHeartbeats 1000000 in
theorem one_eq (a : Nat) (w : World) : Calls Tryd.prog 29 #[.float .f64 a, .int .u64 a] w fun e w' => e = .returned (.bool true) ∧ w = w' := by
  go_enter Tryd.func29, Tryd.ntmps29
  go_wp2_with (go_at_call 11; refine (bits_any _ _).mono ?_; rintro e w' ⟨rfl, rfl⟩)
  go_ret
  exact ⟨rfl, rfl⟩
set_option maxHeartbeats 1000000 in
theorem one_nan (a b : Nat) (hne : a ≠ b) (h1 : cls a = 1) (h2 : cls b = 1) (w : World) : Calls Tryd.prog 29 #[.float .f64 a, .int .u64 b] w fun e w' => e = .returned (.bool true) ∧ w = w' := by
  have ca : ∀ w : World, Calls Tryd.prog 16 #[.int .u64 a] w fun e w' => e = .returned (.int .i64 1) ∧ w = w' := fun w => by
    have := rclass_any a w
    rw [h1] at this
    exact this
  have cb : ∀ w : World, Calls Tryd.prog 16 #[.int .u64 b] w fun e w' => e = .returned (.int .i64 1) ∧ w = w' := fun w => by
    have := rclass_any b w
    rw [h2] at this
    exact this
  have A := Lib.hid ca
  have B := Lib.hid cb
  have hab : ((a : Int) == b) = false := by rw [beq_eq_false_iff_ne]; omega
  clear ca cb hne h1 h2
  go_enter Tryd.func29, Tryd.ntmps29
  go_wp2_with (first | (go_at_call 11; refine (bits_any _ _).mono ?_; rintro e w' ⟨rfl, rfl⟩) | (go_at_call 16; (first | with_reducible refine (A.out _).mono ?_ | with_reducible refine (B.out _).mono ?_); rintro e w' ⟨rfl, rfl⟩))
  go_ret
  exact ⟨rfl, rfl⟩
theorem one_true (a b : Nat) (h : Same1 a b) (w : World) : Calls Tryd.prog 29 #[.float .f64 a, .int .u64 b] w fun e w' => e = .returned (.bool true) ∧ w = w' := by
  by_cases hab : a = b
  · subst hab
    exact one_eq a w
  · rcases h with h | ⟨h1, h2⟩
    · exact absurd h hab
    · exact one_nan a b hab h1 h2 w
set_option maxHeartbeats 1000000 in
theorem ends_nil (a : Option Addr) (cap : Nat) (w : World) : Calls Tryd.prog 28 #[.slice a 0 cap] w fun e w' => e = .returned (.tuple #[.float .f64 0, .float .f64 0, .int .i64 0]) ∧ w = w' := by
  go_enter Tryd.func28, Tryd.ntmps28
  go_wp2
  go_loop [5, 6, 7, 12] (fun f l n i => f = .float .f64 0 ∧ l = .float .f64 0 ∧ n = .int .i64 0 ∧ i = .int .i64 0) (fun _ _ _ _ => 0)
  case atStart => exact ⟨rfl, rfl, rfl, rfl⟩
  case round =>
    obtain ⟨rfl, rfl, rfl, rfl⟩ := hrel
    go_wp2
    exact bodyPost_ret (v := .tuple #[.float .f64 0, .float .f64 0, .int .i64 0]) (by simp [results, Tryd.results28, go_sem]) rfl ⟨rfl, by trivial⟩
set_option maxHeartbeats 1000000 in
theorem rsort_nil (a : Option Addr) (cap : Nat) (w : World) : Calls Tryd.prog 26 #[.slice a 0 cap] w fun e w' => e = .returned (.slice none 0 0) ∧ w = w' := by
  go_enter Tryd.func26, Tryd.ntmps26
  go_wp2
  go_loop [3, 4] (fun s i => s = .slice none 0 0 ∧ i = .int .i64 0) (fun _ _ => 0)
  case atStart => exact ⟨rfl, rfl⟩
  case round =>
    obtain ⟨rfl, rfl⟩ := hrel
    go_wp2
    go_ret
    exact ⟨rfl, by trivial⟩
end Go.Proofs.YtdnifilmckialaaDoor
