/- Cells: when one is right, what becomes of it; is it right, as the program and the reference tell it. -/
import Derived.Test.YtlgpnjbhmoomfaaBA
namespace Go.Proofs.Ytlgpnjbhmoomfaa
open Go.RowKit

/-- A cell: capacity, volume, version. -/
structure Ce where
  a : Int
  b : Int
  c : Int
abbrev Ce.v (x : Ce) : Value := .agg #[.int .i64 x.a, .int .i64 x.b, .int .i64 x.c]
structure Ce.Fit (x : Ce) : Prop where
  a : fits x.a
  b : fits x.b
  c : fits x.c
def Ce.Right (x : Ce) : Prop := 1 ≤ x.a ∧ x.a ≤ 1099511627776 ∧ 0 ≤ x.b ∧ x.b ≤ x.a ∧ 0 ≤ x.c ∧ x.c ≤ 2147483647
instance (x : Ce) : Decidable x.Right := by unfold Ce.Right; infer_instance
def rightB (x : Ce) : Bool := decide x.Right
def chE (x : Ce) (n : Int) : Int := if ¬ x.Right then 100 else if n = 0 then 1 else if x.c = 2147483647 then 101 else if x.b + n < 0 then 102 else if x.a < x.b + n then 103 else 0
def nought : Ce := ⟨0, 0, 0⟩
def chV (x : Ce) (n : Int) : Ce := if chE x n = 0 then ⟨x.a, x.b + n, x.c + 1⟩ else nought
theorem Below.box {w w' : World} (o : Obj) (h : Below (w.alloc o).heap.size (w.alloc o) w') : Below w.heap.size w w' := Below.call (Below.al (Below.refl _ _) o) h
theorem fits_add {a b : Int} (ha : 0 ≤ a) (hb : fits b) (hk : a ≤ 1099511627776) : ¬ fits (a + b) → 0 < a + b := by unfold fits at *; omega

set_option maxRecDepth 100000 in
set_option maxHeartbeats 2000000 in
theorem right_any (x : Ce) (w : World) : Calls Try.prog 41 #[x.v] w fun e w' => e = .returned (.bool (rightB x)) ∧ Below w.heap.size w w' := by
  obtain ⟨a, b, c⟩ := x
  show Calls Try.prog 41 #[.agg #[.int .i64 a, .int .i64 b, .int .i64 c]] w fun e w' => e = .returned (.bool (decide (1 ≤ a ∧ a ≤ 1099511627776 ∧ 0 ≤ b ∧ b ≤ a ∧ 0 ≤ c ∧ c ≤ 2147483647))) ∧ Below w.heap.size w w'
  by_cases h1 : 1 ≤ a
  · by_cases h2 : a ≤ 1099511627776
    · by_cases h3 : 0 ≤ b
      · by_cases h4 : b ≤ a
        · by_cases h5 : 0 ≤ c
          · by_cases h6 : c ≤ 2147483647
            · rw [show decide (1 ≤ a ∧ a ≤ 1099511627776 ∧ 0 ≤ b ∧ b ≤ a ∧ 0 ≤ c ∧ c ≤ 2147483647) = true from decide_eq_true ⟨h1, h2, h3, h4, h5, h6⟩]
              go_enter Try.func41, Try.ntmps41
              go_wp2
              go_ret
              exact ⟨ret_b (by simp), Below.al (Below.refl _ _) _⟩
            · rw [show decide (1 ≤ a ∧ a ≤ 1099511627776 ∧ 0 ≤ b ∧ b ≤ a ∧ 0 ≤ c ∧ c ≤ 2147483647) = false from decide_eq_false (by omega)]
              go_enter Try.func41, Try.ntmps41
              go_wp2
              go_ret
              exact ⟨ret_b (by simp), Below.al (Below.refl _ _) _⟩
          · rw [show decide (1 ≤ a ∧ a ≤ 1099511627776 ∧ 0 ≤ b ∧ b ≤ a ∧ 0 ≤ c ∧ c ≤ 2147483647) = false from decide_eq_false (by omega)]
            go_enter Try.func41, Try.ntmps41
            go_wp2
            go_ret
            exact ⟨ret_b (by simp), Below.al (Below.refl _ _) _⟩
        · rw [show decide (1 ≤ a ∧ a ≤ 1099511627776 ∧ 0 ≤ b ∧ b ≤ a ∧ 0 ≤ c ∧ c ≤ 2147483647) = false from decide_eq_false (by omega)]
          go_enter Try.func41, Try.ntmps41
          go_wp2
          go_ret
          exact ⟨ret_b (by simp), Below.al (Below.refl _ _) _⟩
      · rw [show decide (1 ≤ a ∧ a ≤ 1099511627776 ∧ 0 ≤ b ∧ b ≤ a ∧ 0 ≤ c ∧ c ≤ 2147483647) = false from decide_eq_false (by omega)]
        go_enter Try.func41, Try.ntmps41
        go_wp2
        go_ret
        exact ⟨ret_b (by simp), Below.al (Below.refl _ _) _⟩
    · rw [show decide (1 ≤ a ∧ a ≤ 1099511627776 ∧ 0 ≤ b ∧ b ≤ a ∧ 0 ≤ c ∧ c ≤ 2147483647) = false from decide_eq_false (by omega)]
      go_enter Try.func41, Try.ntmps41
      go_wp2
      go_ret
      exact ⟨ret_b (by simp), Below.al (Below.refl _ _) _⟩
  · rw [show decide (1 ≤ a ∧ a ≤ 1099511627776 ∧ 0 ≤ b ∧ b ≤ a ∧ 0 ≤ c ∧ c ≤ 2147483647) = false from decide_eq_false (by omega)]
    go_enter Try.func41, Try.ntmps41
    go_wp2
    go_ret
    exact ⟨ret_b (by simp), Below.al (Below.refl _ _) _⟩

set_option maxRecDepth 100000 in
set_option maxHeartbeats 2000000 in
theorem rright_any (x : Ce) (w : World) : Calls Try.prog 39 #[x.v] w fun e w' => e = .returned (.bool (rightB x)) ∧ Below w.heap.size w w' := by
  obtain ⟨a, b, c⟩ := x
  show Calls Try.prog 39 #[.agg #[.int .i64 a, .int .i64 b, .int .i64 c]] w fun e w' => e = .returned (.bool (decide (1 ≤ a ∧ a ≤ 1099511627776 ∧ 0 ≤ b ∧ b ≤ a ∧ 0 ≤ c ∧ c ≤ 2147483647))) ∧ Below w.heap.size w w'
  by_cases h1 : 1 ≤ a
  · by_cases h2 : a ≤ 1099511627776
    · by_cases h3 : 0 ≤ b
      · by_cases h4 : b ≤ a
        · by_cases h5 : 0 ≤ c
          · by_cases h6 : c ≤ 2147483647
            · rw [show decide (1 ≤ a ∧ a ≤ 1099511627776 ∧ 0 ≤ b ∧ b ≤ a ∧ 0 ≤ c ∧ c ≤ 2147483647) = true from decide_eq_true ⟨h1, h2, h3, h4, h5, h6⟩]
              go_enter Try.func39, Try.ntmps39
              go_wp2
              go_ret
              exact ⟨ret_b (by simp), Below.al (Below.refl _ _) _⟩
            · rw [show decide (1 ≤ a ∧ a ≤ 1099511627776 ∧ 0 ≤ b ∧ b ≤ a ∧ 0 ≤ c ∧ c ≤ 2147483647) = false from decide_eq_false (by omega)]
              go_enter Try.func39, Try.ntmps39
              go_wp2
              go_ret
              exact ⟨ret_b (by simp), Below.al (Below.refl _ _) _⟩
          · rw [show decide (1 ≤ a ∧ a ≤ 1099511627776 ∧ 0 ≤ b ∧ b ≤ a ∧ 0 ≤ c ∧ c ≤ 2147483647) = false from decide_eq_false (by omega)]
            go_enter Try.func39, Try.ntmps39
            go_wp2
            go_ret
            exact ⟨ret_b (by simp), Below.al (Below.refl _ _) _⟩
        · rw [show decide (1 ≤ a ∧ a ≤ 1099511627776 ∧ 0 ≤ b ∧ b ≤ a ∧ 0 ≤ c ∧ c ≤ 2147483647) = false from decide_eq_false (by omega)]
          go_enter Try.func39, Try.ntmps39
          go_wp2
          go_ret
          exact ⟨ret_b (by simp), Below.al (Below.refl _ _) _⟩
      · rw [show decide (1 ≤ a ∧ a ≤ 1099511627776 ∧ 0 ≤ b ∧ b ≤ a ∧ 0 ≤ c ∧ c ≤ 2147483647) = false from decide_eq_false (by omega)]
        go_enter Try.func39, Try.ntmps39
        go_wp2
        go_ret
        exact ⟨ret_b (by simp), Below.al (Below.refl _ _) _⟩
    · rw [show decide (1 ≤ a ∧ a ≤ 1099511627776 ∧ 0 ≤ b ∧ b ≤ a ∧ 0 ≤ c ∧ c ≤ 2147483647) = false from decide_eq_false (by omega)]
      go_enter Try.func39, Try.ntmps39
      go_wp2
      go_ret
      exact ⟨ret_b (by simp), Below.al (Below.refl _ _) _⟩
  · rw [show decide (1 ≤ a ∧ a ≤ 1099511627776 ∧ 0 ≤ b ∧ b ≤ a ∧ 0 ≤ c ∧ c ≤ 2147483647) = false from decide_eq_false (by omega)]
    go_enter Try.func39, Try.ntmps39
    go_wp2
    go_ret
    exact ⟨ret_b (by simp), Below.al (Below.refl _ _) _⟩
end Go.Proofs.Ytlgpnjbhmoomfaa
