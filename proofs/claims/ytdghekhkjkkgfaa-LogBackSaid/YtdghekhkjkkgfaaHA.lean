/- Tips: the state of one, as the program and the reference tell it. -/
import Derived.Test.YtdghekhkjkkgfaaBA
namespace Go.Proofs.Ytdghekhkjkkgfaa
open Go.RowKit

/-- A tip. -/
abbrev tpV (s b : Int) : Value := .agg #[.int .i64 s, .int .i64 b]
def armB (b : Int) : Bool := decide (1 ≤ b ∧ b ≤ 8)
/-- The state of a tip, 0 where it is not right. -/
def ofV (s b : Int) : Int := if (s = 1 ∨ s = 3) ∧ b = 0 then s else if s = 2 ∧ 1 ≤ b ∧ b ≤ 8 then 2 else 0
theorem Below.box {w w' : World} (o : Obj) (h : Below (w.alloc o).heap.size (w.alloc o) w') : Below w.heap.size w w' := Below.call (Below.al (Below.refl _ _) o) h

theorem isArm_any (b : Int) (w : World) : Calls Try.prog 48 #[.int .i64 b] w fun e w' => e = .returned (.bool (armB b)) ∧ w = w' := by
  unfold armB
  by_cases h1 : 1 ≤ b
  · go_enter Try.func48, Try.ntmps48
    go_wp2
    go_ret
    exact ⟨ret_b (by simp [h1]), rfl⟩
  · go_enter Try.func48, Try.ntmps48
    go_wp2
    go_ret
    exact ⟨ret_b (by simp; omega), rfl⟩
theorem rarm_any (b : Int) (w : World) : Calls Try.prog 45 #[.int .i64 b] w fun e w' => e = .returned (.bool (armB b)) ∧ w = w' := by
  unfold armB
  by_cases h1 : 1 ≤ b
  · go_enter Try.func45, Try.ntmps45
    go_wp2
    go_ret
    exact ⟨ret_b (by simp [h1]), rfl⟩
  · go_enter Try.func45, Try.ntmps45
    go_wp2
    go_ret
    exact ⟨ret_b (by simp; omega), rfl⟩
theorem of_any (s b : Int) (w : World) : Calls Try.prog 47 #[tpV s b] w fun e w' => e = .returned (.int .i64 (ofV s b)) ∧ Below w.heap.size w w' := by
  have HA := Lib.hid (fun w => isArm_any b w)
  by_cases h1 : s = 1
  · subst h1
    by_cases h0 : b = 0
    · subst h0
      go_enter Try.func47, Try.ntmps47
      go_wp2
      go_ret
      exact ⟨ret_i rfl, Below.al (Below.refl _ _) _⟩
    · rw [show ofV 1 b = 0 by unfold ofV; rw [if_neg (by omega), if_neg (by omega)]]
      go_enter Try.func47, Try.ntmps47
      go_wp2
      go_ret
      exact ⟨ret_i rfl, Below.al (Below.refl _ _) _⟩
  · by_cases h3 : s = 3
    · subst h3
      by_cases h0 : b = 0
      · subst h0
        go_enter Try.func47, Try.ntmps47
        go_wp2
        go_ret
        exact ⟨ret_i rfl, Below.al (Below.refl _ _) _⟩
      · rw [show ofV 3 b = 0 by unfold ofV; rw [if_neg (by omega), if_neg (by omega)]]
        go_enter Try.func47, Try.ntmps47
        go_wp2
        go_ret
        exact ⟨ret_i rfl, Below.al (Below.refl _ _) _⟩
    · by_cases h2 : s = 2
      · subst h2
        by_cases ha : 1 ≤ b ∧ b ≤ 8
        · rw [show ofV 2 b = 2 by unfold ofV; rw [if_neg (by omega), if_pos ⟨rfl, ha⟩]]
          rw [show armB b = true from decide_eq_true ha] at HA
          clear ha h1 h3
          go_enter Try.func47, Try.ntmps47
          go_wp2_with fail
          refine (HA.out _).mono ?_
          rintro e w1 ⟨rfl, rfl⟩
          go_wp2
          go_ret
          exact ⟨ret_i rfl, Below.al (Below.refl _ _) _⟩
        · rw [show ofV 2 b = 0 by unfold ofV; rw [if_neg (by omega), if_neg (by omega)]]
          rw [show armB b = false from decide_eq_false ha] at HA
          clear ha h1 h3
          go_enter Try.func47, Try.ntmps47
          go_wp2_with fail
          refine (HA.out _).mono ?_
          rintro e w1 ⟨rfl, rfl⟩
          go_wp2
          go_ret
          exact ⟨ret_i rfl, Below.al (Below.refl _ _) _⟩
      · rw [show ofV s b = 0 by unfold ofV; rw [if_neg (by omega), if_neg (by omega)]]
        go_enter Try.func47, Try.ntmps47
        go_wp2
        go_ret
        exact ⟨ret_i rfl, Below.al (Below.refl _ _) _⟩
theorem is_any (k s b : Int) (w : World) : Calls Try.prog 43 #[.int .i64 k, tpV s b] w fun e w' => e = .returned (.bool (ofV s b == k)) ∧ Below w.heap.size w w' := by
  have HA := Lib.hid (fun w => of_any s b w)
  generalize ofV s b = c at *
  go_enter Try.func43, Try.ntmps43
  go_wp2_with fail
  refine (HA.out _).mono ?_
  rintro e w1 ⟨rfl, hb1⟩
  have HB1 := Lib.hid hb1
  clear hb1
  go_wp2
  go_ret
  exact ⟨ret_b (by simp), Below.box _ HB1.out⟩
theorem right_any (s b : Int) (w : World) : Calls Try.prog 28 #[tpV s b] w fun e w' => e = .returned (.bool (!(ofV s b == 0))) ∧ Below w.heap.size w w' := by
  have HA := Lib.hid (fun w => is_any 0 s b w)
  generalize (ofV s b == 0) = c at *
  go_enter Try.func28, Try.ntmps28
  go_wp2_with fail
  refine (HA.out _).mono ?_
  rintro e w1 ⟨rfl, hb1⟩
  have HB1 := Lib.hid hb1
  clear hb1
  go_wp2
  go_ret
  exact ⟨ret_b (by simp), Below.box _ HB1.out⟩
end Go.Proofs.Ytdghekhkjkkgfaa
