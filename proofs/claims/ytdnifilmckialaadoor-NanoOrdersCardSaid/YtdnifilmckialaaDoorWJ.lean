/- The law that a greater float has no smaller volume. -/
import Derived.Test.YtdnifilmckialaaDoorWI
import Derived.Test.YtdnifilmckialaaDoorMathG
namespace Go.Proofs.YtdnifilmckialaaDoor
open Go.RowKit

set_option maxHeartbeats 1000000 in
theorem no_err (a b : Nat) (ha : a < 18446744073709551616) (hb : b < 18446744073709551616) (h : ofE a ≠ 0) (w : World) (hT : Tab w) : Calls Tryd.prog 9 #[.float .f64 a, .float .f64 b] w fun e w' => e = .returned (.bool true) ∧ ∃ d, w' = w.drewN d := by
  have e1 : (ofE a == 0) = false := by rw [beq_eq_false_iff_ne]; exact h
  have e2 : (ofE a != 0) = true := by rw [bne_iff_ne]; exact h
  have a0 : ∀ w : World, Tab w → Calls Tryd.prog 30 #[.float .f64 a] w fun e w' => e = .returned (.tuple #[.int .i64 0, .int .i64 (ofE a)]) ∧ ∃ d, w' = w.drewN d := fun w hT => by
    have := of_any a ha w hT
    rw [ofV_err a h] at this
    exact this
  have A := Lib.hid a0
  clear a0
  have B := Lib.hid (of_any b hb)
  clear h
  go_enter Tryd.func9, Tryd.ntmps9
  go_wp2_with fail
  refine (A.out _ hT).mono ?_
  rintro e w' ⟨rfl, d1, rfl⟩
  go_wp2_with fail
  refine (B.out _ (hT.drewN _)).mono ?_
  rintro e w' ⟨rfl, d2, rfl⟩
  go_wp2_with fail
  refine (lives2 _ (hT.drewN _)).mono ?_
  rintro e w' ⟨rfl, d3, rfl⟩
  go_wp2
  all_goals go_ret
  all_goals exact ⟨ret_b rfl, _, rfl⟩
set_option maxHeartbeats 1000000 in
theorem no_err2 (a b : Nat) (ha : a < 18446744073709551616) (hb : b < 18446744073709551616) (h1 : ofE a = 0) (h : ofE b ≠ 0) (w : World) (hT : Tab w) : Calls Tryd.prog 9 #[.float .f64 a, .float .f64 b] w fun e w' => e = .returned (.bool true) ∧ ∃ d, w' = w.drewN d := by
  have e1 : (ofE b == 0) = false := by rw [beq_eq_false_iff_ne]; exact h
  have e2 : (ofE b != 0) = true := by rw [bne_iff_ne]; exact h
  have a0 : ∀ w : World, Tab w → Calls Tryd.prog 30 #[.float .f64 a] w fun e w' => e = .returned (.tuple #[.int .i64 (ofV a), .int .i64 0]) ∧ ∃ d, w' = w.drewN d := fun w hT => by
    have := of_any a ha w hT
    rw [h1] at this
    exact this
  have A := Lib.hid a0
  clear a0
  have B := Lib.hid (of_any b hb)
  have hva := ofV_le a
  clear h h1
  go_enter Tryd.func9, Tryd.ntmps9
  go_wp2_with fail
  refine (A.out _ hT).mono ?_
  rintro e w' ⟨rfl, d1, rfl⟩
  go_wp2_with fail
  refine (B.out _ (hT.drewN _)).mono ?_
  rintro e w' ⟨rfl, d2, rfl⟩
  go_wp2_with fail
  refine (lives2 _ (hT.drewN _)).mono ?_
  rintro e w' ⟨rfl, d3, rfl⟩
  go_wp2
  all_goals go_ret
  all_goals exact ⟨ret_b rfl, _, rfl⟩
set_option maxHeartbeats 1000000 in
theorem no_none (a b : Nat) (ha : a < 18446744073709551616) (hb : b < 18446744073709551616) (h1 : ofE a = 0) (h2 : ofE b = 0) (l1 : (FloatKind.f64.format.order a b == some .lt) = false) (l2 : (FloatKind.f64.format.order a b == some .eq) = false) (w : World) (hT : Tab w) : Calls Tryd.prog 9 #[.float .f64 a, .float .f64 b] w fun e w' => e = .returned (.bool true) ∧ ∃ d, w' = w.drewN d := by
  have a0 : ∀ w : World, Tab w → Calls Tryd.prog 30 #[.float .f64 a] w fun e w' => e = .returned (.tuple #[.int .i64 (ofV a), .int .i64 0]) ∧ ∃ d, w' = w.drewN d := fun w hT => by
    have := of_any a ha w hT
    rw [h1] at this
    exact this
  have A := Lib.hid a0
  clear a0
  have b0 : ∀ w : World, Tab w → Calls Tryd.prog 30 #[.float .f64 b] w fun e w' => e = .returned (.tuple #[.int .i64 (ofV b), .int .i64 0]) ∧ ∃ d, w' = w.drewN d := fun w hT => by
    have := of_any b hb w hT
    rw [h2] at this
    exact this
  have B := Lib.hid b0
  clear b0
  have hva := ofV_le a
  clear h1 h2
  go_enter Tryd.func9, Tryd.ntmps9
  go_wp2_with fail
  refine (A.out _ hT).mono ?_
  rintro e w' ⟨rfl, d1, rfl⟩
  go_wp2_with fail
  refine (B.out _ (hT.drewN _)).mono ?_
  rintro e w' ⟨rfl, d2, rfl⟩
  go_wp2_with fail
  refine (lives2 _ (hT.drewN _)).mono ?_
  rintro e w' ⟨rfl, d3, rfl⟩
  go_wp2
  all_goals go_ret
  all_goals exact ⟨ret_b rfl, _, rfl⟩
set_option maxHeartbeats 1000000 in
theorem no_lt (a b : Nat) (ha : a < 18446744073709551616) (hb : b < 18446744073709551616) (h1 : ofE a = 0) (h2 : ofE b = 0) (l : FloatKind.f64.format.order a b = some .lt) (w : World) (hT : Tab w) : Calls Tryd.prog 9 #[.float .f64 a, .float .f64 b] w fun e w' => e = .returned (.bool true) ∧ ∃ d, w' = w.drewN d := by
  have hm := ofV_mono a b ha hb h1 h2 (by left; exact l)
  have a0 : ∀ w : World, Tab w → Calls Tryd.prog 30 #[.float .f64 a] w fun e w' => e = .returned (.tuple #[.int .i64 (ofV a), .int .i64 0]) ∧ ∃ d, w' = w.drewN d := fun w hT => by
    have := of_any a ha w hT
    rw [h1] at this
    exact this
  have A := Lib.hid a0
  clear a0
  have b0 : ∀ w : World, Tab w → Calls Tryd.prog 30 #[.float .f64 b] w fun e w' => e = .returned (.tuple #[.int .i64 (ofV b), .int .i64 0]) ∧ ∃ d, w' = w.drewN d := fun w hT => by
    have := of_any b hb w hT
    rw [h2] at this
    exact this
  have B := Lib.hid b0
  clear b0
  have hva := ofV_le a
  clear h1 h2
  go_enter Tryd.func9, Tryd.ntmps9
  go_wp2_with fail
  refine (A.out _ hT).mono ?_
  rintro e w' ⟨rfl, d1, rfl⟩
  go_wp2_with fail
  refine (B.out _ (hT.drewN _)).mono ?_
  rintro e w' ⟨rfl, d2, rfl⟩
  go_wp2_with fail
  refine (lives2 _ (hT.drewN _)).mono ?_
  rintro e w' ⟨rfl, d3, rfl⟩
  go_wp2
  all_goals go_ret
  all_goals exact ⟨ret_b (by simp), _, rfl⟩
set_option maxHeartbeats 1000000 in
theorem no_eq (a b : Nat) (ha : a < 18446744073709551616) (hb : b < 18446744073709551616) (h1 : ofE a = 0) (h2 : ofE b = 0) (l : FloatKind.f64.format.order a b = some .eq) (w : World) (hT : Tab w) : Calls Tryd.prog 9 #[.float .f64 a, .float .f64 b] w fun e w' => e = .returned (.bool true) ∧ ∃ d, w' = w.drewN d := by
  have hm := ofV_mono a b ha hb h1 h2 (by right; exact l)
  have a0 : ∀ w : World, Tab w → Calls Tryd.prog 30 #[.float .f64 a] w fun e w' => e = .returned (.tuple #[.int .i64 (ofV a), .int .i64 0]) ∧ ∃ d, w' = w.drewN d := fun w hT => by
    have := of_any a ha w hT
    rw [h1] at this
    exact this
  have A := Lib.hid a0
  clear a0
  have b0 : ∀ w : World, Tab w → Calls Tryd.prog 30 #[.float .f64 b] w fun e w' => e = .returned (.tuple #[.int .i64 (ofV b), .int .i64 0]) ∧ ∃ d, w' = w.drewN d := fun w hT => by
    have := of_any b hb w hT
    rw [h2] at this
    exact this
  have B := Lib.hid b0
  clear b0
  have hva := ofV_le a
  clear h1 h2
  go_enter Tryd.func9, Tryd.ntmps9
  go_wp2_with fail
  refine (A.out _ hT).mono ?_
  rintro e w' ⟨rfl, d1, rfl⟩
  go_wp2_with fail
  refine (B.out _ (hT.drewN _)).mono ?_
  rintro e w' ⟨rfl, d2, rfl⟩
  go_wp2_with fail
  refine (lives2 _ (hT.drewN _)).mono ?_
  rintro e w' ⟨rfl, d3, rfl⟩
  go_wp2
  all_goals go_ret
  all_goals exact ⟨ret_b (by simp), _, rfl⟩
theorem nanoOrders_walk (a b : Nat) (ha : a < 18446744073709551616) (hb : b < 18446744073709551616) (w : World) (hT : Tab w) : Calls Tryd.prog 9 #[.float .f64 a, .float .f64 b] w fun e w' => e = .returned (.bool true) ∧ ∃ d, w' = w.drewN d := by
  by_cases h1 : ofE a = 0
  · by_cases h2 : ofE b = 0
    · rcases ho : FloatKind.f64.format.order a b with _ | o
      · exact no_none a b ha hb h1 h2 (by rw [ho]; rfl) (by rw [ho]; rfl) w hT
      · cases o
        · exact no_lt a b ha hb h1 h2 ho w hT
        · exact no_eq a b ha hb h1 h2 ho w hT
        · exact no_none a b ha hb h1 h2 (by rw [ho]; rfl) (by rw [ho]; rfl) w hT
    · exact no_err2 a b ha hb h1 h2 w hT
  · exact no_err a b ha hb h1 w hT
end Go.Proofs.YtdnifilmckialaaDoor
