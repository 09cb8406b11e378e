/- The volumes' short run that must come of every program; the law that the volume of any float is the reference's. -/
import Derived.Test.YtdnifilmckialaaDoorWH
import Derived.Laws.FloatArith
namespace Go.Proofs.YtdnifilmckialaaDoor
open Go.RowKit

theorem quo_250 : floatBits .quo .f64 (floatOfInt .f64 250) 4652007308841189376 = some 4598175219545276416 := by decide +kernel
set_option maxHeartbeats 400000 in
theorem micro_250 (w : World) : Calls Tryd.prog 33 #[.int .i64 250] w fun e w' => e = .returned (.float .f64 4598175219545276416) ∧ w = w' := by
  have hq := fun w => run_float_arith (P := Tryd.prog) w .quo 22 .f64 _ _ _ quo_250
  go_enter Tryd.func33, Tryd.ntmps33
  go_wp2
  go_ret
  exact ⟨rfl, rfl⟩
theorem ord_250 : FloatKind.f64.format.order 4598175219545276416 4598175219545276416 = some .eq := by decide +kernel

theorem of_25 (w : World) (hT : Tab w) : Calls Tryd.prog 30 #[.float .f64 4612811918334230528] w fun e w' => e = .returned (.tuple #[.int .i64 2500, .int .i64 0]) ∧ ∃ d, w' = w.drewN d := by
  have h := of_any 4612811918334230528 (by decide) w hT
  rw [show ofV 4612811918334230528 = 2500 by decide +kernel, show ofE 4612811918334230528 = 0 by decide +kernel] at h
  exact h
theorem of_inf (w : World) (hT : Tab w) : Calls Tryd.prog 30 #[.float .f64 18442240474082181120] w fun e w' => e = .returned (.tuple #[.int .i64 0, .int .i64 21]) ∧ ∃ d, w' = w.drewN d := by
  have h := of_any 18442240474082181120 (by decide) w hT
  rw [show ofV 18442240474082181120 = 0 by decide +kernel, show ofE 18442240474082181120 = 21 by decide +kernel] at h
  exact h
theorem of_low1 (w : World) (hT : Tab w) : Calls Tryd.prog 30 #[.float .f64 9223372036854775809] w fun e w' => e = .returned (.tuple #[.int .i64 0, .int .i64 22]) ∧ ∃ d, w' = w.drewN d := by
  have h := of_any 9223372036854775809 (by decide) w hT
  rw [show ofV 9223372036854775809 = 0 by decide +kernel, show ofE 9223372036854775809 = 22 by decide +kernel] at h
  exact h
theorem inf_minus (w : World) : Calls Tryd.prog 40 #[.int .i64 (-1)] w fun e w' => e = .returned (.float .f64 18442240474082181120) ∧ w = w' := inf_any (-1) w
theorem Tab.drewN {w : World} (h : Tab w) (d : Nat) : Tab (w.drewN d) := h

set_option maxHeartbeats 1000000 in
theorem lives2 (w : World) (hT : Tab w) : Calls Tryd.prog 32 #[] w fun e w' => e = .returned (.bool true) ∧ ∃ d, w' = w.drewN d := by
  have ho := ord_250
  go_enter Tryd.func32, Tryd.ntmps32
  go_wp2_with fail
  refine (of_25 _ hT).mono ?_
  rintro e w' ⟨rfl, d1, rfl⟩
  go_wp2_with (go_at_call 40; refine (inf_minus _).mono ?_; rintro e w' ⟨rfl, rfl⟩)
  refine (of_inf _ (hT.drewN d1)).mono ?_
  rintro e w' ⟨rfl, d2, rfl⟩
  go_wp2_with fail
  refine (of_low1 _ (hT.drewN _)).mono ?_
  rintro e w' ⟨rfl, d3, rfl⟩
  go_wp2_with (go_at_call 33; refine (micro_250 _).mono ?_; rintro e w' ⟨rfl, rfl⟩)
  go_ret
  exact ⟨rfl, _, rfl⟩

set_option maxHeartbeats 1000000 in
theorem nanoOf_walk (b : Nat) (h : b < 18446744073709551616) (w : World) (hT : Tab w) : Calls Tryd.prog 7 #[.float .f64 b] w fun e w' => e = .returned (.bool true) ∧ ∃ d, w' = w.drewN d := by
  go_enter Tryd.func7, Tryd.ntmps7
  go_wp2_with fail
  refine (of_any b h _ hT).mono ?_
  rintro e w' ⟨rfl, d1, rfl⟩
  go_wp2_with (go_at_call 11; refine (bits_any b _).mono ?_; rintro e w' ⟨rfl, rfl⟩)
  refine (rof_any b h _).mono ?_
  rintro e w' ⟨rfl, d2, rfl⟩
  go_wp2_with fail
  refine (lives2 _ (hT.drewN _)).mono ?_
  rintro e w' ⟨rfl, d3, rfl⟩
  go_wp2
  go_ret
  exact ⟨ret_b (by simp), _, rfl⟩
end Go.Proofs.YtdnifilmckialaaDoor
