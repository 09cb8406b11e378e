/- A volume in microlitres: the program's quotient, the reference's digits. -/
import Derived.Test.YtdnifilmckialaaDoorWI
import Derived.Test.YtdnifilmckialaaDoorMathZ
namespace Go.Proofs.YtdnifilmckialaaDoor
open Go.RowKit

/-- The bits of the volume. -/
def micB (n : Int) (t : Nat) : Nat := Ieee.double.word (decide (n < 0)) (qbits n.natAbs t)
theorem floatOfInt_near (n : Int) : floatOfInt .f64 n = Ieee.double.nearest (decide (n < 0)) n.natAbs 0 := rfl
theorem quo_any (n : Int) (t : Nat) (h0 : n ≠ 0) (h1 : -9007199254740992 ≤ n) (h2 : n ≤ 9007199254740992) (t1 : 9007199254740992 ≤ n.natAbs * 2 ^ t / 1000) (t2 : n.natAbs * 2 ^ t / 1000 < 18014398509481984) : floatBits .quo .f64 (floatOfInt .f64 n) 4652007308841189376 = some (micB n t) := by
  rw [floatOfInt_near]
  exact quo_bits (decide (n < 0)) n.natAbs t (by omega) (by omega) t1 t2
theorem quo_0 : floatBits .quo .f64 (floatOfInt .f64 0) 4652007308841189376 = some 0 := by decide +kernel

set_option maxHeartbeats 400000 in
theorem micro_q (n : Int) (r : Nat) (h1 : -9007199254740992 ≤ n) (h2 : n ≤ 9007199254740992) (hr : floatBits .quo .f64 (floatOfInt .f64 n) 4652007308841189376 = some r) (w : World) : Calls Tryd.prog 33 #[.int .i64 n] w fun e w' => e = .returned (.float .f64 r) ∧ w = w' := by
  have hq := fun w => run_float_arith (P := Tryd.prog) w .quo 22 .f64 _ _ _ hr
  go_enter Tryd.func33, Tryd.ntmps33
  go_wp2
  go_ret
  exact ⟨rfl, rfl⟩
set_option maxHeartbeats 400000 in
theorem micro_out (n : Int) (h : n < -9007199254740992 ∨ 9007199254740992 < n) (w : World) : Calls Tryd.prog 33 #[.int .i64 n] w fun e w' => e = .returned (.float .f64 9221120237041090561) ∧ w = w' := by
  go_enter Tryd.func33, Tryd.ntmps33
  go_wp2_with (go_at_call 38; refine (nan_any _).mono ?_; rintro e w' ⟨rfl, rfl⟩)
  all_goals go_ret
  all_goals exact ⟨rfl, rfl⟩
set_option maxHeartbeats 400000 in
theorem rmicro_out (n : Int) (h : n < -9007199254740992 ∨ 9007199254740992 < n) (w : World) : Calls Tryd.prog 34 #[.int .i64 n] w fun e w' => e = .returned (.int .u64 9221120237041090561) ∧ w = w' := by
  go_enter Tryd.func34, Tryd.ntmps34
  go_wp2
  all_goals go_ret
  all_goals exact ⟨rfl, rfl⟩
set_option maxHeartbeats 400000 in
theorem rmicro_0 (w : World) : Calls Tryd.prog 34 #[.int .i64 0] w fun e w' => e = .returned (.int .u64 0) ∧ w = w' := by
  go_enter Tryd.func34, Tryd.ntmps34
  go_wp2_with (go_at_call 43; refine (size_any _ (by omega) (by omega) _).mono ?_; rintro e w' ⟨rfl, rfl⟩)
  all_goals go_ret
  all_goals exact ⟨rfl, rfl⟩
end Go.Proofs.YtdnifilmckialaaDoor
