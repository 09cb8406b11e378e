/- The law on the float next to a number and a power of two. -/
import Derived.Test.YtdnifilmckialaaDoorWP
namespace Go.Proofs.YtdnifilmckialaaDoor
open Go.RowKit

set_option maxHeartbeats 1000000 in
theorem realMakes_walk (m e : Int) (h1 : -9223372036854775808 ≤ m) (h2 : m ≤ 9223372036854775807) (_h3 : -9223372036854775808 ≤ e) (_h4 : e ≤ 9223372036854775807) (w : World) (hT : Tab w) :
    Calls Tryd.prog 4 #[.int .i64 m, .int .i64 e] w fun e' w' => e' = .returned (.bool true) ∧ Below w.heap.size w w' := by
  have A := Lib.hid (make_any m e h1 h2)
  have B := Lib.hid (rmake_any m e h1 h2)
  have hb := fun b => run_bits b
  go_enter Tryd.func4, Tryd.ntmps4
  go_wp2_with fail
  refine (lives1 _ hT).mono ?_
  rintro e w1 ⟨rfl, HB⟩
  have HBh := Lib.hid HB
  clear HB
  go_wp2_with fail
  refine (A.out _).mono ?_
  rintro e w' ⟨rfl, d1, rfl⟩
  go_wp2_with fail
  refine (B.out _).mono ?_
  rintro e w' ⟨rfl, d2, rfl⟩
  go_wp2
  all_goals go_ret
  all_goals exact ⟨ret_b (by simp), below_drewN HBh.out _⟩
end Go.Proofs.YtdnifilmckialaaDoor
