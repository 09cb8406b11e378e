/- Units: how many parts lie on one, and whether a part does. -/
import Derived.Test.YtlgpnjbhmoomfaaDF
namespace Go.Proofs.Ytlgpnjbhmoomfaa
open Go.RowKit

/-- Four numbers' value. -/
abbrev Q4.v (u : Q4) : Value := .agg #[.int .i64 u.a, .int .i64 u.b, .int .i64 u.c, .int .i64 u.d]
set_option maxHeartbeats 1000000 in
theorem parts_any (u : Q4) (hu : okU u) (w : World) : Calls Try.prog 70 #[u.v] w fun e w' => e = .returned (.int .i64 (u.c * u.d)) ∧ Below w.heap.size w w' := by
  obtain ⟨m1, m2⟩ := size_mul hu.2.2.2
  clear hu
  go_enter Try.func70, Try.ntmps70
  go_wp2
  go_ret
  exact ⟨ret_i (by first | rfl | omega), Below.al (Below.refl _ _) _⟩
end Go.Proofs.Ytlgpnjbhmoomfaa
