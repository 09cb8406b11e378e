/- Sum, difference and product of two whole numbers: what the program and the reference answer. -/
import Derived.Test.YtchnljdijmgnfaaChecked
import Derived.Test.YtchnljdijmgnfaaMA
import Derived.WalkKit
import Derived.WalkLawsBesides
import Derived.WalkSpells
import Derived.Outline
import Derived.KernelRfl
import Derived.Lib.Hide
namespace Go.Proofs.Ytchnljdijmgnfaa
open Go.RowKit

set_option maxHeartbeats 400000 in
theorem rsize_any (a : Int) (ha : fits a) (w : World) : Calls Try.prog 60 #[.int .i64 a] w fun e w' => e = .returned (.int .u64 (a.natAbs : Int)) ∧ w = w' := by
  unfold fits at ha
  go_enter Try.func60, Try.ntmps60
  go_wp2
  all_goals
    go_ret
    refine ⟨ret_u ?_, rfl⟩
    (try simp only [wrap64])
    (try simp only [IntKind.wrap_u64])
    omega
set_option maxHeartbeats 400000 in
theorem size_any (a : Int) (ha : fits a) (w : World) : Calls Try.prog 57 #[.int .i64 a] w fun e w' => e = .returned (.int .u64 (a.natAbs : Int)) ∧ w = w' := by
  unfold fits at ha
  go_enter Try.func57, Try.ntmps57
  go_wp2
  all_goals
    go_ret
    refine ⟨ret_u ?_, rfl⟩
    (try simp only [wrap64])
    (try simp only [IntKind.wrap_u64])
    omega
end Go.Proofs.Ytchnljdijmgnfaa
