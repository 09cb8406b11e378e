/- Sum, difference and product of two whole numbers: what the program and the reference answer. -/
import Derived.Test.YtegghoniboebkaaChecked
import Derived.Test.YtegghoniboebkaaMA
import Derived.WalkKit
import Derived.WalkLawsBesides
import Derived.WalkSpells
import Derived.Outline
import Derived.KernelRfl
import Derived.Lib.Hide
namespace Go.Proofs.Ytegghoniboebkaa
open Go.RowKit

set_option maxHeartbeats 400000 in
theorem rsize_any (a : Int) (ha : fits a) (w : World) : Calls Try.prog 71 #[.int .i64 a] w fun e w' => e = .returned (.int .u64 (a.natAbs : Int)) ∧ w = w' := by
  unfold fits at ha
  go_enter Try.func71, Try.ntmps71
  go_wp2
  all_goals
    go_ret
    refine ⟨ret_u ?_, rfl⟩
    (try simp only [wrap64])
    (try simp only [IntKind.wrap_u64])
    omega
set_option maxHeartbeats 400000 in
theorem size_any (a : Int) (ha : fits a) (w : World) : Calls Try.prog 61 #[.int .i64 a] w fun e w' => e = .returned (.int .u64 (a.natAbs : Int)) ∧ w = w' := by
  unfold fits at ha
  go_enter Try.func61, Try.ntmps61
  go_wp2
  all_goals
    go_ret
    refine ⟨ret_u ?_, rfl⟩
    (try simp only [wrap64])
    (try simp only [IntKind.wrap_u64])
    omega
end Go.Proofs.Ytegghoniboebkaa
