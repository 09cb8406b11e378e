/- The order of no floats; the law on any floats' order. -/
import Derived.Test.YtdnifilmckialaaDoorWX
namespace Go.Proofs.YtdnifilmckialaaDoor
open Go.RowKit

set_option maxRecDepth 1000000 in
set_option maxHeartbeats 1000000 in
theorem sort_nil (a : Option Addr) (cap : Nat) (w : World) : Calls Tryd.prog 25 #[.slice a 0 cap] w fun e w' => ∃ G, e = .returned (.slice (some ⟨G, 0, none⟩) 0 0) ∧ Below w.heap.size w w' := by
  have hmk : ∀ w, (Instr.makeSlice 39 (.int .i64 0) (.int .i64 0)).run Tryd.prog w = .ok (.slice (some ⟨w.heap.size, 0, none⟩) 0 0) (w.alloc (.cells (madeCells #[.float .f64 0] 0) 22)) := fun w => run_make_row' (P := Tryd.prog) 39 22 (.float .f64 0) 8 Tryd.underlying39 info22 rfl .i64 .i64 0 (by omega) (by omega) w
  obtain ⟨r1, r2, r3⟩ := two_rows w 0
  have R3 := Lib.hid r3
  clear r1 r2 r3
  go_enter Tryd.func25, Tryd.ntmps25
  go_wp2
  go_region
  all_goals
    go_wp2_with (refine wpList_copy_nothing rfl _ _ 39 39 rfl 22 Tryd.underlying39 (by kernel_rfl) _ _ _ _ _ _ rfl rfl (Nat.zero_min _) ?_)
    go_loopw [3, 4, 5] (fun a b c wr => ∃ F T, a = .slice (some ⟨F, 0, none⟩) 0 0 ∧ b = .slice (some ⟨T, 0, none⟩) 0 0 ∧ c = .int .i64 1 ∧ Below w.heap.size w wr) (fun _ _ _ _ => 0)
    case atStart => exact ⟨_, _, rfl, rfl, rfl, R3.out⟩
    case round =>
      obtain ⟨F, T, rfl, rfl, rfl, hb⟩ := hrel
      go_wp2
      go_ret
      exact ⟨F, rfl, hb⟩
end Go.Proofs.YtdnifilmckialaaDoor
