/- Sum, difference and product of two whole numbers: what the program and the reference answer. -/
import Derived.Test.YtdghekhkjkkgfaaChecked
import Derived.Test.YtdghekhkjkkgfaaMA
import Derived.WalkKit
import Derived.WalkLawsBesides
import Derived.WalkSpells
import Derived.Outline
import Derived.KernelRfl
import Derived.Lib.Hide
namespace Go.Proofs.Ytdghekhkjkkgfaa
open Go.RowKit

set_option maxHeartbeats 400000 in
theorem sub_any (a b : Int) (ha : fits a) (hb : fits b) (w : World) : Calls Try.prog 40 #[.int .i64 a, .int .i64 b] w fun e w' => e = .returned (.tuple #[.int .i64 (fitV (a - b)), .int .i64 (fitE (a - b))]) ∧ w = w' := by
  have hs := sub_signs a b ha hb
  rw [w64] at hs
  have HS := Lib.hid hs
  have HA := Lib.hid ha
  have HB := Lib.hid hb
  clear hs ha hb
  go_enter Try.func40, Try.ntmps40
  go_wp2
  · go_ret2
    have hn := HS.out.1 ‹_›
    exact ⟨ret_ii (if_neg hn).symm (if_neg hn).symm, rfl⟩
  · go_ret2
    have hn : fits (a - b) := Decidable.not_not.1 fun k => absurd (HS.out.2 k) (by omega)
    refine ⟨ret_ii ?_ (if_pos hn).symm, rfl⟩
    rw [fitV, if_pos hn, wrap64_fits _ hn]
set_option maxHeartbeats 400000 in
theorem rsub_any (a b : Int) (ha : fits a) (hb : fits b) (w : World) : Calls Try.prog 41 #[.int .i64 a, .int .i64 b] w fun e w' => e = .returned (.tuple #[.int .i64 (fitV (a - b)), .int .i64 (fitE (a - b))]) ∧ w = w' := by
  unfold fits at ha hb
  go_enter Try.func41, Try.ntmps41
  go_wp2
  all_goals
    go_ret2
    refine ⟨ret_ii ?_ ?_, rfl⟩
    all_goals
      simp only [fitV, fitE, fits] at *
      (try simp only [wrap64] at *)
      first | omega | (split <;> omega)
end Go.Proofs.Ytdghekhkjkkgfaa
