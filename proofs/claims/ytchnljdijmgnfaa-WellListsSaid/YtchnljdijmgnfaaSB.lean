/- Whether two spans meet; how long one is; the reference's words on two. -/
import Derived.Test.YtchnljdijmgnfaaSA
namespace Go.Proofs.Ytchnljdijmgnfaa
open Go.RowKit

theorem cut_eq (p q : Int × Int) : (!(decide ((cutV p q).1 = 0) && decide ((cutV p q).2 = -1))) = meetsB p q := by
  unfold cutV meetsB
  by_cases h : max p.1 q.1 ≤ min p.2 q.2
  · rw [if_pos h, decide_eq_true h]
    by_cases h0 : max p.1 q.1 = 0
    · have : ¬ min p.2 q.2 = -1 := by omega
      simp [this]
    · simp [h0]
  · rw [if_neg h, decide_eq_false h]
    rfl
set_option maxHeartbeats 1000000 in
theorem meets_any (p q : Int × Int) (w : World) : Calls Try.prog 14 #[.agg #[.int .i64 p.1, .int .i64 p.2], .agg #[.int .i64 q.1, .int .i64 q.2]] w fun e w' => e = .returned (.bool (meetsB p q)) ∧ Below w.heap.size w w' := by
  have hm := cut_eq p q
  obtain ⟨a, b⟩ := p
  obtain ⟨c, d⟩ := q
  have HM := Lib.hid hm
  clear hm
  go_enter Try.func14, Try.ntmps14
  go_wp2_with fail
  refine (cut_any (a, b) (c, d) _).mono ?_
  rintro e w1 ⟨rfl, hb1⟩
  obtain ⟨hc1, hf1⟩ := bcell hb1
  have HB1 := Lib.hid hb1
  have hz1_0 : w.heap.size < w1.heap.size := by (have := hb1.size; (try simp at this) <;> omega)
  have hz1_1 : w.heap.size + 1 < w1.heap.size := by (have := hb1.size; (try simp at this) <;> omega)
  clear hb1
  go_wp2_with fail
  refine (none_any _).mono ?_
  rintro e w2 ⟨rfl, hb2⟩
  obtain ⟨hc2, hf2⟩ := bcell hb2
  have HB2 := Lib.hid hb2
  have hz2_0 : w.heap.size < w2.heap.size := by (have := hb2.size; (try simp at this) <;> omega)
  have hz2_1 : w.heap.size + 1 < w2.heap.size := by (have := hb2.size; (try simp at this) <;> omega)
  clear hb2
  go_wp2
  all_goals
    go_ret
    exact ⟨ret_b (by rw [← HM.out]; simp [*]), by (repeat (first | exact Below.refl _ _ | (with_reducible refine Below.st ?_ (by simp <;> omega)) | (with_reducible refine Below.al ?_ _) | (with_reducible refine Below.call ?_ HB1.out) | (with_reducible refine Below.call ?_ HB2.out) | (with_reducible refine Below.call ?_ HB3.out) | (with_reducible refine Below.call ?_ HB4.out) ))⟩
end Go.Proofs.Ytchnljdijmgnfaa
