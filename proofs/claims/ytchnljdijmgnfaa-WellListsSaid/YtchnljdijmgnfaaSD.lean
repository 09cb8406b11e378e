/- What the reference says of two spans. -/
import Derived.Test.YtchnljdijmgnfaaSB
namespace Go.Proofs.Ytchnljdijmgnfaa
open Go.RowKit
set_option maxHeartbeats 1000000 in
theorem rcut_any (p q : Int × Int) (w : World) : Calls Try.prog 12 #[.agg #[.int .i64 p.1, .int .i64 p.2], .agg #[.int .i64 q.1, .int .i64 q.2]] w fun e w' => e = .returned (.agg #[.int .i64 (cutV p q).1, .int .i64 (cutV p q).2]) ∧ Below w.heap.size w w' := by
  obtain ⟨a, b⟩ := p
  obtain ⟨c, d⟩ := q
  by_cases ha : a < c <;> by_cases hd : d < b <;> by_cases h1 : b < a <;> by_cases h2 : d < c
  all_goals (try (exfalso; omega; done))
  all_goals
    go_enter Try.func12, Try.ntmps12
    go_wp2_with (first
      | (go_at_call 40; refine (rempty_any _).mono ?_; rintro e w1 ⟨rfl, hb1⟩; obtain ⟨hc1, hf1⟩ := bcell hb1; have HB1 := Lib.hid hb1; have hz1_0 : w.heap.size < w1.heap.size := (by have := hb1.size; (try simp at this) <;> omega); have hz1_1 : w.heap.size + 1 < w1.heap.size := (by have := hb1.size; (try simp at this) <;> omega); have hz1_2 : w.heap.size + 1 + 1 < w1.heap.size := (by have := hb1.size; (try simp at this) <;> omega); have hz1_3 : w.heap.size + 1 + 1 + 1 < w1.heap.size := (by have := hb1.size; (try simp at this) <;> omega); clear hb1))
    all_goals
      first
      | (have e := cutV_no (a := a) (b := b) (c := c) (d := d) (by omega)
         rw [e]
         refine bodyPost_ret (v := .agg #[.int .i64 0, .int .i64 (-1)]) (by simp [results, Try.results12, go_sem, hc1]) rfl ⟨rfl, ?_⟩
         (repeat (first | exact Below.refl _ _ | (with_reducible refine Below.st ?_ (by simp <;> omega)) | (with_reducible refine Below.al ?_ _) | (with_reducible refine Below.call ?_ HB1.out) | (with_reducible refine Below.call ?_ HB2.out) | (with_reducible refine Below.call ?_ HB3.out) | (with_reducible refine Below.call ?_ HB4.out) )))
      | (have e := cutV_yes (a := a) (b := b) (c := c) (d := d) (by omega)
         rw [e]
         refine bodyPost_ret (v := .agg #[.int .i64 (max a c), .int .i64 (min b d)]) (by simp [results, Try.results12, go_sem]; omega) rfl ⟨rfl, ?_⟩
         (repeat (first | exact Below.refl _ _ | (with_reducible refine Below.st ?_ (by simp <;> omega)) | (with_reducible refine Below.al ?_ _) | (with_reducible refine Below.call ?_ HB1.out) | (with_reducible refine Below.call ?_ HB2.out) | (with_reducible refine Below.call ?_ HB3.out) | (with_reducible refine Below.call ?_ HB4.out) )))
end Go.Proofs.Ytchnljdijmgnfaa
