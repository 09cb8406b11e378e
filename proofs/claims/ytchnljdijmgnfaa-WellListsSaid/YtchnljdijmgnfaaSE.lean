/- What the reference says of two spans: the hull, whether they meet, whether they are beside each other. -/
import Derived.Test.YtchnljdijmgnfaaSD
namespace Go.Proofs.Ytchnljdijmgnfaa
open Go.RowKit
set_option maxHeartbeats 1000000 in
theorem rhull_any (p q : Int × Int) (w : World) : Calls Try.prog 13 #[.agg #[.int .i64 p.1, .int .i64 p.2], .agg #[.int .i64 q.1, .int .i64 q.2]] w fun e w' => e = .returned (.agg #[.int .i64 (hullV p q).1, .int .i64 (hullV p q).2]) ∧ Below w.heap.size w w' := by
  obtain ⟨a, b⟩ := p
  obtain ⟨c, d⟩ := q
  by_cases h : b < a <;> by_cases k : d < c
  · rw [hullV_nn h k]
    go_enter Try.func13, Try.ntmps13
    go_wp2_with fail
    refine (rempty_any _).mono ?_
    rintro e w1 ⟨rfl, hb1⟩
    obtain ⟨hc1, hf1⟩ := bcell hb1
    have HB1 := Lib.hid hb1
    have hz1_0 : w.heap.size < w1.heap.size := by (have := hb1.size; (try simp at this) <;> omega)
    have hz1_1 : w.heap.size + 1 < w1.heap.size := by (have := hb1.size; (try simp at this) <;> omega)
    have hz1_2 : w.heap.size + 1 + 1 < w1.heap.size := by (have := hb1.size; (try simp at this) <;> omega)
    clear hb1
    go_wp2
    refine bodyPost_ret (v := .agg #[.int .i64 0, .int .i64 (-1)]) (by simp [results, Try.results13, go_sem, hc1]) rfl ⟨rfl, ?_⟩
    (repeat (first | exact Below.refl _ _ | (with_reducible refine Below.st ?_ (by simp <;> omega)) | (with_reducible refine Below.al ?_ _) | (with_reducible refine Below.call ?_ HB1.out) | (with_reducible refine Below.call ?_ HB2.out) | (with_reducible refine Below.call ?_ HB3.out) | (with_reducible refine Below.call ?_ HB4.out) ))
  · rw [hullV_ny h k]
    go_enter Try.func13, Try.ntmps13
    go_wp2
    refine bodyPost_ret (v := .agg #[.int .i64 c, .int .i64 d]) (by simp [results, Try.results13, go_sem]) rfl ⟨rfl, ?_⟩
    (repeat (first | exact Below.refl _ _ | (with_reducible refine Below.st ?_ (by simp <;> omega)) | (with_reducible refine Below.al ?_ _) | (with_reducible refine Below.call ?_ HB1.out) | (with_reducible refine Below.call ?_ HB2.out) | (with_reducible refine Below.call ?_ HB3.out) | (with_reducible refine Below.call ?_ HB4.out) ))
  · rw [hullV_yn h k]
    go_enter Try.func13, Try.ntmps13
    go_wp2
    refine bodyPost_ret (v := .agg #[.int .i64 a, .int .i64 b]) (by simp [results, Try.results13, go_sem]) rfl ⟨rfl, ?_⟩
    (repeat (first | exact Below.refl _ _ | (with_reducible refine Below.st ?_ (by simp <;> omega)) | (with_reducible refine Below.al ?_ _) | (with_reducible refine Below.call ?_ HB1.out) | (with_reducible refine Below.call ?_ HB2.out) | (with_reducible refine Below.call ?_ HB3.out) | (with_reducible refine Below.call ?_ HB4.out) ))
  · rw [hullV_yy h k]
    by_cases ha : c < a <;> by_cases hd : b < d
    all_goals
      go_enter Try.func13, Try.ntmps13
      go_wp2
      refine bodyPost_ret (v := .agg #[.int .i64 (min a c), .int .i64 (max b d)]) (by simp [results, Try.results13, go_sem]; omega) rfl ⟨rfl, ?_⟩
      (repeat (first | exact Below.refl _ _ | (with_reducible refine Below.st ?_ (by simp <;> omega)) | (with_reducible refine Below.al ?_ _) | (with_reducible refine Below.call ?_ HB1.out) | (with_reducible refine Below.call ?_ HB2.out) | (with_reducible refine Below.call ?_ HB3.out) | (with_reducible refine Below.call ?_ HB4.out) ))
set_option maxHeartbeats 1000000 in
theorem rmeets_any (p q : Int × Int) (w : World) : Calls Try.prog 15 #[.agg #[.int .i64 p.1, .int .i64 p.2], .agg #[.int .i64 q.1, .int .i64 q.2]] w fun e w' => e = .returned (.bool (meetsB p q)) ∧ Below w.heap.size w w' := by
  have hm := cut_eq p q
  obtain ⟨a, b⟩ := p
  obtain ⟨c, d⟩ := q
  have HM := Lib.hid hm
  clear hm
  go_enter Try.func15, Try.ntmps15
  go_wp2_with fail
  refine (rcut_any (a, b) (c, d) _).mono ?_
  rintro e w1 ⟨rfl, hb1⟩
  obtain ⟨hc1, hf1⟩ := bcell hb1
  have HB1 := Lib.hid hb1
  have hz1_0 : w.heap.size < w1.heap.size := by (have := hb1.size; (try simp at this) <;> omega)
  have hz1_1 : w.heap.size + 1 < w1.heap.size := by (have := hb1.size; (try simp at this) <;> omega)
  clear hb1
  go_wp2_with fail
  refine (rempty_any _).mono ?_
  rintro e w2 ⟨rfl, hb2⟩
  obtain ⟨hc2, hf2⟩ := bcell hb2
  have HB2 := Lib.hid hb2
  have hz2_0 : w.heap.size < w2.heap.size := by (have := hb2.size; (try simp at this) <;> omega)
  have hz2_1 : w.heap.size + 1 < w2.heap.size := by (have := hb2.size; (try simp at this) <;> omega)
  clear hb2
  go_wp2
  all_goals
    go_ret
    exact ⟨ret_b (by rw [← HM.out]; simp [*]), by (repeat (first | exact Below.refl _ _ | (with_reducible refine Below.st ?_ (by simp <;> omega)) | (with_reducible refine Below.al ?_ _) | (with_reducible refine Below.call ?_ HB1.out) | (with_reducible refine Below.call ?_ HB2.out) | (with_reducible refine Below.call ?_ HB3.out) | (with_reducible refine Below.call ?_ HB4.out) ))⟩

def besideB (a b : Int × Int) : Bool := decide (a.2 + 1 = b.1)
set_option maxHeartbeats 1000000 in
theorem beside_any (p q : Int × Int) (h1 : fits p.2) (h2 : fits q.1) (w : World) : Calls Try.prog 42 #[.agg #[.int .i64 p.1, .int .i64 p.2], .agg #[.int .i64 q.1, .int .i64 q.2]] w fun e w' => e = .returned (.bool (besideB p q)) ∧ Below w.heap.size w w' := by
  obtain ⟨a, b⟩ := p
  obtain ⟨c, d⟩ := q
  simp only [fits] at h1 h2
  by_cases h : b < 9223372036854775807
  · go_enter Try.func42, Try.ntmps42
    go_wp2
    go_ret
    exact ⟨ret_b (by simp only [besideB]; rw [Bool.eq_iff_iff]; simp), by (repeat (first | exact Below.refl _ _ | (with_reducible refine Below.st ?_ (by simp <;> omega)) | (with_reducible refine Below.al ?_ _) | (with_reducible refine Below.call ?_ HB1.out) | (with_reducible refine Below.call ?_ HB2.out) | (with_reducible refine Below.call ?_ HB3.out) | (with_reducible refine Below.call ?_ HB4.out) ))⟩
  · go_enter Try.func42, Try.ntmps42
    go_wp2
    go_ret
    exact ⟨ret_b (by simp [besideB]; omega), by (repeat (first | exact Below.refl _ _ | (with_reducible refine Below.st ?_ (by simp <;> omega)) | (with_reducible refine Below.al ?_ _) | (with_reducible refine Below.call ?_ HB1.out) | (with_reducible refine Below.call ?_ HB2.out) | (with_reducible refine Below.call ?_ HB3.out) | (with_reducible refine Below.call ?_ HB4.out) ))⟩
end Go.Proofs.Ytchnljdijmgnfaa
