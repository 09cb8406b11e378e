/- How many numbers a span has. -/
import Derived.Test.YtchnljdijmgnfaaSA
namespace Go.Proofs.Ytchnljdijmgnfaa
open Go.RowKit
theorem lenV_0 {a b : Int} (h : b < a) : lenV (a, b) = 0 := by simp [lenV, h]
theorem lenV_1 {a b : Int} (h : a ≤ b) (k : b - a < 9223372036854775807) : lenV (a, b) = b - a + 1 := by
  rw [lenV, if_neg (by simpa using h), if_pos k]
theorem lenV_2 {a b : Int} (h : a ≤ b) (k : 9223372036854775807 ≤ b - a) : lenV (a, b) = 9223372036854775807 := by
  rw [lenV, if_neg (by simpa using h), if_neg (by simpa using k)]
set_option maxHeartbeats 1000000 in
theorem rlen_any (p : Int × Int) (h1 : fits p.1) (h2 : fits p.2) (w : World) : Calls Try.prog 17 #[.agg #[.int .i64 p.1, .int .i64 p.2]] w fun e w' => e = .returned (.int .i64 (lenV p)) ∧ Below w.heap.size w w' := by
  obtain ⟨a, b⟩ := p
  simp only [fits] at h1 h2
  by_cases ha : b < a
  · go_enter Try.func17, Try.ntmps17
    go_wp2
    go_ret
    exact ⟨ret_i (lenV_0 ha).symm, by (repeat (first | exact Below.refl _ _ | (with_reducible refine Below.st ?_ (by simp <;> omega)) | (with_reducible refine Below.al ?_ _) | (with_reducible refine Below.call ?_ HB1.out) | (with_reducible refine Below.call ?_ HB2.out) | (with_reducible refine Below.call ?_ HB3.out) | (with_reducible refine Below.call ?_ HB4.out) ))⟩
  · by_cases h0 : a ≤ 0
    · go_enter Try.func17, Try.ntmps17
      go_wp2
      · go_ret
        exact ⟨ret_i (lenV_2 (by omega) (by omega)).symm, by (repeat (first | exact Below.refl _ _ | (with_reducible refine Below.st ?_ (by simp <;> omega)) | (with_reducible refine Below.al ?_ _) | (with_reducible refine Below.call ?_ HB1.out) | (with_reducible refine Below.call ?_ HB2.out) | (with_reducible refine Below.call ?_ HB3.out) | (with_reducible refine Below.call ?_ HB4.out) ))⟩
      · have hl : b - a < 9223372036854775807 := by omega
        go_ret
        exact ⟨ret_i (by rw [lenV_1 (by omega) hl] <;> (try simp only [wrap64]) <;> omega), by (repeat (first | exact Below.refl _ _ | (with_reducible refine Below.st ?_ (by simp <;> omega)) | (with_reducible refine Below.al ?_ _) | (with_reducible refine Below.call ?_ HB1.out) | (with_reducible refine Below.call ?_ HB2.out) | (with_reducible refine Below.call ?_ HB3.out) | (with_reducible refine Below.call ?_ HB4.out) ))⟩
    · have hl : b - a < 9223372036854775807 := by omega
      go_enter Try.func17, Try.ntmps17
      go_wp2
      go_ret
      exact ⟨ret_i (by rw [lenV_1 (by omega) hl] <;> (try simp only [wrap64]) <;> omega), by (repeat (first | exact Below.refl _ _ | (with_reducible refine Below.st ?_ (by simp <;> omega)) | (with_reducible refine Below.al ?_ _) | (with_reducible refine Below.call ?_ HB1.out) | (with_reducible refine Below.call ?_ HB2.out) | (with_reducible refine Below.call ?_ HB3.out) | (with_reducible refine Below.call ?_ HB4.out) ))⟩
set_option maxHeartbeats 1000000 in
theorem len_any (p : Int × Int) (h1 : fits p.1) (h2 : fits p.2) (w : World) : Calls Try.prog 16 #[.agg #[.int .i64 p.1, .int .i64 p.2]] w fun e w' => e = .returned (.int .i64 (lenV p)) ∧ Below w.heap.size w w' := by
  obtain ⟨a, b⟩ := p
  simp only [fits] at h1 h2
  by_cases ha : b < a
  · go_enter Try.func16, Try.ntmps16
    go_wp2_with fail
    refine (empty_any _ _ _).mono ?_
    rintro e w1 ⟨rfl, hb1⟩
    obtain ⟨hc1, hf1⟩ := bcell hb1
    have HB1 := Lib.hid hb1
    have hz1_0 : w.heap.size < w1.heap.size := by (have := hb1.size; (try simp at this) <;> omega)
    clear hb1
    go_wp2
    go_ret
    exact ⟨ret_i (lenV_0 ha).symm, by (repeat (first | exact Below.refl _ _ | (with_reducible refine Below.st ?_ (by simp <;> omega)) | (with_reducible refine Below.al ?_ _) | (with_reducible refine Below.call ?_ HB1.out) | (with_reducible refine Below.call ?_ HB2.out) | (with_reducible refine Below.call ?_ HB3.out) | (with_reducible refine Below.call ?_ HB4.out) ))⟩
  · have hw : IntKind.u64.wrap (IntKind.u64.wrap b - IntKind.u64.wrap a) = b - a := by
      simp only [IntKind.wrap_u64]
      omega
    go_enter Try.func16, Try.ntmps16
    go_wp2_with fail
    refine (empty_any _ _ _).mono ?_
    rintro e w1 ⟨rfl, hb1⟩
    obtain ⟨hc1, hf1⟩ := bcell hb1
    have HB1 := Lib.hid hb1
    have hz1_0 : w.heap.size < w1.heap.size := by (have := hb1.size; (try simp at this) <;> omega)
    clear hb1
    go_wp2
    · have hl : ¬ b - a < 9223372036854775807 := by omega
      go_ret
      exact ⟨ret_i (lenV_2 (by omega) (by omega)).symm, by (repeat (first | exact Below.refl _ _ | (with_reducible refine Below.st ?_ (by simp <;> omega)) | (with_reducible refine Below.al ?_ _) | (with_reducible refine Below.call ?_ HB1.out) | (with_reducible refine Below.call ?_ HB2.out) | (with_reducible refine Below.call ?_ HB3.out) | (with_reducible refine Below.call ?_ HB4.out) ))⟩
    · have hl : b - a < 9223372036854775807 := by omega
      go_ret
      exact ⟨ret_i (by rw [lenV_1 (by omega) hl] <;> (try simp only [wrap64]) <;> omega), by (repeat (first | exact Below.refl _ _ | (with_reducible refine Below.st ?_ (by simp <;> omega)) | (with_reducible refine Below.al ?_ _) | (with_reducible refine Below.call ?_ HB1.out) | (with_reducible refine Below.call ?_ HB2.out) | (with_reducible refine Below.call ?_ HB3.out) | (with_reducible refine Below.call ?_ HB4.out) ))⟩
end Go.Proofs.Ytchnljdijmgnfaa
