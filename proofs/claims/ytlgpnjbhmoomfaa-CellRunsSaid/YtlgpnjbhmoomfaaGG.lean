/- What must come of every program, layer 10. -/
import Derived.Test.YtlgpnjbhmoomfaaGC
namespace Go.Proofs.Ytlgpnjbhmoomfaa
open Go.RowKit

theorem live1 (w : World) : Calls Try.prog 43 #[.int .i64 100, .int .i64 40] w fun e w' => e = .returned (.tuple #[.agg #[.int .i64 100, .int .i64 40, .int .i64 0], .int .i64 0]) ∧ Below w.heap.size w w' := by
  have h := new_any 100 40 w
  rwa [show newV 100 40 = ⟨100, 40, 0⟩ from rfl, show newE 100 40 = 0 from rfl] at h
theorem live2 (w : World) : Calls Try.prog 34 #[.agg #[.int .i64 100, .int .i64 40, .int .i64 0], .int .i64 60] w fun e w' => e = .returned (.tuple #[.agg #[.int .i64 100, .int .i64 100, .int .i64 1], .int .i64 0]) ∧ Below w.heap.size w w' := by
  have h := pour_any ⟨100, 40, 0⟩ 60 ⟨by unfold fits; decide, by unfold fits; decide, by unfold fits; decide⟩ (by unfold fits; decide) w
  rwa [show chV ⟨100, 40, 0⟩ (max 60 0) = ⟨100, 100, 1⟩ from rfl, show chE ⟨100, 40, 0⟩ (max 60 0) = 0 from rfl] at h
theorem live3 (w : World) : Calls Try.prog 35 #[.agg #[.int .i64 100, .int .i64 40, .int .i64 0], .int .i64 41] w fun e w' => e = .returned (.tuple #[.agg #[.int .i64 0, .int .i64 0, .int .i64 0], .int .i64 102]) ∧ Below w.heap.size w w' := by
  have h := draw_any ⟨100, 40, 0⟩ 41 ⟨by unfold fits; decide, by unfold fits; decide, by unfold fits; decide⟩ (by unfold fits; decide) w
  rwa [show chV ⟨100, 40, 0⟩ (-(max 41 0)) = ⟨0, 0, 0⟩ from rfl, show chE ⟨100, 40, 0⟩ (-(max 41 0)) = 102 from rfl] at h
theorem live4 (w : World) : Calls Try.prog 41 #[.agg #[.int .i64 100, .int .i64 100, .int .i64 1]] w fun e w' => e = .returned (.bool true) ∧ Below w.heap.size w w' :=
  right_t (show (Ce.mk 100 100 1).Right by decide) w
theorem live5 (w : World) : Calls Try.prog 42 #[.agg #[.int .i64 100, .int .i64 40, .int .i64 0]] w fun e w' => e = .returned (.int .i64 60) ∧ Below w.heap.size w w' := by
  have h := room_any ⟨100, 40, 0⟩ w
  rwa [show roomV ⟨100, 40, 0⟩ = 60 from rfl] at h

set_option maxRecDepth 100000 in
set_option maxHeartbeats 4000000 in
theorem lives10 (w : World) : Calls Try.prog 40 #[] w fun e w' => e = .returned (.bool true) ∧ Below w.heap.size w w' := by
  have h1 := Lib.hid (fun w => live1 w)
  have h2 := Lib.hid (fun w => live2 w)
  have h3 := Lib.hid (fun w => live3 w)
  have h4 := Lib.hid (fun w => live4 w)
  have h5 := Lib.hid (fun w => live5 w)
  go_enter Try.func40, Try.ntmps40
  go_wp2_with fail
  refine (h1.out _).mono ?_
  rintro e w1 ⟨rfl, hb1⟩
  go_wp2_with fail
  refine (h2.out _).mono ?_
  rintro e w2 ⟨rfl, hb2⟩
  have a0 : w2.cell? ⟨w1.heap.size, 0, none⟩ = some (.int .i64 100) := by exact keep_cell hb2 (by simp)
  have a1 : w2.cell? ⟨w1.heap.size, 1, none⟩ = some (.int .i64 40) := by exact keep_cell hb2 (by simp)
  have a2 : w2.cell? ⟨w1.heap.size, 2, none⟩ = some (.int .i64 0) := by exact keep_cell hb2 (by simp)
  have HB2 := Lib.hid (Below.call hb1 (Below.call (Below.al (Below.refl _ _) _) hb2))
  have s1 : w1.heap.size < w2.heap.size := by (have := hb2.size; (try simp at this) <;> omega)
  clear hb1 hb2
  go_wp2_with fail
  refine (h3.out _).mono ?_
  rintro e w3 ⟨rfl, hb3⟩
  have hb4 := Below.call (Below.al (Below.refl _ _) _) hb3
  have b0 : w3.cell? ⟨w1.heap.size, 0, none⟩ = some (.int .i64 100) := by exact keep_cell hb4 a0
  have b1 : w3.cell? ⟨w1.heap.size, 1, none⟩ = some (.int .i64 40) := by exact keep_cell hb4 a1
  have b2 : w3.cell? ⟨w1.heap.size, 2, none⟩ = some (.int .i64 0) := by exact keep_cell hb4 a2
  have c0 : w3.cell? ⟨w2.heap.size, 0, none⟩ = some (.int .i64 100) := by exact keep_cell hb3 (by simp)
  have c1 : w3.cell? ⟨w2.heap.size, 1, none⟩ = some (.int .i64 100) := by exact keep_cell hb3 (by simp)
  have c2 : w3.cell? ⟨w2.heap.size, 2, none⟩ = some (.int .i64 1) := by exact keep_cell hb3 (by simp)
  have HB3 := Lib.hid (Below.call HB2.out hb4)
  have s2 : w2.heap.size < w3.heap.size := by (have := hb3.size; (try simp at this) <;> omega)
  have s3 : w1.heap.size < w3.heap.size := by omega
  clear hb3 hb4 a0 a1 a2
  go_wp2_with fail
  refine (h4.out _).mono ?_
  rintro e w4 ⟨rfl, hb4⟩
  have hb5 := Below.call (Below.al (Below.refl _ _) _) hb4
  have d0 : w4.cell? ⟨w1.heap.size, 0, none⟩ = some (.int .i64 100) := by exact keep_cell hb5 b0
  have d1 : w4.cell? ⟨w1.heap.size, 1, none⟩ = some (.int .i64 40) := by exact keep_cell hb5 b1
  have d2 : w4.cell? ⟨w1.heap.size, 2, none⟩ = some (.int .i64 0) := by exact keep_cell hb5 b2
  have HB4 := Lib.hid (Below.call HB3.out hb5)
  clear hb4 hb5 b0 b1 b2 c0 c1 c2
  go_wp2_with fail
  refine (h5.out _).mono ?_
  rintro e w5 ⟨rfl, hb5⟩
  have HB5 := Lib.hid (Below.call HB4.out hb5)
  clear hb5
  go_wp2
  go_ret
  exact ⟨rfl, HB5.out⟩
end Go.Proofs.Ytlgpnjbhmoomfaa
