/- CellNew: the walk. -/
import Derived.Test.YtlgpnjbhmoomfaaGD
import Derived.Test.YtlgpnjbhmoomfaaGG
namespace Go.Proofs.Ytlgpnjbhmoomfaa
open Go.RowKit

set_option maxRecDepth 100000 in
set_option maxHeartbeats 8000000 in
theorem cellNew_walk (a b : Int) (w : World) : Calls Try.prog 8 #[.int .i64 a, .int .i64 b] w fun e w' => e = .returned (.bool true) ∧ Below w.heap.size w w' := by
  have h1 := Lib.hid (fun w => new_any a b w)
  have h2 := Lib.hid (fun w => rright_any ⟨a, b, 0⟩ w)
  have h3 := Lib.hid (fun w => lives10 w)
  by_cases hr : (Ce.mk a b 0).Right
  · have e1 : rightB ⟨a, b, 0⟩ = true := decide_eq_true hr
    rw [e1] at h2
    have e2 : newV a b = ⟨a, b, 0⟩ := if_pos hr
    have e3 : newE a b = 0 := if_pos hr
    rw [e2, e3] at h1
    clear e1 e2 e3 hr
    go_enter Try.func8, Try.ntmps8
    go_wp2_with fail
    refine (h1.out _).mono ?_
    rintro e w1 ⟨rfl, hb1⟩
    have hq := hb1.size
    try simp at hq
    clear hq
    have HB1 := Lib.hid (hb1)
    clear hb1
    go_wp2_with fail
    refine (h2.out _).mono ?_
    rintro e w2 ⟨rfl, hb2⟩
    have hc2 := Below.call (Below.al (Below.al (Below.refl _ _) _) _) hb2
    have f3_2 : w2.cell? ⟨w1.heap.size, 0, none⟩ = some (.int .i64 a) := by exact keep_cell hb2 (by simp [go_sem])
    have f4_2 : w2.cell? ⟨w1.heap.size, 1, none⟩ = some (.int .i64 b) := by exact keep_cell hb2 (by simp [go_sem])
    have f5_2 : w2.cell? ⟨w1.heap.size, 2, none⟩ = some (.int .i64 0) := by exact keep_cell hb2 (by simp [go_sem])
    have f6_2 : w2.cell? ⟨w1.heap.size + 1, 0, none⟩ = some (.int .i64 a) := by exact keep_cell hb2 (by simp [go_sem])
    have f7_2 : w2.cell? ⟨w1.heap.size + 1, 1, none⟩ = some (.int .i64 b) := by exact keep_cell hb2 (by simp [go_sem])
    have f8_2 : w2.cell? ⟨w1.heap.size + 1, 2, none⟩ = some (.int .i64 0) := by exact keep_cell hb2 (by simp [go_sem])
    have hq := hb2.size
    try simp at hq
    have hs2_0 : w1.heap.size < w2.heap.size := by omega
    have hs2_1 : w1.heap.size + 1 < w2.heap.size := by omega
    clear hq
    have HB2 := Lib.hid (Below.call HB1.out hc2)
    clear hb2 hc2
    go_wp2_with fail
    refine (h3.out _).mono ?_
    rintro e w3 ⟨rfl, hb3⟩
    have f3_3 : w3.cell? ⟨w1.heap.size, 0, none⟩ = some (.int .i64 a) := by exact keep_cell hb3 f3_2
    have f4_3 : w3.cell? ⟨w1.heap.size, 1, none⟩ = some (.int .i64 b) := by exact keep_cell hb3 f4_2
    have f5_3 : w3.cell? ⟨w1.heap.size, 2, none⟩ = some (.int .i64 0) := by exact keep_cell hb3 f5_2
    have f6_3 : w3.cell? ⟨w1.heap.size + 1, 0, none⟩ = some (.int .i64 a) := by exact keep_cell hb3 f6_2
    have f7_3 : w3.cell? ⟨w1.heap.size + 1, 1, none⟩ = some (.int .i64 b) := by exact keep_cell hb3 f7_2
    have f8_3 : w3.cell? ⟨w1.heap.size + 1, 2, none⟩ = some (.int .i64 0) := by exact keep_cell hb3 f8_2
    have hq := hb3.size
    try simp at hq
    have hs3_0 : w1.heap.size < w3.heap.size := by omega
    have hs3_1 : w1.heap.size + 1 < w3.heap.size := by omega
    clear hq hs2_0 hs2_1
    have HB3 := Lib.hid (Below.call HB2.out hb3)
    clear hb3 f3_2 f4_2 f5_2 f6_2 f7_2 f8_2
    go_wp2
    go_ret
    exact ⟨ret_b (by simp), HB3.out⟩
  · have e1 : rightB ⟨a, b, 0⟩ = false := decide_eq_false hr
    rw [e1] at h2
    have e2 : newV a b = ⟨0, 0, 0⟩ := if_neg hr
    have e3 : newE a b = 100 := if_neg hr
    rw [e2, e3] at h1
    clear e1 e2 e3 hr
    go_enter Try.func8, Try.ntmps8
    go_wp2_with fail
    refine (h1.out _).mono ?_
    rintro e w1 ⟨rfl, hb1⟩
    have hq := hb1.size
    try simp at hq
    clear hq
    have HB1 := Lib.hid (hb1)
    clear hb1
    go_wp2_with fail
    refine (h2.out _).mono ?_
    rintro e w2 ⟨rfl, hb2⟩
    have hc2 := Below.call (Below.al (Below.al (Below.refl _ _) _) _) hb2
    have f3_2 : w2.cell? ⟨w1.heap.size, 0, none⟩ = some (.int .i64 0) := by exact keep_cell hb2 (by simp [go_sem])
    have f4_2 : w2.cell? ⟨w1.heap.size, 1, none⟩ = some (.int .i64 0) := by exact keep_cell hb2 (by simp [go_sem])
    have f5_2 : w2.cell? ⟨w1.heap.size, 2, none⟩ = some (.int .i64 0) := by exact keep_cell hb2 (by simp [go_sem])
    have f6_2 : w2.cell? ⟨w1.heap.size + 1, 0, none⟩ = some (.int .i64 a) := by exact keep_cell hb2 (by simp [go_sem])
    have f7_2 : w2.cell? ⟨w1.heap.size + 1, 1, none⟩ = some (.int .i64 b) := by exact keep_cell hb2 (by simp [go_sem])
    have f8_2 : w2.cell? ⟨w1.heap.size + 1, 2, none⟩ = some (.int .i64 0) := by exact keep_cell hb2 (by simp [go_sem])
    have hq := hb2.size
    try simp at hq
    have hs2_0 : w1.heap.size < w2.heap.size := by omega
    have hs2_1 : w1.heap.size + 1 < w2.heap.size := by omega
    clear hq
    have HB2 := Lib.hid (Below.call HB1.out hc2)
    clear hb2 hc2
    go_wp2_with fail
    refine (h3.out _).mono ?_
    rintro e w3 ⟨rfl, hb3⟩
    have f3_3 : w3.cell? ⟨w1.heap.size, 0, none⟩ = some (.int .i64 0) := by exact keep_cell hb3 f3_2
    have f4_3 : w3.cell? ⟨w1.heap.size, 1, none⟩ = some (.int .i64 0) := by exact keep_cell hb3 f4_2
    have f5_3 : w3.cell? ⟨w1.heap.size, 2, none⟩ = some (.int .i64 0) := by exact keep_cell hb3 f5_2
    have f6_3 : w3.cell? ⟨w1.heap.size + 1, 0, none⟩ = some (.int .i64 a) := by exact keep_cell hb3 f6_2
    have f7_3 : w3.cell? ⟨w1.heap.size + 1, 1, none⟩ = some (.int .i64 b) := by exact keep_cell hb3 f7_2
    have f8_3 : w3.cell? ⟨w1.heap.size + 1, 2, none⟩ = some (.int .i64 0) := by exact keep_cell hb3 f8_2
    have hq := hb3.size
    try simp at hq
    have hs3_0 : w1.heap.size < w3.heap.size := by omega
    have hs3_1 : w1.heap.size + 1 < w3.heap.size := by omega
    clear hq hs2_0 hs2_1
    have HB3 := Lib.hid (Below.call HB2.out hb3)
    clear hb3 f3_2 f4_2 f5_2 f6_2 f7_2 f8_2
    go_wp2
    go_ret
    exact ⟨ret_b (by simp), HB3.out⟩
end Go.Proofs.Ytlgpnjbhmoomfaa
