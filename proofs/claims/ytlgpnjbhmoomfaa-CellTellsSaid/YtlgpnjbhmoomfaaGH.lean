/- CellTells: the walk. -/
import Derived.Test.YtlgpnjbhmoomfaaGD
import Derived.Test.YtlgpnjbhmoomfaaGG
namespace Go.Proofs.Ytlgpnjbhmoomfaa
open Go.RowKit

set_option maxRecDepth 100000 in
set_option maxHeartbeats 8000000 in
theorem cellTells_walk (x : Ce) (n : Int) (hx : x.Fit) (hn : fits n) (w : World) : Calls Try.prog 7 #[x.v, .int .i64 n] w fun e w' => e = .returned (.bool true) ∧ Below w.heap.size w w' := by
  have h1 := Lib.hid (fun w => change_any x n hx hn w)
  have h2 := Lib.hid (fun w => pour_any x n hx hn w)
  have h3 := Lib.hid (fun w => draw_any x n hx hn w)
  have h4 := Lib.hid (fun w => rchange_any x n hn w)
  have h5 := Lib.hid (fun w => rpour_any x n hn w)
  have h6 := Lib.hid (fun w => rdraw_any x n hn w)
  have h7 := Lib.hid (fun w => rright_any x w)
  have h8 := Lib.hid (fun w => right_any x w)
  have h9 := Lib.hid (fun w => room_any x w)
  have h10 := Lib.hid (fun w => lives10 w)
  obtain ⟨a, b, c⟩ := x
  have HR := Lib.hid (show roomV ⟨a, b, c⟩ = if (Ce.mk a b c).Right then a - b else 0 from rfl)
  have HF := Lib.hid hx
  generalize chV ⟨a, b, c⟩ n = y1 at *
  generalize chE ⟨a, b, c⟩ n = z1 at *
  generalize chV ⟨a, b, c⟩ (max n 0) = y2 at *
  generalize chE ⟨a, b, c⟩ (max n 0) = z2 at *
  generalize chV ⟨a, b, c⟩ (-(max n 0)) = y3 at *
  generalize chE ⟨a, b, c⟩ (-(max n 0)) = z3 at *
  obtain ⟨p1, q1, r1⟩ := y1
  obtain ⟨p2, q2, r2⟩ := y2
  obtain ⟨p3, q3, r3⟩ := y3
  clear hx hn
  by_cases hr : (Ce.mk a b c).Right
  · have e1 : rightB ⟨a, b, c⟩ = true := decide_eq_true hr
    rw [e1] at h7 h8
    have e2 : roomV ⟨a, b, c⟩ = a - b := by rw [HR.out, if_pos hr]
    rw [e2] at h9
    obtain ⟨r1', r2', r3', r4', _, _⟩ := hr
    dsimp only at r1' r2' r3' r4'
    clear e1 e2 HR HF
    go_enter Try.func7, Try.ntmps7
    go_wp2_with fail
    refine (h1.out _).mono ?_
    rintro e w1 ⟨rfl, hb1⟩
    have hc1 := Below.call (Below.al (Below.refl _ _) _) hb1
    have f2_1 : w1.cell? ⟨w.heap.size, 0, none⟩ = some (.int .i64 a) := by exact keep_cell hb1 (by simp [go_sem])
    have f3_1 : w1.cell? ⟨w.heap.size, 1, none⟩ = some (.int .i64 b) := by exact keep_cell hb1 (by simp [go_sem])
    have f4_1 : w1.cell? ⟨w.heap.size, 2, none⟩ = some (.int .i64 c) := by exact keep_cell hb1 (by simp [go_sem])
    have hq := hb1.size
    try simp at hq
    have hs1_0 : w.heap.size < w1.heap.size := by omega
    clear hq
    have HB1 := Lib.hid (hc1)
    clear hb1 hc1
    go_wp2_with fail
    refine (h2.out _).mono ?_
    rintro e w2 ⟨rfl, hb2⟩
    have hc2 := Below.call (Below.al (Below.refl _ _) _) hb2
    have f2_2 : w2.cell? ⟨w.heap.size, 0, none⟩ = some (.int .i64 a) := by exact keep_cell hc2 f2_1
    have f3_2 : w2.cell? ⟨w.heap.size, 1, none⟩ = some (.int .i64 b) := by exact keep_cell hc2 f3_1
    have f4_2 : w2.cell? ⟨w.heap.size, 2, none⟩ = some (.int .i64 c) := by exact keep_cell hc2 f4_1
    have f6_2 : w2.cell? ⟨w1.heap.size, 0, none⟩ = some (.int .i64 p1) := by exact keep_cell hb2 (by simp [go_sem])
    have f7_2 : w2.cell? ⟨w1.heap.size, 1, none⟩ = some (.int .i64 q1) := by exact keep_cell hb2 (by simp [go_sem])
    have f8_2 : w2.cell? ⟨w1.heap.size, 2, none⟩ = some (.int .i64 r1) := by exact keep_cell hb2 (by simp [go_sem])
    have hq := hb2.size
    try simp at hq
    have hs2_0 : w.heap.size < w2.heap.size := by omega
    have hs2_1 : w1.heap.size < w2.heap.size := by omega
    clear hq hs1_0
    have HB2 := Lib.hid (Below.call HB1.out hc2)
    clear hb2 hc2 f2_1 f3_1 f4_1
    go_wp2_with fail
    refine (h3.out _).mono ?_
    rintro e w3 ⟨rfl, hb3⟩
    have hc3 := Below.call (Below.al (Below.refl _ _) _) hb3
    have f2_3 : w3.cell? ⟨w.heap.size, 0, none⟩ = some (.int .i64 a) := by exact keep_cell hc3 f2_2
    have f3_3 : w3.cell? ⟨w.heap.size, 1, none⟩ = some (.int .i64 b) := by exact keep_cell hc3 f3_2
    have f4_3 : w3.cell? ⟨w.heap.size, 2, none⟩ = some (.int .i64 c) := by exact keep_cell hc3 f4_2
    have f6_3 : w3.cell? ⟨w1.heap.size, 0, none⟩ = some (.int .i64 p1) := by exact keep_cell hc3 f6_2
    have f7_3 : w3.cell? ⟨w1.heap.size, 1, none⟩ = some (.int .i64 q1) := by exact keep_cell hc3 f7_2
    have f8_3 : w3.cell? ⟨w1.heap.size, 2, none⟩ = some (.int .i64 r1) := by exact keep_cell hc3 f8_2
    have f10_3 : w3.cell? ⟨w2.heap.size, 0, none⟩ = some (.int .i64 p2) := by exact keep_cell hb3 (by simp [go_sem])
    have f11_3 : w3.cell? ⟨w2.heap.size, 1, none⟩ = some (.int .i64 q2) := by exact keep_cell hb3 (by simp [go_sem])
    have f12_3 : w3.cell? ⟨w2.heap.size, 2, none⟩ = some (.int .i64 r2) := by exact keep_cell hb3 (by simp [go_sem])
    have hq := hb3.size
    try simp at hq
    have hs3_0 : w.heap.size < w3.heap.size := by omega
    have hs3_1 : w1.heap.size < w3.heap.size := by omega
    have hs3_2 : w2.heap.size < w3.heap.size := by omega
    clear hq hs2_0 hs2_1
    have HB3 := Lib.hid (Below.call HB2.out hc3)
    clear hb3 hc3 f2_2 f3_2 f4_2 f6_2 f7_2 f8_2
    go_wp2_with fail
    refine (h4.out _).mono ?_
    rintro e w4 ⟨rfl, hb4⟩
    have hc4 := Below.call (Below.al (Below.refl _ _) _) hb4
    have f2_4 : w4.cell? ⟨w.heap.size, 0, none⟩ = some (.int .i64 a) := by exact keep_cell hc4 f2_3
    have f3_4 : w4.cell? ⟨w.heap.size, 1, none⟩ = some (.int .i64 b) := by exact keep_cell hc4 f3_3
    have f4_4 : w4.cell? ⟨w.heap.size, 2, none⟩ = some (.int .i64 c) := by exact keep_cell hc4 f4_3
    have f6_4 : w4.cell? ⟨w1.heap.size, 0, none⟩ = some (.int .i64 p1) := by exact keep_cell hc4 f6_3
    have f7_4 : w4.cell? ⟨w1.heap.size, 1, none⟩ = some (.int .i64 q1) := by exact keep_cell hc4 f7_3
    have f8_4 : w4.cell? ⟨w1.heap.size, 2, none⟩ = some (.int .i64 r1) := by exact keep_cell hc4 f8_3
    have f10_4 : w4.cell? ⟨w2.heap.size, 0, none⟩ = some (.int .i64 p2) := by exact keep_cell hc4 f10_3
    have f11_4 : w4.cell? ⟨w2.heap.size, 1, none⟩ = some (.int .i64 q2) := by exact keep_cell hc4 f11_3
    have f12_4 : w4.cell? ⟨w2.heap.size, 2, none⟩ = some (.int .i64 r2) := by exact keep_cell hc4 f12_3
    have f14_4 : w4.cell? ⟨w3.heap.size, 0, none⟩ = some (.int .i64 p3) := by exact keep_cell hb4 (by simp [go_sem])
    have f15_4 : w4.cell? ⟨w3.heap.size, 1, none⟩ = some (.int .i64 q3) := by exact keep_cell hb4 (by simp [go_sem])
    have f16_4 : w4.cell? ⟨w3.heap.size, 2, none⟩ = some (.int .i64 r3) := by exact keep_cell hb4 (by simp [go_sem])
    have hq := hb4.size
    try simp at hq
    have hs4_0 : w.heap.size < w4.heap.size := by omega
    have hs4_1 : w1.heap.size < w4.heap.size := by omega
    have hs4_2 : w2.heap.size < w4.heap.size := by omega
    have hs4_3 : w3.heap.size < w4.heap.size := by omega
    clear hq hs3_0 hs3_1 hs3_2
    have HB4 := Lib.hid (Below.call HB3.out hc4)
    clear hb4 hc4 f2_3 f3_3 f4_3 f6_3 f7_3 f8_3 f10_3 f11_3 f12_3
    go_wp2_with fail
    refine (h5.out _).mono ?_
    rintro e w5 ⟨rfl, hb5⟩
    have hc5 := Below.call (Below.al (Below.refl _ _) _) hb5
    have f2_5 : w5.cell? ⟨w.heap.size, 0, none⟩ = some (.int .i64 a) := by exact keep_cell hc5 f2_4
    have f3_5 : w5.cell? ⟨w.heap.size, 1, none⟩ = some (.int .i64 b) := by exact keep_cell hc5 f3_4
    have f4_5 : w5.cell? ⟨w.heap.size, 2, none⟩ = some (.int .i64 c) := by exact keep_cell hc5 f4_4
    have f6_5 : w5.cell? ⟨w1.heap.size, 0, none⟩ = some (.int .i64 p1) := by exact keep_cell hc5 f6_4
    have f7_5 : w5.cell? ⟨w1.heap.size, 1, none⟩ = some (.int .i64 q1) := by exact keep_cell hc5 f7_4
    have f8_5 : w5.cell? ⟨w1.heap.size, 2, none⟩ = some (.int .i64 r1) := by exact keep_cell hc5 f8_4
    have f10_5 : w5.cell? ⟨w2.heap.size, 0, none⟩ = some (.int .i64 p2) := by exact keep_cell hc5 f10_4
    have f11_5 : w5.cell? ⟨w2.heap.size, 1, none⟩ = some (.int .i64 q2) := by exact keep_cell hc5 f11_4
    have f12_5 : w5.cell? ⟨w2.heap.size, 2, none⟩ = some (.int .i64 r2) := by exact keep_cell hc5 f12_4
    have f14_5 : w5.cell? ⟨w3.heap.size, 0, none⟩ = some (.int .i64 p3) := by exact keep_cell hc5 f14_4
    have f15_5 : w5.cell? ⟨w3.heap.size, 1, none⟩ = some (.int .i64 q3) := by exact keep_cell hc5 f15_4
    have f16_5 : w5.cell? ⟨w3.heap.size, 2, none⟩ = some (.int .i64 r3) := by exact keep_cell hc5 f16_4
    have f18_5 : w5.cell? ⟨w4.heap.size, 0, none⟩ = some (.int .i64 p1) := by exact keep_cell hb5 (by simp [go_sem])
    have f19_5 : w5.cell? ⟨w4.heap.size, 1, none⟩ = some (.int .i64 q1) := by exact keep_cell hb5 (by simp [go_sem])
    have f20_5 : w5.cell? ⟨w4.heap.size, 2, none⟩ = some (.int .i64 r1) := by exact keep_cell hb5 (by simp [go_sem])
    have hq := hb5.size
    try simp at hq
    have hs5_0 : w.heap.size < w5.heap.size := by omega
    have hs5_1 : w1.heap.size < w5.heap.size := by omega
    have hs5_2 : w2.heap.size < w5.heap.size := by omega
    have hs5_3 : w3.heap.size < w5.heap.size := by omega
    have hs5_4 : w4.heap.size < w5.heap.size := by omega
    clear hq hs4_0 hs4_1 hs4_2 hs4_3
    have HB5 := Lib.hid (Below.call HB4.out hc5)
    clear hb5 hc5 f2_4 f3_4 f4_4 f6_4 f7_4 f8_4 f10_4 f11_4 f12_4 f14_4 f15_4 f16_4
    go_wp2_with fail
    refine (h6.out _).mono ?_
    rintro e w6 ⟨rfl, hb6⟩
    have hc6 := Below.call (Below.al (Below.refl _ _) _) hb6
    have f2_6 : w6.cell? ⟨w.heap.size, 0, none⟩ = some (.int .i64 a) := by exact keep_cell hc6 f2_5
    have f3_6 : w6.cell? ⟨w.heap.size, 1, none⟩ = some (.int .i64 b) := by exact keep_cell hc6 f3_5
    have f4_6 : w6.cell? ⟨w.heap.size, 2, none⟩ = some (.int .i64 c) := by exact keep_cell hc6 f4_5
    have f6_6 : w6.cell? ⟨w1.heap.size, 0, none⟩ = some (.int .i64 p1) := by exact keep_cell hc6 f6_5
    have f7_6 : w6.cell? ⟨w1.heap.size, 1, none⟩ = some (.int .i64 q1) := by exact keep_cell hc6 f7_5
    have f8_6 : w6.cell? ⟨w1.heap.size, 2, none⟩ = some (.int .i64 r1) := by exact keep_cell hc6 f8_5
    have f10_6 : w6.cell? ⟨w2.heap.size, 0, none⟩ = some (.int .i64 p2) := by exact keep_cell hc6 f10_5
    have f11_6 : w6.cell? ⟨w2.heap.size, 1, none⟩ = some (.int .i64 q2) := by exact keep_cell hc6 f11_5
    have f12_6 : w6.cell? ⟨w2.heap.size, 2, none⟩ = some (.int .i64 r2) := by exact keep_cell hc6 f12_5
    have f14_6 : w6.cell? ⟨w3.heap.size, 0, none⟩ = some (.int .i64 p3) := by exact keep_cell hc6 f14_5
    have f15_6 : w6.cell? ⟨w3.heap.size, 1, none⟩ = some (.int .i64 q3) := by exact keep_cell hc6 f15_5
    have f16_6 : w6.cell? ⟨w3.heap.size, 2, none⟩ = some (.int .i64 r3) := by exact keep_cell hc6 f16_5
    have f18_6 : w6.cell? ⟨w4.heap.size, 0, none⟩ = some (.int .i64 p1) := by exact keep_cell hc6 f18_5
    have f19_6 : w6.cell? ⟨w4.heap.size, 1, none⟩ = some (.int .i64 q1) := by exact keep_cell hc6 f19_5
    have f20_6 : w6.cell? ⟨w4.heap.size, 2, none⟩ = some (.int .i64 r1) := by exact keep_cell hc6 f20_5
    have f22_6 : w6.cell? ⟨w5.heap.size, 0, none⟩ = some (.int .i64 p2) := by exact keep_cell hb6 (by simp [go_sem])
    have f23_6 : w6.cell? ⟨w5.heap.size, 1, none⟩ = some (.int .i64 q2) := by exact keep_cell hb6 (by simp [go_sem])
    have f24_6 : w6.cell? ⟨w5.heap.size, 2, none⟩ = some (.int .i64 r2) := by exact keep_cell hb6 (by simp [go_sem])
    have hq := hb6.size
    try simp at hq
    have hs6_0 : w.heap.size < w6.heap.size := by omega
    have hs6_1 : w1.heap.size < w6.heap.size := by omega
    have hs6_2 : w2.heap.size < w6.heap.size := by omega
    have hs6_3 : w3.heap.size < w6.heap.size := by omega
    have hs6_4 : w4.heap.size < w6.heap.size := by omega
    have hs6_5 : w5.heap.size < w6.heap.size := by omega
    clear hq hs5_0 hs5_1 hs5_2 hs5_3 hs5_4
    have HB6 := Lib.hid (Below.call HB5.out hc6)
    clear hb6 hc6 f2_5 f3_5 f4_5 f6_5 f7_5 f8_5 f10_5 f11_5 f12_5 f14_5 f15_5 f16_5 f18_5 f19_5 f20_5
    go_wp2_with fail
    refine (h7.out _).mono ?_
    rintro e w7 ⟨rfl, hb7⟩
    have hc7 := Below.call (Below.al (Below.refl _ _) _) hb7
    have f2_7 : w7.cell? ⟨w.heap.size, 0, none⟩ = some (.int .i64 a) := by exact keep_cell hc7 f2_6
    have f3_7 : w7.cell? ⟨w.heap.size, 1, none⟩ = some (.int .i64 b) := by exact keep_cell hc7 f3_6
    have f4_7 : w7.cell? ⟨w.heap.size, 2, none⟩ = some (.int .i64 c) := by exact keep_cell hc7 f4_6
    have f6_7 : w7.cell? ⟨w1.heap.size, 0, none⟩ = some (.int .i64 p1) := by exact keep_cell hc7 f6_6
    have f7_7 : w7.cell? ⟨w1.heap.size, 1, none⟩ = some (.int .i64 q1) := by exact keep_cell hc7 f7_6
    have f8_7 : w7.cell? ⟨w1.heap.size, 2, none⟩ = some (.int .i64 r1) := by exact keep_cell hc7 f8_6
    have f10_7 : w7.cell? ⟨w2.heap.size, 0, none⟩ = some (.int .i64 p2) := by exact keep_cell hc7 f10_6
    have f11_7 : w7.cell? ⟨w2.heap.size, 1, none⟩ = some (.int .i64 q2) := by exact keep_cell hc7 f11_6
    have f12_7 : w7.cell? ⟨w2.heap.size, 2, none⟩ = some (.int .i64 r2) := by exact keep_cell hc7 f12_6
    have f14_7 : w7.cell? ⟨w3.heap.size, 0, none⟩ = some (.int .i64 p3) := by exact keep_cell hc7 f14_6
    have f15_7 : w7.cell? ⟨w3.heap.size, 1, none⟩ = some (.int .i64 q3) := by exact keep_cell hc7 f15_6
    have f16_7 : w7.cell? ⟨w3.heap.size, 2, none⟩ = some (.int .i64 r3) := by exact keep_cell hc7 f16_6
    have f18_7 : w7.cell? ⟨w4.heap.size, 0, none⟩ = some (.int .i64 p1) := by exact keep_cell hc7 f18_6
    have f19_7 : w7.cell? ⟨w4.heap.size, 1, none⟩ = some (.int .i64 q1) := by exact keep_cell hc7 f19_6
    have f20_7 : w7.cell? ⟨w4.heap.size, 2, none⟩ = some (.int .i64 r1) := by exact keep_cell hc7 f20_6
    have f22_7 : w7.cell? ⟨w5.heap.size, 0, none⟩ = some (.int .i64 p2) := by exact keep_cell hc7 f22_6
    have f23_7 : w7.cell? ⟨w5.heap.size, 1, none⟩ = some (.int .i64 q2) := by exact keep_cell hc7 f23_6
    have f24_7 : w7.cell? ⟨w5.heap.size, 2, none⟩ = some (.int .i64 r2) := by exact keep_cell hc7 f24_6
    have f26_7 : w7.cell? ⟨w6.heap.size, 0, none⟩ = some (.int .i64 p3) := by exact keep_cell hb7 (by simp [go_sem])
    have f27_7 : w7.cell? ⟨w6.heap.size, 1, none⟩ = some (.int .i64 q3) := by exact keep_cell hb7 (by simp [go_sem])
    have f28_7 : w7.cell? ⟨w6.heap.size, 2, none⟩ = some (.int .i64 r3) := by exact keep_cell hb7 (by simp [go_sem])
    have hq := hb7.size
    try simp at hq
    have hs7_0 : w.heap.size < w7.heap.size := by omega
    have hs7_1 : w1.heap.size < w7.heap.size := by omega
    have hs7_2 : w2.heap.size < w7.heap.size := by omega
    have hs7_3 : w3.heap.size < w7.heap.size := by omega
    have hs7_4 : w4.heap.size < w7.heap.size := by omega
    have hs7_5 : w5.heap.size < w7.heap.size := by omega
    have hs7_6 : w6.heap.size < w7.heap.size := by omega
    clear hq hs6_0 hs6_1 hs6_2 hs6_3 hs6_4 hs6_5
    have HB7 := Lib.hid (Below.call HB6.out hc7)
    clear hb7 hc7 f2_6 f3_6 f4_6 f6_6 f7_6 f8_6 f10_6 f11_6 f12_6 f14_6 f15_6 f16_6 f18_6 f19_6 f20_6 f22_6 f23_6 f24_6
    go_wp2_with fail
    obtain ⟨W, hW⟩ : ∃ W, W = w7 := ⟨_, rfl⟩
    rw [← hW]
    have hb := (show Below w7.heap.size w7 W by rw [hW]; exact (Below.refl _ _))
    have f2_W : W.cell? ⟨w.heap.size, 0, none⟩ = some (.int .i64 a) := by exact keep_cell hb f2_7
    have f3_W : W.cell? ⟨w.heap.size, 1, none⟩ = some (.int .i64 b) := by exact keep_cell hb f3_7
    have f4_W : W.cell? ⟨w.heap.size, 2, none⟩ = some (.int .i64 c) := by exact keep_cell hb f4_7
    have f6_W : W.cell? ⟨w1.heap.size, 0, none⟩ = some (.int .i64 p1) := by exact keep_cell hb f6_7
    have f7_W : W.cell? ⟨w1.heap.size, 1, none⟩ = some (.int .i64 q1) := by exact keep_cell hb f7_7
    have f8_W : W.cell? ⟨w1.heap.size, 2, none⟩ = some (.int .i64 r1) := by exact keep_cell hb f8_7
    have f10_W : W.cell? ⟨w2.heap.size, 0, none⟩ = some (.int .i64 p2) := by exact keep_cell hb f10_7
    have f11_W : W.cell? ⟨w2.heap.size, 1, none⟩ = some (.int .i64 q2) := by exact keep_cell hb f11_7
    have f12_W : W.cell? ⟨w2.heap.size, 2, none⟩ = some (.int .i64 r2) := by exact keep_cell hb f12_7
    have f14_W : W.cell? ⟨w3.heap.size, 0, none⟩ = some (.int .i64 p3) := by exact keep_cell hb f14_7
    have f15_W : W.cell? ⟨w3.heap.size, 1, none⟩ = some (.int .i64 q3) := by exact keep_cell hb f15_7
    have f16_W : W.cell? ⟨w3.heap.size, 2, none⟩ = some (.int .i64 r3) := by exact keep_cell hb f16_7
    have f18_W : W.cell? ⟨w4.heap.size, 0, none⟩ = some (.int .i64 p1) := by exact keep_cell hb f18_7
    have f19_W : W.cell? ⟨w4.heap.size, 1, none⟩ = some (.int .i64 q1) := by exact keep_cell hb f19_7
    have f20_W : W.cell? ⟨w4.heap.size, 2, none⟩ = some (.int .i64 r1) := by exact keep_cell hb f20_7
    have f22_W : W.cell? ⟨w5.heap.size, 0, none⟩ = some (.int .i64 p2) := by exact keep_cell hb f22_7
    have f23_W : W.cell? ⟨w5.heap.size, 1, none⟩ = some (.int .i64 q2) := by exact keep_cell hb f23_7
    have f24_W : W.cell? ⟨w5.heap.size, 2, none⟩ = some (.int .i64 r2) := by exact keep_cell hb f24_7
    have f26_W : W.cell? ⟨w6.heap.size, 0, none⟩ = some (.int .i64 p3) := by exact keep_cell hb f26_7
    have f27_W : W.cell? ⟨w6.heap.size, 1, none⟩ = some (.int .i64 q3) := by exact keep_cell hb f27_7
    have f28_W : W.cell? ⟨w6.heap.size, 2, none⟩ = some (.int .i64 r3) := by exact keep_cell hb f28_7
    have HBW := Lib.hid (Below.call HB7.out hb)
    clear hb hW f2_7 f3_7 f4_7 f6_7 f7_7 f8_7 f10_7 f11_7 f12_7 f14_7 f15_7 f16_7 f18_7 f19_7 f20_7 f22_7 f23_7 f24_7 f26_7 f27_7 f28_7
    go_region_held3 (fun w' => w'.cell? ⟨w.heap.size, 0, none⟩ = some (.int .i64 a) ∧ w'.cell? ⟨w.heap.size, 1, none⟩ = some (.int .i64 b) ∧ w'.cell? ⟨w.heap.size, 2, none⟩ = some (.int .i64 c) ∧ w'.cell? ⟨w1.heap.size, 0, none⟩ = some (.int .i64 p1) ∧ w'.cell? ⟨w1.heap.size, 1, none⟩ = some (.int .i64 q1) ∧ w'.cell? ⟨w1.heap.size, 2, none⟩ = some (.int .i64 r1) ∧ w'.cell? ⟨w2.heap.size, 0, none⟩ = some (.int .i64 p2) ∧ w'.cell? ⟨w2.heap.size, 1, none⟩ = some (.int .i64 q2) ∧ w'.cell? ⟨w2.heap.size, 2, none⟩ = some (.int .i64 r2) ∧ w'.cell? ⟨w3.heap.size, 0, none⟩ = some (.int .i64 p3) ∧ w'.cell? ⟨w3.heap.size, 1, none⟩ = some (.int .i64 q3) ∧ w'.cell? ⟨w3.heap.size, 2, none⟩ = some (.int .i64 r3) ∧ w'.cell? ⟨w4.heap.size, 0, none⟩ = some (.int .i64 p1) ∧ w'.cell? ⟨w4.heap.size, 1, none⟩ = some (.int .i64 q1) ∧ w'.cell? ⟨w4.heap.size, 2, none⟩ = some (.int .i64 r1) ∧ w'.cell? ⟨w5.heap.size, 0, none⟩ = some (.int .i64 p2) ∧ w'.cell? ⟨w5.heap.size, 1, none⟩ = some (.int .i64 q2) ∧ w'.cell? ⟨w5.heap.size, 2, none⟩ = some (.int .i64 r2) ∧ w'.cell? ⟨w6.heap.size, 0, none⟩ = some (.int .i64 p3) ∧ w'.cell? ⟨w6.heap.size, 1, none⟩ = some (.int .i64 q3) ∧ w'.cell? ⟨w6.heap.size, 2, none⟩ = some (.int .i64 r3) ∧ Below W.heap.size W w')
      (first | exact ⟨f2_W, f3_W, f4_W, f6_W, f7_W, f8_W, f10_W, f11_W, f12_W, f14_W, f15_W, f16_W, f18_W, f19_W, f20_W, f22_W, f23_W, f24_W, f26_W, f27_W, f28_W, (Below.refl _ _).drew⟩ | assumption | go_keep | (go_split_ands; exact ⟨keep_cell hbc (by assumption), keep_cell hbc (by assumption), keep_cell hbc (by assumption), keep_cell hbc (by assumption), keep_cell hbc (by assumption), keep_cell hbc (by assumption), keep_cell hbc (by assumption), keep_cell hbc (by assumption), keep_cell hbc (by assumption), keep_cell hbc (by assumption), keep_cell hbc (by assumption), keep_cell hbc (by assumption), keep_cell hbc (by assumption), keep_cell hbc (by assumption), keep_cell hbc (by assumption), keep_cell hbc (by assumption), keep_cell hbc (by assumption), keep_cell hbc (by assumption), keep_cell hbc (by assumption), keep_cell hbc (by assumption), keep_cell hbc (by assumption), Below.call (by assumption) hbc⟩))
      (first
        | (go_at_call 40; ((with_reducible refine (h10.out _).mono ?_); rintro e w9 ⟨rfl, hbc⟩))
        | (go_at_call 41; ((with_reducible refine (h8.out _).mono ?_); rintro e w9 ⟨rfl, hbc⟩))
        | (go_at_call 39; ((with_reducible refine (h7.out _).mono ?_); rintro e w9 ⟨rfl, hbc⟩))
        | (go_at_call 42; ((with_reducible refine (h9.out _).mono ?_); rintro e w9 ⟨rfl, hbc⟩)))
    go_wp2
    go_ret
    exact ⟨ret_b (by simp), Below.call HBW.out (by go_split_ands; assumption)⟩
  · have e1 : rightB ⟨a, b, c⟩ = false := decide_eq_false hr
    rw [e1] at h7 h8
    have e2 : roomV ⟨a, b, c⟩ = 0 := by rw [HR.out, if_neg hr]
    rw [e2] at h9
    clear e1 e2 HR HF hr
    go_enter Try.func7, Try.ntmps7
    go_wp2_with fail
    refine (h1.out _).mono ?_
    rintro e w1 ⟨rfl, hb1⟩
    have hc1 := Below.call (Below.al (Below.refl _ _) _) hb1
    have f2_1 : w1.cell? ⟨w.heap.size, 0, none⟩ = some (.int .i64 a) := by exact keep_cell hb1 (by simp [go_sem])
    have f3_1 : w1.cell? ⟨w.heap.size, 1, none⟩ = some (.int .i64 b) := by exact keep_cell hb1 (by simp [go_sem])
    have f4_1 : w1.cell? ⟨w.heap.size, 2, none⟩ = some (.int .i64 c) := by exact keep_cell hb1 (by simp [go_sem])
    have hq := hb1.size
    try simp at hq
    have hs1_0 : w.heap.size < w1.heap.size := by omega
    clear hq
    have HB1 := Lib.hid (hc1)
    clear hb1 hc1
    go_wp2_with fail
    refine (h2.out _).mono ?_
    rintro e w2 ⟨rfl, hb2⟩
    have hc2 := Below.call (Below.al (Below.refl _ _) _) hb2
    have f2_2 : w2.cell? ⟨w.heap.size, 0, none⟩ = some (.int .i64 a) := by exact keep_cell hc2 f2_1
    have f3_2 : w2.cell? ⟨w.heap.size, 1, none⟩ = some (.int .i64 b) := by exact keep_cell hc2 f3_1
    have f4_2 : w2.cell? ⟨w.heap.size, 2, none⟩ = some (.int .i64 c) := by exact keep_cell hc2 f4_1
    have f6_2 : w2.cell? ⟨w1.heap.size, 0, none⟩ = some (.int .i64 p1) := by exact keep_cell hb2 (by simp [go_sem])
    have f7_2 : w2.cell? ⟨w1.heap.size, 1, none⟩ = some (.int .i64 q1) := by exact keep_cell hb2 (by simp [go_sem])
    have f8_2 : w2.cell? ⟨w1.heap.size, 2, none⟩ = some (.int .i64 r1) := by exact keep_cell hb2 (by simp [go_sem])
    have hq := hb2.size
    try simp at hq
    have hs2_0 : w.heap.size < w2.heap.size := by omega
    have hs2_1 : w1.heap.size < w2.heap.size := by omega
    clear hq hs1_0
    have HB2 := Lib.hid (Below.call HB1.out hc2)
    clear hb2 hc2 f2_1 f3_1 f4_1
    go_wp2_with fail
    refine (h3.out _).mono ?_
    rintro e w3 ⟨rfl, hb3⟩
    have hc3 := Below.call (Below.al (Below.refl _ _) _) hb3
    have f2_3 : w3.cell? ⟨w.heap.size, 0, none⟩ = some (.int .i64 a) := by exact keep_cell hc3 f2_2
    have f3_3 : w3.cell? ⟨w.heap.size, 1, none⟩ = some (.int .i64 b) := by exact keep_cell hc3 f3_2
    have f4_3 : w3.cell? ⟨w.heap.size, 2, none⟩ = some (.int .i64 c) := by exact keep_cell hc3 f4_2
    have f6_3 : w3.cell? ⟨w1.heap.size, 0, none⟩ = some (.int .i64 p1) := by exact keep_cell hc3 f6_2
    have f7_3 : w3.cell? ⟨w1.heap.size, 1, none⟩ = some (.int .i64 q1) := by exact keep_cell hc3 f7_2
    have f8_3 : w3.cell? ⟨w1.heap.size, 2, none⟩ = some (.int .i64 r1) := by exact keep_cell hc3 f8_2
    have f10_3 : w3.cell? ⟨w2.heap.size, 0, none⟩ = some (.int .i64 p2) := by exact keep_cell hb3 (by simp [go_sem])
    have f11_3 : w3.cell? ⟨w2.heap.size, 1, none⟩ = some (.int .i64 q2) := by exact keep_cell hb3 (by simp [go_sem])
    have f12_3 : w3.cell? ⟨w2.heap.size, 2, none⟩ = some (.int .i64 r2) := by exact keep_cell hb3 (by simp [go_sem])
    have hq := hb3.size
    try simp at hq
    have hs3_0 : w.heap.size < w3.heap.size := by omega
    have hs3_1 : w1.heap.size < w3.heap.size := by omega
    have hs3_2 : w2.heap.size < w3.heap.size := by omega
    clear hq hs2_0 hs2_1
    have HB3 := Lib.hid (Below.call HB2.out hc3)
    clear hb3 hc3 f2_2 f3_2 f4_2 f6_2 f7_2 f8_2
    go_wp2_with fail
    refine (h4.out _).mono ?_
    rintro e w4 ⟨rfl, hb4⟩
    have hc4 := Below.call (Below.al (Below.refl _ _) _) hb4
    have f2_4 : w4.cell? ⟨w.heap.size, 0, none⟩ = some (.int .i64 a) := by exact keep_cell hc4 f2_3
    have f3_4 : w4.cell? ⟨w.heap.size, 1, none⟩ = some (.int .i64 b) := by exact keep_cell hc4 f3_3
    have f4_4 : w4.cell? ⟨w.heap.size, 2, none⟩ = some (.int .i64 c) := by exact keep_cell hc4 f4_3
    have f6_4 : w4.cell? ⟨w1.heap.size, 0, none⟩ = some (.int .i64 p1) := by exact keep_cell hc4 f6_3
    have f7_4 : w4.cell? ⟨w1.heap.size, 1, none⟩ = some (.int .i64 q1) := by exact keep_cell hc4 f7_3
    have f8_4 : w4.cell? ⟨w1.heap.size, 2, none⟩ = some (.int .i64 r1) := by exact keep_cell hc4 f8_3
    have f10_4 : w4.cell? ⟨w2.heap.size, 0, none⟩ = some (.int .i64 p2) := by exact keep_cell hc4 f10_3
    have f11_4 : w4.cell? ⟨w2.heap.size, 1, none⟩ = some (.int .i64 q2) := by exact keep_cell hc4 f11_3
    have f12_4 : w4.cell? ⟨w2.heap.size, 2, none⟩ = some (.int .i64 r2) := by exact keep_cell hc4 f12_3
    have f14_4 : w4.cell? ⟨w3.heap.size, 0, none⟩ = some (.int .i64 p3) := by exact keep_cell hb4 (by simp [go_sem])
    have f15_4 : w4.cell? ⟨w3.heap.size, 1, none⟩ = some (.int .i64 q3) := by exact keep_cell hb4 (by simp [go_sem])
    have f16_4 : w4.cell? ⟨w3.heap.size, 2, none⟩ = some (.int .i64 r3) := by exact keep_cell hb4 (by simp [go_sem])
    have hq := hb4.size
    try simp at hq
    have hs4_0 : w.heap.size < w4.heap.size := by omega
    have hs4_1 : w1.heap.size < w4.heap.size := by omega
    have hs4_2 : w2.heap.size < w4.heap.size := by omega
    have hs4_3 : w3.heap.size < w4.heap.size := by omega
    clear hq hs3_0 hs3_1 hs3_2
    have HB4 := Lib.hid (Below.call HB3.out hc4)
    clear hb4 hc4 f2_3 f3_3 f4_3 f6_3 f7_3 f8_3 f10_3 f11_3 f12_3
    go_wp2_with fail
    refine (h5.out _).mono ?_
    rintro e w5 ⟨rfl, hb5⟩
    have hc5 := Below.call (Below.al (Below.refl _ _) _) hb5
    have f2_5 : w5.cell? ⟨w.heap.size, 0, none⟩ = some (.int .i64 a) := by exact keep_cell hc5 f2_4
    have f3_5 : w5.cell? ⟨w.heap.size, 1, none⟩ = some (.int .i64 b) := by exact keep_cell hc5 f3_4
    have f4_5 : w5.cell? ⟨w.heap.size, 2, none⟩ = some (.int .i64 c) := by exact keep_cell hc5 f4_4
    have f6_5 : w5.cell? ⟨w1.heap.size, 0, none⟩ = some (.int .i64 p1) := by exact keep_cell hc5 f6_4
    have f7_5 : w5.cell? ⟨w1.heap.size, 1, none⟩ = some (.int .i64 q1) := by exact keep_cell hc5 f7_4
    have f8_5 : w5.cell? ⟨w1.heap.size, 2, none⟩ = some (.int .i64 r1) := by exact keep_cell hc5 f8_4
    have f10_5 : w5.cell? ⟨w2.heap.size, 0, none⟩ = some (.int .i64 p2) := by exact keep_cell hc5 f10_4
    have f11_5 : w5.cell? ⟨w2.heap.size, 1, none⟩ = some (.int .i64 q2) := by exact keep_cell hc5 f11_4
    have f12_5 : w5.cell? ⟨w2.heap.size, 2, none⟩ = some (.int .i64 r2) := by exact keep_cell hc5 f12_4
    have f14_5 : w5.cell? ⟨w3.heap.size, 0, none⟩ = some (.int .i64 p3) := by exact keep_cell hc5 f14_4
    have f15_5 : w5.cell? ⟨w3.heap.size, 1, none⟩ = some (.int .i64 q3) := by exact keep_cell hc5 f15_4
    have f16_5 : w5.cell? ⟨w3.heap.size, 2, none⟩ = some (.int .i64 r3) := by exact keep_cell hc5 f16_4
    have f18_5 : w5.cell? ⟨w4.heap.size, 0, none⟩ = some (.int .i64 p1) := by exact keep_cell hb5 (by simp [go_sem])
    have f19_5 : w5.cell? ⟨w4.heap.size, 1, none⟩ = some (.int .i64 q1) := by exact keep_cell hb5 (by simp [go_sem])
    have f20_5 : w5.cell? ⟨w4.heap.size, 2, none⟩ = some (.int .i64 r1) := by exact keep_cell hb5 (by simp [go_sem])
    have hq := hb5.size
    try simp at hq
    have hs5_0 : w.heap.size < w5.heap.size := by omega
    have hs5_1 : w1.heap.size < w5.heap.size := by omega
    have hs5_2 : w2.heap.size < w5.heap.size := by omega
    have hs5_3 : w3.heap.size < w5.heap.size := by omega
    have hs5_4 : w4.heap.size < w5.heap.size := by omega
    clear hq hs4_0 hs4_1 hs4_2 hs4_3
    have HB5 := Lib.hid (Below.call HB4.out hc5)
    clear hb5 hc5 f2_4 f3_4 f4_4 f6_4 f7_4 f8_4 f10_4 f11_4 f12_4 f14_4 f15_4 f16_4
    go_wp2_with fail
    refine (h6.out _).mono ?_
    rintro e w6 ⟨rfl, hb6⟩
    have hc6 := Below.call (Below.al (Below.refl _ _) _) hb6
    have f2_6 : w6.cell? ⟨w.heap.size, 0, none⟩ = some (.int .i64 a) := by exact keep_cell hc6 f2_5
    have f3_6 : w6.cell? ⟨w.heap.size, 1, none⟩ = some (.int .i64 b) := by exact keep_cell hc6 f3_5
    have f4_6 : w6.cell? ⟨w.heap.size, 2, none⟩ = some (.int .i64 c) := by exact keep_cell hc6 f4_5
    have f6_6 : w6.cell? ⟨w1.heap.size, 0, none⟩ = some (.int .i64 p1) := by exact keep_cell hc6 f6_5
    have f7_6 : w6.cell? ⟨w1.heap.size, 1, none⟩ = some (.int .i64 q1) := by exact keep_cell hc6 f7_5
    have f8_6 : w6.cell? ⟨w1.heap.size, 2, none⟩ = some (.int .i64 r1) := by exact keep_cell hc6 f8_5
    have f10_6 : w6.cell? ⟨w2.heap.size, 0, none⟩ = some (.int .i64 p2) := by exact keep_cell hc6 f10_5
    have f11_6 : w6.cell? ⟨w2.heap.size, 1, none⟩ = some (.int .i64 q2) := by exact keep_cell hc6 f11_5
    have f12_6 : w6.cell? ⟨w2.heap.size, 2, none⟩ = some (.int .i64 r2) := by exact keep_cell hc6 f12_5
    have f14_6 : w6.cell? ⟨w3.heap.size, 0, none⟩ = some (.int .i64 p3) := by exact keep_cell hc6 f14_5
    have f15_6 : w6.cell? ⟨w3.heap.size, 1, none⟩ = some (.int .i64 q3) := by exact keep_cell hc6 f15_5
    have f16_6 : w6.cell? ⟨w3.heap.size, 2, none⟩ = some (.int .i64 r3) := by exact keep_cell hc6 f16_5
    have f18_6 : w6.cell? ⟨w4.heap.size, 0, none⟩ = some (.int .i64 p1) := by exact keep_cell hc6 f18_5
    have f19_6 : w6.cell? ⟨w4.heap.size, 1, none⟩ = some (.int .i64 q1) := by exact keep_cell hc6 f19_5
    have f20_6 : w6.cell? ⟨w4.heap.size, 2, none⟩ = some (.int .i64 r1) := by exact keep_cell hc6 f20_5
    have f22_6 : w6.cell? ⟨w5.heap.size, 0, none⟩ = some (.int .i64 p2) := by exact keep_cell hb6 (by simp [go_sem])
    have f23_6 : w6.cell? ⟨w5.heap.size, 1, none⟩ = some (.int .i64 q2) := by exact keep_cell hb6 (by simp [go_sem])
    have f24_6 : w6.cell? ⟨w5.heap.size, 2, none⟩ = some (.int .i64 r2) := by exact keep_cell hb6 (by simp [go_sem])
    have hq := hb6.size
    try simp at hq
    have hs6_0 : w.heap.size < w6.heap.size := by omega
    have hs6_1 : w1.heap.size < w6.heap.size := by omega
    have hs6_2 : w2.heap.size < w6.heap.size := by omega
    have hs6_3 : w3.heap.size < w6.heap.size := by omega
    have hs6_4 : w4.heap.size < w6.heap.size := by omega
    have hs6_5 : w5.heap.size < w6.heap.size := by omega
    clear hq hs5_0 hs5_1 hs5_2 hs5_3 hs5_4
    have HB6 := Lib.hid (Below.call HB5.out hc6)
    clear hb6 hc6 f2_5 f3_5 f4_5 f6_5 f7_5 f8_5 f10_5 f11_5 f12_5 f14_5 f15_5 f16_5 f18_5 f19_5 f20_5
    go_wp2_with fail
    refine (h7.out _).mono ?_
    rintro e w7 ⟨rfl, hb7⟩
    have hc7 := Below.call (Below.al (Below.refl _ _) _) hb7
    have f2_7 : w7.cell? ⟨w.heap.size, 0, none⟩ = some (.int .i64 a) := by exact keep_cell hc7 f2_6
    have f3_7 : w7.cell? ⟨w.heap.size, 1, none⟩ = some (.int .i64 b) := by exact keep_cell hc7 f3_6
    have f4_7 : w7.cell? ⟨w.heap.size, 2, none⟩ = some (.int .i64 c) := by exact keep_cell hc7 f4_6
    have f6_7 : w7.cell? ⟨w1.heap.size, 0, none⟩ = some (.int .i64 p1) := by exact keep_cell hc7 f6_6
    have f7_7 : w7.cell? ⟨w1.heap.size, 1, none⟩ = some (.int .i64 q1) := by exact keep_cell hc7 f7_6
    have f8_7 : w7.cell? ⟨w1.heap.size, 2, none⟩ = some (.int .i64 r1) := by exact keep_cell hc7 f8_6
    have f10_7 : w7.cell? ⟨w2.heap.size, 0, none⟩ = some (.int .i64 p2) := by exact keep_cell hc7 f10_6
    have f11_7 : w7.cell? ⟨w2.heap.size, 1, none⟩ = some (.int .i64 q2) := by exact keep_cell hc7 f11_6
    have f12_7 : w7.cell? ⟨w2.heap.size, 2, none⟩ = some (.int .i64 r2) := by exact keep_cell hc7 f12_6
    have f14_7 : w7.cell? ⟨w3.heap.size, 0, none⟩ = some (.int .i64 p3) := by exact keep_cell hc7 f14_6
    have f15_7 : w7.cell? ⟨w3.heap.size, 1, none⟩ = some (.int .i64 q3) := by exact keep_cell hc7 f15_6
    have f16_7 : w7.cell? ⟨w3.heap.size, 2, none⟩ = some (.int .i64 r3) := by exact keep_cell hc7 f16_6
    have f18_7 : w7.cell? ⟨w4.heap.size, 0, none⟩ = some (.int .i64 p1) := by exact keep_cell hc7 f18_6
    have f19_7 : w7.cell? ⟨w4.heap.size, 1, none⟩ = some (.int .i64 q1) := by exact keep_cell hc7 f19_6
    have f20_7 : w7.cell? ⟨w4.heap.size, 2, none⟩ = some (.int .i64 r1) := by exact keep_cell hc7 f20_6
    have f22_7 : w7.cell? ⟨w5.heap.size, 0, none⟩ = some (.int .i64 p2) := by exact keep_cell hc7 f22_6
    have f23_7 : w7.cell? ⟨w5.heap.size, 1, none⟩ = some (.int .i64 q2) := by exact keep_cell hc7 f23_6
    have f24_7 : w7.cell? ⟨w5.heap.size, 2, none⟩ = some (.int .i64 r2) := by exact keep_cell hc7 f24_6
    have f26_7 : w7.cell? ⟨w6.heap.size, 0, none⟩ = some (.int .i64 p3) := by exact keep_cell hb7 (by simp [go_sem])
    have f27_7 : w7.cell? ⟨w6.heap.size, 1, none⟩ = some (.int .i64 q3) := by exact keep_cell hb7 (by simp [go_sem])
    have f28_7 : w7.cell? ⟨w6.heap.size, 2, none⟩ = some (.int .i64 r3) := by exact keep_cell hb7 (by simp [go_sem])
    have hq := hb7.size
    try simp at hq
    have hs7_0 : w.heap.size < w7.heap.size := by omega
    have hs7_1 : w1.heap.size < w7.heap.size := by omega
    have hs7_2 : w2.heap.size < w7.heap.size := by omega
    have hs7_3 : w3.heap.size < w7.heap.size := by omega
    have hs7_4 : w4.heap.size < w7.heap.size := by omega
    have hs7_5 : w5.heap.size < w7.heap.size := by omega
    have hs7_6 : w6.heap.size < w7.heap.size := by omega
    clear hq hs6_0 hs6_1 hs6_2 hs6_3 hs6_4 hs6_5
    have HB7 := Lib.hid (Below.call HB6.out hc7)
    clear hb7 hc7 f2_6 f3_6 f4_6 f6_6 f7_6 f8_6 f10_6 f11_6 f12_6 f14_6 f15_6 f16_6 f18_6 f19_6 f20_6 f22_6 f23_6 f24_6
    go_wp2_with fail
    obtain ⟨W, hW⟩ : ∃ W, W = w7 := ⟨_, rfl⟩
    rw [← hW]
    have hb := (show Below w7.heap.size w7 W by rw [hW]; exact (Below.refl _ _))
    have f2_W : W.cell? ⟨w.heap.size, 0, none⟩ = some (.int .i64 a) := by exact keep_cell hb f2_7
    have f3_W : W.cell? ⟨w.heap.size, 1, none⟩ = some (.int .i64 b) := by exact keep_cell hb f3_7
    have f4_W : W.cell? ⟨w.heap.size, 2, none⟩ = some (.int .i64 c) := by exact keep_cell hb f4_7
    have f6_W : W.cell? ⟨w1.heap.size, 0, none⟩ = some (.int .i64 p1) := by exact keep_cell hb f6_7
    have f7_W : W.cell? ⟨w1.heap.size, 1, none⟩ = some (.int .i64 q1) := by exact keep_cell hb f7_7
    have f8_W : W.cell? ⟨w1.heap.size, 2, none⟩ = some (.int .i64 r1) := by exact keep_cell hb f8_7
    have f10_W : W.cell? ⟨w2.heap.size, 0, none⟩ = some (.int .i64 p2) := by exact keep_cell hb f10_7
    have f11_W : W.cell? ⟨w2.heap.size, 1, none⟩ = some (.int .i64 q2) := by exact keep_cell hb f11_7
    have f12_W : W.cell? ⟨w2.heap.size, 2, none⟩ = some (.int .i64 r2) := by exact keep_cell hb f12_7
    have f14_W : W.cell? ⟨w3.heap.size, 0, none⟩ = some (.int .i64 p3) := by exact keep_cell hb f14_7
    have f15_W : W.cell? ⟨w3.heap.size, 1, none⟩ = some (.int .i64 q3) := by exact keep_cell hb f15_7
    have f16_W : W.cell? ⟨w3.heap.size, 2, none⟩ = some (.int .i64 r3) := by exact keep_cell hb f16_7
    have f18_W : W.cell? ⟨w4.heap.size, 0, none⟩ = some (.int .i64 p1) := by exact keep_cell hb f18_7
    have f19_W : W.cell? ⟨w4.heap.size, 1, none⟩ = some (.int .i64 q1) := by exact keep_cell hb f19_7
    have f20_W : W.cell? ⟨w4.heap.size, 2, none⟩ = some (.int .i64 r1) := by exact keep_cell hb f20_7
    have f22_W : W.cell? ⟨w5.heap.size, 0, none⟩ = some (.int .i64 p2) := by exact keep_cell hb f22_7
    have f23_W : W.cell? ⟨w5.heap.size, 1, none⟩ = some (.int .i64 q2) := by exact keep_cell hb f23_7
    have f24_W : W.cell? ⟨w5.heap.size, 2, none⟩ = some (.int .i64 r2) := by exact keep_cell hb f24_7
    have f26_W : W.cell? ⟨w6.heap.size, 0, none⟩ = some (.int .i64 p3) := by exact keep_cell hb f26_7
    have f27_W : W.cell? ⟨w6.heap.size, 1, none⟩ = some (.int .i64 q3) := by exact keep_cell hb f27_7
    have f28_W : W.cell? ⟨w6.heap.size, 2, none⟩ = some (.int .i64 r3) := by exact keep_cell hb f28_7
    have HBW := Lib.hid (Below.call HB7.out hb)
    clear hb hW f2_7 f3_7 f4_7 f6_7 f7_7 f8_7 f10_7 f11_7 f12_7 f14_7 f15_7 f16_7 f18_7 f19_7 f20_7 f22_7 f23_7 f24_7 f26_7 f27_7 f28_7
    go_region_held3 (fun w' => w'.cell? ⟨w.heap.size, 0, none⟩ = some (.int .i64 a) ∧ w'.cell? ⟨w.heap.size, 1, none⟩ = some (.int .i64 b) ∧ w'.cell? ⟨w.heap.size, 2, none⟩ = some (.int .i64 c) ∧ w'.cell? ⟨w1.heap.size, 0, none⟩ = some (.int .i64 p1) ∧ w'.cell? ⟨w1.heap.size, 1, none⟩ = some (.int .i64 q1) ∧ w'.cell? ⟨w1.heap.size, 2, none⟩ = some (.int .i64 r1) ∧ w'.cell? ⟨w2.heap.size, 0, none⟩ = some (.int .i64 p2) ∧ w'.cell? ⟨w2.heap.size, 1, none⟩ = some (.int .i64 q2) ∧ w'.cell? ⟨w2.heap.size, 2, none⟩ = some (.int .i64 r2) ∧ w'.cell? ⟨w3.heap.size, 0, none⟩ = some (.int .i64 p3) ∧ w'.cell? ⟨w3.heap.size, 1, none⟩ = some (.int .i64 q3) ∧ w'.cell? ⟨w3.heap.size, 2, none⟩ = some (.int .i64 r3) ∧ w'.cell? ⟨w4.heap.size, 0, none⟩ = some (.int .i64 p1) ∧ w'.cell? ⟨w4.heap.size, 1, none⟩ = some (.int .i64 q1) ∧ w'.cell? ⟨w4.heap.size, 2, none⟩ = some (.int .i64 r1) ∧ w'.cell? ⟨w5.heap.size, 0, none⟩ = some (.int .i64 p2) ∧ w'.cell? ⟨w5.heap.size, 1, none⟩ = some (.int .i64 q2) ∧ w'.cell? ⟨w5.heap.size, 2, none⟩ = some (.int .i64 r2) ∧ w'.cell? ⟨w6.heap.size, 0, none⟩ = some (.int .i64 p3) ∧ w'.cell? ⟨w6.heap.size, 1, none⟩ = some (.int .i64 q3) ∧ w'.cell? ⟨w6.heap.size, 2, none⟩ = some (.int .i64 r3) ∧ Below W.heap.size W w')
      (first | exact ⟨f2_W, f3_W, f4_W, f6_W, f7_W, f8_W, f10_W, f11_W, f12_W, f14_W, f15_W, f16_W, f18_W, f19_W, f20_W, f22_W, f23_W, f24_W, f26_W, f27_W, f28_W, (Below.refl _ _).drew⟩ | assumption | go_keep | (go_split_ands; exact ⟨keep_cell hbc (by assumption), keep_cell hbc (by assumption), keep_cell hbc (by assumption), keep_cell hbc (by assumption), keep_cell hbc (by assumption), keep_cell hbc (by assumption), keep_cell hbc (by assumption), keep_cell hbc (by assumption), keep_cell hbc (by assumption), keep_cell hbc (by assumption), keep_cell hbc (by assumption), keep_cell hbc (by assumption), keep_cell hbc (by assumption), keep_cell hbc (by assumption), keep_cell hbc (by assumption), keep_cell hbc (by assumption), keep_cell hbc (by assumption), keep_cell hbc (by assumption), keep_cell hbc (by assumption), keep_cell hbc (by assumption), keep_cell hbc (by assumption), Below.call (by assumption) hbc⟩))
      (first
        | (go_at_call 40; ((with_reducible refine (h10.out _).mono ?_); rintro e w9 ⟨rfl, hbc⟩))
        | (go_at_call 41; ((with_reducible refine (h8.out _).mono ?_); rintro e w9 ⟨rfl, hbc⟩))
        | (go_at_call 39; ((with_reducible refine (h7.out _).mono ?_); rintro e w9 ⟨rfl, hbc⟩))
        | (go_at_call 42; ((with_reducible refine (h9.out _).mono ?_); rintro e w9 ⟨rfl, hbc⟩)))
    go_wp2
    go_ret
    exact ⟨ret_b (by simp), Below.call HBW.out (by go_split_ands; assumption)⟩
end Go.Proofs.Ytlgpnjbhmoomfaa
