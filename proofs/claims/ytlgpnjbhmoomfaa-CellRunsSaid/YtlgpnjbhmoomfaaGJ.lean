/- CellMoves: the walk. -/
import Derived.Test.YtlgpnjbhmoomfaaGF
import Derived.Test.YtlgpnjbhmoomfaaGG
namespace Go.Proofs.Ytlgpnjbhmoomfaa
open Go.RowKit

theorem chE_ok {x : Ce} {n : Int} (h : chE x n = 0) : x.Right ∧ n ≠ 0 ∧ x.c ≠ 2147483647 ∧ 0 ≤ x.b + n ∧ x.b + n ≤ x.a ∧ chV x n = ⟨x.a, x.b + n, x.c + 1⟩ := by
  have h' := h
  unfold chE at h
  split at h
  · omega
  · rename_i h1
    split at h
    · omega
    · split at h
      · omega
      · split at h
        · omega
        · split at h
          · omega
          · exact ⟨by simpa using h1, by assumption, by assumption, by omega, by omega, by unfold chV; rw [if_pos h']⟩
theorem chE_mk {a b c n : Int} (hr : (Ce.mk a b c).Right) (hn : n ≠ 0) (h1 : 0 ≤ b + n) (h2 : b + n ≤ a) : chE ⟨a, b, c⟩ n = if c = 2147483647 then 101 else 0 := by
  unfold chE
  rw [if_neg (by simpa using hr), if_neg hn, if_neg (show ¬ b + n < 0 by omega), if_neg (show ¬ a < b + n by omega)]
theorem mv_ok {x y : Ce} {n : Int} (h : mvE x y n = 0) : 1 ≤ n ∧ x.Right ∧ y.Right ∧ x.c ≠ 2147483647 ∧ y.c ≠ 2147483647 ∧ 0 ≤ x.b - n ∧ y.b + n ≤ y.a ∧ mvX x y n = ⟨x.a, x.b - n, x.c + 1⟩ ∧ mvY x y n = ⟨y.a, y.b + n, y.c + 1⟩ := by
  have h0 := h
  unfold mvE at h
  by_cases e : chE x (-(max n 0)) = 0
  · rw [if_pos e] at h
    obtain ⟨a1, a2, a3, a4, a5, a6⟩ := chE_ok e
    obtain ⟨b1, b2, b3, b4, b5, b6⟩ := chE_ok h
    have hm : max n 0 = n := by omega
    rw [hm] at a4 a5 a6 b4 b5 b6
    refine ⟨by omega, a1, b1, a3, b3, by omega, b5, ?_, ?_⟩
    · unfold mvX
      rw [if_pos h0, hm, a6]
      rfl
    · unfold mvY
      rw [if_pos h0, hm, b6]
  · rw [if_neg e] at h
    exact absurd h e
theorem mv_back {a b c d f g n : Int} (h1 : 1 ≤ n) (hx : (Ce.mk a b c).Right) (hy : (Ce.mk d f g).Right) (hc : c ≠ 2147483647) (hg : g ≠ 2147483647) (h2 : 0 ≤ b - n) (h3 : f + n ≤ d) :
    (Ce.mk a (b - n) (c + 1)).Right ∧ (Ce.mk d (f + n) (g + 1)).Right ∧ mvE ⟨d, f + n, g + 1⟩ ⟨a, b - n, c + 1⟩ n = (if c = 2147483646 ∨ g = 2147483646 then 101 else 0) ∧ (¬ (c = 2147483646 ∨ g = 2147483646) → mvX ⟨d, f + n, g + 1⟩ ⟨a, b - n, c + 1⟩ n = ⟨d, f, g + 2⟩ ∧ mvY ⟨d, f + n, g + 1⟩ ⟨a, b - n, c + 1⟩ n = ⟨a, b, c + 2⟩) := by
  unfold Ce.Right at hx hy
  dsimp only at hx hy
  have r1 : (Ce.mk a (b - n) (c + 1)).Right := by unfold Ce.Right; dsimp only; omega
  have r2 : (Ce.mk d (f + n) (g + 1)).Right := by unfold Ce.Right; dsimp only; omega
  have hm : max n 0 = n := by omega
  have e1 := chE_mk (n := -n) r2 (by omega) (by omega) (by omega)
  have e2 := chE_mk (n := n) r1 (by omega) (by omega) (by omega)
  have E : mvE ⟨d, f + n, g + 1⟩ ⟨a, b - n, c + 1⟩ n = (if c = 2147483646 ∨ g = 2147483646 then 101 else 0) := by
    unfold mvE
    rw [hm, e1, e2]
    by_cases q1 : g + 1 = 2147483647
    · rw [if_pos q1, if_neg (by decide), if_pos (.inr (by omega))]
    · rw [if_neg q1, if_pos rfl]
      by_cases q2 : c + 1 = 2147483647
      · rw [if_pos q2, if_pos (.inl (by omega))]
      · rw [if_neg q2, if_neg (by omega)]
  refine ⟨r1, r2, E, fun h => ?_⟩
  rw [if_neg h] at E
  obtain ⟨_, _, _, _, _, _, _, p, q⟩ := mv_ok E
  rw [p, q]
  constructor
  · show Ce.mk d (f + n - n) (g + 1 + 1) = ⟨d, f, g + 2⟩
    rw [Int.add_sub_cancel, Int.add_assoc]
    rfl
  · show Ce.mk a (b - n + n) (c + 1 + 1) = ⟨a, b, c + 2⟩
    rw [Int.sub_add_cancel, Int.add_assoc]
    rfl

set_option maxRecDepth 100000 in
set_option maxHeartbeats 8000000 in
theorem cellMoves_walk (x y : Ce) (n : Int) (hx : x.Fit) (hy : y.Fit) (hn : fits n) (w : World) : Calls Try.prog 9 #[x.v, y.v, .int .i64 n] w fun e w' => e = .returned (.bool true) ∧ Below w.heap.size w w' := by
  have h1 := Lib.hid (fun w => move_any x y n hx hy hn w)
  have h2 := Lib.hid (fun w => rmove_any x y n hn w)
  have h3 := Lib.hid (fun w => lives10 w)
  by_cases hz : mvE x y n = 0
  · obtain ⟨n1, r1, r2, c1, c2, b1, b2, ex, ey⟩ := mv_ok hz
    rw [hz, ex, ey] at h1 h2
    obtain ⟨a, b, c⟩ := x
    obtain ⟨d, f, g⟩ := y
    dsimp only at ex ey c1 c2 b1 b2
    obtain ⟨s1, s2, s3, s4⟩ := mv_back n1 r1 r2 c1 c2 b1 b2
    have hn' := hn
    have h4 := Lib.hid (fun w => right_t s1 w)
    have h5 := Lib.hid (fun w => right_t s2 w)
    have f1 : (Ce.mk a (b - n) (c + 1)).Fit := by unfold Ce.Right at s1; dsimp only at s1; exact ⟨by unfold fits; dsimp only; omega, by unfold fits; dsimp only; omega, by unfold fits; dsimp only; omega⟩
    have f2 : (Ce.mk d (f + n) (g + 1)).Fit := by unfold Ce.Right at s2; dsimp only at s2; exact ⟨by unfold fits; dsimp only; omega, by unfold fits; dsimp only; omega, by unfold fits; dsimp only; omega⟩
    have h6 := Lib.hid (fun w => move_any ⟨d, f + n, g + 1⟩ ⟨a, b - n, c + 1⟩ n f2 f1 hn w)
    rw [s3] at h6
    clear hx hy hz ex ey s1 s2 s3 f1 f2
    unfold Ce.Right at r1 r2
    dsimp only at r1 r2
    obtain ⟨u1, u2, u3, u4, u5, u6⟩ := r1
    obtain ⟨v1, v2, v3, v4, v5, v6⟩ := r2
    unfold fits at hn
    clear hn'
    by_cases hv : c = 2147483646 ∨ g = 2147483646
    · rw [if_pos hv] at h6
      clear s4
      have hv' : (decide (2147483645 < c) || decide (2147483645 < g)) = true := by simp; omega
      generalize mvX ⟨d, f + n, g + 1⟩ ⟨a, b - n, c + 1⟩ n = sx at *
      generalize mvY ⟨d, f + n, g + 1⟩ ⟨a, b - n, c + 1⟩ n = sy at *
      obtain ⟨p1, p2, p3⟩ := sx
      obtain ⟨q1, q2, q3⟩ := sy
      clear hv c1 c2
      go_enter Try.func9, Try.ntmps9
      go_wp2_with fail
      refine (h1.out _).mono ?_
      rintro e w1 ⟨rfl, hb1⟩
      have hc1 := Below.call (Below.al (Below.al (Below.refl _ _) _) _) hb1
      have f2_1 : w1.cell? ⟨w.heap.size, 0, none⟩ = some (.int .i64 a) := by exact keep_cell hb1 (by simp [go_sem])
      have f3_1 : w1.cell? ⟨w.heap.size, 1, none⟩ = some (.int .i64 b) := by exact keep_cell hb1 (by simp [go_sem])
      have f4_1 : w1.cell? ⟨w.heap.size, 2, none⟩ = some (.int .i64 c) := by exact keep_cell hb1 (by simp [go_sem])
      have f5_1 : w1.cell? ⟨w.heap.size + 1, 0, none⟩ = some (.int .i64 d) := by exact keep_cell hb1 (by simp [go_sem])
      have f6_1 : w1.cell? ⟨w.heap.size + 1, 1, none⟩ = some (.int .i64 f) := by exact keep_cell hb1 (by simp [go_sem])
      have f7_1 : w1.cell? ⟨w.heap.size + 1, 2, none⟩ = some (.int .i64 g) := by exact keep_cell hb1 (by simp [go_sem])
      have hq := hb1.size
      try simp at hq
      have hs1_0 : w.heap.size < w1.heap.size := by omega
      have hs1_1 : w.heap.size + 1 < w1.heap.size := by omega
      clear hq
      have HB1 := Lib.hid (hc1)
      clear hb1 hc1
      go_wp2_with fail
      refine (h2.out _).mono ?_
      rintro e w2 ⟨rfl, hb2⟩
      have hc2 := Below.call (Below.al (Below.al (Below.refl _ _) _) _) hb2
      have f2_2 : w2.cell? ⟨w.heap.size, 0, none⟩ = some (.int .i64 a) := by exact keep_cell hc2 f2_1
      have f3_2 : w2.cell? ⟨w.heap.size, 1, none⟩ = some (.int .i64 b) := by exact keep_cell hc2 f3_1
      have f4_2 : w2.cell? ⟨w.heap.size, 2, none⟩ = some (.int .i64 c) := by exact keep_cell hc2 f4_1
      have f5_2 : w2.cell? ⟨w.heap.size + 1, 0, none⟩ = some (.int .i64 d) := by exact keep_cell hc2 f5_1
      have f6_2 : w2.cell? ⟨w.heap.size + 1, 1, none⟩ = some (.int .i64 f) := by exact keep_cell hc2 f6_1
      have f7_2 : w2.cell? ⟨w.heap.size + 1, 2, none⟩ = some (.int .i64 g) := by exact keep_cell hc2 f7_1
      have f9_2 : w2.cell? ⟨w1.heap.size, 0, none⟩ = some (.int .i64 a) := by exact keep_cell hb2 (by simp [go_sem])
      have f10_2 : w2.cell? ⟨w1.heap.size, 1, none⟩ = some (.int .i64 (b - n)) := by exact keep_cell hb2 (by simp [go_sem])
      have f11_2 : w2.cell? ⟨w1.heap.size, 2, none⟩ = some (.int .i64 (c + 1)) := by exact keep_cell hb2 (by simp [go_sem])
      have f12_2 : w2.cell? ⟨w1.heap.size + 1, 0, none⟩ = some (.int .i64 d) := by exact keep_cell hb2 (by simp [go_sem])
      have f13_2 : w2.cell? ⟨w1.heap.size + 1, 1, none⟩ = some (.int .i64 (f + n)) := by exact keep_cell hb2 (by simp [go_sem])
      have f14_2 : w2.cell? ⟨w1.heap.size + 1, 2, none⟩ = some (.int .i64 (g + 1)) := by exact keep_cell hb2 (by simp [go_sem])
      have hq := hb2.size
      try simp at hq
      have hs2_0 : w.heap.size < w2.heap.size := by omega
      have hs2_1 : w.heap.size + 1 < w2.heap.size := by omega
      have hs2_2 : w1.heap.size < w2.heap.size := by omega
      have hs2_3 : w1.heap.size + 1 < w2.heap.size := by omega
      clear hq hs1_0 hs1_1
      have HB2 := Lib.hid (Below.call HB1.out hc2)
      clear hb2 hc2 f2_1 f3_1 f4_1 f5_1 f6_1 f7_1
      go_wp2_with fail
      refine (h3.out _).mono ?_
      rintro e w3 ⟨rfl, hb3⟩
      have hc3 := Below.call (Below.al (Below.al (Below.refl _ _) _) _) hb3
      have f2_3 : w3.cell? ⟨w.heap.size, 0, none⟩ = some (.int .i64 a) := by exact keep_cell hc3 f2_2
      have f3_3 : w3.cell? ⟨w.heap.size, 1, none⟩ = some (.int .i64 b) := by exact keep_cell hc3 f3_2
      have f4_3 : w3.cell? ⟨w.heap.size, 2, none⟩ = some (.int .i64 c) := by exact keep_cell hc3 f4_2
      have f5_3 : w3.cell? ⟨w.heap.size + 1, 0, none⟩ = some (.int .i64 d) := by exact keep_cell hc3 f5_2
      have f6_3 : w3.cell? ⟨w.heap.size + 1, 1, none⟩ = some (.int .i64 f) := by exact keep_cell hc3 f6_2
      have f7_3 : w3.cell? ⟨w.heap.size + 1, 2, none⟩ = some (.int .i64 g) := by exact keep_cell hc3 f7_2
      have f9_3 : w3.cell? ⟨w1.heap.size, 0, none⟩ = some (.int .i64 a) := by exact keep_cell hc3 f9_2
      have f10_3 : w3.cell? ⟨w1.heap.size, 1, none⟩ = some (.int .i64 (b - n)) := by exact keep_cell hc3 f10_2
      have f11_3 : w3.cell? ⟨w1.heap.size, 2, none⟩ = some (.int .i64 (c + 1)) := by exact keep_cell hc3 f11_2
      have f12_3 : w3.cell? ⟨w1.heap.size + 1, 0, none⟩ = some (.int .i64 d) := by exact keep_cell hc3 f12_2
      have f13_3 : w3.cell? ⟨w1.heap.size + 1, 1, none⟩ = some (.int .i64 (f + n)) := by exact keep_cell hc3 f13_2
      have f14_3 : w3.cell? ⟨w1.heap.size + 1, 2, none⟩ = some (.int .i64 (g + 1)) := by exact keep_cell hc3 f14_2
      have f16_3 : w3.cell? ⟨w2.heap.size, 0, none⟩ = some (.int .i64 a) := by exact keep_cell hb3 (by simp [go_sem])
      have f17_3 : w3.cell? ⟨w2.heap.size, 1, none⟩ = some (.int .i64 (b - n)) := by exact keep_cell hb3 (by simp [go_sem])
      have f18_3 : w3.cell? ⟨w2.heap.size, 2, none⟩ = some (.int .i64 (c + 1)) := by exact keep_cell hb3 (by simp [go_sem])
      have f19_3 : w3.cell? ⟨w2.heap.size + 1, 0, none⟩ = some (.int .i64 d) := by exact keep_cell hb3 (by simp [go_sem])
      have f20_3 : w3.cell? ⟨w2.heap.size + 1, 1, none⟩ = some (.int .i64 (f + n)) := by exact keep_cell hb3 (by simp [go_sem])
      have f21_3 : w3.cell? ⟨w2.heap.size + 1, 2, none⟩ = some (.int .i64 (g + 1)) := by exact keep_cell hb3 (by simp [go_sem])
      have hq := hb3.size
      try simp at hq
      have hs3_0 : w.heap.size < w3.heap.size := by omega
      have hs3_1 : w.heap.size + 1 < w3.heap.size := by omega
      have hs3_2 : w1.heap.size < w3.heap.size := by omega
      have hs3_3 : w1.heap.size + 1 < w3.heap.size := by omega
      have hs3_4 : w2.heap.size < w3.heap.size := by omega
      have hs3_5 : w2.heap.size + 1 < w3.heap.size := by omega
      clear hq hs2_0 hs2_1 hs2_2 hs2_3
      have HB3 := Lib.hid (Below.call HB2.out hc3)
      clear hb3 hc3 f2_2 f3_2 f4_2 f5_2 f6_2 f7_2 f9_2 f10_2 f11_2 f12_2 f13_2 f14_2
      go_wp2_with fail
      refine (h4.out _).mono ?_
      rintro e w4 ⟨rfl, hb4⟩
      have f2_4 : w4.cell? ⟨w.heap.size, 0, none⟩ = some (.int .i64 a) := by exact keep_cell hb4 f2_3
      have f3_4 : w4.cell? ⟨w.heap.size, 1, none⟩ = some (.int .i64 b) := by exact keep_cell hb4 f3_3
      have f4_4 : w4.cell? ⟨w.heap.size, 2, none⟩ = some (.int .i64 c) := by exact keep_cell hb4 f4_3
      have f5_4 : w4.cell? ⟨w.heap.size + 1, 0, none⟩ = some (.int .i64 d) := by exact keep_cell hb4 f5_3
      have f6_4 : w4.cell? ⟨w.heap.size + 1, 1, none⟩ = some (.int .i64 f) := by exact keep_cell hb4 f6_3
      have f7_4 : w4.cell? ⟨w.heap.size + 1, 2, none⟩ = some (.int .i64 g) := by exact keep_cell hb4 f7_3
      have f9_4 : w4.cell? ⟨w1.heap.size, 0, none⟩ = some (.int .i64 a) := by exact keep_cell hb4 f9_3
      have f10_4 : w4.cell? ⟨w1.heap.size, 1, none⟩ = some (.int .i64 (b - n)) := by exact keep_cell hb4 f10_3
      have f11_4 : w4.cell? ⟨w1.heap.size, 2, none⟩ = some (.int .i64 (c + 1)) := by exact keep_cell hb4 f11_3
      have f12_4 : w4.cell? ⟨w1.heap.size + 1, 0, none⟩ = some (.int .i64 d) := by exact keep_cell hb4 f12_3
      have f13_4 : w4.cell? ⟨w1.heap.size + 1, 1, none⟩ = some (.int .i64 (f + n)) := by exact keep_cell hb4 f13_3
      have f14_4 : w4.cell? ⟨w1.heap.size + 1, 2, none⟩ = some (.int .i64 (g + 1)) := by exact keep_cell hb4 f14_3
      have f16_4 : w4.cell? ⟨w2.heap.size, 0, none⟩ = some (.int .i64 a) := by exact keep_cell hb4 f16_3
      have f17_4 : w4.cell? ⟨w2.heap.size, 1, none⟩ = some (.int .i64 (b - n)) := by exact keep_cell hb4 f17_3
      have f18_4 : w4.cell? ⟨w2.heap.size, 2, none⟩ = some (.int .i64 (c + 1)) := by exact keep_cell hb4 f18_3
      have f19_4 : w4.cell? ⟨w2.heap.size + 1, 0, none⟩ = some (.int .i64 d) := by exact keep_cell hb4 f19_3
      have f20_4 : w4.cell? ⟨w2.heap.size + 1, 1, none⟩ = some (.int .i64 (f + n)) := by exact keep_cell hb4 f20_3
      have f21_4 : w4.cell? ⟨w2.heap.size + 1, 2, none⟩ = some (.int .i64 (g + 1)) := by exact keep_cell hb4 f21_3
      have hq := hb4.size
      try simp at hq
      have hs4_0 : w.heap.size < w4.heap.size := by omega
      have hs4_1 : w.heap.size + 1 < w4.heap.size := by omega
      have hs4_2 : w1.heap.size < w4.heap.size := by omega
      have hs4_3 : w1.heap.size + 1 < w4.heap.size := by omega
      have hs4_4 : w2.heap.size < w4.heap.size := by omega
      have hs4_5 : w2.heap.size + 1 < w4.heap.size := by omega
      clear hq hs3_0 hs3_1 hs3_2 hs3_3 hs3_4 hs3_5
      have HB4 := Lib.hid (Below.call HB3.out hb4)
      clear hb4 f2_3 f3_3 f4_3 f5_3 f6_3 f7_3 f9_3 f10_3 f11_3 f12_3 f13_3 f14_3 f16_3 f17_3 f18_3 f19_3 f20_3 f21_3
      go_wp2_with fail
      refine (h5.out _).mono ?_
      rintro e w5 ⟨rfl, hb5⟩
      have f2_5 : w5.cell? ⟨w.heap.size, 0, none⟩ = some (.int .i64 a) := by exact keep_cell hb5 f2_4
      have f3_5 : w5.cell? ⟨w.heap.size, 1, none⟩ = some (.int .i64 b) := by exact keep_cell hb5 f3_4
      have f4_5 : w5.cell? ⟨w.heap.size, 2, none⟩ = some (.int .i64 c) := by exact keep_cell hb5 f4_4
      have f5_5 : w5.cell? ⟨w.heap.size + 1, 0, none⟩ = some (.int .i64 d) := by exact keep_cell hb5 f5_4
      have f6_5 : w5.cell? ⟨w.heap.size + 1, 1, none⟩ = some (.int .i64 f) := by exact keep_cell hb5 f6_4
      have f7_5 : w5.cell? ⟨w.heap.size + 1, 2, none⟩ = some (.int .i64 g) := by exact keep_cell hb5 f7_4
      have f9_5 : w5.cell? ⟨w1.heap.size, 0, none⟩ = some (.int .i64 a) := by exact keep_cell hb5 f9_4
      have f10_5 : w5.cell? ⟨w1.heap.size, 1, none⟩ = some (.int .i64 (b - n)) := by exact keep_cell hb5 f10_4
      have f11_5 : w5.cell? ⟨w1.heap.size, 2, none⟩ = some (.int .i64 (c + 1)) := by exact keep_cell hb5 f11_4
      have f12_5 : w5.cell? ⟨w1.heap.size + 1, 0, none⟩ = some (.int .i64 d) := by exact keep_cell hb5 f12_4
      have f13_5 : w5.cell? ⟨w1.heap.size + 1, 1, none⟩ = some (.int .i64 (f + n)) := by exact keep_cell hb5 f13_4
      have f14_5 : w5.cell? ⟨w1.heap.size + 1, 2, none⟩ = some (.int .i64 (g + 1)) := by exact keep_cell hb5 f14_4
      have f16_5 : w5.cell? ⟨w2.heap.size, 0, none⟩ = some (.int .i64 a) := by exact keep_cell hb5 f16_4
      have f17_5 : w5.cell? ⟨w2.heap.size, 1, none⟩ = some (.int .i64 (b - n)) := by exact keep_cell hb5 f17_4
      have f18_5 : w5.cell? ⟨w2.heap.size, 2, none⟩ = some (.int .i64 (c + 1)) := by exact keep_cell hb5 f18_4
      have f19_5 : w5.cell? ⟨w2.heap.size + 1, 0, none⟩ = some (.int .i64 d) := by exact keep_cell hb5 f19_4
      have f20_5 : w5.cell? ⟨w2.heap.size + 1, 1, none⟩ = some (.int .i64 (f + n)) := by exact keep_cell hb5 f20_4
      have f21_5 : w5.cell? ⟨w2.heap.size + 1, 2, none⟩ = some (.int .i64 (g + 1)) := by exact keep_cell hb5 f21_4
      have hq := hb5.size
      try simp at hq
      have hs5_0 : w.heap.size < w5.heap.size := by omega
      have hs5_1 : w.heap.size + 1 < w5.heap.size := by omega
      have hs5_2 : w1.heap.size < w5.heap.size := by omega
      have hs5_3 : w1.heap.size + 1 < w5.heap.size := by omega
      have hs5_4 : w2.heap.size < w5.heap.size := by omega
      have hs5_5 : w2.heap.size + 1 < w5.heap.size := by omega
      clear hq hs4_0 hs4_1 hs4_2 hs4_3 hs4_4 hs4_5
      have HB5 := Lib.hid (Below.call HB4.out hb5)
      clear hb5 f2_4 f3_4 f4_4 f5_4 f6_4 f7_4 f9_4 f10_4 f11_4 f12_4 f13_4 f14_4 f16_4 f17_4 f18_4 f19_4 f20_4 f21_4
      go_wp2_with fail
      refine (h6.out _).mono ?_
      rintro e w6 ⟨rfl, hb6⟩
      have f2_6 : w6.cell? ⟨w.heap.size, 0, none⟩ = some (.int .i64 a) := by exact keep_cell hb6 f2_5
      have f3_6 : w6.cell? ⟨w.heap.size, 1, none⟩ = some (.int .i64 b) := by exact keep_cell hb6 f3_5
      have f4_6 : w6.cell? ⟨w.heap.size, 2, none⟩ = some (.int .i64 c) := by exact keep_cell hb6 f4_5
      have f5_6 : w6.cell? ⟨w.heap.size + 1, 0, none⟩ = some (.int .i64 d) := by exact keep_cell hb6 f5_5
      have f6_6 : w6.cell? ⟨w.heap.size + 1, 1, none⟩ = some (.int .i64 f) := by exact keep_cell hb6 f6_5
      have f7_6 : w6.cell? ⟨w.heap.size + 1, 2, none⟩ = some (.int .i64 g) := by exact keep_cell hb6 f7_5
      have f9_6 : w6.cell? ⟨w1.heap.size, 0, none⟩ = some (.int .i64 a) := by exact keep_cell hb6 f9_5
      have f10_6 : w6.cell? ⟨w1.heap.size, 1, none⟩ = some (.int .i64 (b - n)) := by exact keep_cell hb6 f10_5
      have f11_6 : w6.cell? ⟨w1.heap.size, 2, none⟩ = some (.int .i64 (c + 1)) := by exact keep_cell hb6 f11_5
      have f12_6 : w6.cell? ⟨w1.heap.size + 1, 0, none⟩ = some (.int .i64 d) := by exact keep_cell hb6 f12_5
      have f13_6 : w6.cell? ⟨w1.heap.size + 1, 1, none⟩ = some (.int .i64 (f + n)) := by exact keep_cell hb6 f13_5
      have f14_6 : w6.cell? ⟨w1.heap.size + 1, 2, none⟩ = some (.int .i64 (g + 1)) := by exact keep_cell hb6 f14_5
      have f16_6 : w6.cell? ⟨w2.heap.size, 0, none⟩ = some (.int .i64 a) := by exact keep_cell hb6 f16_5
      have f17_6 : w6.cell? ⟨w2.heap.size, 1, none⟩ = some (.int .i64 (b - n)) := by exact keep_cell hb6 f17_5
      have f18_6 : w6.cell? ⟨w2.heap.size, 2, none⟩ = some (.int .i64 (c + 1)) := by exact keep_cell hb6 f18_5
      have f19_6 : w6.cell? ⟨w2.heap.size + 1, 0, none⟩ = some (.int .i64 d) := by exact keep_cell hb6 f19_5
      have f20_6 : w6.cell? ⟨w2.heap.size + 1, 1, none⟩ = some (.int .i64 (f + n)) := by exact keep_cell hb6 f20_5
      have f21_6 : w6.cell? ⟨w2.heap.size + 1, 2, none⟩ = some (.int .i64 (g + 1)) := by exact keep_cell hb6 f21_5
      have hq := hb6.size
      try simp at hq
      have hs6_0 : w.heap.size < w6.heap.size := by omega
      have hs6_1 : w.heap.size + 1 < w6.heap.size := by omega
      have hs6_2 : w1.heap.size < w6.heap.size := by omega
      have hs6_3 : w1.heap.size + 1 < w6.heap.size := by omega
      have hs6_4 : w2.heap.size < w6.heap.size := by omega
      have hs6_5 : w2.heap.size + 1 < w6.heap.size := by omega
      clear hq hs5_0 hs5_1 hs5_2 hs5_3 hs5_4 hs5_5
      have HB6 := Lib.hid (Below.call HB5.out hb6)
      clear hb6 f2_5 f3_5 f4_5 f5_5 f6_5 f7_5 f9_5 f10_5 f11_5 f12_5 f13_5 f14_5 f16_5 f17_5 f18_5 f19_5 f20_5 f21_5
      go_wp2
      all_goals go_ret
      all_goals exact ⟨ret_b (by simp), Below.al (Below.al HB6.out _) _⟩
    · rw [if_neg hv, (s4 hv).1, (s4 hv).2] at h6
      clear s4
      have e1 : ¬ 2147483645 < c := by omega
      have e2 : ¬ 2147483645 < g := by omega
      clear hv c1 c2
      go_enter Try.func9, Try.ntmps9
      go_wp2_with fail
      refine (h1.out _).mono ?_
      rintro e w1 ⟨rfl, hb1⟩
      have hc1 := Below.call (Below.al (Below.al (Below.refl _ _) _) _) hb1
      have f2_1 : w1.cell? ⟨w.heap.size, 0, none⟩ = some (.int .i64 a) := by exact keep_cell hb1 (by simp [go_sem])
      have f3_1 : w1.cell? ⟨w.heap.size, 1, none⟩ = some (.int .i64 b) := by exact keep_cell hb1 (by simp [go_sem])
      have f4_1 : w1.cell? ⟨w.heap.size, 2, none⟩ = some (.int .i64 c) := by exact keep_cell hb1 (by simp [go_sem])
      have f5_1 : w1.cell? ⟨w.heap.size + 1, 0, none⟩ = some (.int .i64 d) := by exact keep_cell hb1 (by simp [go_sem])
      have f6_1 : w1.cell? ⟨w.heap.size + 1, 1, none⟩ = some (.int .i64 f) := by exact keep_cell hb1 (by simp [go_sem])
      have f7_1 : w1.cell? ⟨w.heap.size + 1, 2, none⟩ = some (.int .i64 g) := by exact keep_cell hb1 (by simp [go_sem])
      have hq := hb1.size
      try simp at hq
      have hs1_0 : w.heap.size < w1.heap.size := by omega
      have hs1_1 : w.heap.size + 1 < w1.heap.size := by omega
      clear hq
      have HB1 := Lib.hid (hc1)
      clear hb1 hc1
      go_wp2_with fail
      refine (h2.out _).mono ?_
      rintro e w2 ⟨rfl, hb2⟩
      have hc2 := Below.call (Below.al (Below.al (Below.refl _ _) _) _) hb2
      have f2_2 : w2.cell? ⟨w.heap.size, 0, none⟩ = some (.int .i64 a) := by exact keep_cell hc2 f2_1
      have f3_2 : w2.cell? ⟨w.heap.size, 1, none⟩ = some (.int .i64 b) := by exact keep_cell hc2 f3_1
      have f4_2 : w2.cell? ⟨w.heap.size, 2, none⟩ = some (.int .i64 c) := by exact keep_cell hc2 f4_1
      have f5_2 : w2.cell? ⟨w.heap.size + 1, 0, none⟩ = some (.int .i64 d) := by exact keep_cell hc2 f5_1
      have f6_2 : w2.cell? ⟨w.heap.size + 1, 1, none⟩ = some (.int .i64 f) := by exact keep_cell hc2 f6_1
      have f7_2 : w2.cell? ⟨w.heap.size + 1, 2, none⟩ = some (.int .i64 g) := by exact keep_cell hc2 f7_1
      have f9_2 : w2.cell? ⟨w1.heap.size, 0, none⟩ = some (.int .i64 a) := by exact keep_cell hb2 (by simp [go_sem])
      have f10_2 : w2.cell? ⟨w1.heap.size, 1, none⟩ = some (.int .i64 (b - n)) := by exact keep_cell hb2 (by simp [go_sem])
      have f11_2 : w2.cell? ⟨w1.heap.size, 2, none⟩ = some (.int .i64 (c + 1)) := by exact keep_cell hb2 (by simp [go_sem])
      have f12_2 : w2.cell? ⟨w1.heap.size + 1, 0, none⟩ = some (.int .i64 d) := by exact keep_cell hb2 (by simp [go_sem])
      have f13_2 : w2.cell? ⟨w1.heap.size + 1, 1, none⟩ = some (.int .i64 (f + n)) := by exact keep_cell hb2 (by simp [go_sem])
      have f14_2 : w2.cell? ⟨w1.heap.size + 1, 2, none⟩ = some (.int .i64 (g + 1)) := by exact keep_cell hb2 (by simp [go_sem])
      have hq := hb2.size
      try simp at hq
      have hs2_0 : w.heap.size < w2.heap.size := by omega
      have hs2_1 : w.heap.size + 1 < w2.heap.size := by omega
      have hs2_2 : w1.heap.size < w2.heap.size := by omega
      have hs2_3 : w1.heap.size + 1 < w2.heap.size := by omega
      clear hq hs1_0 hs1_1
      have HB2 := Lib.hid (Below.call HB1.out hc2)
      clear hb2 hc2 f2_1 f3_1 f4_1 f5_1 f6_1 f7_1
      go_wp2_with fail
      refine (h3.out _).mono ?_
      rintro e w3 ⟨rfl, hb3⟩
      have hc3 := Below.call (Below.al (Below.al (Below.refl _ _) _) _) hb3
      have f2_3 : w3.cell? ⟨w.heap.size, 0, none⟩ = some (.int .i64 a) := by exact keep_cell hc3 f2_2
      have f3_3 : w3.cell? ⟨w.heap.size, 1, none⟩ = some (.int .i64 b) := by exact keep_cell hc3 f3_2
      have f4_3 : w3.cell? ⟨w.heap.size, 2, none⟩ = some (.int .i64 c) := by exact keep_cell hc3 f4_2
      have f5_3 : w3.cell? ⟨w.heap.size + 1, 0, none⟩ = some (.int .i64 d) := by exact keep_cell hc3 f5_2
      have f6_3 : w3.cell? ⟨w.heap.size + 1, 1, none⟩ = some (.int .i64 f) := by exact keep_cell hc3 f6_2
      have f7_3 : w3.cell? ⟨w.heap.size + 1, 2, none⟩ = some (.int .i64 g) := by exact keep_cell hc3 f7_2
      have f9_3 : w3.cell? ⟨w1.heap.size, 0, none⟩ = some (.int .i64 a) := by exact keep_cell hc3 f9_2
      have f10_3 : w3.cell? ⟨w1.heap.size, 1, none⟩ = some (.int .i64 (b - n)) := by exact keep_cell hc3 f10_2
      have f11_3 : w3.cell? ⟨w1.heap.size, 2, none⟩ = some (.int .i64 (c + 1)) := by exact keep_cell hc3 f11_2
      have f12_3 : w3.cell? ⟨w1.heap.size + 1, 0, none⟩ = some (.int .i64 d) := by exact keep_cell hc3 f12_2
      have f13_3 : w3.cell? ⟨w1.heap.size + 1, 1, none⟩ = some (.int .i64 (f + n)) := by exact keep_cell hc3 f13_2
      have f14_3 : w3.cell? ⟨w1.heap.size + 1, 2, none⟩ = some (.int .i64 (g + 1)) := by exact keep_cell hc3 f14_2
      have f16_3 : w3.cell? ⟨w2.heap.size, 0, none⟩ = some (.int .i64 a) := by exact keep_cell hb3 (by simp [go_sem])
      have f17_3 : w3.cell? ⟨w2.heap.size, 1, none⟩ = some (.int .i64 (b - n)) := by exact keep_cell hb3 (by simp [go_sem])
      have f18_3 : w3.cell? ⟨w2.heap.size, 2, none⟩ = some (.int .i64 (c + 1)) := by exact keep_cell hb3 (by simp [go_sem])
      have f19_3 : w3.cell? ⟨w2.heap.size + 1, 0, none⟩ = some (.int .i64 d) := by exact keep_cell hb3 (by simp [go_sem])
      have f20_3 : w3.cell? ⟨w2.heap.size + 1, 1, none⟩ = some (.int .i64 (f + n)) := by exact keep_cell hb3 (by simp [go_sem])
      have f21_3 : w3.cell? ⟨w2.heap.size + 1, 2, none⟩ = some (.int .i64 (g + 1)) := by exact keep_cell hb3 (by simp [go_sem])
      have hq := hb3.size
      try simp at hq
      have hs3_0 : w.heap.size < w3.heap.size := by omega
      have hs3_1 : w.heap.size + 1 < w3.heap.size := by omega
      have hs3_2 : w1.heap.size < w3.heap.size := by omega
      have hs3_3 : w1.heap.size + 1 < w3.heap.size := by omega
      have hs3_4 : w2.heap.size < w3.heap.size := by omega
      have hs3_5 : w2.heap.size + 1 < w3.heap.size := by omega
      clear hq hs2_0 hs2_1 hs2_2 hs2_3
      have HB3 := Lib.hid (Below.call HB2.out hc3)
      clear hb3 hc3 f2_2 f3_2 f4_2 f5_2 f6_2 f7_2 f9_2 f10_2 f11_2 f12_2 f13_2 f14_2
      go_wp2_with fail
      refine (h4.out _).mono ?_
      rintro e w4 ⟨rfl, hb4⟩
      have f2_4 : w4.cell? ⟨w.heap.size, 0, none⟩ = some (.int .i64 a) := by exact keep_cell hb4 f2_3
      have f3_4 : w4.cell? ⟨w.heap.size, 1, none⟩ = some (.int .i64 b) := by exact keep_cell hb4 f3_3
      have f4_4 : w4.cell? ⟨w.heap.size, 2, none⟩ = some (.int .i64 c) := by exact keep_cell hb4 f4_3
      have f5_4 : w4.cell? ⟨w.heap.size + 1, 0, none⟩ = some (.int .i64 d) := by exact keep_cell hb4 f5_3
      have f6_4 : w4.cell? ⟨w.heap.size + 1, 1, none⟩ = some (.int .i64 f) := by exact keep_cell hb4 f6_3
      have f7_4 : w4.cell? ⟨w.heap.size + 1, 2, none⟩ = some (.int .i64 g) := by exact keep_cell hb4 f7_3
      have f9_4 : w4.cell? ⟨w1.heap.size, 0, none⟩ = some (.int .i64 a) := by exact keep_cell hb4 f9_3
      have f10_4 : w4.cell? ⟨w1.heap.size, 1, none⟩ = some (.int .i64 (b - n)) := by exact keep_cell hb4 f10_3
      have f11_4 : w4.cell? ⟨w1.heap.size, 2, none⟩ = some (.int .i64 (c + 1)) := by exact keep_cell hb4 f11_3
      have f12_4 : w4.cell? ⟨w1.heap.size + 1, 0, none⟩ = some (.int .i64 d) := by exact keep_cell hb4 f12_3
      have f13_4 : w4.cell? ⟨w1.heap.size + 1, 1, none⟩ = some (.int .i64 (f + n)) := by exact keep_cell hb4 f13_3
      have f14_4 : w4.cell? ⟨w1.heap.size + 1, 2, none⟩ = some (.int .i64 (g + 1)) := by exact keep_cell hb4 f14_3
      have f16_4 : w4.cell? ⟨w2.heap.size, 0, none⟩ = some (.int .i64 a) := by exact keep_cell hb4 f16_3
      have f17_4 : w4.cell? ⟨w2.heap.size, 1, none⟩ = some (.int .i64 (b - n)) := by exact keep_cell hb4 f17_3
      have f18_4 : w4.cell? ⟨w2.heap.size, 2, none⟩ = some (.int .i64 (c + 1)) := by exact keep_cell hb4 f18_3
      have f19_4 : w4.cell? ⟨w2.heap.size + 1, 0, none⟩ = some (.int .i64 d) := by exact keep_cell hb4 f19_3
      have f20_4 : w4.cell? ⟨w2.heap.size + 1, 1, none⟩ = some (.int .i64 (f + n)) := by exact keep_cell hb4 f20_3
      have f21_4 : w4.cell? ⟨w2.heap.size + 1, 2, none⟩ = some (.int .i64 (g + 1)) := by exact keep_cell hb4 f21_3
      have hq := hb4.size
      try simp at hq
      have hs4_0 : w.heap.size < w4.heap.size := by omega
      have hs4_1 : w.heap.size + 1 < w4.heap.size := by omega
      have hs4_2 : w1.heap.size < w4.heap.size := by omega
      have hs4_3 : w1.heap.size + 1 < w4.heap.size := by omega
      have hs4_4 : w2.heap.size < w4.heap.size := by omega
      have hs4_5 : w2.heap.size + 1 < w4.heap.size := by omega
      clear hq hs3_0 hs3_1 hs3_2 hs3_3 hs3_4 hs3_5
      have HB4 := Lib.hid (Below.call HB3.out hb4)
      clear hb4 f2_3 f3_3 f4_3 f5_3 f6_3 f7_3 f9_3 f10_3 f11_3 f12_3 f13_3 f14_3 f16_3 f17_3 f18_3 f19_3 f20_3 f21_3
      go_wp2_with fail
      refine (h5.out _).mono ?_
      rintro e w5 ⟨rfl, hb5⟩
      have f2_5 : w5.cell? ⟨w.heap.size, 0, none⟩ = some (.int .i64 a) := by exact keep_cell hb5 f2_4
      have f3_5 : w5.cell? ⟨w.heap.size, 1, none⟩ = some (.int .i64 b) := by exact keep_cell hb5 f3_4
      have f4_5 : w5.cell? ⟨w.heap.size, 2, none⟩ = some (.int .i64 c) := by exact keep_cell hb5 f4_4
      have f5_5 : w5.cell? ⟨w.heap.size + 1, 0, none⟩ = some (.int .i64 d) := by exact keep_cell hb5 f5_4
      have f6_5 : w5.cell? ⟨w.heap.size + 1, 1, none⟩ = some (.int .i64 f) := by exact keep_cell hb5 f6_4
      have f7_5 : w5.cell? ⟨w.heap.size + 1, 2, none⟩ = some (.int .i64 g) := by exact keep_cell hb5 f7_4
      have f9_5 : w5.cell? ⟨w1.heap.size, 0, none⟩ = some (.int .i64 a) := by exact keep_cell hb5 f9_4
      have f10_5 : w5.cell? ⟨w1.heap.size, 1, none⟩ = some (.int .i64 (b - n)) := by exact keep_cell hb5 f10_4
      have f11_5 : w5.cell? ⟨w1.heap.size, 2, none⟩ = some (.int .i64 (c + 1)) := by exact keep_cell hb5 f11_4
      have f12_5 : w5.cell? ⟨w1.heap.size + 1, 0, none⟩ = some (.int .i64 d) := by exact keep_cell hb5 f12_4
      have f13_5 : w5.cell? ⟨w1.heap.size + 1, 1, none⟩ = some (.int .i64 (f + n)) := by exact keep_cell hb5 f13_4
      have f14_5 : w5.cell? ⟨w1.heap.size + 1, 2, none⟩ = some (.int .i64 (g + 1)) := by exact keep_cell hb5 f14_4
      have f16_5 : w5.cell? ⟨w2.heap.size, 0, none⟩ = some (.int .i64 a) := by exact keep_cell hb5 f16_4
      have f17_5 : w5.cell? ⟨w2.heap.size, 1, none⟩ = some (.int .i64 (b - n)) := by exact keep_cell hb5 f17_4
      have f18_5 : w5.cell? ⟨w2.heap.size, 2, none⟩ = some (.int .i64 (c + 1)) := by exact keep_cell hb5 f18_4
      have f19_5 : w5.cell? ⟨w2.heap.size + 1, 0, none⟩ = some (.int .i64 d) := by exact keep_cell hb5 f19_4
      have f20_5 : w5.cell? ⟨w2.heap.size + 1, 1, none⟩ = some (.int .i64 (f + n)) := by exact keep_cell hb5 f20_4
      have f21_5 : w5.cell? ⟨w2.heap.size + 1, 2, none⟩ = some (.int .i64 (g + 1)) := by exact keep_cell hb5 f21_4
      have hq := hb5.size
      try simp at hq
      have hs5_0 : w.heap.size < w5.heap.size := by omega
      have hs5_1 : w.heap.size + 1 < w5.heap.size := by omega
      have hs5_2 : w1.heap.size < w5.heap.size := by omega
      have hs5_3 : w1.heap.size + 1 < w5.heap.size := by omega
      have hs5_4 : w2.heap.size < w5.heap.size := by omega
      have hs5_5 : w2.heap.size + 1 < w5.heap.size := by omega
      clear hq hs4_0 hs4_1 hs4_2 hs4_3 hs4_4 hs4_5
      have HB5 := Lib.hid (Below.call HB4.out hb5)
      clear hb5 f2_4 f3_4 f4_4 f5_4 f6_4 f7_4 f9_4 f10_4 f11_4 f12_4 f13_4 f14_4 f16_4 f17_4 f18_4 f19_4 f20_4 f21_4
      go_wp2_with fail
      refine (h6.out _).mono ?_
      rintro e w6 ⟨rfl, hb6⟩
      have f2_6 : w6.cell? ⟨w.heap.size, 0, none⟩ = some (.int .i64 a) := by exact keep_cell hb6 f2_5
      have f3_6 : w6.cell? ⟨w.heap.size, 1, none⟩ = some (.int .i64 b) := by exact keep_cell hb6 f3_5
      have f4_6 : w6.cell? ⟨w.heap.size, 2, none⟩ = some (.int .i64 c) := by exact keep_cell hb6 f4_5
      have f5_6 : w6.cell? ⟨w.heap.size + 1, 0, none⟩ = some (.int .i64 d) := by exact keep_cell hb6 f5_5
      have f6_6 : w6.cell? ⟨w.heap.size + 1, 1, none⟩ = some (.int .i64 f) := by exact keep_cell hb6 f6_5
      have f7_6 : w6.cell? ⟨w.heap.size + 1, 2, none⟩ = some (.int .i64 g) := by exact keep_cell hb6 f7_5
      have f9_6 : w6.cell? ⟨w1.heap.size, 0, none⟩ = some (.int .i64 a) := by exact keep_cell hb6 f9_5
      have f10_6 : w6.cell? ⟨w1.heap.size, 1, none⟩ = some (.int .i64 (b - n)) := by exact keep_cell hb6 f10_5
      have f11_6 : w6.cell? ⟨w1.heap.size, 2, none⟩ = some (.int .i64 (c + 1)) := by exact keep_cell hb6 f11_5
      have f12_6 : w6.cell? ⟨w1.heap.size + 1, 0, none⟩ = some (.int .i64 d) := by exact keep_cell hb6 f12_5
      have f13_6 : w6.cell? ⟨w1.heap.size + 1, 1, none⟩ = some (.int .i64 (f + n)) := by exact keep_cell hb6 f13_5
      have f14_6 : w6.cell? ⟨w1.heap.size + 1, 2, none⟩ = some (.int .i64 (g + 1)) := by exact keep_cell hb6 f14_5
      have f16_6 : w6.cell? ⟨w2.heap.size, 0, none⟩ = some (.int .i64 a) := by exact keep_cell hb6 f16_5
      have f17_6 : w6.cell? ⟨w2.heap.size, 1, none⟩ = some (.int .i64 (b - n)) := by exact keep_cell hb6 f17_5
      have f18_6 : w6.cell? ⟨w2.heap.size, 2, none⟩ = some (.int .i64 (c + 1)) := by exact keep_cell hb6 f18_5
      have f19_6 : w6.cell? ⟨w2.heap.size + 1, 0, none⟩ = some (.int .i64 d) := by exact keep_cell hb6 f19_5
      have f20_6 : w6.cell? ⟨w2.heap.size + 1, 1, none⟩ = some (.int .i64 (f + n)) := by exact keep_cell hb6 f20_5
      have f21_6 : w6.cell? ⟨w2.heap.size + 1, 2, none⟩ = some (.int .i64 (g + 1)) := by exact keep_cell hb6 f21_5
      have hq := hb6.size
      try simp at hq
      have hs6_0 : w.heap.size < w6.heap.size := by omega
      have hs6_1 : w.heap.size + 1 < w6.heap.size := by omega
      have hs6_2 : w1.heap.size < w6.heap.size := by omega
      have hs6_3 : w1.heap.size + 1 < w6.heap.size := by omega
      have hs6_4 : w2.heap.size < w6.heap.size := by omega
      have hs6_5 : w2.heap.size + 1 < w6.heap.size := by omega
      clear hq hs5_0 hs5_1 hs5_2 hs5_3 hs5_4 hs5_5
      have HB6 := Lib.hid (Below.call HB5.out hb6)
      clear hb6 f2_5 f3_5 f4_5 f5_5 f6_5 f7_5 f9_5 f10_5 f11_5 f12_5 f13_5 f14_5 f16_5 f17_5 f18_5 f19_5 f20_5 f21_5
      go_wp2
      all_goals go_ret
      all_goals exact ⟨ret_b (by simp), Below.al (Below.al HB6.out _) _⟩
  · have q1 : (mvE x y n != 0) = true := by rw [bne_iff_ne]; exact hz
    have ex : mvX x y n = ⟨0, 0, 0⟩ := if_neg hz
    have ey : mvY x y n = ⟨0, 0, 0⟩ := if_neg hz
    rw [ex, ey] at h1 h2
    generalize mvE x y n = z at *
    obtain ⟨a, b, c⟩ := x
    obtain ⟨d, f, g⟩ := y
    clear hx hy hz ex ey hn
    go_enter Try.func9, Try.ntmps9
    go_wp2_with fail
    refine (h1.out _).mono ?_
    rintro e w1 ⟨rfl, hb1⟩
    have hc1 := Below.call (Below.al (Below.al (Below.refl _ _) _) _) hb1
    have f2_1 : w1.cell? ⟨w.heap.size, 0, none⟩ = some (.int .i64 a) := by exact keep_cell hb1 (by simp [go_sem])
    have f3_1 : w1.cell? ⟨w.heap.size, 1, none⟩ = some (.int .i64 b) := by exact keep_cell hb1 (by simp [go_sem])
    have f4_1 : w1.cell? ⟨w.heap.size, 2, none⟩ = some (.int .i64 c) := by exact keep_cell hb1 (by simp [go_sem])
    have f5_1 : w1.cell? ⟨w.heap.size + 1, 0, none⟩ = some (.int .i64 d) := by exact keep_cell hb1 (by simp [go_sem])
    have f6_1 : w1.cell? ⟨w.heap.size + 1, 1, none⟩ = some (.int .i64 f) := by exact keep_cell hb1 (by simp [go_sem])
    have f7_1 : w1.cell? ⟨w.heap.size + 1, 2, none⟩ = some (.int .i64 g) := by exact keep_cell hb1 (by simp [go_sem])
    have hq := hb1.size
    try simp at hq
    have hs1_0 : w.heap.size < w1.heap.size := by omega
    have hs1_1 : w.heap.size + 1 < w1.heap.size := by omega
    clear hq
    have HB1 := Lib.hid (hc1)
    clear hb1 hc1
    go_wp2_with fail
    refine (h2.out _).mono ?_
    rintro e w2 ⟨rfl, hb2⟩
    have hc2 := Below.call (Below.al (Below.al (Below.refl _ _) _) _) hb2
    have f2_2 : w2.cell? ⟨w.heap.size, 0, none⟩ = some (.int .i64 a) := by exact keep_cell hc2 f2_1
    have f3_2 : w2.cell? ⟨w.heap.size, 1, none⟩ = some (.int .i64 b) := by exact keep_cell hc2 f3_1
    have f4_2 : w2.cell? ⟨w.heap.size, 2, none⟩ = some (.int .i64 c) := by exact keep_cell hc2 f4_1
    have f5_2 : w2.cell? ⟨w.heap.size + 1, 0, none⟩ = some (.int .i64 d) := by exact keep_cell hc2 f5_1
    have f6_2 : w2.cell? ⟨w.heap.size + 1, 1, none⟩ = some (.int .i64 f) := by exact keep_cell hc2 f6_1
    have f7_2 : w2.cell? ⟨w.heap.size + 1, 2, none⟩ = some (.int .i64 g) := by exact keep_cell hc2 f7_1
    have f9_2 : w2.cell? ⟨w1.heap.size, 0, none⟩ = some (.int .i64 0) := by exact keep_cell hb2 (by simp [go_sem])
    have f10_2 : w2.cell? ⟨w1.heap.size, 1, none⟩ = some (.int .i64 0) := by exact keep_cell hb2 (by simp [go_sem])
    have f11_2 : w2.cell? ⟨w1.heap.size, 2, none⟩ = some (.int .i64 0) := by exact keep_cell hb2 (by simp [go_sem])
    have f12_2 : w2.cell? ⟨w1.heap.size + 1, 0, none⟩ = some (.int .i64 0) := by exact keep_cell hb2 (by simp [go_sem])
    have f13_2 : w2.cell? ⟨w1.heap.size + 1, 1, none⟩ = some (.int .i64 0) := by exact keep_cell hb2 (by simp [go_sem])
    have f14_2 : w2.cell? ⟨w1.heap.size + 1, 2, none⟩ = some (.int .i64 0) := by exact keep_cell hb2 (by simp [go_sem])
    have hq := hb2.size
    try simp at hq
    have hs2_0 : w.heap.size < w2.heap.size := by omega
    have hs2_1 : w.heap.size + 1 < w2.heap.size := by omega
    have hs2_2 : w1.heap.size < w2.heap.size := by omega
    have hs2_3 : w1.heap.size + 1 < w2.heap.size := by omega
    clear hq hs1_0 hs1_1
    have HB2 := Lib.hid (Below.call HB1.out hc2)
    clear hb2 hc2 f2_1 f3_1 f4_1 f5_1 f6_1 f7_1
    go_wp2_with fail
    refine (h3.out _).mono ?_
    rintro e w3 ⟨rfl, hb3⟩
    have hc3 := Below.call (Below.al (Below.al (Below.refl _ _) _) _) hb3
    have f2_3 : w3.cell? ⟨w.heap.size, 0, none⟩ = some (.int .i64 a) := by exact keep_cell hc3 f2_2
    have f3_3 : w3.cell? ⟨w.heap.size, 1, none⟩ = some (.int .i64 b) := by exact keep_cell hc3 f3_2
    have f4_3 : w3.cell? ⟨w.heap.size, 2, none⟩ = some (.int .i64 c) := by exact keep_cell hc3 f4_2
    have f5_3 : w3.cell? ⟨w.heap.size + 1, 0, none⟩ = some (.int .i64 d) := by exact keep_cell hc3 f5_2
    have f6_3 : w3.cell? ⟨w.heap.size + 1, 1, none⟩ = some (.int .i64 f) := by exact keep_cell hc3 f6_2
    have f7_3 : w3.cell? ⟨w.heap.size + 1, 2, none⟩ = some (.int .i64 g) := by exact keep_cell hc3 f7_2
    have f9_3 : w3.cell? ⟨w1.heap.size, 0, none⟩ = some (.int .i64 0) := by exact keep_cell hc3 f9_2
    have f10_3 : w3.cell? ⟨w1.heap.size, 1, none⟩ = some (.int .i64 0) := by exact keep_cell hc3 f10_2
    have f11_3 : w3.cell? ⟨w1.heap.size, 2, none⟩ = some (.int .i64 0) := by exact keep_cell hc3 f11_2
    have f12_3 : w3.cell? ⟨w1.heap.size + 1, 0, none⟩ = some (.int .i64 0) := by exact keep_cell hc3 f12_2
    have f13_3 : w3.cell? ⟨w1.heap.size + 1, 1, none⟩ = some (.int .i64 0) := by exact keep_cell hc3 f13_2
    have f14_3 : w3.cell? ⟨w1.heap.size + 1, 2, none⟩ = some (.int .i64 0) := by exact keep_cell hc3 f14_2
    have f16_3 : w3.cell? ⟨w2.heap.size, 0, none⟩ = some (.int .i64 0) := by exact keep_cell hb3 (by simp [go_sem])
    have f17_3 : w3.cell? ⟨w2.heap.size, 1, none⟩ = some (.int .i64 0) := by exact keep_cell hb3 (by simp [go_sem])
    have f18_3 : w3.cell? ⟨w2.heap.size, 2, none⟩ = some (.int .i64 0) := by exact keep_cell hb3 (by simp [go_sem])
    have f19_3 : w3.cell? ⟨w2.heap.size + 1, 0, none⟩ = some (.int .i64 0) := by exact keep_cell hb3 (by simp [go_sem])
    have f20_3 : w3.cell? ⟨w2.heap.size + 1, 1, none⟩ = some (.int .i64 0) := by exact keep_cell hb3 (by simp [go_sem])
    have f21_3 : w3.cell? ⟨w2.heap.size + 1, 2, none⟩ = some (.int .i64 0) := by exact keep_cell hb3 (by simp [go_sem])
    have hq := hb3.size
    try simp at hq
    have hs3_0 : w.heap.size < w3.heap.size := by omega
    have hs3_1 : w.heap.size + 1 < w3.heap.size := by omega
    have hs3_2 : w1.heap.size < w3.heap.size := by omega
    have hs3_3 : w1.heap.size + 1 < w3.heap.size := by omega
    have hs3_4 : w2.heap.size < w3.heap.size := by omega
    have hs3_5 : w2.heap.size + 1 < w3.heap.size := by omega
    clear hq hs2_0 hs2_1 hs2_2 hs2_3
    have HB3 := Lib.hid (Below.call HB2.out hc3)
    clear hb3 hc3 f2_2 f3_2 f4_2 f5_2 f6_2 f7_2 f9_2 f10_2 f11_2 f12_2 f13_2 f14_2
    go_wp2
    go_ret
    exact ⟨rfl, HB3.out⟩
end Go.Proofs.Ytlgpnjbhmoomfaa
