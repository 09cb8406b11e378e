/- What becomes of any tip that any arm takes, or drops: the law's walk. -/
import Derived.Test.YtdghekhkjkkgfaaHH
namespace Go.Proofs.Ytdghekhkjkkgfaa
open Go.RowKit

set_option maxRecDepth 100000 in
set_option maxHeartbeats 8000000 in
theorem tipDoes_walk (s b a : Int) (w : World) : Calls Try.prog 6 #[tpV s b, .int .i64 a] w fun e w' => e = .returned (.bool true) ∧ Below w.heap.size w w' := by
  have h1 := Lib.hid (fun w => take_any s b a w)
  have h2 := Lib.hid (fun w => drop_any s b a w)
  have h3 := Lib.hid (fun w => rtake_any s b a w)
  have h4 := Lib.hid (fun w => rdrop_any s b a w)
  have h5 := Lib.hid (fun w => lives_any w)
  have h6 := Lib.hid (fun w => right_any s b w)
  have h7 := Lib.hid (fun w => rright_any s b w)
  generalize tkV s b a = y1 at *
  generalize tkE s b a = z1 at *
  generalize dpV s b a = y2 at *
  generalize dpE s b a = z2 at *
  generalize (!(ofV s b == 0)) = rr at *
  obtain ⟨p1, q1⟩ := y1
  obtain ⟨p2, q2⟩ := y2
  go_enter Try.func6, Try.ntmps6
  go_wp2_with fail
  refine (h1.out _).mono ?_
  rintro e w1 ⟨rfl, hb1⟩
  have hc1 := Below.call (Below.al (Below.refl _ _) _) hb1
  have f2_1 : w1.cell? ⟨w.heap.size, 0, none⟩ = some (.int .i64 s) := by exact keep_cell hb1 (by simp [go_sem])
  have f3_1 : w1.cell? ⟨w.heap.size, 1, none⟩ = some (.int .i64 b) := by exact keep_cell hb1 (by simp [go_sem])
  have hq := hb1.size
  try simp at hq
  have hs1_0 : w.heap.size < w1.heap.size := by omega
  clear hq
  have HB1 := Lib.hid (hc1)
  clear hb1 hc1
  go_wp2_with fail
  refine (h2.out _).mono ?_
  rintro e w2 ⟨rfl, hb2⟩
  have hc2 := Below.call (Below.al (Below.refl _ _) _) hb2
  have f2_2 : w2.cell? ⟨w.heap.size, 0, none⟩ = some (.int .i64 s) := by exact keep_cell hc2 f2_1
  have f3_2 : w2.cell? ⟨w.heap.size, 1, none⟩ = some (.int .i64 b) := by exact keep_cell hc2 f3_1
  have f5_2 : w2.cell? ⟨w1.heap.size, 0, none⟩ = some (.int .i64 p1) := by exact keep_cell hb2 (by simp [go_sem])
  have f6_2 : w2.cell? ⟨w1.heap.size, 1, none⟩ = some (.int .i64 q1) := by exact keep_cell hb2 (by simp [go_sem])
  have hq := hb2.size
  try simp at hq
  have hs2_0 : w.heap.size < w2.heap.size := by omega
  have hs2_1 : w1.heap.size < w2.heap.size := by omega
  clear hq hs1_0
  have HB2 := Lib.hid (Below.call HB1.out hc2)
  clear hb2 hc2 f2_1 f3_1
  go_wp2_with fail
  refine (h3.out _).mono ?_
  rintro e w3 ⟨rfl, hb3⟩
  have hc3 := Below.call (Below.al (Below.refl _ _) _) hb3
  have f2_3 : w3.cell? ⟨w.heap.size, 0, none⟩ = some (.int .i64 s) := by exact keep_cell hc3 f2_2
  have f3_3 : w3.cell? ⟨w.heap.size, 1, none⟩ = some (.int .i64 b) := by exact keep_cell hc3 f3_2
  have f5_3 : w3.cell? ⟨w1.heap.size, 0, none⟩ = some (.int .i64 p1) := by exact keep_cell hc3 f5_2
  have f6_3 : w3.cell? ⟨w1.heap.size, 1, none⟩ = some (.int .i64 q1) := by exact keep_cell hc3 f6_2
  have f8_3 : w3.cell? ⟨w2.heap.size, 0, none⟩ = some (.int .i64 p2) := by exact keep_cell hb3 (by simp [go_sem])
  have f9_3 : w3.cell? ⟨w2.heap.size, 1, none⟩ = some (.int .i64 q2) := by exact keep_cell hb3 (by simp [go_sem])
  have hq := hb3.size
  try simp at hq
  have hs3_0 : w.heap.size < w3.heap.size := by omega
  have hs3_1 : w1.heap.size < w3.heap.size := by omega
  have hs3_2 : w2.heap.size < w3.heap.size := by omega
  clear hq hs2_0 hs2_1
  have HB3 := Lib.hid (Below.call HB2.out hc3)
  clear hb3 hc3 f2_2 f3_2 f5_2 f6_2
  go_wp2_with fail
  refine (h4.out _).mono ?_
  rintro e w4 ⟨rfl, hb4⟩
  have hc4 := Below.call (Below.al (Below.refl _ _) _) hb4
  have f2_4 : w4.cell? ⟨w.heap.size, 0, none⟩ = some (.int .i64 s) := by exact keep_cell hc4 f2_3
  have f3_4 : w4.cell? ⟨w.heap.size, 1, none⟩ = some (.int .i64 b) := by exact keep_cell hc4 f3_3
  have f5_4 : w4.cell? ⟨w1.heap.size, 0, none⟩ = some (.int .i64 p1) := by exact keep_cell hc4 f5_3
  have f6_4 : w4.cell? ⟨w1.heap.size, 1, none⟩ = some (.int .i64 q1) := by exact keep_cell hc4 f6_3
  have f8_4 : w4.cell? ⟨w2.heap.size, 0, none⟩ = some (.int .i64 p2) := by exact keep_cell hc4 f8_3
  have f9_4 : w4.cell? ⟨w2.heap.size, 1, none⟩ = some (.int .i64 q2) := by exact keep_cell hc4 f9_3
  have f11_4 : w4.cell? ⟨w3.heap.size, 0, none⟩ = some (.int .i64 p1) := by exact keep_cell hb4 (by simp [go_sem])
  have f12_4 : w4.cell? ⟨w3.heap.size, 1, none⟩ = some (.int .i64 q1) := by exact keep_cell hb4 (by simp [go_sem])
  have hq := hb4.size
  try simp at hq
  have hs4_0 : w.heap.size < w4.heap.size := by omega
  have hs4_1 : w1.heap.size < w4.heap.size := by omega
  have hs4_2 : w2.heap.size < w4.heap.size := by omega
  have hs4_3 : w3.heap.size < w4.heap.size := by omega
  clear hq hs3_0 hs3_1 hs3_2
  have HB4 := Lib.hid (Below.call HB3.out hc4)
  clear hb4 hc4 f2_3 f3_3 f5_3 f6_3 f8_3 f9_3
  go_wp2_with fail
  obtain ⟨W, hW⟩ : ∃ W, W = (w4.alloc (.cells #[.int .i64 p2, .int .i64 q2] 44)) := ⟨_, rfl⟩
  rw [← hW]
  have hb := (show Below w4.heap.size w4 W by rw [hW]; exact (Below.al (Below.refl _ _) _))
  have f2_W : W.cell? ⟨w.heap.size, 0, none⟩ = some (.int .i64 s) := by exact keep_cell hb f2_4
  have f3_W : W.cell? ⟨w.heap.size, 1, none⟩ = some (.int .i64 b) := by exact keep_cell hb f3_4
  have f5_W : W.cell? ⟨w1.heap.size, 0, none⟩ = some (.int .i64 p1) := by exact keep_cell hb f5_4
  have f6_W : W.cell? ⟨w1.heap.size, 1, none⟩ = some (.int .i64 q1) := by exact keep_cell hb f6_4
  have f8_W : W.cell? ⟨w2.heap.size, 0, none⟩ = some (.int .i64 p2) := by exact keep_cell hb f8_4
  have f9_W : W.cell? ⟨w2.heap.size, 1, none⟩ = some (.int .i64 q2) := by exact keep_cell hb f9_4
  have f11_W : W.cell? ⟨w3.heap.size, 0, none⟩ = some (.int .i64 p1) := by exact keep_cell hb f11_4
  have f12_W : W.cell? ⟨w3.heap.size, 1, none⟩ = some (.int .i64 q1) := by exact keep_cell hb f12_4
  have f13_W : W.cell? ⟨w4.heap.size, 0, none⟩ = some (.int .i64 p2) := by rw [hW]; simp [go_sem]
  have f14_W : W.cell? ⟨w4.heap.size, 1, none⟩ = some (.int .i64 q2) := by rw [hW]; simp [go_sem]
  have HBW := Lib.hid (Below.call HB4.out hb)
  clear hb hW f2_4 f3_4 f5_4 f6_4 f8_4 f9_4 f11_4 f12_4
  go_region_held3 (fun w' => w'.cell? ⟨w.heap.size, 0, none⟩ = some (.int .i64 s) ∧ w'.cell? ⟨w.heap.size, 1, none⟩ = some (.int .i64 b) ∧ w'.cell? ⟨w1.heap.size, 0, none⟩ = some (.int .i64 p1) ∧ w'.cell? ⟨w1.heap.size, 1, none⟩ = some (.int .i64 q1) ∧ w'.cell? ⟨w2.heap.size, 0, none⟩ = some (.int .i64 p2) ∧ w'.cell? ⟨w2.heap.size, 1, none⟩ = some (.int .i64 q2) ∧ w'.cell? ⟨w3.heap.size, 0, none⟩ = some (.int .i64 p1) ∧ w'.cell? ⟨w3.heap.size, 1, none⟩ = some (.int .i64 q1) ∧ w'.cell? ⟨w4.heap.size, 0, none⟩ = some (.int .i64 p2) ∧ w'.cell? ⟨w4.heap.size, 1, none⟩ = some (.int .i64 q2) ∧ Below W.heap.size W w')
    (first | exact ⟨f2_W, f3_W, f5_W, f6_W, f8_W, f9_W, f11_W, f12_W, f13_W, f14_W, (Below.refl _ _).drew⟩ | assumption | go_keep | (go_split_ands; exact ⟨keep_cell hbc (by assumption), keep_cell hbc (by assumption), keep_cell hbc (by assumption), keep_cell hbc (by assumption), keep_cell hbc (by assumption), keep_cell hbc (by assumption), keep_cell hbc (by assumption), keep_cell hbc (by assumption), keep_cell hbc (by assumption), keep_cell hbc (by assumption), Below.call (by assumption) hbc⟩))
    (first
      | (go_at_call 27; ((with_reducible refine (h5.out _).mono ?_); rintro e w9 ⟨rfl, hbc⟩))
      | (go_at_call 28; ((with_reducible refine (h6.out _).mono ?_); rintro e w9 ⟨rfl, hbc⟩))
      | (go_at_call 29; ((with_reducible refine (h7.out _).mono ?_); rintro e w9 ⟨rfl, hbc⟩)))
  go_wp2
  go_ret
  exact ⟨rt_b _ (by simp), Below.call HBW.out (by go_split_ands; assumption)⟩
end Go.Proofs.Ytdghekhkjkkgfaa
