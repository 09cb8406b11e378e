/- What must come of every program (layer 12). -/
import Derived.Test.YtdghekhkjkkgfaaHG
namespace Go.Proofs.Ytdghekhkjkkgfaa
open Go.RowKit

theorem rt_b (b : Bool) (h : b = true) : Ending.returned (.bool b) = .returned (.bool true) := by rw [h]
set_option maxRecDepth 100000 in
set_option maxHeartbeats 4000000 in
theorem lives_any (w : World) : Calls Try.prog 27 #[] w fun e w' => e = .returned (.bool true) ∧ Below w.heap.size w w' := by
  have H1 := Lib.hid (fun w => take_any 1 0 2 w)
  rw [show tkV 1 0 2 = (2, 2) from rfl, show tkE 1 0 2 = 0 from rfl] at H1
  have H2 := Lib.hid (fun w => drop_any 2 2 1 w)
  rw [show dpV 2 2 1 = (0, 0) from rfl, show dpE 2 2 1 = 122 from rfl] at H2
  have H3 := Lib.hid (fun w => drop_any 2 2 2 w)
  rw [show dpV 2 2 2 = (3, 0) from rfl, show dpE 2 2 2 = 0 from rfl] at H3
  have H4 := Lib.hid (fun v w h => next_any v [(3, 0), (1, 0)] 0 (by unfold fits; omega) w h)
  rw [show fstV (frP [(3, 0), (1, 0)] 0) [((3 : Int), (0 : Int)), (1, 0)].length = (1, true) from rfl] at H4
  have H5 := Lib.hid (fun v w h => count_any v [(3, 0), (2, 2)] w h)
  rw [show tot [(3, 0), (2, 2)] = .tuple #[.int .i64 0, .int .i64 1, .int .i64 1] from rfl] at H5
  have H6 := Lib.hid (fun v w h => held_any v [(3, 0), (2, 2)] 2 w h)
  rw [show fstV (hdP [(3, 0), (2, 2)] 2 0) [((3 : Int), (0 : Int)), (2, 2)].length = (1, true) from rfl] at H6
  have H7 := Lib.hid (fun w => right_any 3 0 w)
  rw [show (!(ofV 3 0 == 0)) = true from rfl] at H7
  have HOK : ∀ a b : Int, 0 ≤ a → a ≤ 3 → 0 ≤ b → b ≤ 3 → KT.ok (a, b) := fun a b _ _ _ _ => ⟨show fits a by unfold fits; omega, show fits b by unfold fits; omega⟩
  have HL1 := Lib.hid (show ∀ x ∈ [((3 : Int), (0 : Int)), (1, 0)], KT.ok x from fun x hx => by
    simp only [List.mem_cons, List.not_mem_nil, or_false] at hx
    rcases hx with rfl | rfl <;> exact HOK _ _ (by decide) (by decide) (by decide) (by decide))
  have HL2 := Lib.hid (show ∀ x ∈ [((3 : Int), (0 : Int)), (2, 2)], KT.ok x from fun x hx => by
    simp only [List.mem_cons, List.not_mem_nil, or_false] at hx
    rcases hx with rfl | rfl <;> exact HOK _ _ (by decide) (by decide) (by decide) (by decide))
  clear HOK
  go_enter Try.func27, Try.ntmps27
  go_wp2_with fail
  refine (H1.out _).mono ?_
  rintro e w1 ⟨rfl, hb1⟩
  have HB1 := Lib.hid hb1
  have hs1 := hb1.size
  clear hb1
  go_wp2_with fail
  obtain ⟨v1, hv1⟩ : ∃ v1, v1 = w1.alloc (.cells #[.int .i64 2, .int .i64 2] 44) := ⟨_, rfl⟩
  have c0 : v1.cell? ⟨w1.heap.size, 0, none⟩ = some (.int .i64 2) := by rw [hv1, alloc_at]; rfl
  have c1 : v1.cell? ⟨w1.heap.size, 1, none⟩ = some (.int .i64 2) := by rw [hv1, alloc_at]; rfl
  have HV1 := Lib.hid (show Below w.heap.size w v1 by rw [hv1]; exact Below.al HB1.out _)
  rw [← hv1]
  clear hv1 hs1
  generalize w1.heap.size = G1 at *
  refine (H2.out _).mono ?_
  rintro e w2 ⟨rfl, hb2⟩
  have d0 := keep_cell hb2 c0
  have d1 := keep_cell hb2 c1
  have HV2 := Lib.hid (Below.call HV1.out hb2)
  clear hb2 c0 c1 HB1 HV1
  obtain ⟨v2, hv2⟩ : ∃ v2, v2 = w2.alloc (.cells #[.int .i64 0, .int .i64 0] 44) := ⟨_, rfl⟩
  have c0 : v2.cell? ⟨G1, 0, none⟩ = some (.int .i64 2) := by rw [hv2]; exact keep_cell (Below.al (Below.refl _ _) _) d0
  have c1 : v2.cell? ⟨G1, 1, none⟩ = some (.int .i64 2) := by rw [hv2]; exact keep_cell (Below.al (Below.refl _ _) _) d1
  have HV3 := Lib.hid (show Below w.heap.size w v2 by rw [hv2]; exact Below.al HV2.out _)
  have hg : G1 < w2.heap.size := World.block_lt_of_cell? w2 _ d0
  go_wp2_with fail
  rw [← hv2]
  clear hv2 d0 d1 HV2 hg
  refine (H3.out _).mono ?_
  rintro e w3 ⟨rfl, hb3⟩
  have d0 := keep_cell hb3 c0
  have d1 := keep_cell hb3 c1
  have HV4 := Lib.hid (Below.call HV3.out hb3)
  clear hb3 c0 c1 HV3
  obtain ⟨v3, hv3⟩ : ∃ v3, v3 = w3.alloc (.cells #[.int .i64 3, .int .i64 0] 44) := ⟨_, rfl⟩
  have c0 : v3.cell? ⟨G1, 0, none⟩ = some (.int .i64 2) := by rw [hv3]; exact keep_cell (Below.al (Below.refl _ _) _) d0
  have c1 : v3.cell? ⟨G1, 1, none⟩ = some (.int .i64 2) := by rw [hv3]; exact keep_cell (Below.al (Below.refl _ _) _) d1
  have c2 : v3.cell? ⟨w3.heap.size, 0, none⟩ = some (.int .i64 3) := by rw [hv3, alloc_at]; rfl
  have c3 : v3.cell? ⟨w3.heap.size, 1, none⟩ = some (.int .i64 0) := by rw [hv3, alloc_at]; rfl
  have hs3 : v3.heap.size = w3.heap.size + 1 := by rw [hv3]; simp
  have HV5 := Lib.hid (show Below w.heap.size w v3 by rw [hv3]; exact Below.al HV4.out _)
  have hg : G1 < w3.heap.size := World.block_lt_of_cell? w3 _ d0
  go_wp2_with fail
  rw [← hv3]
  clear hv3 d0 d1 HV4
  generalize w3.heap.size = G3 at *
  have HQ := Lib.hid (show KT.IsL (v3.alloc (.cells #[.int .i64 3, .int .i64 0, .int .i64 1, .int .i64 0] 44)) (v3.alloc (.cells #[.int .i64 3, .int .i64 0, .int .i64 1, .int .i64 0] 44)).heap.size (.slice (some ⟨G3 + 1, 0, none⟩) 2 2) [(3, 0), (1, 0)] from
    (Lk.IsL.lits (K := KT) v3 [(3, 0), (1, 0)] #[.int .i64 3, .int .i64 0, .int .i64 1, .int .i64 0] HL1.out rfl (by simp) (G3 + 1) hs3).more (by simp; omega))
  clear hs3
  refine (H4.out _ _ HQ.out).mono ?_
  rintro e w4 ⟨rfl, hb4⟩
  have b4 := Below.box _ hb4
  have HB4 := Lib.hid (Below.call HV5.out b4)
  have d0 := keep_cell b4 c0
  have d1 := keep_cell b4 c1
  have d2 := keep_cell b4 c2
  have d3 := keep_cell b4 c3
  clear hb4 b4 c0 c1 c2 c3 HV5 HQ
  go_wp2_with fail
  have HQ := Lib.hid (show KT.IsL (w4.alloc (.cells #[.int .i64 3, .int .i64 0, .int .i64 2, .int .i64 2] 44)) (w4.alloc (.cells #[.int .i64 3, .int .i64 0, .int .i64 2, .int .i64 2] 44)).heap.size (.slice (some ⟨w4.heap.size, 0, none⟩) 2 2) [(3, 0), (2, 2)] from
    (Lk.IsL.lits (K := KT) w4 [(3, 0), (2, 2)] #[.int .i64 3, .int .i64 0, .int .i64 2, .int .i64 2] HL2.out rfl (by simp) w4.heap.size rfl).more (by simp))
  refine (H5.out _ _ HQ.out).mono ?_
  rintro e w5 ⟨rfl, hb5⟩
  have b5 := Below.box _ hb5
  have HB5 := Lib.hid (Below.call HB4.out b5)
  have c0 := keep_cell b5 d0
  have c1 := keep_cell b5 d1
  have c2 := keep_cell b5 d2
  have c3 := keep_cell b5 d3
  clear hb5 b5 d0 d1 d2 d3 HB4 HQ
  go_wp2_with fail
  have HQ := Lib.hid (show KT.IsL (w5.alloc (.cells #[.int .i64 3, .int .i64 0, .int .i64 2, .int .i64 2] 44)) (w5.alloc (.cells #[.int .i64 3, .int .i64 0, .int .i64 2, .int .i64 2] 44)).heap.size (.slice (some ⟨w5.heap.size, 0, none⟩) 2 2) [(3, 0), (2, 2)] from
    (Lk.IsL.lits (K := KT) w5 [(3, 0), (2, 2)] #[.int .i64 3, .int .i64 0, .int .i64 2, .int .i64 2] HL2.out rfl (by simp) w5.heap.size rfl).more (by simp))
  refine (H6.out _ _ HQ.out).mono ?_
  rintro e w6 ⟨rfl, hb6⟩
  have b6 := Below.box _ hb6
  have HB6 := Lib.hid (Below.call HB5.out b6)
  have d0 := keep_cell b6 c0
  have d1 := keep_cell b6 c1
  have d2 := keep_cell b6 c2
  have d3 := keep_cell b6 c3
  clear hb6 b6 c0 c1 c2 c3 HB5 HQ
  go_wp2_with fail
  refine (H7.out _).mono ?_
  rintro e w7 ⟨rfl, hb7⟩
  have HB7 := Lib.hid (Below.call HB6.out hb7)
  clear hb7
  go_wp2
  go_ret
  exact ⟨rt_b _ (by simp), HB7.out⟩
end Go.Proofs.Ytdghekhkjkkgfaa
