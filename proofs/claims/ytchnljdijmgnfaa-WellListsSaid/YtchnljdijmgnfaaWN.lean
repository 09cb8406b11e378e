/- What must come of every program (layer 6). -/
import Derived.Test.YtchnljdijmgnfaaWL
namespace Go.Proofs.Ytchnljdijmgnfaa
open Go.RowKit
theorem isl_two {w : World} {b off cap : Nat} (hb : b < w.heap.size) (h0 : w.cell? ⟨b, off, none⟩ = some (.int .i64 0)) (h1 : w.cell? ⟨b, off + 1, none⟩ = some (.int .i64 0)) (h2 : w.cell? ⟨b, off + 2, none⟩ = some (.int .i64 0)) (h3 : w.cell? ⟨b, off + 2 + 1, none⟩ = some (.int .i64 1)) (hc : 2 ≤ cap) :
    IsL w w.heap.size (.slice (some ⟨b, off, none⟩) 2 cap) [(0, 0), (0, 1)] := by
  refine ⟨⟨_, cap, rfl, hc, fun _ => ⟨b, off, rfl, hb, fun i hi => ?_⟩⟩, by decide, by simp⟩
  match i, hi with
  | 0, _ => exact ⟨h0, h1⟩
  | 1, _ => exact ⟨h2, h3⟩
theorem text_two {w : World} {b off cap : Nat} (hb : b < w.heap.size) (h0 : w.cell? ⟨b, off, none⟩ = some (.int .i64 0)) (h1 : w.cell? ⟨b, off + 1, none⟩ = some (.int .i64 0)) (h2 : w.cell? ⟨b, off + 2, none⟩ = some (.int .i64 0)) (h3 : w.cell? ⟨b, off + 2 + 1, none⟩ = some (.int .i64 1)) (hc : 2 ≤ cap) :
    Calls Try.prog 36 #[.slice (some ⟨b, off, none⟩) 2 cap] w fun e w' => e = .returned (.string ⟨#[65, 49, 44, 65, 50]⟩) ∧ Below w.heap.size w w' := by
  have h := wtext_any _ _ w (isl_two hb h0 h1 h2 h3 hc) (by simp)
  rw [live6] at h
  exact h
set_option maxRecDepth 100000 in
set_option maxHeartbeats 4000000 in
theorem lives6_any (w : World) : Calls Try.prog 29 #[] w fun e w' => e = .returned (.bool true) ∧ Below w.heap.size w w' := by
  have HL1 := Lib.hid (list_any ⟨[65, 49, 58, 66, 50, 44, 65, 65, 49, 48].toArray⟩ [65, 49, 58, 66, 50, 44, 65, 65, 49, 48] ⟨rfl⟩ (by simp))
  have HL2 := Lib.hid (list_any ⟨[65, 49, 44, 66, 48].toArray⟩ [65, 49, 44, 66, 48] ⟨rfl⟩ (by simp))
  have HP := Lib.hid (wparse_any ⟨[65, 70, 52, 56].toArray⟩ [65, 70, 52, 56] ⟨rfl⟩ (by simp))
  have HN := Lib.hid (name_any (26, 9))
  have HR := Lib.hid (right_any (31, 47))
  rw [live1] at HL1
  rw [live2] at HL2
  rw [live3, live4] at HP
  rw [live5] at HN
  rw [show rightB (31, 47) = true by decide] at HR
  simp only at HP HN HR
  go_enter Try.func29, Try.ntmps29
  go_wp2_with fail
  refine (HL1.out _).mono ?_
  rintro e w1 ⟨v1, rfl, hv1, hb1⟩
  have HB1 := Lib.hid hb1
  obtain ⟨⟨A, cap, rfl, hcap, hA⟩, _, _⟩ := hv1.isL (by simp)
  obtain ⟨b, off, rfl, hbB, hc⟩ := hA (by simp)
  have l0_1 : w1.cell? ⟨b, off, none⟩ = some (.int .i64 0) := (hc 0 (by simp)).1
  have l1_1 : w1.cell? ⟨b, off + 1, none⟩ = some (.int .i64 0) := (hc 0 (by simp)).2
  have l2_1 : w1.cell? ⟨b, off + 2, none⟩ = some (.int .i64 0) := (hc 1 (by simp)).1
  have l3_1 : w1.cell? ⟨b, off + 2 + 1, none⟩ = some (.int .i64 1) := (hc 1 (by simp)).2
  have l4_1 : w1.cell? ⟨b, off + 4, none⟩ = some (.int .i64 1) := (hc 2 (by simp)).1
  have l5_1 : w1.cell? ⟨b, off + 4 + 1, none⟩ = some (.int .i64 0) := (hc 2 (by simp)).2
  have l6_1 : w1.cell? ⟨b, off + 8, none⟩ = some (.int .i64 26) := (hc 4 (by simp)).1
  have l7_1 : w1.cell? ⟨b, off + 8 + 1, none⟩ = some (.int .i64 9) := (hc 4 (by simp)).2
  have hcap5 : 5 ≤ cap := hcap
  clear hv1 hb1 hA hc hcap
  go_wp2_with fail
  refine (HP.out _).mono ?_
  rintro e w2 ⟨rfl, hb2⟩
  have l0_2 := keep_cell hb2 l0_1
  have l1_2 := keep_cell hb2 l1_1
  have l2_2 := keep_cell hb2 l2_1
  have l3_2 := keep_cell hb2 l3_1
  have l4_2 := keep_cell hb2 l4_1
  have l5_2 := keep_cell hb2 l5_1
  have l6_2 := keep_cell hb2 l6_1
  have l7_2 := keep_cell hb2 l7_1
  have HB2 := Lib.hid (Below.call HB1.out hb2)
  have hb_2 : b < w2.heap.size := by have := hb2.size; omega
  clear hb2 l0_1 l1_1 l2_1 l3_1 l4_1 l5_1 l6_1 l7_1
  go_wp2_with fail
  refine (HL2.out _).mono ?_
  rintro e w3 ⟨v3, rfl, _, hb3⟩
  have l0_3 := keep_cell hb3 ((World.cell?_alloc_lt _ _ _ hb_2).trans l0_2)
  have l1_3 := keep_cell hb3 ((World.cell?_alloc_lt _ _ _ hb_2).trans l1_2)
  have l2_3 := keep_cell hb3 ((World.cell?_alloc_lt _ _ _ hb_2).trans l2_2)
  have l3_3 := keep_cell hb3 ((World.cell?_alloc_lt _ _ _ hb_2).trans l3_2)
  have l4_3 := keep_cell hb3 ((World.cell?_alloc_lt _ _ _ hb_2).trans l4_2)
  have l5_3 := keep_cell hb3 ((World.cell?_alloc_lt _ _ _ hb_2).trans l5_2)
  have l6_3 := keep_cell hb3 ((World.cell?_alloc_lt _ _ _ hb_2).trans l6_2)
  have l7_3 := keep_cell hb3 ((World.cell?_alloc_lt _ _ _ hb_2).trans l7_2)
  have p0_3 := keep_cell (a := ⟨w2.heap.size, 0, none⟩) (v := .int .i64 31) hb3 (by go_simp)
  have p1_3 := keep_cell (a := ⟨w2.heap.size, 1, none⟩) (v := .int .i64 47) hb3 (by go_simp)
  have hb_3 : b < w3.heap.size := by have := hb3.size; simp at this; omega
  have HB3 := Lib.hid (Below.call (HB2.out.alloc (by have := HB2.out.size; omega) (.cells #[.int .i64 31, .int .i64 47] 38)) hb3)
  generalize w2.heap.size = P at *
  clear hb3 hb_2 l0_2 l1_2 l2_2 l3_2 l4_2 l5_2 l6_2 l7_2
  simp only
  go_wp2_with fail
  refine (HN.out _).mono ?_
  rintro e w4 ⟨rfl, hb4⟩
  have l0_4 := keep_cell hb4 l0_3
  have l1_4 := keep_cell hb4 l1_3
  have l2_4 := keep_cell hb4 l2_3
  have l3_4 := keep_cell hb4 l3_3
  have l4_4 := keep_cell hb4 l4_3
  have l5_4 := keep_cell hb4 l5_3
  have l6_4 := keep_cell hb4 l6_3
  have l7_4 := keep_cell hb4 l7_3
  have p0_4 := keep_cell hb4 p0_3
  have p1_4 := keep_cell hb4 p1_3
  have hb_4 : b < w4.heap.size := by have := hb4.size; omega
  have HB4 := Lib.hid (Below.call HB3.out hb4)
  clear hb4 hb_3 p0_3 p1_3 l0_3 l1_3 l2_3 l3_3 l4_3 l5_3 l6_3 l7_3
  go_wp2_with fail
  refine (HR.out _).mono ?_
  rintro e w5 ⟨rfl, hb5⟩
  have l0_5 := keep_cell hb5 l0_4
  have l1_5 := keep_cell hb5 l1_4
  have l2_5 := keep_cell hb5 l2_4
  have l3_5 := keep_cell hb5 l3_4
  have l4_5 := keep_cell hb5 l4_4
  have l5_5 := keep_cell hb5 l5_4
  have l6_5 := keep_cell hb5 l6_4
  have l7_5 := keep_cell hb5 l7_4
  have hb_5 : b < w5.heap.size := by have := hb5.size; omega
  have HB5 := Lib.hid (Below.call HB4.out hb5)
  clear hb5 hb_4 p0_4 p1_4 l0_4 l1_4 l2_4 l3_4 l4_4 l5_4 l6_4 l7_4
  go_wp2_with fail
  refine (text_two hb_5 l0_5 l1_5 l2_5 l3_5 (by omega)).mono ?_
  rintro e w6 ⟨rfl, hb6⟩
  have HB6 := Lib.hid (Below.call HB5.out hb6)
  clear hb6
  go_wp2
  go_ret
  exact ⟨ret_b rfl, HB6.out⟩
end Go.Proofs.Ytchnljdijmgnfaa
