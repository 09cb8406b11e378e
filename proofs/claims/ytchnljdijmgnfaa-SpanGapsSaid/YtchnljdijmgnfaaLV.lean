/- What must come of every program (layer 5). -/
import Derived.Test.YtchnljdijmgnfaaPT
import Derived.Test.YtchnljdijmgnfaaQS
import Derived.Test.YtchnljdijmgnfaaLI
import Derived.Test.YtchnljdijmgnfaaSC
namespace Go.Proofs.Ytchnljdijmgnfaa
open Go.RowKit
theorem Gapped.two {w w' : World} {xs : List (Int × Int)} {s : Int × Int} {e : Ending} (h : Gapped w xs s e w') : Gapped2 w xs s e w' := by
  obtain ⟨v, r, g, he, hj, hg, hl, hb⟩ := h
  exact ⟨v, g, he, fun r' hr' => hr'.unique hj ▸ hg, hl, hb⟩
theorem gaps2_any (v : Value) (xs : List (Int × Int)) (s : Int × Int) (hs : fits s.1 ∧ fits s.2) (w : World) (h : IsL w w.heap.size v xs) (hl : xs.length ≤ 1000) :
    Calls Try.prog 24 #[v, .agg #[.int .i64 s.1, .int .i64 s.2]] w (Gapped2 w xs s) := (gaps_any v xs s hs w h hl).mono fun _ _ h => h.two
theorem rgaps_any (v : Value) (xs : List (Int × Int)) (s : Int × Int) (hs : fits s.1 ∧ fits s.2) (w : World) (h : IsL w w.heap.size v xs) (hl : xs.length ≤ 1000) :
    Calls Try.prog 25 #[v, .agg #[.int .i64 s.1, .int .i64 s.2]] w (Gapped2 w xs s) := by
  by_cases he : s.2 < s.1
  · exact rgaps_0 v xs s w he
  · exact (rgaps_1 v xs s hs w h hl (by omega)).mono fun _ _ h => h.two
theorem join_lives : JoinR [(5, 7), (1, 2), (3, 3)] [(1, 3), (5, 7)] := by
  refine ⟨by unfold Norm; decide, fun n => ?_, by simp⟩
  simp only [mem_cons, mem_nil, or_false]
  constructor <;> intro h <;> omega
theorem gaps_lives : GapR [(1, 3), (5, 7)] (0, 9) [(0, 0), (4, 4), (8, 9)] := by
  refine ⟨by unfold Norm; decide, fun n => ?_, by simp, by simp [fits]⟩
  simp only [mem_cons, mem_nil, or_false]
  constructor <;> intro h <;> omega
theorem join_lives2 : JoinR [(1, 3), (5, 7)] [(1, 3), (5, 7)] := JoinR.self (by unfold Norm; decide)
set_option maxRecDepth 100000 in
set_option maxHeartbeats 4000000 in
theorem lives5 (w : World) : Calls Try.prog 11 #[] w fun e w' => e = .returned (.bool true) ∧ Below w.heap.size w w' := by
  have h1 : lenV (1, 3) = 3 := by decide
  have h2 : hasB (5, 7) 6 = true := by decide
  have h3 : meetsB (1, 3) (3, 9) = true := by decide
  have h4 : cutV (1, 3) (5, 7) = (0, -1) := by decide
  have h5 : hullV (1, 3) (5, 7) = (1, 7) := by decide
  have HL := Lib.hid (len_any (1, 3) (by decide) (by decide))
  have HH := Lib.hid (has_any (5, 7) 6)
  have HM := Lib.hid (meets_any (1, 3) (3, 9))
  have HC := Lib.hid (cut_any (1, 3) (5, 7))
  have HU := Lib.hid (hull_any (1, 3) (5, 7))
  rw [h1] at HL
  rw [h2] at HH
  rw [h3] at HM
  rw [h4] at HC
  rw [h5] at HU
  simp only at HL HH HM HC HU
  clear h1 h2 h3 h4 h5
  have HI := Lib.hid (show IsL (w.alloc (.cells #[.int .i64 5, .int .i64 7, .int .i64 1, .int .i64 2, .int .i64 3, .int .i64 3] 23)) (w.alloc (.cells #[.int .i64 5, .int .i64 7, .int .i64 1, .int .i64 2, .int .i64 3, .int .i64 3] 23)).heap.size (.slice (some ⟨w.heap.size, 0, none⟩) 3 3) [(5, 7), (1, 2), (3, 3)] from
    Own.isL (base := 0) ⟨World.ownsRow_lit w #[.int .i64 5, .int .i64 7, .int .i64 1, .int .i64 2, .int .i64 3, .int .i64 3] 3 (Nat.zero_le _) (by unfold maxLen; omega) rfl, by decide⟩ (by simp))
  have HB0 := Lib.hid ((Below.refl w.heap.size w).alloc (Nat.le_refl _) (.cells #[.int .i64 5, .int .i64 7, .int .i64 1, .int .i64 2, .int .i64 3, .int .i64 3] 23))
  go_enter Try.func11, Try.ntmps11
  go_wp2_with fail
  refine (join_any _ _ _ HI.out (by simp)).mono ?_
  rintro e w1 ⟨v1, r, rfl, hj, hv1, hb1, _⟩
  obtain rfl := hj.unique join_lives
  have HV1 := Lib.hid hv1
  have HB1 := Lib.hid (Below.call HB0.out hb1)
  obtain ⟨⟨A, cap, rfl, hcap, hA⟩, _, _⟩ := hv1
  obtain ⟨b, off, rfl, hbB, hc⟩ := hA (by simp)
  have l0_1 : w1.cell? ⟨b, off, none⟩ = some (.int .i64 1) := (hc 0 (by simp)).1
  have l1_1 : w1.cell? ⟨b, off + 1, none⟩ = some (.int .i64 3) := (hc 0 (by simp)).2
  have l2_1 : w1.cell? ⟨b, off + 2, none⟩ = some (.int .i64 5) := (hc 1 (by simp)).1
  have l3_1 : w1.cell? ⟨b, off + 2 + 1, none⟩ = some (.int .i64 7) := (hc 1 (by simp)).2
  clear hj hb1 hA hc hcap
  go_wp2_with fail
  refine (gaps2_any _ _ (0, 9) (by decide) _ HV1.out (by simp)).mono ?_
  rintro e w2 ⟨v2, g, rfl, hg, hv2, hb2⟩
  obtain rfl := (hg _ join_lives2).unique gaps_lives
  have l0_2 := keep_cell hb2 l0_1
  have l1_2 := keep_cell hb2 l1_1
  have l2_2 := keep_cell hb2 l2_1
  have l3_2 := keep_cell hb2 l3_1
  have HB2 := Lib.hid (Below.call HB1.out hb2)
  obtain ⟨⟨A2, cap2, rfl, hcap2, hA2⟩, _, _⟩ := hv2
  obtain ⟨b2, off2, rfl, hbB2, hc2⟩ := hA2 (by simp)
  have g0_2 : w2.cell? ⟨b2, off2 + 4, none⟩ = some (.int .i64 8) := (hc2 2 (by simp)).1
  have g1_2 : w2.cell? ⟨b2, off2 + 4 + 1, none⟩ = some (.int .i64 9) := (hc2 2 (by simp)).2
  clear hg hb2 hA2 hc2 hcap2 l0_1 l1_1 l2_1 l3_1
  go_wp2_with fail
  (try simp only [List.append_eq, List.cons_append, List.nil_append])
  go_region_held3 (fun w' => w'.cell? ⟨b, off, none⟩ = some (.int .i64 1) ∧ w'.cell? ⟨b, off + 1, none⟩ = some (.int .i64 3) ∧ w'.cell? ⟨b, off + 2, none⟩ = some (.int .i64 5) ∧ w'.cell? ⟨b, off + 2 + 1, none⟩ = some (.int .i64 7) ∧ w'.cell? ⟨b2, off2 + 4, none⟩ = some (.int .i64 8) ∧ w'.cell? ⟨b2, off2 + 4 + 1, none⟩ = some (.int .i64 9) ∧ Below w2.heap.size w2 w')
    (first | exact ⟨l0_2, l1_2, l2_2, l3_2, g0_2, g1_2, (Below.refl _ _).drew⟩ | go_keep | (go_split_ands; exact ⟨keep_cell hb (by assumption), keep_cell hb (by assumption), keep_cell hb (by assumption), keep_cell hb (by assumption), keep_cell hb (by assumption), keep_cell hb (by assumption), Below.call (by assumption) hb⟩))
    (first
      | (go_at_call 16; ((with_reducible refine (HL.out _).mono ?_); rintro e w1 ⟨rfl, hb⟩))
      | (go_at_call 18; ((with_reducible refine (HH.out _).mono ?_); rintro e w1 ⟨rfl, hb⟩))
      | (go_at_call 14; ((with_reducible refine (HM.out _).mono ?_); rintro e w1 ⟨rfl, hb⟩))
      | (go_at_call 9; ((with_reducible refine (HC.out _).mono ?_); rintro e w1 ⟨rfl, hb⟩))
      | (go_at_call 10; ((with_reducible refine (HU.out _).mono ?_); rintro e w1 ⟨rfl, hb⟩)))
  go_wp2
  go_ret
  exact ⟨ret_b rfl, Below.call HB2.out (by go_split_ands; assumption)⟩
end Go.Proofs.Ytchnljdijmgnfaa
