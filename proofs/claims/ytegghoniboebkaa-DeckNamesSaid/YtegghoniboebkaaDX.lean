/- What must come of every program (layer 8): the walk. -/
import Derived.Test.YtegghoniboebkaaDW
namespace Go.Proofs.Ytegghoniboebkaa
open Go.RowKit
/-- What is known of the example's deck. -/
structure Lit (d : Dk) : Prop where
  chk : dchk d = 0
  cnt : cntV d = (6, 2, 2)
  part : partV d 4 = (⟨1, 0, 1, 1⟩, 0)
  id : idV d ⟨3, 1, 0, 0⟩ = (9, 0)
  find : findV d [84, 48, 46, 65, 50] = (7, 0)
  name : nameV d 9 = [76, 49]
  cap : capV d 3 = 100
  start : startV d 0 = 5
theorem little_d (w : World) : Calls Try.prog 44 #[] w fun e w' => ∃ d : Dk, e = .returned (.agg #[.slice d.bA d.bn d.bc, .slice d.pA d.pn d.pc, .slice d.rA d.rn d.rc, .int .i64 d.arms]) ∧ d.In w' w'.heap.size ∧ Below w.heap.size w w' ∧ Lit d := by
  refine (little_any w).mono ?_
  rintro e w' ⟨A, P, R, S, rfl, hin, hb⟩
  exact ⟨_, rfl, hin, hb, ⟨lit_chk A P R S, lit_cnt A P R S, lit_part4 A P R S, lit_id9 A P R S, lit_find A P R S, lit_name A P R S, lit_cap A P R S, lit_start A P R S⟩⟩
set_option maxRecDepth 100000 in
set_option maxHeartbeats 8000000 in
theorem lives8 (w : World) : Calls Try.prog 22 #[] w fun e w' => e = .returned (.bool true) ∧ Below w.heap.size w w' := by
  go_enter Try.func22, Try.ntmps22
  go_wp2_with fail
  refine (little_d _).mono ?_
  rintro e w1 ⟨d, rfl, hin, hb1, hlit⟩
  have HLIT := Lib.hid hlit
  have HI1 := Lib.hid hin
  have HB1 := Lib.hid hb1
  clear hin hb1 hlit
  have h1 := HI1.out.b.len
  have h2 := HI1.out.p.len
  have h3 := HI1.out.r.len
  have HC := Lib.hid (fun w h => counts_any d w h)
  have HP := Lib.hid (fun w h => part_any d 4 (by decide) w h)
  have HID := Lib.hid (fun w h => id_any d ⟨3, 1, 0, 0⟩ w h)
  have HF := Lib.hid (fun w h => find_any d ⟨#[84, 48, 46, 65, 50]⟩ [84, 48, 46, 65, 50] ⟨rfl⟩ (by decide) w h)
  have HK := Lib.hid (fun w h => dcheck_any d w h)
  have HN := Lib.hid (fun w h => dname_any d 9 (by decide) w h)
  have HCA := Lib.hid (fun w h => cap_any d 3 (by decide) w h)
  have HS := Lib.hid (fun w h => start_any d 0 (by decide) w h)
  rw [HLIT.out.cnt] at HC
  rw [HLIT.out.part] at HP
  rw [HLIT.out.id] at HID
  rw [HLIT.out.find] at HF
  rw [HLIT.out.chk] at HK
  rw [HLIT.out.name] at HN
  rw [HLIT.out.cap] at HCA
  rw [HLIT.out.start] at HS
  unfold partVal at HP
  dsimp only at HC HP HID HF
  clear HLIT h1 h2 h3
  go_wp2_with fail
  obtain ⟨w2, hw2⟩ : ∃ w2, w2 = w1.alloc (.cells #[.slice d.bA d.bn d.bc, .slice d.pA d.pn d.pc, .slice d.rA d.rn d.rc, .int .i64 d.arms] 44) := ⟨_, rfl⟩
  obtain ⟨b, hb⟩ : ∃ b, b = w1.heap.size := ⟨_, rfl⟩
  have HX := Lib.hid (show ∀ w3, Below w2.heap.size w2 w3 → b < w3.heap.size ∧ (w3.cell? ⟨b, 0, none⟩ = some (.slice d.bA d.bn d.bc) ∧ w3.cell? ⟨b, 1, none⟩ = some (.slice d.pA d.pn d.pc) ∧ w3.cell? ⟨b, 2, none⟩ = some (.slice d.rA d.rn d.rc) ∧ w3.cell? ⟨b, 3, none⟩ = some (.int .i64 d.arms)) from by
    intro w3 h
    refine ⟨Nat.lt_of_lt_of_le (by rw [hw2, hb]; simp) h.size, keep_cell h ?_, keep_cell h ?_, keep_cell h ?_, keep_cell h ?_⟩
    all_goals (rw [hw2, hb]; simp))
  have HB2 := Lib.hid (show Below w.heap.size w w2 by rw [hw2]; exact Below.al HB1.out _)
  have HI2 := Lib.hid (HI1.out.then (show Below w1.heap.size w1 w2 by rw [hw2]; exact Below.al (Below.refl _ _) _))
  rw [← hw2, ← hb]
  clear hw2 hb HB1 HI1
  refine (HC.out _ HI2.out).mono ?_
  rintro e w3 ⟨rfl, hb3⟩
  have HB3 := Lib.hid hb3
  clear hb3
  obtain ⟨hz, d0, d1, d2, d3⟩ := HX.out _ HB3.out
  go_wp2_with fail
  clear d0 d1 d2 d3 hz
  refine (HP.out _ (HI2.out.then HB3.out)).mono ?_
  rintro e w4 ⟨rfl, hb4⟩
  have HB4 := Lib.hid (Below.call HB3.out hb4)
  clear hb4 HB3
  obtain ⟨hz, d0, d1, d2, d3⟩ := HX.out _ HB4.out
  go_wp2_with fail
  clear d0 d1 d2 d3 hz
  obtain ⟨w5, hw5⟩ : ∃ w5, w5 = w4.alloc (.cells #[.int .i64 1, .int .i64 0, .int .i64 1, .int .i64 1] 50) := ⟨_, rfl⟩
  obtain ⟨g, hg⟩ : ∃ g, g = w4.heap.size := ⟨_, rfl⟩
  have HY := Lib.hid (show ∀ w6, Below w5.heap.size w5 w6 → g < w6.heap.size ∧ (w6.cell? ⟨g, 0, none⟩ = some (.int .i64 1) ∧ w6.cell? ⟨g, 1, none⟩ = some (.int .i64 0) ∧ w6.cell? ⟨g, 2, none⟩ = some (.int .i64 1) ∧ w6.cell? ⟨g, 3, none⟩ = some (.int .i64 1)) from by
    intro w3 h
    refine ⟨Nat.lt_of_lt_of_le (by rw [hw5, hg]; simp) h.size, keep_cell h ?_, keep_cell h ?_, keep_cell h ?_, keep_cell h ?_⟩
    all_goals (rw [hw5, hg]; simp))
  have HB5 := Lib.hid (show Below w2.heap.size w2 w5 by rw [hw5]; exact Below.al HB4.out _)
  rw [← hw5, ← hg]
  clear hw5 hg HB4
  refine (HID.out _ (HI2.out.then HB5.out)).mono ?_
  rintro e w6 ⟨rfl, hb6⟩
  have HB6 := Lib.hid hb6
  clear hb6
  obtain ⟨hz, d0, d1, d2, d3⟩ := HX.out _ (Below.call HB5.out HB6.out)
  go_wp2_with fail
  clear d0 d1 d2 d3 hz
  refine (HF.out _ (HI2.out.then (Below.call HB5.out HB6.out))).mono ?_
  rintro e w7 ⟨rfl, hb7⟩
  have HB7 := Lib.hid (Below.call HB6.out hb7)
  clear hb7 HB6
  obtain ⟨hz, d0, d1, d2, d3⟩ := HX.out _ (Below.call HB5.out HB7.out)
  obtain ⟨hy, y0, y1, y2, y3⟩ := HY.out _ HB7.out
  go_wp2_with fail
  clear d0 d1 d2 d3 hz hy y0 y1 y2 y3
  refine (HK.out _ (HI2.out.then (Below.call HB5.out HB7.out))).mono ?_
  rintro e w8 ⟨rfl, hb8⟩
  have HB8 := Lib.hid (Below.call HB7.out hb8)
  clear hb8 HB7
  obtain ⟨hz, d0, d1, d2, d3⟩ := HX.out _ (Below.call HB5.out HB8.out)
  obtain ⟨hy, y0, y1, y2, y3⟩ := HY.out _ HB8.out
  go_wp2_with fail
  clear d0 d1 d2 d3 hz hy y0 y1 y2 y3
  refine (HN.out _ (HI2.out.then (Below.call HB5.out HB8.out))).mono ?_
  rintro e w9 ⟨rfl, hb9⟩
  have HB9 := Lib.hid (Below.call HB8.out hb9)
  clear hb9 HB8
  obtain ⟨hz, d0, d1, d2, d3⟩ := HX.out _ (Below.call HB5.out HB9.out)
  go_wp2_with fail
  clear d0 d1 d2 d3 hz
  refine (HCA.out _ (HI2.out.then (Below.call HB5.out HB9.out))).mono ?_
  rintro e w10 ⟨rfl, hb10⟩
  have HB10 := Lib.hid (Below.call HB9.out hb10)
  clear hb10 HB9
  obtain ⟨hz, d0, d1, d2, d3⟩ := HX.out _ (Below.call HB5.out HB10.out)
  go_wp2_with fail
  clear d0 d1 d2 d3 hz
  refine (HS.out _ (HI2.out.then (Below.call HB5.out HB10.out))).mono ?_
  rintro e w11 ⟨rfl, hb11⟩
  have HB11 := Lib.hid (Below.call HB10.out hb11)
  clear hb11 HB10
  go_wp2_with fail
  go_ret
  exact ⟨rfl, Below.call (Below.call HB2.out HB5.out) HB11.out⟩
end Go.Proofs.Ytegghoniboebkaa
