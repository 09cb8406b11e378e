/- The law on the part of an id, the id of a part, names, capacities and starts. -/
import Derived.Test.YtegghoniboebkaaDY
namespace Go.Proofs.Ytegghoniboebkaa
open Go.RowKit
set_option maxRecDepth 100000 in
set_option maxHeartbeats 8000000 in
theorem deckParts_walk (d : Dk) (id : Int) (p : Q4) (hid : fits id) (w : World) (hd : d.In w w.heap.size) : Calls Try.prog 8 #[d.v, .int .i64 id, p.v] w (Good8 w) := by
  have HD := Lib.hid hd
  have HLG := Lib.hid (fun w h => large_any d w h)
  have HLV := Lib.hid (fun w => lives8 w)
  have HP := Lib.hid (fun w h => part_any d id hid w h)
  have HRP := Lib.hid (fun w h => rpart_any d id hid w h)
  have HI := Lib.hid (fun w h => id_any d p w h)
  have HRI := Lib.hid (fun w h => rid_any d p w h)
  have HN := Lib.hid (fun w h => dname_any d id hid w h)
  have HRN := Lib.hid (fun w h => rname_id d id hid w h)
  have HCA := Lib.hid (fun w h => cap_any d id hid w h)
  have HRCA := Lib.hid (fun w h => rcap_any d id hid w h)
  have HS := Lib.hid (fun w h => start_any d id hid w h)
  have HRS := Lib.hid (fun w h => rstart_any d id hid w h)
  obtain ⟨w0, hw0⟩ : ∃ w0, w0 = (w.alloc (.cells #[.slice d.bA d.bn d.bc, .slice d.pA d.pn d.pc, .slice d.rA d.rn d.rc, .int .i64 d.arms] 44)).alloc (.cells #[.int .i64 p.a, .int .i64 p.b, .int .i64 p.c, .int .i64 p.d] 50) := ⟨_, rfl⟩
  have HB0 := Lib.hid (show Below w.heap.size w w0 by rw [hw0]; exact Below.al (Below.al (Below.refl _ _) _) _)
  have HD0 := Lib.hid (HD.out.then HB0.out)
  obtain ⟨b, hb⟩ : ∃ b, b = w.heap.size := ⟨_, rfl⟩
  have HX := Lib.hid (show ∀ w3, Below w0.heap.size w0 w3 → b + 1 < w3.heap.size ∧ (w3.cell? ⟨b, 0, none⟩ = some (.slice d.bA d.bn d.bc) ∧ w3.cell? ⟨b, 1, none⟩ = some (.slice d.pA d.pn d.pc) ∧ w3.cell? ⟨b, 2, none⟩ = some (.slice d.rA d.rn d.rc) ∧ w3.cell? ⟨b, 3, none⟩ = some (.int .i64 d.arms)) ∧
    (w3.cell? ⟨b + 1, 0, none⟩ = some (.int .i64 p.a) ∧ w3.cell? ⟨b + 1, 1, none⟩ = some (.int .i64 p.b) ∧ w3.cell? ⟨b + 1, 2, none⟩ = some (.int .i64 p.c) ∧ w3.cell? ⟨b + 1, 3, none⟩ = some (.int .i64 p.d)) from by
    intro w3 h
    refine ⟨Nat.lt_of_lt_of_le (by rw [hw0, hb]; simp) h.size, ⟨keep_cell h ?_, keep_cell h ?_, keep_cell h ?_, keep_cell h ?_⟩, keep_cell h ?_, keep_cell h ?_, keep_cell h ?_, keep_cell h ?_⟩
    all_goals (rw [hw0, hb]; simp))
  unfold partVal at HP HRP
  generalize partV d id = pv at *
  generalize idV d p = iv at *
  generalize nameV d id = nv at *
  generalize capV d id = cv at *
  generalize startV d id = sv at *
  obtain ⟨⟨qa, qb, qc, qd⟩, er⟩ := pv
  obtain ⟨ix, ie⟩ := iv
  dsimp only at *
  clear hd hid
  cases hlg : largeB d
  · rw [hlg] at HLG
    clear hlg
    go_enter Try.func8, Try.ntmps8
    go_wp2_with fail
    rw [← hw0, ← hb]
    clear hw0 hb
    refine (HLG.out _ HD0.out).mono ?_
    rintro e w1 ⟨rfl, hb1⟩
    have HB1 := Lib.hid hb1
    clear hb1
    obtain ⟨hz, ⟨d0, d1, d2, d3⟩, _⟩ := HX.out _ HB1.out
    have hz' : b < w1.heap.size := by omega
    go_wp2_with fail
    clear d0 d1 d2 d3 hz hz'
    refine (HP.out _ (HD0.out.then HB1.out)).mono ?_
    rintro e w2 ⟨rfl, hb2⟩
    have HB2 := Lib.hid (Below.call HB1.out hb2)
    clear hb2 HB1
    obtain ⟨hz, ⟨d0, d1, d2, d3⟩, _⟩ := HX.out _ HB2.out
    have hz' : b < w2.heap.size := by omega
    go_wp2_with fail
    clear d0 d1 d2 d3 hz hz'
    obtain ⟨w3, hw3⟩ : ∃ w3, w3 = w2.alloc (.cells #[.int .i64 qa, .int .i64 qb, .int .i64 qc, .int .i64 qd] 50) := ⟨_, rfl⟩
    obtain ⟨g, hg⟩ : ∃ g, g = w2.heap.size := ⟨_, rfl⟩
    have HY := Lib.hid (show ∀ w6, Below w3.heap.size w3 w6 → g < w6.heap.size ∧ (w6.cell? ⟨g, 0, none⟩ = some (.int .i64 qa) ∧ w6.cell? ⟨g, 1, none⟩ = some (.int .i64 qb) ∧ w6.cell? ⟨g, 2, none⟩ = some (.int .i64 qc) ∧ w6.cell? ⟨g, 3, none⟩ = some (.int .i64 qd)) from by
      intro w6 h
      refine ⟨Nat.lt_of_lt_of_le (by rw [hw3, hg]; simp) h.size, keep_cell h ?_, keep_cell h ?_, keep_cell h ?_, keep_cell h ?_⟩
      all_goals (rw [hw3, hg]; simp))
    have HB3 := Lib.hid (show Below w0.heap.size w0 w3 by rw [hw3]; exact Below.al HB2.out _)
    rw [← hw3, ← hg]
    clear hw3 hg HB2
    refine (HRP.out _ (HD0.out.then HB3.out)).mono ?_
    rintro e w4 ⟨rfl, hb4⟩
    have HB4 := Lib.hid hb4
    clear hb4
    obtain ⟨hz, ⟨d0, d1, d2, d3⟩, ⟨p0, p1, p2, p3⟩⟩ := HX.out _ (Below.call HB3.out HB4.out)
    have hz' : b < w4.heap.size := by omega
    go_wp2_with fail
    clear d0 d1 d2 d3 hz hz' p0 p1 p2 p3
    obtain ⟨w5, hw5⟩ : ∃ w5, w5 = w4.alloc (.cells #[.int .i64 qa, .int .i64 qb, .int .i64 qc, .int .i64 qd] 50) := ⟨_, rfl⟩
    obtain ⟨g2, hg2⟩ : ∃ g2, g2 = w4.heap.size := ⟨_, rfl⟩
    have HY2 := Lib.hid (show ∀ w6, Below w5.heap.size w5 w6 → g2 < w6.heap.size ∧ (w6.cell? ⟨g2, 0, none⟩ = some (.int .i64 qa) ∧ w6.cell? ⟨g2, 1, none⟩ = some (.int .i64 qb) ∧ w6.cell? ⟨g2, 2, none⟩ = some (.int .i64 qc) ∧ w6.cell? ⟨g2, 3, none⟩ = some (.int .i64 qd)) from by
      intro w6 h
      refine ⟨Nat.lt_of_lt_of_le (by rw [hw5, hg2]; simp) h.size, keep_cell h ?_, keep_cell h ?_, keep_cell h ?_, keep_cell h ?_⟩
      all_goals (rw [hw5, hg2]; simp))
    have HB5 := Lib.hid (show Below w3.heap.size w3 w5 by rw [hw5]; exact Below.al HB4.out _)
    rw [← hw5, ← hg2]
    clear hw5 hg2 HB4
    refine (HI.out _ (HD0.out.then (Below.call HB3.out HB5.out))).mono ?_
    rintro e w6 ⟨rfl, hb6⟩
    have HB6 := Lib.hid hb6
    clear hb6
    obtain ⟨hz, ⟨d0, d1, d2, d3⟩, ⟨p0, p1, p2, p3⟩⟩ := HX.out _ (Below.call HB3.out (Below.call HB5.out HB6.out))
    have hz' : b < w6.heap.size := by omega
    go_wp2_with fail
    clear d0 d1 d2 d3 hz hz' p0 p1 p2 p3
    refine (HRI.out _ (HD0.out.then (Below.call HB3.out (Below.call HB5.out HB6.out)))).mono ?_
    rintro e w7 ⟨rfl, hb7⟩
    have HB7 := Lib.hid (Below.call HB6.out hb7)
    clear hb7 HB6
    have HI7 := Lib.hid (HD0.out.then (Below.call HB3.out (Below.call HB5.out HB7.out)))
    obtain ⟨hz, ⟨d0, d1, d2, d3⟩, _⟩ := HX.out _ (Below.call HB3.out (Below.call HB5.out HB7.out))
    obtain ⟨hy, y0, y1, y2, y3⟩ := HY.out _ (Below.call HB5.out HB7.out)
    obtain ⟨hy2, t0, t1, t2, t3⟩ := HY2.out _ HB7.out
    have hz' : b < w7.heap.size := by omega
    go_wp2_with fail
    go_region_held3 (fun w' => w'.cell? ⟨b, 0, none⟩ = some (.slice d.bA d.bn d.bc) ∧ w'.cell? ⟨b, 1, none⟩ = some (.slice d.pA d.pn d.pc) ∧ w'.cell? ⟨b, 2, none⟩ = some (.slice d.rA d.rn d.rc) ∧ w'.cell? ⟨b, 3, none⟩ = some (.int .i64 d.arms) ∧
        w'.cell? ⟨g, 0, none⟩ = some (.int .i64 qa) ∧ w'.cell? ⟨g, 1, none⟩ = some (.int .i64 qb) ∧ w'.cell? ⟨g, 2, none⟩ = some (.int .i64 qc) ∧ w'.cell? ⟨g, 3, none⟩ = some (.int .i64 qd) ∧
        w'.cell? ⟨g2, 0, none⟩ = some (.int .i64 qa) ∧ w'.cell? ⟨g2, 1, none⟩ = some (.int .i64 qb) ∧ w'.cell? ⟨g2, 2, none⟩ = some (.int .i64 qc) ∧ w'.cell? ⟨g2, 3, none⟩ = some (.int .i64 qd) ∧ Below w7.heap.size w7 w')
      (first | exact ⟨d0, d1, d2, d3, y0, y1, y2, y3, t0, t1, t2, t3, (Below.refl _ _).drew⟩ | assumption | go_keep | (go_split_ands; exact ⟨keep_cell hbc (by assumption), keep_cell hbc (by assumption), keep_cell hbc (by assumption), keep_cell hbc (by assumption), keep_cell hbc (by assumption), keep_cell hbc (by assumption), keep_cell hbc (by assumption), keep_cell hbc (by assumption), keep_cell hbc (by assumption), keep_cell hbc (by assumption), keep_cell hbc (by assumption), keep_cell hbc (by assumption), Below.call (by assumption) hbc⟩))
      (first
        | (go_at_call 22; ((with_reducible refine (HLV.out _).mono ?_); rintro e w4 ⟨rfl, hbc⟩))
        | (go_at_call 31; ((with_reducible refine (HN.out _ (HI7.out.then (by go_split_ands; assumption))).mono ?_); rintro e w4 ⟨rfl, hbc⟩))
        | (go_at_call 32; ((with_reducible refine (HRN.out _ (HI7.out.then (by go_split_ands; assumption))).mono ?_); rintro e w4 ⟨rfl, hbc⟩))
        | (go_at_call 33; ((with_reducible refine (HCA.out _ (HI7.out.then (by go_split_ands; assumption))).mono ?_); rintro e w4 ⟨rfl, hbc⟩))
        | (go_at_call 34; ((with_reducible refine (HRCA.out _ (HI7.out.then (by go_split_ands; assumption))).mono ?_); rintro e w4 ⟨rfl, hbc⟩))
        | (go_at_call 35; ((with_reducible refine (HS.out _ (HI7.out.then (by go_split_ands; assumption))).mono ?_); rintro e w4 ⟨rfl, hbc⟩))
        | (go_at_call 36; ((with_reducible refine (HRS.out _ (HI7.out.then (by go_split_ands; assumption))).mono ?_); rintro e w4 ⟨rfl, hbc⟩)))
    all_goals
      go_wp2
      go_ret
      exact ⟨ret_b (by simp), Below.call (Below.call HB0.out (Below.call HB3.out (Below.call HB5.out HB7.out))) (by go_split_ands; assumption)⟩
  · rw [hlg] at HLG
    clear hlg
    go_enter Try.func8, Try.ntmps8
    go_wp2_with fail
    rw [← hw0, ← hb]
    clear hw0 hb
    refine (HLG.out _ HD0.out).mono ?_
    rintro e w1 ⟨rfl, hb1⟩
    have HB1 := Lib.hid hb1
    clear hb1
    go_wp2_with fail
    refine (HLV.out _).mono ?_
    rintro e w2 ⟨rfl, hb2⟩
    have HB2 := Lib.hid (Below.call HB1.out hb2)
    clear hb2
    go_wp2_with fail
    go_ret
    exact ⟨rfl, Below.call HB0.out HB2.out⟩
end Go.Proofs.Ytegghoniboebkaa
