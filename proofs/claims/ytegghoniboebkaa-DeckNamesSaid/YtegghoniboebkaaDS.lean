/- The name of an id: what the program and the reference answer. -/
import Derived.Test.YtegghoniboebkaaDR
namespace Go.Proofs.Ytegghoniboebkaa
open Go.RowKit
/-- The name of an id; empty where it has no part. -/
noncomputable def nameV (d : Dk) (id : Int) : List UInt8 := if (partV d id).2 = 0 then nameQ (partV d id).1 else []
set_option maxRecDepth 100000 in
set_option maxHeartbeats 4000000 in
theorem rname_id (d : Dk) (id : Int) (hid : fits id) (w : World) (hd : d.In w w.heap.size) : Calls Try.prog 32 #[d.v, .int .i64 id] w fun e w' => e = .returned (.string ⟨(nameV d id).toArray⟩) ∧ Below w.heap.size w w' := by
  have HP := Lib.hid (fun w h => rpart_any d id hid w h)
  have HD := Lib.hid hd
  have HV := Lib.hid (partV_ok d id)
  obtain ⟨w0, hw0⟩ : ∃ w0, w0 = w.alloc (.cells #[.slice d.bA d.bn d.bc, .slice d.pA d.pn d.pc, .slice d.rA d.rn d.rc, .int .i64 d.arms] 44) := ⟨_, rfl⟩
  have HB0 := Lib.hid (show Below w.heap.size w w0 by rw [hw0]; exact Below.al (Below.refl _ _) _)
  have HD0 := Lib.hid (HD.out.then HB0.out)
  obtain ⟨V, hV⟩ : ∃ V, V = nameV d id := ⟨_, rfl⟩
  rw [← hV]
  unfold nameV at hV
  have HVV := Lib.hid hV
  clear hV hd
  generalize partV d id = t at *
  obtain ⟨q, er⟩ := t
  dsimp only at *
  unfold partVal at HP
  dsimp only at HP
  by_cases h0 : er = 0
  · subst h0
    have hq := Lib.hid (parts_okP d _ (HV.out rfl).2.1)
    have hval := HVV.out
    rw [if_pos rfl] at hval
    have HVL := Lib.hid hval
    clear hval HVV HV
    have HN := Lib.hid (fun w => rnm_any q hq.out w)
    obtain ⟨qa, qb, qc, qd⟩ := q
    have HN2 : Hid (∀ w, Calls Try.prog 56 #[.agg #[.int .i64 qa, .int .i64 qb, .int .i64 qc, .int .i64 qd]] w fun e w' => e = .returned (.string ⟨(nameQ ⟨qa, qb, qc, qd⟩).toArray⟩) ∧ Below w.heap.size w w') := HN
    rw [← HVL.out] at HN2
    dsimp only at *
    clear HN HVL hq
    go_enter Try.func32, Try.ntmps32
    go_wp2_with fail
    rw [← hw0]
    clear hw0
    refine (HP.out _ HD0.out).mono ?_
    rintro e w1 ⟨rfl, hb1⟩
    have HB1 := Lib.hid (Below.call HB0.out hb1)
    clear hb1
    go_wp2_with fail
    refine (HN2.out _).mono ?_
    rintro e w2 ⟨rfl, hb2⟩
    have HB2 := Lib.hid (Below.call (Below.al HB1.out _) hb2)
    clear hb2
    go_wp2
    go_ret
    exact ⟨rfl, HB2.out⟩
  · have hval := HVV.out
    rw [if_neg h0] at hval
    subst hval
    have g1 : (er != 0) = true := by rw [bne_iff_ne]; exact h0
    clear h0 HVV HV
    go_enter Try.func32, Try.ntmps32
    go_wp2_with fail
    rw [← hw0]
    clear hw0
    refine (HP.out _ HD0.out).mono ?_
    rintro e w1 ⟨rfl, hb1⟩
    have HB1 := Lib.hid (Below.call HB0.out hb1)
    clear hb1
    go_wp2
    go_ret
    exact ⟨rfl, Below.al HB1.out _⟩
set_option maxRecDepth 100000 in
set_option maxHeartbeats 4000000 in
theorem dname_any (d : Dk) (id : Int) (hid : fits id) (w : World) (hd : d.In w w.heap.size) : Calls Try.prog 31 #[d.v, .int .i64 id] w fun e w' => e = .returned (.string ⟨(nameV d id).toArray⟩) ∧ Below w.heap.size w w' := by
  have HP := Lib.hid (fun w h => part_any d id hid w h)
  have HD := Lib.hid hd
  have HV := Lib.hid (partV_ok d id)
  obtain ⟨w0, hw0⟩ : ∃ w0, w0 = w.alloc (.cells #[.slice d.bA d.bn d.bc, .slice d.pA d.pn d.pc, .slice d.rA d.rn d.rc, .int .i64 d.arms] 44) := ⟨_, rfl⟩
  have HB0 := Lib.hid (show Below w.heap.size w w0 by rw [hw0]; exact Below.al (Below.refl _ _) _)
  have HD0 := Lib.hid (HD.out.then HB0.out)
  obtain ⟨V, hV⟩ : ∃ V, V = nameV d id := ⟨_, rfl⟩
  rw [← hV]
  unfold nameV at hV
  have HVV := Lib.hid hV
  clear hV hd
  generalize partV d id = t at *
  obtain ⟨q, er⟩ := t
  dsimp only at *
  unfold partVal at HP
  dsimp only at HP
  by_cases h0 : er = 0
  · subst h0
    have hq := Lib.hid (parts_okP d _ (HV.out rfl).2.1)
    have hval := HVV.out
    rw [if_pos rfl] at hval
    have HVL := Lib.hid hval
    clear hval HVV HV
    obtain ⟨qa, qb, qc, qd⟩ := q
    obtain ⟨h1, h2, h3, h4, h5, h6, h7, h8⟩ := hq.out
    simp only at h1 h2 h3 h4 h5 h6 h7 h8
    have HTX := Lib.hid (text_any qb (by unfold fits; omega))
    have hl1 := txt_len qb (by unfold fits; omega)
    have hl2 := nameL_len (qc, qd)
    have HNM := Lib.hid (fun w => name_any (qc, qd) w)
    dsimp only at *
    clear hq
    rcases h1 with rfl | rfl | rfl
    · have hval := HVL.out
      rw [show nameQ ⟨1, qb, qc, qd⟩ = ([80] ++ txt qb) ++ [46] ++ nameL (qc, qd) from rfl] at hval
      subst hval
      generalize txt qb = x at *
      generalize nameL (qc, qd) = y at *
      have hwk : IntKind.i64.wrap 0 = 0 := by decide
      obtain ⟨u, hu⟩ : ∃ u, u = (80 : UInt8) := ⟨_, rfl⟩
      have habc : (⟨#[80, 84, 76]⟩ : ByteArray).extract 0 1 = ⟨[u].toArray⟩ := by rw [hu]; rfl
      have hadd := fun w => add_text w [u] x (by simp) (by omega)
      rw [← hu]
      clear HVL h2 h3 h4 h5 h6 h7 h8 hu
      go_enter Try.func31, Try.ntmps31
      go_wp2_with fail
      rw [← hw0]
      clear hw0
      refine (HP.out _ HD0.out).mono ?_
      rintro e w1 ⟨rfl, hb1⟩
      have HB1 := Lib.hid (Below.call HB0.out hb1)
      clear hb1
      go_wp2
      obtain ⟨w2, hw2⟩ : ∃ w2, w2 = w1.alloc (.cells #[.int .i64 1, .int .i64 qb, .int .i64 qc, .int .i64 qd] 50) := ⟨_, rfl⟩
      obtain ⟨B, hB⟩ : ∃ B, B = w1.heap.size := ⟨_, rfl⟩
      have c0 : w2.cell? ⟨B, 0, none⟩ = some (.int .i64 1) := by rw [hw2, hB]; go_simp
      have c1 : w2.cell? ⟨B, 1, none⟩ = some (.int .i64 qb) := by rw [hw2, hB]; go_simp
      have c2 : w2.cell? ⟨B, 2, none⟩ = some (.int .i64 qc) := by rw [hw2, hB]; go_simp
      have c3 : w2.cell? ⟨B, 3, none⟩ = some (.int .i64 qd) := by rw [hw2, hB]; go_simp
      have HB2 := Lib.hid (show Below w.heap.size w w2 by rw [hw2]; exact Below.al HB1.out _)
      rw [← hw2, ← hB]
      clear hw2 hB HB1
      go_region_held3 (fun w' => w'.cell? ⟨B, 0, none⟩ = some (.int .i64 1) ∧ w'.cell? ⟨B, 1, none⟩ = some (.int .i64 qb) ∧ w'.cell? ⟨B, 2, none⟩ = some (.int .i64 qc) ∧ w'.cell? ⟨B, 3, none⟩ = some (.int .i64 qd) ∧ Below w2.heap.size w2 w')
        (first | exact ⟨c0, c1, c2, c3, (Below.refl _ _).drew⟩ | assumption | go_keep | (go_split_ands; exact ⟨keep_cell hb (by assumption), keep_cell hb (by assumption), keep_cell hb (by assumption), keep_cell hb (by assumption), Below.call (by assumption) hb⟩))
        ((go_at_call 54; ((with_reducible refine (HTX.out _).mono ?_); rintro e w3 ⟨rfl, hb⟩)))
      all_goals
        go_wp2_with fail
        refine (HNM.out _).mono ?_
        rintro e w4 ⟨rfl, hb4⟩
        have HB4 := Lib.hid hb4
        clear hb4
        go_wp2
        go_ret
        refine ⟨ret_s ?_, Below.call (Below.call HB2.out (by go_split_ands; assumption)) HB4.out⟩
        exact (congrArg (· ++ _) (cat_text ([u] ++ x) [46])).trans (cat_text _ y)
    · have hval := HVL.out
      rw [show nameQ ⟨2, qb, qc, qd⟩ = ([84] ++ txt qb) ++ [46] ++ nameL (qc, qd) from rfl] at hval
      subst hval
      generalize txt qb = x at *
      generalize nameL (qc, qd) = y at *
      have hwk : IntKind.i64.wrap 1 = 1 := by decide
      obtain ⟨u, hu⟩ : ∃ u, u = (84 : UInt8) := ⟨_, rfl⟩
      have habc : (⟨#[80, 84, 76]⟩ : ByteArray).extract 1 2 = ⟨[u].toArray⟩ := by rw [hu]; rfl
      have hadd := fun w => add_text w [u] x (by simp) (by omega)
      rw [← hu]
      clear HVL h2 h3 h4 h5 h6 h7 h8 hu
      go_enter Try.func31, Try.ntmps31
      go_wp2_with fail
      rw [← hw0]
      clear hw0
      refine (HP.out _ HD0.out).mono ?_
      rintro e w1 ⟨rfl, hb1⟩
      have HB1 := Lib.hid (Below.call HB0.out hb1)
      clear hb1
      go_wp2
      obtain ⟨w2, hw2⟩ : ∃ w2, w2 = w1.alloc (.cells #[.int .i64 2, .int .i64 qb, .int .i64 qc, .int .i64 qd] 50) := ⟨_, rfl⟩
      obtain ⟨B, hB⟩ : ∃ B, B = w1.heap.size := ⟨_, rfl⟩
      have c0 : w2.cell? ⟨B, 0, none⟩ = some (.int .i64 2) := by rw [hw2, hB]; go_simp
      have c1 : w2.cell? ⟨B, 1, none⟩ = some (.int .i64 qb) := by rw [hw2, hB]; go_simp
      have c2 : w2.cell? ⟨B, 2, none⟩ = some (.int .i64 qc) := by rw [hw2, hB]; go_simp
      have c3 : w2.cell? ⟨B, 3, none⟩ = some (.int .i64 qd) := by rw [hw2, hB]; go_simp
      have HB2 := Lib.hid (show Below w.heap.size w w2 by rw [hw2]; exact Below.al HB1.out _)
      rw [← hw2, ← hB]
      clear hw2 hB HB1
      go_region_held3 (fun w' => w'.cell? ⟨B, 0, none⟩ = some (.int .i64 2) ∧ w'.cell? ⟨B, 1, none⟩ = some (.int .i64 qb) ∧ w'.cell? ⟨B, 2, none⟩ = some (.int .i64 qc) ∧ w'.cell? ⟨B, 3, none⟩ = some (.int .i64 qd) ∧ Below w2.heap.size w2 w')
        (first | exact ⟨c0, c1, c2, c3, (Below.refl _ _).drew⟩ | assumption | go_keep | (go_split_ands; exact ⟨keep_cell hb (by assumption), keep_cell hb (by assumption), keep_cell hb (by assumption), keep_cell hb (by assumption), Below.call (by assumption) hb⟩))
        ((go_at_call 54; ((with_reducible refine (HTX.out _).mono ?_); rintro e w3 ⟨rfl, hb⟩)))
      all_goals
        go_wp2_with fail
        refine (HNM.out _).mono ?_
        rintro e w4 ⟨rfl, hb4⟩
        have HB4 := Lib.hid hb4
        clear hb4
        go_wp2
        go_ret
        refine ⟨ret_s ?_, Below.call (Below.call HB2.out (by go_split_ands; assumption)) HB4.out⟩
        exact (congrArg (· ++ _) (cat_text ([u] ++ x) [46])).trans (cat_text _ y)
    · have hval := HVL.out
      rw [show nameQ ⟨3, qb, qc, qd⟩ = [76] ++ txt qb from rfl] at hval
      subst hval
      generalize txt qb = x at *
      generalize nameL (qc, qd) = y at *
      have hwk : IntKind.i64.wrap 2 = 2 := by decide
      obtain ⟨u, hu⟩ : ∃ u, u = (76 : UInt8) := ⟨_, rfl⟩
      have habc : (⟨#[80, 84, 76]⟩ : ByteArray).extract 2 3 = ⟨[u].toArray⟩ := by rw [hu]; rfl
      have hadd := fun w => add_text w [u] x (by simp) (by omega)
      rw [← hu]
      clear HVL h2 h3 h4 h5 h6 h7 h8 hu
      go_enter Try.func31, Try.ntmps31
      go_wp2_with fail
      rw [← hw0]
      clear hw0
      refine (HP.out _ HD0.out).mono ?_
      rintro e w1 ⟨rfl, hb1⟩
      have HB1 := Lib.hid (Below.call HB0.out hb1)
      clear hb1
      go_wp2
      obtain ⟨w2, hw2⟩ : ∃ w2, w2 = w1.alloc (.cells #[.int .i64 3, .int .i64 qb, .int .i64 qc, .int .i64 qd] 50) := ⟨_, rfl⟩
      obtain ⟨B, hB⟩ : ∃ B, B = w1.heap.size := ⟨_, rfl⟩
      have c0 : w2.cell? ⟨B, 0, none⟩ = some (.int .i64 3) := by rw [hw2, hB]; go_simp
      have c1 : w2.cell? ⟨B, 1, none⟩ = some (.int .i64 qb) := by rw [hw2, hB]; go_simp
      have c2 : w2.cell? ⟨B, 2, none⟩ = some (.int .i64 qc) := by rw [hw2, hB]; go_simp
      have c3 : w2.cell? ⟨B, 3, none⟩ = some (.int .i64 qd) := by rw [hw2, hB]; go_simp
      have HB2 := Lib.hid (show Below w.heap.size w w2 by rw [hw2]; exact Below.al HB1.out _)
      rw [← hw2, ← hB]
      clear hw2 hB HB1
      go_region_held3 (fun w' => w'.cell? ⟨B, 0, none⟩ = some (.int .i64 3) ∧ w'.cell? ⟨B, 1, none⟩ = some (.int .i64 qb) ∧ w'.cell? ⟨B, 2, none⟩ = some (.int .i64 qc) ∧ w'.cell? ⟨B, 3, none⟩ = some (.int .i64 qd) ∧ Below w2.heap.size w2 w')
        (first | exact ⟨c0, c1, c2, c3, (Below.refl _ _).drew⟩ | assumption | go_keep | (go_split_ands; exact ⟨keep_cell hb (by assumption), keep_cell hb (by assumption), keep_cell hb (by assumption), keep_cell hb (by assumption), Below.call (by assumption) hb⟩))
        ((go_at_call 54; ((with_reducible refine (HTX.out _).mono ?_); rintro e w3 ⟨rfl, hb⟩)))
      all_goals
        go_wp2
        go_ret
        exact ⟨rfl, Below.call HB2.out (by go_split_ands; assumption)⟩
  · have hval := HVV.out
    rw [if_neg h0] at hval
    subst hval
    have g1 : (er != 0) = true := by rw [bne_iff_ne]; exact h0
    clear h0 HVV HV
    go_enter Try.func31, Try.ntmps31
    go_wp2_with fail
    rw [← hw0]
    clear hw0
    refine (HP.out _ HD0.out).mono ?_
    rintro e w1 ⟨rfl, hb1⟩
    have HB1 := Lib.hid (Below.call HB0.out hb1)
    clear hb1
    go_wp2
    go_ret
    exact ⟨rfl, Below.al HB1.out _⟩
end Go.Proofs.Ytegghoniboebkaa
