/- The law on names. -/
import Derived.Test.YtegghoniboebkaaDY
namespace Go.Proofs.Ytegghoniboebkaa
open Go.RowKit
theorem idR_bd (p : Q4) (P : List Q4) : ∀ s : Int, 0 ≤ s → 0 ≤ (idR p P s).1 ∧ (idR p P s).1 ≤ s + P.length := by
  induction P with
  | nil => intro s hs; unfold idR; simp; omega
  | cons x P ih =>
    intro s hs
    rw [idR]
    by_cases hx : x = p
    · rw [if_pos hx, List.length_cons]; dsimp only; omega
    · rw [if_neg hx, List.length_cons]
      have := ih (s + 1) (by omega)
      omega
theorem find_fits (d : Dk) (l : List UInt8) : fits (findV d l).1 := by
  unfold findV
  by_cases hz : dchk d = 0
  · rw [if_pos hz]
    by_cases hb : (namT l).2 = true
    · rw [if_pos hb, idV_K d _ hz]
      have h1 := idR_bd (namT l).1 (partsK d) 0 (by omega)
      have h2 := parts_len d
      unfold fits
      omega
    · rw [if_neg hb]; show fits 0; decide
  · rw [if_neg hz]; show fits 0; decide
theorem nameQ_len (q : Q4) (h : okP q) : (nameQ q).length ≤ 46 := by
  have h1 := txt_len q.b (by obtain ⟨_, a, b, _⟩ := h; unfold fits; omega)
  have h2 := nameL_len (q.c, q.d)
  unfold nameQ
  split
  · simp; omega
  · simp; omega
theorem nameV_len (d : Dk) (id : Int) : (nameV d id).length ≤ 46 := by
  unfold nameV
  by_cases h : (partV d id).2 = 0
  · rw [if_pos h]
    exact nameQ_len _ (parts_okP d _ (partV_ok d id h).2.1)
  · rw [if_neg h]; simp
theorem cnt_pos (d : Dk) : 0 ≤ (cntV d).1 ∧ 0 ≤ (cntV d).2.1 ∧ 0 ≤ (cntV d).2.2 := by
  rw [cnt_V]
  unfold cntK
  exact ⟨Int.natCast_nonneg _, Int.natCast_nonneg _, Int.natCast_nonneg _⟩
set_option maxRecDepth 100000 in
set_option maxHeartbeats 8000000 in
theorem deckNames_walk (d : Dk) (id : Int) (s : ByteArray) (hid : fits id) (w : World) (hd : d.In w w.heap.size) : Calls Try.prog 9 #[d.v, .int .i64 id, .string s] w (Good8 w) := by
  obtain ⟨l, hs⟩ : ∃ l, IsT s l := ⟨s.data.toList, ⟨rfl⟩⟩
  have HD := Lib.hid hd
  have HLG := Lib.hid (fun w h => large_any d w h)
  have HLV := Lib.hid (fun w => lives8 w)
  have HC := Lib.hid (fun w h => counts_any d w h)
  have HP := Lib.hid (fun w h => part_any d id hid w h)
  have HI := Lib.hid (fun w h => id_any d (partV d id).1 w h)
  have HN := Lib.hid (fun w h => dname_any d id hid w h)
  have HNA := Lib.hid (fun w h => dname_any d (findV d l).1 (find_fits d l) w h)
  have HFN := Lib.hid (fun w h => find_any d ⟨(nameV d id).toArray⟩ (nameV d id) ⟨rfl⟩ (by have := nameV_len d id; omega) w h)
  have HRF := Lib.hid (fun w h => rfind_any d s l hs w h)
  rw [findV_W] at HRF
  have HNN := Lib.hid (name_none d id)
  have HNS := Lib.hid (name_some d id)
  have HFA := Lib.hid (find_name d l)
  have HSUM := Lib.hid (cnt_all d)
  have HPOS := Lib.hid (cnt_pos d)
  have HLEN := Lib.hid (parts_len d)
  obtain ⟨w0, hw0⟩ : ∃ w0, w0 = w.alloc (.cells #[.slice d.bA d.bn d.bc, .slice d.pA d.pn d.pc, .slice d.rA d.rn d.rc, .int .i64 d.arms] 44) := ⟨_, rfl⟩
  have HB0 := Lib.hid (show Below w.heap.size w w0 by rw [hw0]; exact Below.al (Below.refl _ _) _)
  have HD0 := Lib.hid (HD.out.then HB0.out)
  obtain ⟨b, hb⟩ : ∃ b, b = w.heap.size := ⟨_, rfl⟩
  have HX := Lib.hid (show ∀ w3, Below w0.heap.size w0 w3 → b < w3.heap.size ∧ (w3.cell? ⟨b, 0, none⟩ = some (.slice d.bA d.bn d.bc) ∧ w3.cell? ⟨b, 1, none⟩ = some (.slice d.pA d.pn d.pc) ∧ w3.cell? ⟨b, 2, none⟩ = some (.slice d.rA d.rn d.rc) ∧ w3.cell? ⟨b, 3, none⟩ = some (.int .i64 d.arms)) from by
    intro w3 h
    refine ⟨Nat.lt_of_lt_of_le (by rw [hw0, hb]; simp) h.size, keep_cell h ?_, keep_cell h ?_, keep_cell h ?_, keep_cell h ?_⟩
    all_goals (rw [hw0, hb]; simp))
  have hq := Lib.hid (show ∀ q : Q4, q.v = .agg #[.int .i64 q.a, .int .i64 q.b, .int .i64 q.c, .int .i64 q.d] from fun _ => rfl)
  clear hd
  by_cases hbig : largeB d = true ∨ 200 < l.length
  · rcases hbig with hlg | h200
    · rw [hlg] at HLG
      clear hlg
      go_enter Try.func9, Try.ntmps9
      go_wp2_with fail
      rw [← hw0, ← hb]
      clear hw0 hb
      refine (HLG.out _ HD0.out).mono ?_
      rintro e w1 ⟨rfl, hb1⟩
      have HB1 := Lib.hid hb1
      clear hb1
      go_wp2_with fail
      refine (HLV.out _).mono ?_
      rintro e w2 ⟨rfl, hb2⟩
      have HB2 := Lib.hid (Below.call HB1.out hb2)
      clear hb2
      go_wp2_with fail
      go_ret
      exact ⟨rfl, Below.call HB0.out HB2.out⟩
    · cases hlg : largeB d
      · rw [hlg] at HLG
        have hz2 : 200 < (s.size : Int) := by rw [hs.size]; omega
        clear hlg
        go_enter Try.func9, Try.ntmps9
        go_wp2_with fail
        rw [← hw0, ← hb]
        clear hw0 hb
        refine (HLG.out _ HD0.out).mono ?_
        rintro e w1 ⟨rfl, hb1⟩
        have HB1 := Lib.hid hb1
        clear hb1
        go_wp2_with fail
        refine (HLV.out _).mono ?_
        rintro e w2 ⟨rfl, hb2⟩
        have HB2 := Lib.hid (Below.call HB1.out hb2)
        clear hb2
        go_wp2_with fail
        go_ret
        exact ⟨rfl, Below.call HB0.out HB2.out⟩
      · rw [hlg] at HLG
        clear hlg
        go_enter Try.func9, Try.ntmps9
        go_wp2_with fail
        rw [← hw0, ← hb]
        clear hw0 hb
        refine (HLG.out _ HD0.out).mono ?_
        rintro e w1 ⟨rfl, hb1⟩
        have HB1 := Lib.hid hb1
        clear hb1
        go_wp2_with fail
        refine (HLV.out _).mono ?_
        rintro e w2 ⟨rfl, hb2⟩
        have HB2 := Lib.hid (Below.call HB1.out hb2)
        clear hb2
        go_wp2_with fail
        go_ret
        exact ⟨rfl, Below.call HB0.out HB2.out⟩
  · have hlg : largeB d = false := by
      cases h : largeB d
      · rfl
      · exact absurd (.inl h) hbig
    have h200 : l.length ≤ 200 := by
      apply Classical.byContradiction
      intro h
      exact hbig (.inr (by omega))
    rw [hlg] at HLG
    have HF := Lib.hid (fun w h => find_any d s l hs (by omega) w h)
    have hz2 : (s.size : Int) ≤ 200 := by rw [hs.size]; omega
    have HST := Lib.hid hs.list
    clear hbig hlg h200 hs
    generalize findV d l = fv at *
    obtain ⟨fa, fe⟩ := fv
    generalize cntV d = cv at *
    obtain ⟨cw, ct, cl⟩ := cv
    dsimp only at *
    by_cases hfe : fe = 0
    · subst hfe
      have hfa := HFA.out rfl
      rw [hfa] at HNA
      clear hfa HFA
      by_cases h1 : id < 0
      · have g1 : id < 0 := h1
        have hnn := HNN.out (.inl h1)
        rw [hnn] at HN
        clear hnn
        go_enter Try.func9, Try.ntmps9
        go_wp2_with fail
        rw [← hw0, ← hb]
        clear hw0 hb
        refine (HLG.out _ HD0.out).mono ?_
        rintro e w1 ⟨rfl, hb1⟩
        have HB1 := Lib.hid hb1
        clear hb1
        obtain ⟨hz, d0, d1, d2, d3⟩ := HX.out _ HB1.out
        go_wp2_with fail
        clear d0 d1 d2 d3 hz
        refine (HF.out _ (HD0.out.then HB1.out)).mono ?_
        rintro e w2 ⟨rfl, hb2⟩
        have HB2 := Lib.hid (Below.call HB1.out hb2)
        clear hb2 HB1
        obtain ⟨hz, d0, d1, d2, d3⟩ := HX.out _ HB2.out
        go_wp2_with fail
        clear d0 d1 d2 d3 hz
        refine (HRF.out _ (HD0.out.then HB2.out)).mono ?_
        rintro e w3 ⟨rfl, hb3⟩
        have HB3 := Lib.hid (Below.call HB2.out hb3)
        clear hb3 HB2
        go_wp2_with fail
        refine (HLV.out _).mono ?_
        rintro e w4 ⟨rfl, hb4⟩
        have HB4 := Lib.hid (Below.call HB3.out hb4)
        clear hb4 HB3
        obtain ⟨hz, d0, d1, d2, d3⟩ := HX.out _ HB4.out
        go_wp2_with fail
        clear d0 d1 d2 d3 hz
        refine (HNA.out _ (HD0.out.then HB4.out)).mono ?_
        rintro e w5 ⟨rfl, hb5⟩
        have HB5 := Lib.hid (Below.call HB4.out hb5)
        clear hb5 HB4
        have hne := HST.out
        obtain ⟨hz, d0, d1, d2, d3⟩ := HX.out _ HB5.out
        go_wp2_with fail
        clear d0 d1 d2 d3 hz hne
        refine (HC.out _ (HD0.out.then HB5.out)).mono ?_
        rintro e w6 ⟨rfl, hb6⟩
        have HB6 := Lib.hid (Below.call HB5.out hb6)
        clear hb6 HB5
        obtain ⟨hz, d0, d1, d2, d3⟩ := HX.out _ HB6.out
        go_wp2_with fail
        clear d0 d1 d2 d3 hz
        refine (HN.out _ (HD0.out.then HB6.out)).mono ?_
        rintro e w7 ⟨rfl, hb7⟩
        have HB7 := Lib.hid (Below.call HB6.out hb7)
        clear hb7 HB6
        go_wp2
        go_ret
        exact ⟨ret_b (by simp), Below.call HB0.out HB7.out⟩
      · by_cases h2 : cw + ct + cl ≤ id
        · have g1 : 0 ≤ id := by omega
          have hN := HSUM.out
          have hP := HPOS.out
          have hL := HLEN.out
          have g2 : cw + ct + cl ≤ id := by omega
          obtain ⟨b1, b2, b3⟩ := hP
          have b4 : cw + ct + cl ≤ 49152 := by omega
          have hnn := HNN.out (.inr (by omega))
          rw [hnn] at HN
          clear hnn hN hL
          go_enter Try.func9, Try.ntmps9
          go_wp2_with fail
          rw [← hw0, ← hb]
          clear hw0 hb
          refine (HLG.out _ HD0.out).mono ?_
          rintro e w1 ⟨rfl, hb1⟩
          have HB1 := Lib.hid hb1
          clear hb1
          obtain ⟨hz, d0, d1, d2, d3⟩ := HX.out _ HB1.out
          go_wp2_with fail
          clear d0 d1 d2 d3 hz
          refine (HF.out _ (HD0.out.then HB1.out)).mono ?_
          rintro e w2 ⟨rfl, hb2⟩
          have HB2 := Lib.hid (Below.call HB1.out hb2)
          clear hb2 HB1
          obtain ⟨hz, d0, d1, d2, d3⟩ := HX.out _ HB2.out
          go_wp2_with fail
          clear d0 d1 d2 d3 hz
          refine (HRF.out _ (HD0.out.then HB2.out)).mono ?_
          rintro e w3 ⟨rfl, hb3⟩
          have HB3 := Lib.hid (Below.call HB2.out hb3)
          clear hb3 HB2
          go_wp2_with fail
          refine (HLV.out _).mono ?_
          rintro e w4 ⟨rfl, hb4⟩
          have HB4 := Lib.hid (Below.call HB3.out hb4)
          clear hb4 HB3
          obtain ⟨hz, d0, d1, d2, d3⟩ := HX.out _ HB4.out
          go_wp2_with fail
          clear d0 d1 d2 d3 hz
          refine (HNA.out _ (HD0.out.then HB4.out)).mono ?_
          rintro e w5 ⟨rfl, hb5⟩
          have HB5 := Lib.hid (Below.call HB4.out hb5)
          clear hb5 HB4
          have hne := HST.out
          obtain ⟨hz, d0, d1, d2, d3⟩ := HX.out _ HB5.out
          go_wp2_with fail
          clear d0 d1 d2 d3 hz hne
          refine (HC.out _ (HD0.out.then HB5.out)).mono ?_
          rintro e w6 ⟨rfl, hb6⟩
          have HB6 := Lib.hid (Below.call HB5.out hb6)
          clear hb6 HB5
          obtain ⟨hz, d0, d1, d2, d3⟩ := HX.out _ HB6.out
          go_wp2_with fail
          clear d0 d1 d2 d3 hz
          refine (HN.out _ (HD0.out.then HB6.out)).mono ?_
          rintro e w7 ⟨rfl, hb7⟩
          have HB7 := Lib.hid (Below.call HB6.out hb7)
          clear hb7 HB6
          go_wp2
          go_ret
          exact ⟨ret_b (by simp), Below.call HB0.out HB7.out⟩
        · have g1 : 0 ≤ id := by omega
          have hN := HSUM.out
          have hP := HPOS.out
          have hL := HLEN.out
          have g2 : id < cw + ct + cl := by omega
          obtain ⟨b1, b2, b3⟩ := hP
          have b4 : cw + ct + cl ≤ 49152 := by omega
          obtain ⟨n1, n2, n3⟩ := HNS.out g1 (by omega)
          rw [n3] at HFN
          rw [n2] at HI
          unfold partVal at HP
          rw [n1] at HP
          rw [hq.out] at HI
          dsimp only at HI HP HFN
          clear n1 n2 n3 hN hL
          generalize (partV d id).1 = q at *
          generalize nameV d id = nv at *
          obtain ⟨qa, qb, qc, qd⟩ := q
          dsimp only at *
          go_enter Try.func9, Try.ntmps9
          go_wp2_with fail
          rw [← hw0, ← hb]
          clear hw0 hb
          refine (HLG.out _ HD0.out).mono ?_
          rintro e w1 ⟨rfl, hb1⟩
          have HB1 := Lib.hid hb1
          clear hb1
          obtain ⟨hz, d0, d1, d2, d3⟩ := HX.out _ HB1.out
          go_wp2_with fail
          clear d0 d1 d2 d3 hz
          refine (HF.out _ (HD0.out.then HB1.out)).mono ?_
          rintro e w2 ⟨rfl, hb2⟩
          have HB2 := Lib.hid (Below.call HB1.out hb2)
          clear hb2 HB1
          obtain ⟨hz, d0, d1, d2, d3⟩ := HX.out _ HB2.out
          go_wp2_with fail
          clear d0 d1 d2 d3 hz
          refine (HRF.out _ (HD0.out.then HB2.out)).mono ?_
          rintro e w3 ⟨rfl, hb3⟩
          have HB3 := Lib.hid (Below.call HB2.out hb3)
          clear hb3 HB2
          go_wp2_with fail
          refine (HLV.out _).mono ?_
          rintro e w4 ⟨rfl, hb4⟩
          have HB4 := Lib.hid (Below.call HB3.out hb4)
          clear hb4 HB3
          obtain ⟨hz, d0, d1, d2, d3⟩ := HX.out _ HB4.out
          go_wp2_with fail
          clear d0 d1 d2 d3 hz
          refine (HNA.out _ (HD0.out.then HB4.out)).mono ?_
          rintro e w5 ⟨rfl, hb5⟩
          have HB5 := Lib.hid (Below.call HB4.out hb5)
          clear hb5 HB4
          have hne := HST.out
          obtain ⟨hz, d0, d1, d2, d3⟩ := HX.out _ HB5.out
          go_wp2_with fail
          clear d0 d1 d2 d3 hz hne
          refine (HC.out _ (HD0.out.then HB5.out)).mono ?_
          rintro e w6 ⟨rfl, hb6⟩
          have HB6 := Lib.hid (Below.call HB5.out hb6)
          clear hb6 HB5
          obtain ⟨hz, d0, d1, d2, d3⟩ := HX.out _ HB6.out
          go_wp2_with fail
          clear d0 d1 d2 d3 hz
          refine (HP.out _ (HD0.out.then HB6.out)).mono ?_
          rintro e w7 ⟨rfl, hb7⟩
          have HB7 := Lib.hid (Below.call HB6.out hb7)
          clear hb7 HB6
          obtain ⟨hz, d0, d1, d2, d3⟩ := HX.out _ HB7.out
          go_wp2_with fail
          clear d0 d1 d2 d3 hz
          obtain ⟨w8, hw8⟩ : ∃ w8, w8 = w7.alloc (.cells #[.int .i64 qa, .int .i64 qb, .int .i64 qc, .int .i64 qd] 50) := ⟨_, rfl⟩
          have HB8 := Lib.hid (show Below w0.heap.size w0 w8 by rw [hw8]; exact Below.al HB7.out _)
          rw [← hw8]
          clear hw8 HB7
          refine (HI.out _ (HD0.out.then HB8.out)).mono ?_
          rintro e w9 ⟨rfl, hb9⟩
          have HB9 := Lib.hid (Below.call HB8.out hb9)
          clear hb9 HB8
          obtain ⟨hz, d0, d1, d2, d3⟩ := HX.out _ HB9.out
          go_wp2_with fail
          have HI9 := Lib.hid (HD0.out.then HB9.out)
          go_region_held3 (fun w' => w'.cell? ⟨b, 0, none⟩ = some (.slice d.bA d.bn d.bc) ∧ w'.cell? ⟨b, 1, none⟩ = some (.slice d.pA d.pn d.pc) ∧ w'.cell? ⟨b, 2, none⟩ = some (.slice d.rA d.rn d.rc) ∧ w'.cell? ⟨b, 3, none⟩ = some (.int .i64 d.arms) ∧ Below w9.heap.size w9 w')
            (first | exact ⟨d0, d1, d2, d3, (Below.refl _ _).drew⟩ | assumption | go_keep | (go_split_ands; exact ⟨keep_cell hbc (by assumption), keep_cell hbc (by assumption), keep_cell hbc (by assumption), keep_cell hbc (by assumption), Below.call (by assumption) hbc⟩))
            (first
              | (go_at_call 31; ((with_reducible refine (HN.out _ (HI9.out.then (by go_split_ands; assumption))).mono ?_); rintro e w4 ⟨rfl, hbc⟩))
              | (go_at_call 37; ((with_reducible refine (HFN.out _ (HI9.out.then (by go_split_ands; assumption))).mono ?_); rintro e w4 ⟨rfl, hbc⟩)))
          all_goals
            go_wp2
            go_ret
            exact ⟨ret_b (by simp), Below.call HB0.out (Below.call HB9.out (by go_split_ands; assumption))⟩
    · have gfe : (fe == 0) = false := by rw [beq_eq_false_iff_ne]; exact hfe
      clear hfe HFA HNA
      by_cases h1 : id < 0
      · have g1 : id < 0 := h1
        have hnn := HNN.out (.inl h1)
        rw [hnn] at HN
        clear hnn
        go_enter Try.func9, Try.ntmps9
        go_wp2_with fail
        rw [← hw0, ← hb]
        clear hw0 hb
        refine (HLG.out _ HD0.out).mono ?_
        rintro e w1 ⟨rfl, hb1⟩
        have HB1 := Lib.hid hb1
        clear hb1
        obtain ⟨hz, d0, d1, d2, d3⟩ := HX.out _ HB1.out
        go_wp2_with fail
        clear d0 d1 d2 d3 hz
        refine (HF.out _ (HD0.out.then HB1.out)).mono ?_
        rintro e w2 ⟨rfl, hb2⟩
        have HB2 := Lib.hid (Below.call HB1.out hb2)
        clear hb2 HB1
        obtain ⟨hz, d0, d1, d2, d3⟩ := HX.out _ HB2.out
        go_wp2_with fail
        clear d0 d1 d2 d3 hz
        refine (HRF.out _ (HD0.out.then HB2.out)).mono ?_
        rintro e w3 ⟨rfl, hb3⟩
        have HB3 := Lib.hid (Below.call HB2.out hb3)
        clear hb3 HB2
        go_wp2_with fail
        refine (HLV.out _).mono ?_
        rintro e w4 ⟨rfl, hb4⟩
        have HB4 := Lib.hid (Below.call HB3.out hb4)
        clear hb4 HB3
        obtain ⟨hz, d0, d1, d2, d3⟩ := HX.out _ HB4.out
        go_wp2_with fail
        clear d0 d1 d2 d3 hz
        have HB5 := Lib.hid HB4.out
        clear HB4
        refine (HC.out _ (HD0.out.then HB5.out)).mono ?_
        rintro e w6 ⟨rfl, hb6⟩
        have HB6 := Lib.hid (Below.call HB5.out hb6)
        clear hb6 HB5
        obtain ⟨hz, d0, d1, d2, d3⟩ := HX.out _ HB6.out
        go_wp2_with fail
        clear d0 d1 d2 d3 hz
        refine (HN.out _ (HD0.out.then HB6.out)).mono ?_
        rintro e w7 ⟨rfl, hb7⟩
        have HB7 := Lib.hid (Below.call HB6.out hb7)
        clear hb7 HB6
        go_wp2
        go_ret
        exact ⟨ret_b (by simp), Below.call HB0.out HB7.out⟩
      · by_cases h2 : cw + ct + cl ≤ id
        · have g1 : 0 ≤ id := by omega
          have hN := HSUM.out
          have hP := HPOS.out
          have hL := HLEN.out
          have g2 : cw + ct + cl ≤ id := by omega
          obtain ⟨b1, b2, b3⟩ := hP
          have b4 : cw + ct + cl ≤ 49152 := by omega
          have hnn := HNN.out (.inr (by omega))
          rw [hnn] at HN
          clear hnn hN hL
          go_enter Try.func9, Try.ntmps9
          go_wp2_with fail
          rw [← hw0, ← hb]
          clear hw0 hb
          refine (HLG.out _ HD0.out).mono ?_
          rintro e w1 ⟨rfl, hb1⟩
          have HB1 := Lib.hid hb1
          clear hb1
          obtain ⟨hz, d0, d1, d2, d3⟩ := HX.out _ HB1.out
          go_wp2_with fail
          clear d0 d1 d2 d3 hz
          refine (HF.out _ (HD0.out.then HB1.out)).mono ?_
          rintro e w2 ⟨rfl, hb2⟩
          have HB2 := Lib.hid (Below.call HB1.out hb2)
          clear hb2 HB1
          obtain ⟨hz, d0, d1, d2, d3⟩ := HX.out _ HB2.out
          go_wp2_with fail
          clear d0 d1 d2 d3 hz
          refine (HRF.out _ (HD0.out.then HB2.out)).mono ?_
          rintro e w3 ⟨rfl, hb3⟩
          have HB3 := Lib.hid (Below.call HB2.out hb3)
          clear hb3 HB2
          go_wp2_with fail
          refine (HLV.out _).mono ?_
          rintro e w4 ⟨rfl, hb4⟩
          have HB4 := Lib.hid (Below.call HB3.out hb4)
          clear hb4 HB3
          obtain ⟨hz, d0, d1, d2, d3⟩ := HX.out _ HB4.out
          go_wp2_with fail
          clear d0 d1 d2 d3 hz
          have HB5 := Lib.hid HB4.out
          clear HB4
          refine (HC.out _ (HD0.out.then HB5.out)).mono ?_
          rintro e w6 ⟨rfl, hb6⟩
          have HB6 := Lib.hid (Below.call HB5.out hb6)
          clear hb6 HB5
          obtain ⟨hz, d0, d1, d2, d3⟩ := HX.out _ HB6.out
          go_wp2_with fail
          clear d0 d1 d2 d3 hz
          refine (HN.out _ (HD0.out.then HB6.out)).mono ?_
          rintro e w7 ⟨rfl, hb7⟩
          have HB7 := Lib.hid (Below.call HB6.out hb7)
          clear hb7 HB6
          go_wp2
          go_ret
          exact ⟨ret_b (by simp), Below.call HB0.out HB7.out⟩
        · have g1 : 0 ≤ id := by omega
          have hN := HSUM.out
          have hP := HPOS.out
          have hL := HLEN.out
          have g2 : id < cw + ct + cl := by omega
          obtain ⟨b1, b2, b3⟩ := hP
          have b4 : cw + ct + cl ≤ 49152 := by omega
          obtain ⟨n1, n2, n3⟩ := HNS.out g1 (by omega)
          rw [n3] at HFN
          rw [n2] at HI
          unfold partVal at HP
          rw [n1] at HP
          rw [hq.out] at HI
          dsimp only at HI HP HFN
          clear n1 n2 n3 hN hL
          generalize (partV d id).1 = q at *
          generalize nameV d id = nv at *
          obtain ⟨qa, qb, qc, qd⟩ := q
          dsimp only at *
          go_enter Try.func9, Try.ntmps9
          go_wp2_with fail
          rw [← hw0, ← hb]
          clear hw0 hb
          refine (HLG.out _ HD0.out).mono ?_
          rintro e w1 ⟨rfl, hb1⟩
          have HB1 := Lib.hid hb1
          clear hb1
          obtain ⟨hz, d0, d1, d2, d3⟩ := HX.out _ HB1.out
          go_wp2_with fail
          clear d0 d1 d2 d3 hz
          refine (HF.out _ (HD0.out.then HB1.out)).mono ?_
          rintro e w2 ⟨rfl, hb2⟩
          have HB2 := Lib.hid (Below.call HB1.out hb2)
          clear hb2 HB1
          obtain ⟨hz, d0, d1, d2, d3⟩ := HX.out _ HB2.out
          go_wp2_with fail
          clear d0 d1 d2 d3 hz
          refine (HRF.out _ (HD0.out.then HB2.out)).mono ?_
          rintro e w3 ⟨rfl, hb3⟩
          have HB3 := Lib.hid (Below.call HB2.out hb3)
          clear hb3 HB2
          go_wp2_with fail
          refine (HLV.out _).mono ?_
          rintro e w4 ⟨rfl, hb4⟩
          have HB4 := Lib.hid (Below.call HB3.out hb4)
          clear hb4 HB3
          obtain ⟨hz, d0, d1, d2, d3⟩ := HX.out _ HB4.out
          go_wp2_with fail
          clear d0 d1 d2 d3 hz
          have HB5 := Lib.hid HB4.out
          clear HB4
          refine (HC.out _ (HD0.out.then HB5.out)).mono ?_
          rintro e w6 ⟨rfl, hb6⟩
          have HB6 := Lib.hid (Below.call HB5.out hb6)
          clear hb6 HB5
          obtain ⟨hz, d0, d1, d2, d3⟩ := HX.out _ HB6.out
          go_wp2_with fail
          clear d0 d1 d2 d3 hz
          refine (HP.out _ (HD0.out.then HB6.out)).mono ?_
          rintro e w7 ⟨rfl, hb7⟩
          have HB7 := Lib.hid (Below.call HB6.out hb7)
          clear hb7 HB6
          obtain ⟨hz, d0, d1, d2, d3⟩ := HX.out _ HB7.out
          go_wp2_with fail
          clear d0 d1 d2 d3 hz
          obtain ⟨w8, hw8⟩ : ∃ w8, w8 = w7.alloc (.cells #[.int .i64 qa, .int .i64 qb, .int .i64 qc, .int .i64 qd] 50) := ⟨_, rfl⟩
          have HB8 := Lib.hid (show Below w0.heap.size w0 w8 by rw [hw8]; exact Below.al HB7.out _)
          rw [← hw8]
          clear hw8 HB7
          refine (HI.out _ (HD0.out.then HB8.out)).mono ?_
          rintro e w9 ⟨rfl, hb9⟩
          have HB9 := Lib.hid (Below.call HB8.out hb9)
          clear hb9 HB8
          obtain ⟨hz, d0, d1, d2, d3⟩ := HX.out _ HB9.out
          go_wp2_with fail
          have HI9 := Lib.hid (HD0.out.then HB9.out)
          go_region_held3 (fun w' => w'.cell? ⟨b, 0, none⟩ = some (.slice d.bA d.bn d.bc) ∧ w'.cell? ⟨b, 1, none⟩ = some (.slice d.pA d.pn d.pc) ∧ w'.cell? ⟨b, 2, none⟩ = some (.slice d.rA d.rn d.rc) ∧ w'.cell? ⟨b, 3, none⟩ = some (.int .i64 d.arms) ∧ Below w9.heap.size w9 w')
            (first | exact ⟨d0, d1, d2, d3, (Below.refl _ _).drew⟩ | assumption | go_keep | (go_split_ands; exact ⟨keep_cell hbc (by assumption), keep_cell hbc (by assumption), keep_cell hbc (by assumption), keep_cell hbc (by assumption), Below.call (by assumption) hbc⟩))
            (first
              | (go_at_call 31; ((with_reducible refine (HN.out _ (HI9.out.then (by go_split_ands; assumption))).mono ?_); rintro e w4 ⟨rfl, hbc⟩))
              | (go_at_call 37; ((with_reducible refine (HFN.out _ (HI9.out.then (by go_split_ands; assumption))).mono ?_); rintro e w4 ⟨rfl, hbc⟩)))
          all_goals
            go_wp2
            go_ret
            exact ⟨ret_b (by simp), Below.call HB0.out (Below.call HB9.out (by go_split_ands; assumption))⟩
end Go.Proofs.Ytegghoniboebkaa
