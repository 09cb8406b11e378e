/- The part of an id, the id of a part: what the reference answers. -/
import Derived.Test.YtegghoniboebkaaDN
namespace Go.Proofs.Ytegghoniboebkaa
open Go.RowKit

set_option maxRecDepth 100000 in
set_option maxHeartbeats 4000000 in
theorem rpart_any (d : Dk) (id : Int) (hid : fits id) (w : World) (hd : d.In w w.heap.size) : Calls Try.prog 28 #[d.v, .int .i64 id] w fun e w' => e = .returned (partVal (partV d id)) ∧ Below w.heap.size w w' := by
  have HC := Lib.hid (fun w h => rdcheck_any d w h)
  have HP := Lib.hid (fun w h => rparts_any d w h)
  have HD := Lib.hid hd
  have HLN := Lib.hid (parts_len d)
  obtain ⟨w0, hw0⟩ : ∃ w0, w0 = (w.alloc (.cells #[.slice d.bA d.bn d.bc, .slice d.pA d.pn d.pc, .slice d.rA d.rn d.rc, .int .i64 d.arms] 44)).alloc (.cells #[.int .i64 0, .int .i64 0, .int .i64 0, .int .i64 0] 50) := ⟨_, rfl⟩
  have HB0 := Lib.hid (show Below w.heap.size w w0 by rw [hw0]; exact Below.al (Below.al (Below.refl _ _) _) _)
  have HD0 := Lib.hid (HD.out.then HB0.out)
  have HSZ := Lib.hid (show w.heap.size + 1 < w0.heap.size by rw [hw0]; simp)
  have HF := Lib.hid (show ∀ w1, Below w0.heap.size w0 w1 → (w1.cell? ⟨w.heap.size, 0, none⟩ = some (.slice d.bA d.bn d.bc) ∧ w1.cell? ⟨w.heap.size, 1, none⟩ = some (.slice d.pA d.pn d.pc) ∧ w1.cell? ⟨w.heap.size, 2, none⟩ = some (.slice d.rA d.rn d.rc) ∧ w1.cell? ⟨w.heap.size, 3, none⟩ = some (.int .i64 d.arms)) ∧
    (w1.cell? ⟨w.heap.size + 1, 0, none⟩ = some (.int .i64 0) ∧ w1.cell? ⟨w.heap.size + 1, 1, none⟩ = some (.int .i64 0) ∧ w1.cell? ⟨w.heap.size + 1, 2, none⟩ = some (.int .i64 0) ∧ w1.cell? ⟨w.heap.size + 1, 3, none⟩ = some (.int .i64 0)) ∧
    (w1.frozen? ⟨w.heap.size + 1, 0, none⟩ = false ∧ w1.frozen? ⟨w.heap.size + 1, 1, none⟩ = false ∧ w1.frozen? ⟨w.heap.size + 1, 2, none⟩ = false ∧ w1.frozen? ⟨w.heap.size + 1, 3, none⟩ = false) from by
      intro w1 hb
      have hs : w.heap.size + 1 < w0.heap.size := HSZ.out
      refine ⟨⟨keep_cell hb ?_, keep_cell hb ?_, keep_cell hb ?_, keep_cell hb ?_⟩, ⟨keep_cell hb ?_, keep_cell hb ?_, keep_cell hb ?_, keep_cell hb ?_⟩, (hb.frozen (p := ⟨_, 0, none⟩) hs).trans ?_, (hb.frozen (p := ⟨_, 1, none⟩) hs).trans ?_, (hb.frozen (p := ⟨_, 2, none⟩) hs).trans ?_, (hb.frozen (p := ⟨_, 3, none⟩) hs).trans ?_⟩
      all_goals (rw [hw0]; simp))
  unfold fits at hid
  by_cases hz : dchk d = 0
  · have HV := Lib.hid (partV_K d id hz)
    rw [HV.out]
    rw [hz] at HC
    clear hz hd HV
    obtain ⟨P, hP⟩ : ∃ P, P = partsK d := ⟨_, rfl⟩
    rw [← hP] at HP HLN ⊢
    clear hP
    have hpl : P.length ≤ 49152 := HLN.out
    by_cases hr : id < 0 ∨ (P.length : Int) ≤ id
    · have T : partVal (partR P id) = .tuple #[.agg #[.int .i64 0, .int .i64 0, .int .i64 0, .int .i64 0], .int .i64 3] := by unfold partR; rw [if_pos hr]; rfl
      rw [T]
      clear T
      by_cases h0 : id < 0
      · clear hr
        go_enter Try.func28, Try.ntmps28
        go_wp2_with fail
        rw [← hw0]
        clear hw0
        refine (HC.out _ HD0.out).mono ?_
        rintro e w1 ⟨rfl, hb1⟩
        obtain ⟨⟨d0, d1, d2, d3⟩, _, _⟩ := HF.out w1 hb1
        have HB1 := Lib.hid hb1
        clear hb1
        go_wp2_with fail
        refine (HP.out w1 (HD0.out.then HB1.out)).mono ?_
        rintro e w3 ⟨v, rfl, hown, hb3⟩
        have HB3 := Lib.hid (Below.call HB1.out hb3)
        obtain ⟨⟨A, cap, rfl, hcap, _⟩, _, _⟩ := hown.isL (by omega)
        clear hown hb3 d0 d1 d2 d3
        obtain ⟨_, ⟨r0, r1, r2, r3⟩, ⟨z0, z1, z2, z3⟩⟩ := HF.out w3 HB3.out
        go_wp2
        obtain ⟨y0, y1, y2, y3⟩ := st4 (.int .i64 0) (.int .i64 0) (.int .i64 0) (.int .i64 0) r0 r1 r2 r3
        exact bodyPost_ret (v := .tuple #[.agg #[.int .i64 0, .int .i64 0, .int .i64 0, .int .i64 0], .int .i64 3]) (by simp [results, Try.results28, go_sem, y0, y1, y2, y3]) rfl ⟨rfl, below_st4 _ _ _ _ (Below.call HB0.out HB3.out) (by omega)⟩
      · have h1 : (P.length : Int) ≤ id := by omega
        clear hr
        go_enter Try.func28, Try.ntmps28
        go_wp2_with fail
        rw [← hw0]
        clear hw0
        refine (HC.out _ HD0.out).mono ?_
        rintro e w1 ⟨rfl, hb1⟩
        obtain ⟨⟨d0, d1, d2, d3⟩, _, _⟩ := HF.out w1 hb1
        have HB1 := Lib.hid hb1
        clear hb1
        go_wp2_with fail
        refine (HP.out w1 (HD0.out.then HB1.out)).mono ?_
        rintro e w3 ⟨v, rfl, hown, hb3⟩
        have HB3 := Lib.hid (Below.call HB1.out hb3)
        obtain ⟨⟨A, cap, rfl, hcap, _⟩, _, _⟩ := hown.isL (by omega)
        clear hown hb3 d0 d1 d2 d3
        obtain ⟨_, ⟨r0, r1, r2, r3⟩, ⟨z0, z1, z2, z3⟩⟩ := HF.out w3 HB3.out
        go_wp2
        obtain ⟨y0, y1, y2, y3⟩ := st4 (.int .i64 0) (.int .i64 0) (.int .i64 0) (.int .i64 0) r0 r1 r2 r3
        exact bodyPost_ret (v := .tuple #[.agg #[.int .i64 0, .int .i64 0, .int .i64 0, .int .i64 0], .int .i64 3]) (by simp [results, Try.results28, go_sem, y0, y1, y2, y3]) rfl ⟨rfl, below_st4 _ _ _ _ (Below.call HB0.out HB3.out) (by omega)⟩
    · obtain ⟨i, rfl⟩ : ∃ i : Nat, id = (i : Int) := ⟨id.toNat, by omega⟩
      have hi : i < P.length := by omega
      have HT := Lib.hid (show partR P (i : Int) = (P.getD i ⟨0, 0, 0, 0⟩, 0) by unfold partR; rw [if_neg hr, Int.toNat_natCast])
      rw [HT.out]
      clear hr HT
      go_enter Try.func28, Try.ntmps28
      go_wp2_with fail
      rw [← hw0]
      clear hw0
      refine (HC.out _ HD0.out).mono ?_
      rintro e w1 ⟨rfl, hb1⟩
      obtain ⟨⟨d0, d1, d2, d3⟩, _, _⟩ := HF.out w1 hb1
      have HB1 := Lib.hid hb1
      clear hb1
      go_wp2_with fail
      refine (HP.out w1 (HD0.out.then HB1.out)).mono ?_
      rintro e w3 ⟨v, rfl, hown, hb3⟩
      have HB3 := Lib.hid (Below.call HB1.out hb3)
      have HL := Lib.hid (hown.isL (by omega))
      obtain ⟨⟨A, cap, rfl, hcap, _⟩, _, _⟩ := HL.out
      clear hown hb3 d0 d1 d2 d3
      obtain ⟨b, off, rfl, hbB, _, hcell⟩ := q4_cells (K := KQ) rfl rfl rfl HL.out (by omega)
      obtain ⟨c0, c1, c2, c3⟩ := hcell i hi
      obtain ⟨_, ⟨r0, r1, r2, r3⟩, ⟨z0, z1, z2, z3⟩⟩ := HF.out w3 HB3.out
      have hq : ∀ q : Q4, partVal (q, 0) = .tuple #[.agg #[.int .i64 q.a, .int .i64 q.b, .int .i64 q.c, .int .i64 q.d], .int .i64 0] := fun _ => rfl
      have HQ := Lib.hid (hq (P.getD i ⟨0, 0, 0, 0⟩))
      clear hcell hq
      generalize hqq : P.getD i ⟨0, 0, 0, 0⟩ = q at *
      have HQ2 := Lib.hid hqq
      clear hqq
      go_wp2
      obtain ⟨y0, y1, y2, y3⟩ := st4 (.int .i64 q.a) (.int .i64 q.b) (.int .i64 q.c) (.int .i64 q.d) r0 r1 r2 r3
      exact bodyPost_ret (v := .tuple #[.agg #[.int .i64 q.a, .int .i64 q.b, .int .i64 q.c, .int .i64 q.d], .int .i64 0]) (by simp [results, Try.results28, go_sem, y0, y1, y2, y3]) rfl ⟨by rw [HQ2.out, HQ.out], below_st4 _ _ _ _ (Below.call HB0.out HB3.out) (by omega)⟩
  · have HV := Lib.hid (show partVal (partV d id) = .tuple #[.agg #[.int .i64 0, .int .i64 0, .int .i64 0, .int .i64 0], .int .i64 (dchk d)] by unfold partV; rw [if_neg hz]; rfl)
    have hz' : (dchk d != 0) = true := by rw [bne_iff_ne]; exact hz
    rw [HV.out]
    clear hz HV
    generalize dchk d = c at *
    go_enter Try.func28, Try.ntmps28
    go_wp2_with fail
    rw [← hw0]
    clear hw0
    refine (HC.out _ HD0.out).mono ?_
    rintro e w1 ⟨rfl, hb1⟩
    obtain ⟨_, ⟨r0, r1, r2, r3⟩, ⟨z0, z1, z2, z3⟩⟩ := HF.out w1 hb1
    have HB1 := Lib.hid (Below.call HB0.out hb1)
    clear hb1
    go_wp2
    obtain ⟨y0, y1, y2, y3⟩ := st4 (.int .i64 0) (.int .i64 0) (.int .i64 0) (.int .i64 0) r0 r1 r2 r3
    exact bodyPost_ret (v := .tuple #[.agg #[.int .i64 0, .int .i64 0, .int .i64 0, .int .i64 0], .int .i64 c]) (by simp [results, Try.results28, go_sem, y0, y1, y2, y3]) rfl ⟨rfl, below_st4 _ _ _ _ HB1.out (by omega)⟩
set_option maxRecDepth 100000 in
set_option maxHeartbeats 4000000 in
theorem rid_any (d : Dk) (p : Q4) (w : World) (hd : d.In w w.heap.size) : Calls Try.prog 30 #[d.v, p.v] w fun e w' => e = .returned (.tuple #[.int .i64 (idV d p).1, .int .i64 (idV d p).2]) ∧ Below w.heap.size w w' := by
  have HC := Lib.hid (fun w h => rdcheck_any d w h)
  have HP := Lib.hid (fun w h => rparts_any d w h)
  have HD := Lib.hid hd
  have HLN := Lib.hid (parts_len d)
  obtain ⟨w0, hw0⟩ : ∃ w0, w0 = (w.alloc (.cells #[.slice d.bA d.bn d.bc, .slice d.pA d.pn d.pc, .slice d.rA d.rn d.rc, .int .i64 d.arms] 44)).alloc (.cells #[.int .i64 p.a, .int .i64 p.b, .int .i64 p.c, .int .i64 p.d] 50) := ⟨_, rfl⟩
  have HB0 := Lib.hid (show Below w.heap.size w w0 by rw [hw0]; exact Below.al (Below.al (Below.refl _ _) _) _)
  have HD0 := Lib.hid (HD.out.then HB0.out)
  have HF := Lib.hid (show ∀ w1, Below w0.heap.size w0 w1 → (w1.cell? ⟨w.heap.size, 0, none⟩ = some (.slice d.bA d.bn d.bc) ∧ w1.cell? ⟨w.heap.size, 1, none⟩ = some (.slice d.pA d.pn d.pc) ∧ w1.cell? ⟨w.heap.size, 2, none⟩ = some (.slice d.rA d.rn d.rc) ∧ w1.cell? ⟨w.heap.size, 3, none⟩ = some (.int .i64 d.arms)) ∧
    (w1.cell? ⟨w.heap.size + 1, 0, none⟩ = some (.int .i64 p.a) ∧ w1.cell? ⟨w.heap.size + 1, 1, none⟩ = some (.int .i64 p.b) ∧ w1.cell? ⟨w.heap.size + 1, 2, none⟩ = some (.int .i64 p.c) ∧ w1.cell? ⟨w.heap.size + 1, 3, none⟩ = some (.int .i64 p.d)) from by
      intro w1 hb
      refine ⟨⟨keep_cell hb ?_, keep_cell hb ?_, keep_cell hb ?_, keep_cell hb ?_⟩, keep_cell hb ?_, keep_cell hb ?_, keep_cell hb ?_, keep_cell hb ?_⟩
      all_goals (rw [hw0]; simp))
  by_cases hz : dchk d = 0
  · have HV := Lib.hid (idV_K d p hz)
    rw [HV.out]
    rw [hz] at HC
    clear hz hd HV
    obtain ⟨P, hP⟩ : ∃ P, P = partsK d := ⟨_, rfl⟩
    rw [← hP] at HP HLN ⊢
    clear hP
    have hpl : P.length ≤ 49152 := HLN.out
    go_enter Try.func30, Try.ntmps30
    go_wp2_with fail
    rw [← hw0]
    clear hw0
    refine (HC.out _ HD0.out).mono ?_
    rintro e w1 ⟨rfl, hb1⟩
    obtain ⟨⟨d0, d1, d2, d3⟩, _⟩ := HF.out w1 hb1
    have HB1 := Lib.hid hb1
    clear hb1
    go_wp2_with fail
    refine (HP.out w1 (HD0.out.then HB1.out)).mono ?_
    rintro e w3 ⟨v, rfl, hown, hb3⟩
    have HB3 := Lib.hid (Below.call HB1.out hb3)
    have HL := Lib.hid (hown.isL (by omega))
    obtain ⟨⟨A, cap, rfl, hcap, _⟩, _, _⟩ := HL.out
    clear hown hb3 d0 d1 d2 d3
    obtain ⟨_, ⟨r0, r1, r2, r3⟩⟩ := HF.out w3 HB3.out
    have HR := Lib.hid (⟨r0, r1, r2, r3⟩ : _ ∧ _ ∧ _ ∧ _)
    go_wp2
    clear r0 r1 r2 r3
    go_loopw [8] (fun i wr => ∃ (k n : Nat), k ≤ P.length ∧ i = .int .i64 k ∧ wr = w3.drewN n ∧ idR p (P.drop k) k = idR p P 0) (fun i _ => P.length - (intOf i).toNat)
    case atStart => exact ⟨0, 0, Nat.zero_le _, rfl, rfl, rfl⟩
    case round =>
      obtain ⟨k, n, hk, rfl, hw, hgo⟩ := hrel
      have HW := Lib.hid hw
      have HGO := Lib.hid hgo
      clear hgo
      by_cases hlt : k < P.length
      · obtain ⟨b, off, rfl, hbB, _, hcell⟩ := q4_cells (K := KQ) rfl rfl rfl HL.out (by omega)
        obtain ⟨c0, c1, c2, c3⟩ := hcell k hlt
        obtain ⟨r0, r1, r2, r3⟩ := HR.out
        have hgo := HGO.out
        rw [drop_snoc P k ⟨0, 0, 0, 0⟩ hlt] at hgo
        have HIR := Lib.hid (show ∀ x : Q4, idR p (x :: P.drop (k + 1)) k = if x = p then ((k : Int), 0) else idR p (P.drop (k + 1)) (k + 1) from fun _ => rfl)
        rw [HIR.out] at hgo
        have e0 : wr.cell? ⟨b, off + k * 4, none⟩ = some (.int .i64 (P.getD k ⟨0, 0, 0, 0⟩).a) := by rw [hw]; exact c0
        have e1 : wr.cell? ⟨b, off + k * 4 + 1, none⟩ = some (.int .i64 (P.getD k ⟨0, 0, 0, 0⟩).b) := by rw [hw]; exact c1
        have e2 : wr.cell? ⟨b, off + k * 4 + 2, none⟩ = some (.int .i64 (P.getD k ⟨0, 0, 0, 0⟩).c) := by rw [hw]; exact c2
        have e3 : wr.cell? ⟨b, off + k * 4 + 3, none⟩ = some (.int .i64 (P.getD k ⟨0, 0, 0, 0⟩).d) := by rw [hw]; exact c3
        have s0 : wr.cell? ⟨w.heap.size + 1, 0, none⟩ = some (.int .i64 p.a) := by rw [hw]; exact r0
        have s1 : wr.cell? ⟨w.heap.size + 1, 1, none⟩ = some (.int .i64 p.b) := by rw [hw]; exact r1
        have s2 : wr.cell? ⟨w.heap.size + 1, 2, none⟩ = some (.int .i64 p.c) := by rw [hw]; exact r2
        have s3 : wr.cell? ⟨w.heap.size + 1, 3, none⟩ = some (.int .i64 p.d) := by rw [hw]; exact r3
        clear hcell c0 c1 c2 c3 r0 r1 r2 r3 hw HIR
        generalize P.getD k ⟨0, 0, 0, 0⟩ = q at *
        by_cases hq : q = p
        · subst hq
          rw [if_pos rfl] at hgo
          have HF1 := Lib.hid hgo
          clear hgo
          have HBW := Lib.hid (show Below w0.heap.size w0 wr by rw [HW.out]; exact below_drewN HB3.out _)
          go_wp2_with fail
          go_quiet (fail)
          go_wp2
          go_ret2
          exact ⟨by rw [← HF1.out]; rfl, below_drewN (Below.call HB0.out HBW.out) _⟩
        · rw [if_neg hq] at hgo
          have HF1 := Lib.hid hgo
          have HNE := Lib.hid (show ¬ (q.a = p.a ∧ q.b = p.b ∧ q.c = p.c ∧ q.d = p.d) from fun ⟨h1, h2, h3, h4⟩ => hq (by cases q; cases p; dsimp only at h1 h2 h3 h4; rw [h1, h2, h3, h4]))
          clear hgo hq
          obtain ⟨qa, qb, qc, qd⟩ := q
          obtain ⟨pa, pb, pc, pd⟩ := p
          dsimp only at *
          by_cases ha : qa = pa
          · subst ha
            by_cases hb : qb = pb
            · subst hb
              by_cases hc : qc = pc
              · subst hc
                have hd : (qd == pd) = false := by rw [beq_eq_false_iff_ne]; exact fun h => HNE.out ⟨rfl, rfl, rfl, h⟩
                go_wp2_with fail
                go_quiet (fail)
                go_wp2
                go_roundw
                case rel => obtain ⟨d2, hd2⟩ := drewN_two w3 n nq; exact ⟨k + 1, d2, by omega, num_i (by omega), by rw [HW.out]; exact hd2, HF1.out⟩
                case measure => simp [intOf]; omega
              · have hd : (qc == pc) = false := by rw [beq_eq_false_iff_ne]; exact hc
                go_wp2_with fail
                go_quiet (fail)
                go_wp2
                go_roundw
                case rel => obtain ⟨d2, hd2⟩ := drewN_two w3 n nq; exact ⟨k + 1, d2, by omega, num_i (by omega), by rw [HW.out]; exact hd2, HF1.out⟩
                case measure => simp [intOf]; omega
            · have hd : (qb == pb) = false := by rw [beq_eq_false_iff_ne]; exact hb
              go_wp2_with fail
              go_quiet (fail)
              go_wp2
              go_roundw
              case rel => obtain ⟨d2, hd2⟩ := drewN_two w3 n nq; exact ⟨k + 1, d2, by omega, num_i (by omega), by rw [HW.out]; exact hd2, HF1.out⟩
              case measure => simp [intOf]; omega
          · have hd : (qa == pa) = false := by rw [beq_eq_false_iff_ne]; exact ha
            go_wp2_with fail
            go_quiet (fail)
            go_wp2
            go_roundw
            case rel => obtain ⟨d2, hd2⟩ := drewN_two w3 n nq; exact ⟨k + 1, d2, by omega, num_i (by omega), by rw [HW.out]; exact hd2, HF1.out⟩
            case measure => simp [intOf]; omega
      · obtain rfl : k = P.length := by omega
        have HF1 := Lib.hid (show idR p P 0 = (0, 3) by rw [← HGO.out, List.drop_length]; rfl)
        have HBW := Lib.hid (show Below w0.heap.size w0 wr by rw [hw]; exact below_drewN HB3.out _)
        clear hw
        go_wp2
        go_ret2
        exact ⟨by rw [HF1.out]; rfl, Below.call HB0.out HBW.out⟩
  · have T : idV d p = (0, dchk d) := by unfold idV; rw [if_neg hz]
    rw [T]
    have hz' : (dchk d != 0) = true := by rw [bne_iff_ne]; exact hz
    clear T hz hd
    generalize dchk d = c at *
    go_enter Try.func30, Try.ntmps30
    go_wp2_with fail
    rw [← hw0]
    clear hw0
    refine (HC.out _ HD0.out).mono ?_
    rintro e w1 ⟨rfl, hb1⟩
    have HB1 := Lib.hid hb1
    clear hb1
    go_wp2
    go_ret2
    exact ⟨rfl, Below.call HB0.out HB1.out⟩
end Go.Proofs.Ytegghoniboebkaa
