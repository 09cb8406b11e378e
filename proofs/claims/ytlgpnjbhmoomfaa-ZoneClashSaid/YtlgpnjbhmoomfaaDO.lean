/- The part of an id, the id of a part: what the reference answers. -/
import Derived.Test.YtlgpnjbhmoomfaaDN
namespace Go.Proofs.Ytlgpnjbhmoomfaa
open Go.RowKit

set_option maxRecDepth 100000 in
set_option maxHeartbeats 4000000 in
theorem rpart_any (d : Dk) (id : Int) (hid : fits id) (w : World) (hd : d.In w w.heap.size) : Calls Try.prog 16 #[d.v, .int .i64 id] w fun e w' => e = .returned (partVal (partV d id)) ∧ Below w.heap.size w w' := by
  have HC := Lib.hid (fun w h => rdcheck_any d w h)
  have HP := Lib.hid (fun w h => rparts_any d w h)
  have HD := Lib.hid hd
  have HLN := Lib.hid (parts_len d)
  obtain ⟨w0, hw0⟩ : ∃ w0, w0 = (w.alloc (.cells #[.slice d.bA d.bn d.bc, .slice d.pA d.pn d.pc, .slice d.rA d.rn d.rc, .int .i64 d.arms] 26)).alloc (.cells #[.int .i64 0, .int .i64 0, .int .i64 0, .int .i64 0] 38) := ⟨_, rfl⟩
  have HB0 := Lib.hid (show Below w.heap.size w w0 by rw [hw0]; exact Below.al (Below.al (Below.refl _ _) _) _)
  have HD0 := Lib.hid (HD.out.then HB0.out)
  have HSZ := Lib.hid (show w.heap.size + 1 < w0.heap.size by rw [hw0]; simp)
  have HF := Lib.hid (show ∀ w1, Below w0.heap.size w0 w1 → (w1.cell? ⟨w.heap.size, 0, none⟩ = some (.slice d.bA d.bn d.bc) ∧ w1.cell? ⟨w.heap.size, 1, none⟩ = some (.slice d.pA d.pn d.pc) ∧ w1.cell? ⟨w.heap.size, 2, none⟩ = some (.slice d.rA d.rn d.rc) ∧ w1.cell? ⟨w.heap.size, 3, none⟩ = some (.int .i64 d.arms)) ∧
    (w1.cell? ⟨w.heap.size + 1, 0, none⟩ = some (.int .i64 0) ∧ w1.cell? ⟨w.heap.size + 1, 1, none⟩ = some (.int .i64 0) ∧ w1.cell? ⟨w.heap.size + 1, 2, none⟩ = some (.int .i64 0) ∧ w1.cell? ⟨w.heap.size + 1, 3, none⟩ = some (.int .i64 0)) ∧
    (w1.frozen? ⟨w.heap.size + 1, 0, none⟩ = false ∧ w1.frozen? ⟨w.heap.size + 1, 1, none⟩ = false ∧ w1.frozen? ⟨w.heap.size + 1, 2, none⟩ = false ∧ w1.frozen? ⟨w.heap.size + 1, 3, none⟩ = false) from by
      intro w1 hb
      have hs : w.heap.size + 1 < w0.heap.size := HSZ.out
      refine ⟨⟨keep_cell hb ?_, keep_cell hb ?_, keep_cell hb ?_, keep_cell hb ?_⟩, ⟨keep_cell hb ?_, keep_cell hb ?_, keep_cell hb ?_, keep_cell hb ?_⟩, (hb.frozen (p := ⟨_, 0, none⟩) hs).trans ?_, (hb.frozen (p := ⟨_, 1, none⟩) hs).trans ?_, (hb.frozen (p := ⟨_, 2, none⟩) hs).trans ?_, (hb.frozen (p := ⟨_, 3, none⟩) hs).trans ?_⟩
      all_goals (rw [hw0]; simp))
  unfold fits at hid
  by_cases hz : dchk d = 0
  · have HV := Lib.hid (partV_K d id hz)
    rw [HV.out]
    rw [hz] at HC
    clear hz hd HV
    obtain ⟨P, hP⟩ : ∃ P, P = partsK d := ⟨_, rfl⟩
    rw [← hP] at HP HLN ⊢
    clear hP
    have hpl : P.length ≤ 49152 := HLN.out
    by_cases hr : id < 0 ∨ (P.length : Int) ≤ id
    · have T : partVal (partR P id) = .tuple #[.agg #[.int .i64 0, .int .i64 0, .int .i64 0, .int .i64 0], .int .i64 3] := by unfold partR; rw [if_pos hr]; rfl
      rw [T]
      clear T
      by_cases h0 : id < 0
      · clear hr
        go_enter Try.func16, Try.ntmps16
        go_wp2_with fail
        rw [← hw0]
        clear hw0
        refine (HC.out _ HD0.out).mono ?_
        rintro e w1 ⟨rfl, hb1⟩
        obtain ⟨⟨d0, d1, d2, d3⟩, _, _⟩ := HF.out w1 hb1
        have HB1 := Lib.hid hb1
        clear hb1
        go_wp2_with fail
        refine (HP.out w1 (HD0.out.then HB1.out)).mono ?_
        rintro e w3 ⟨v, rfl, hown, hb3⟩
        have HB3 := Lib.hid (Below.call HB1.out hb3)
        obtain ⟨⟨A, cap, rfl, hcap, _⟩, _, _⟩ := hown.isL (by omega)
        clear hown hb3 d0 d1 d2 d3
        obtain ⟨_, ⟨r0, r1, r2, r3⟩, ⟨z0, z1, z2, z3⟩⟩ := HF.out w3 HB3.out
        go_wp2
        obtain ⟨y0, y1, y2, y3⟩ := st4 (.int .i64 0) (.int .i64 0) (.int .i64 0) (.int .i64 0) r0 r1 r2 r3
        exact bodyPost_ret (v := .tuple #[.agg #[.int .i64 0, .int .i64 0, .int .i64 0, .int .i64 0], .int .i64 3]) (by simp [results, Try.results16, go_sem, y0, y1, y2, y3]) rfl ⟨rfl, below_st4 _ _ _ _ (Below.call HB0.out HB3.out) (by omega)⟩
      · have h1 : (P.length : Int) ≤ id := by omega
        clear hr
        go_enter Try.func16, Try.ntmps16
        go_wp2_with fail
        rw [← hw0]
        clear hw0
        refine (HC.out _ HD0.out).mono ?_
        rintro e w1 ⟨rfl, hb1⟩
        obtain ⟨⟨d0, d1, d2, d3⟩, _, _⟩ := HF.out w1 hb1
        have HB1 := Lib.hid hb1
        clear hb1
        go_wp2_with fail
        refine (HP.out w1 (HD0.out.then HB1.out)).mono ?_
        rintro e w3 ⟨v, rfl, hown, hb3⟩
        have HB3 := Lib.hid (Below.call HB1.out hb3)
        obtain ⟨⟨A, cap, rfl, hcap, _⟩, _, _⟩ := hown.isL (by omega)
        clear hown hb3 d0 d1 d2 d3
        obtain ⟨_, ⟨r0, r1, r2, r3⟩, ⟨z0, z1, z2, z3⟩⟩ := HF.out w3 HB3.out
        go_wp2
        obtain ⟨y0, y1, y2, y3⟩ := st4 (.int .i64 0) (.int .i64 0) (.int .i64 0) (.int .i64 0) r0 r1 r2 r3
        exact bodyPost_ret (v := .tuple #[.agg #[.int .i64 0, .int .i64 0, .int .i64 0, .int .i64 0], .int .i64 3]) (by simp [results, Try.results16, go_sem, y0, y1, y2, y3]) rfl ⟨rfl, below_st4 _ _ _ _ (Below.call HB0.out HB3.out) (by omega)⟩
    · obtain ⟨i, rfl⟩ : ∃ i : Nat, id = (i : Int) := ⟨id.toNat, by omega⟩
      have hi : i < P.length := by omega
      have HT := Lib.hid (show partR P (i : Int) = (P.getD i ⟨0, 0, 0, 0⟩, 0) by unfold partR; rw [if_neg hr, Int.toNat_natCast])
      rw [HT.out]
      clear hr HT
      go_enter Try.func16, Try.ntmps16
      go_wp2_with fail
      rw [← hw0]
      clear hw0
      refine (HC.out _ HD0.out).mono ?_
      rintro e w1 ⟨rfl, hb1⟩
      obtain ⟨⟨d0, d1, d2, d3⟩, _, _⟩ := HF.out w1 hb1
      have HB1 := Lib.hid hb1
      clear hb1
      go_wp2_with fail
      refine (HP.out w1 (HD0.out.then HB1.out)).mono ?_
      rintro e w3 ⟨v, rfl, hown, hb3⟩
      have HB3 := Lib.hid (Below.call HB1.out hb3)
      have HL := Lib.hid (hown.isL (by omega))
      obtain ⟨⟨A, cap, rfl, hcap, _⟩, _, _⟩ := HL.out
      clear hown hb3 d0 d1 d2 d3
      obtain ⟨b, off, rfl, hbB, _, hcell⟩ := q4_cells (K := KQ) rfl rfl rfl HL.out (by omega)
      obtain ⟨c0, c1, c2, c3⟩ := hcell i hi
      obtain ⟨_, ⟨r0, r1, r2, r3⟩, ⟨z0, z1, z2, z3⟩⟩ := HF.out w3 HB3.out
      have hq : ∀ q : Q4, partVal (q, 0) = .tuple #[.agg #[.int .i64 q.a, .int .i64 q.b, .int .i64 q.c, .int .i64 q.d], .int .i64 0] := fun _ => rfl
      have HQ := Lib.hid (hq (P.getD i ⟨0, 0, 0, 0⟩))
      clear hcell hq
      generalize hqq : P.getD i ⟨0, 0, 0, 0⟩ = q at *
      have HQ2 := Lib.hid hqq
      clear hqq
      go_wp2
      obtain ⟨y0, y1, y2, y3⟩ := st4 (.int .i64 q.a) (.int .i64 q.b) (.int .i64 q.c) (.int .i64 q.d) r0 r1 r2 r3
      exact bodyPost_ret (v := .tuple #[.agg #[.int .i64 q.a, .int .i64 q.b, .int .i64 q.c, .int .i64 q.d], .int .i64 0]) (by simp [results, Try.results16, go_sem, y0, y1, y2, y3]) rfl ⟨by rw [HQ2.out, HQ.out], below_st4 _ _ _ _ (Below.call HB0.out HB3.out) (by omega)⟩
  · have HV := Lib.hid (show partVal (partV d id) = .tuple #[.agg #[.int .i64 0, .int .i64 0, .int .i64 0, .int .i64 0], .int .i64 (dchk d)] by unfold partV; rw [if_neg hz]; rfl)
    have hz' : (dchk d != 0) = true := by rw [bne_iff_ne]; exact hz
    rw [HV.out]
    clear hz HV
    generalize dchk d = c at *
    go_enter Try.func16, Try.ntmps16
    go_wp2_with fail
    rw [← hw0]
    clear hw0
    refine (HC.out _ HD0.out).mono ?_
    rintro e w1 ⟨rfl, hb1⟩
    obtain ⟨_, ⟨r0, r1, r2, r3⟩, ⟨z0, z1, z2, z3⟩⟩ := HF.out w1 hb1
    have HB1 := Lib.hid (Below.call HB0.out hb1)
    clear hb1
    go_wp2
    obtain ⟨y0, y1, y2, y3⟩ := st4 (.int .i64 0) (.int .i64 0) (.int .i64 0) (.int .i64 0) r0 r1 r2 r3
    exact bodyPost_ret (v := .tuple #[.agg #[.int .i64 0, .int .i64 0, .int .i64 0, .int .i64 0], .int .i64 c]) (by simp [results, Try.results16, go_sem, y0, y1, y2, y3]) rfl ⟨rfl, below_st4 _ _ _ _ HB1.out (by omega)⟩
end Go.Proofs.Ytlgpnjbhmoomfaa
