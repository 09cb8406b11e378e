/- A part's id, and how many parts there are: what the program answers. -/
import Derived.Test.YtegghoniboebkaaDI
namespace Go.Proofs.Ytegghoniboebkaa
open Go.RowKit

noncomputable def cntV (d : Dk) : Int × Int × Int := if dchk d = 0 then (wellsV d.pl, tipsV d.rl, (d.bl.length : Int) - 1) else (0, 0, 0)
theorem ret_iii {a b c x y z : Int} (h : a = x) (k : b = y) (l : c = z) : Ending.returned (.tuple #[.int .i64 a, .int .i64 b, .int .i64 c]) = .returned (.tuple #[.int .i64 x, .int .i64 y, .int .i64 z]) := by rw [h, k, l]
set_option maxRecDepth 100000 in
set_option maxHeartbeats 4000000 in
theorem counts_any (d : Dk) (w : World) (hd : d.In w w.heap.size) : Calls Try.prog 23 #[d.v] w fun e w' => e = .returned (.tuple #[.int .i64 (cntV d).1, .int .i64 (cntV d).2.1, .int .i64 (cntV d).2.2]) ∧ Below w.heap.size w w' := by
  have HC := Lib.hid (fun w h => dcheck_any d w h)
  have HP := Lib.hid (fun w h a b c e => places_any d w h a b c e)
  have HD := Lib.hid hd
  have hbn := hd.b.len
  obtain ⟨w0, hw0⟩ : ∃ w0, w0 = w.alloc (.cells #[.slice d.bA d.bn d.bc, .slice d.pA d.pn d.pc, .slice d.rA d.rn d.rc, .int .i64 d.arms] 44) := ⟨_, rfl⟩
  have HB0 := Lib.hid (show Below w.heap.size w w0 by rw [hw0]; exact Below.al (Below.refl _ _) _)
  have HD0 := Lib.hid (HD.out.then HB0.out)
  have HF := Lib.hid (show ∀ w1, Below w0.heap.size w0 w1 → (w1.cell? ⟨w.heap.size, 0, none⟩ = some (.slice d.bA d.bn d.bc) ∧ w1.cell? ⟨w.heap.size, 1, none⟩ = some (.slice d.pA d.pn d.pc) ∧ w1.cell? ⟨w.heap.size, 2, none⟩ = some (.slice d.rA d.rn d.rc) ∧ w1.cell? ⟨w.heap.size, 3, none⟩ = some (.int .i64 d.arms)) from by
      intro w1 hb
      refine ⟨keep_cell hb ?_, keep_cell hb ?_, keep_cell hb ?_, keep_cell hb ?_⟩
      all_goals (rw [hw0]; simp))
  by_cases hz : dchk d = 0
  · have HOK := Lib.hid (dchk_ok d hz)
    have T : cntV d = (wellsV d.pl, tipsV d.rl, (d.bl.length : Int) - 1) := by unfold cntV; rw [if_pos hz]
    rw [T]
    rw [hz] at HC
    have b2 := HOK.out.rise.two
    have b3 := HOK.out.rise.most
    clear hz T hd
    dsimp only
    rw [← hbn] at b2 b3 ⊢
    clear hbn
    generalize wellsV d.pl = s at *
    generalize tipsV d.rl = t at *
    go_enter Try.func23, Try.ntmps23
    go_wp2_with fail
    rw [← hw0]
    clear hw0
    refine (HC.out _ HD0.out).mono ?_
    rintro e w1 ⟨rfl, hb1⟩
    obtain ⟨d0, d1, d2, d3⟩ := HF.out w1 hb1
    have HB1 := Lib.hid hb1
    clear hb1
    go_wp2_with fail
    refine (HP.out w1 (HD0.out.then HB1.out) HOK.out.p4 HOK.out.r4 (fun i hi => plate_size (HOK.out.pl i hi)) HOK.out.rl).mono ?_
    rintro e w2 ⟨rfl, hb2⟩
    have q0 := keep_cell hb2 d0
    have HB2 := Lib.hid (Below.call HB1.out hb2)
    clear hb2 d0 d1 d2 d3
    go_wp2_with fail
    go_quiet (fail)
    go_wp2
    go_ret3
    exact ⟨rfl, below_drewN (Below.call HB0.out HB2.out) _⟩
  · have T : cntV d = (0, 0, 0) := by unfold cntV; rw [if_neg hz]
    rw [T]
    have hz' : (dchk d != 0) = true := by rw [bne_iff_ne]; exact hz
    clear T hz hd hbn
    generalize dchk d = c at *
    go_enter Try.func23, Try.ntmps23
    go_wp2_with fail
    rw [← hw0]
    clear hw0
    refine (HC.out _ HD0.out).mono ?_
    rintro e w1 ⟨rfl, hb1⟩
    have HB1 := Lib.hid hb1
    clear hb1
    go_wp2
    go_ret3
    exact ⟨rfl, Below.call HB0.out HB1.out⟩

set_option maxRecDepth 100000 in
set_option maxHeartbeats 4000000 in
theorem id_any (d : Dk) (p : Q4) (w : World) (hd : d.In w w.heap.size) : Calls Try.prog 29 #[d.v, p.v] w fun e w' => e = .returned (.tuple #[.int .i64 (idV d p).1, .int .i64 (idV d p).2]) ∧ Below w.heap.size w w' := by
  have HC := Lib.hid (fun w h => dcheck_any d w h)
  have HD := Lib.hid hd
  have HU := Lib.hid (fun w h a b c e => units_any d w h a b c e)
  obtain ⟨w0, hw0⟩ : ∃ w0, w0 = (w.alloc (.cells #[.slice d.bA d.bn d.bc, .slice d.pA d.pn d.pc, .slice d.rA d.rn d.rc, .int .i64 d.arms] 44)).alloc (.cells #[.int .i64 p.a, .int .i64 p.b, .int .i64 p.c, .int .i64 p.d] 50) := ⟨_, rfl⟩
  have HB0 := Lib.hid (show Below w.heap.size w w0 by rw [hw0]; exact Below.al (Below.al (Below.refl _ _) _) _)
  have HD0 := Lib.hid (HD.out.then HB0.out)
  have HSZ := Lib.hid (show w.heap.size + 1 < w0.heap.size by rw [hw0]; simp)
  have HF := Lib.hid (show ∀ w1, Below w0.heap.size w0 w1 → (w1.cell? ⟨w.heap.size, 0, none⟩ = some (.slice d.bA d.bn d.bc) ∧ w1.cell? ⟨w.heap.size, 1, none⟩ = some (.slice d.pA d.pn d.pc) ∧ w1.cell? ⟨w.heap.size, 2, none⟩ = some (.slice d.rA d.rn d.rc) ∧ w1.cell? ⟨w.heap.size, 3, none⟩ = some (.int .i64 d.arms)) ∧
    (w1.cell? ⟨w.heap.size + 1, 0, none⟩ = some (.int .i64 p.a) ∧ w1.cell? ⟨w.heap.size + 1, 1, none⟩ = some (.int .i64 p.b) ∧ w1.cell? ⟨w.heap.size + 1, 2, none⟩ = some (.int .i64 p.c) ∧ w1.cell? ⟨w.heap.size + 1, 3, none⟩ = some (.int .i64 p.d)) from by
      intro w1 hb
      refine ⟨⟨keep_cell hb ?_, keep_cell hb ?_, keep_cell hb ?_, keep_cell hb ?_⟩, keep_cell hb ?_, keep_cell hb ?_, keep_cell hb ?_, keep_cell hb ?_⟩
      all_goals (rw [hw0]; simp))
  by_cases hz : dchk d = 0
  · have hok := dchk_ok d hz
    have HP := Lib.hid (show idV d p = idU p (unitsL d) 0 by unfold idV partsL; rw [if_pos hz, idU_R p _ (units_ok d hok)])
    have HOK := Lib.hid hok
    have HUO := Lib.hid (units_ok d hok)
    have HUL := Lib.hid (units_len d hok)
    rw [HP.out]
    rw [hz] at HC
    clear hz HP hok hd
    obtain ⟨us, hus⟩ : ∃ us, us = unitsL d := ⟨_, rfl⟩
    rw [← hus] at HUO HUL HU ⊢
    clear hus
    go_enter Try.func29, Try.ntmps29
    go_wp2_with fail
    rw [← hw0]
    clear hw0
    refine (HC.out _ HD0.out).mono ?_
    rintro e w1 ⟨rfl, hb1⟩
    obtain ⟨⟨d0, d1, d2, d3⟩, _⟩ := HF.out w1 hb1
    have HB1 := Lib.hid hb1
    clear hb1
    go_wp2_with fail
    refine (HU.out w1 (HD0.out.then HB1.out) HOK.out.p4 HOK.out.r4 HOK.out.rise.two HOK.out.rise.most).mono ?_
    rintro e w3 ⟨v, rfl, hown, hb3⟩
    clear d0 d1 d2 d3
    have HB3 := Lib.hid (Below.call HB1.out hb3)
    have HL := Lib.hid (hown.isL (by have := HUL.out; omega))
    obtain ⟨⟨A, cap, rfl, hcap, _⟩, _, _⟩ := HL.out
    have hul : us.length ≤ 32 := HUL.out
    have hs3 : w.heap.size + 1 < w3.heap.size := Nat.lt_of_lt_of_le HSZ.out HB3.out.size
    clear hown hb3
    go_wp2
    go_loopw [7, 18] (fun s i wr => ∃ (k : Nat) (t : Int), k ≤ us.length ∧ i = .int .i64 k ∧ s = .int .i64 t ∧ 0 ≤ t ∧ t ≤ 1536 * k ∧ idU p (us.drop k) t = idU p us 0 ∧ Below w3.heap.size w3 wr) (fun _ i _ => us.length - (intOf i).toNat)
    case atStart => exact ⟨0, 0, Nat.zero_le _, rfl, rfl, by omega, by omega, rfl, Below.refl _ _⟩
    case round =>
      obtain ⟨k, t, hk, rfl, rfl, t0, t1, hgo, hbl⟩ := hrel
      have HB := Lib.hid hbl
      have HGO := Lib.hid hgo
      have hwr : w.heap.size + 1 < wr.heap.size := Nat.lt_of_lt_of_le hs3 hbl.size
      have HW := Lib.hid (Below.call HB3.out hbl)
      clear hbl hgo
      by_cases hlt : k < us.length
      · obtain ⟨b, off, rfl, hbB, _, hcell⟩ := q4_cells (K := KU) rfl rfl rfl (HL.out.below HB.out) (by omega)
        obtain ⟨c0, c1, c2, c3⟩ := hcell k hlt
        have HU1 := Lib.hid (HUO.out _ (getD_mem' us k ⟨0, 0, 0, 0⟩ hlt))
        have hgo := HGO.out
        rw [drop_snoc us k ⟨0, 0, 0, 0⟩ hlt] at hgo
        obtain ⟨_, ⟨q0, q1, q2, q3⟩⟩ := HF.out wr HW.out
        clear hcell
        generalize us.getD k ⟨0, 0, 0, 0⟩ = u at *
        obtain ⟨o1, o2, o3, o4, o5, o6, o7⟩ := okU_pos HU1.out
        have od : 1 ≤ u.d := by omega
        have oc : u.c * u.d ≤ 1536 := by omega
        have oc1 : 1 ≤ u.c * u.d := by omega
        have HPA := Lib.hid (parts_any u HU1.out)
        have HHA := Lib.hid (has_any u p)
        have HHS := Lib.hid (fun h : hasU u p = true => (of_decide_eq_true h : p.a = u.a ∧ p.b = u.b ∧ 0 ≤ p.c ∧ p.c < u.c ∧ 0 ≤ p.d ∧ p.d < u.d))
        have HSZ2 := Lib.hid (size_of HU1.out.2.2.2)
        clear o1 o2 o3 o4 o5 o6 o7
        rw [idU] at hgo
        rcases Bool.eq_false_or_eq_true (hasU u p) with g | g
        · rw [g, if_pos rfl] at hgo
          rw [g] at HHA
          have HF1 := Lib.hid hgo
          obtain ⟨-, -, e3, e4, e5, e6⟩ := HHS.out g
          obtain ⟨z1, z2, z3, z4⟩ := HSZ2.out
          have m1 : 0 ≤ p.c * u.d := Int.mul_nonneg e3 (by omega)
          have m2 : p.c * u.d ≤ 1536 := by
            have := Int.mul_le_mul_of_nonneg_right (a := p.c) (b := u.c) (c := u.d) (by omega) (by omega)
            omega
          have e7 : p.d < 48 := by omega
          clear hgo e3 e4 e6 z1 z2 z3 z4
          go_wp2_with fail
          refine (HHA.out _).mono ?_
          rintro e w4 ⟨rfl, hb4⟩
          have y3 : w4.cell? ⟨wr.heap.size, 3, none⟩ = some (.int .i64 u.d) := keep_cell hb4 (alloc_cell _ _ _ _ _ rfl)
          have x2 := keep_cell hb4 (keep_cell (Below.al (Below.refl _ _) (.cells #[.int .i64 u.a, .int .i64 u.b, .int .i64 u.c, .int .i64 u.d] 77)) q2)
          have x3 := keep_cell hb4 (keep_cell (Below.al (Below.refl _ _) (.cells #[.int .i64 u.a, .int .i64 u.b, .int .i64 u.c, .int .i64 u.d] 77)) q3)
          have HB4 := Lib.hid (Below.call (Below.al HW.out _) hb4)
          clear hb4 q0 q1 q2 q3
          go_wp2
          go_ret2
          exact ⟨by rw [← HF1.out]; rfl, Below.call HB0.out HB4.out⟩
        · rw [g, if_neg (by simp)] at hgo
          rw [g] at HHA
          have HF1 := Lib.hid hgo
          clear hgo
          go_wp2_with fail
          refine (HHA.out _).mono ?_
          rintro e w4 ⟨rfl, hb4⟩
          have y0 : w4.cell? ⟨wr.heap.size, 0, none⟩ = some (.int .i64 u.a) := keep_cell hb4 (alloc_cell _ _ _ _ _ rfl)
          have y1 : w4.cell? ⟨wr.heap.size, 1, none⟩ = some (.int .i64 u.b) := keep_cell hb4 (alloc_cell _ _ _ _ _ rfl)
          have y2 : w4.cell? ⟨wr.heap.size, 2, none⟩ = some (.int .i64 u.c) := keep_cell hb4 (alloc_cell _ _ _ _ _ rfl)
          have y3 : w4.cell? ⟨wr.heap.size, 3, none⟩ = some (.int .i64 u.d) := keep_cell hb4 (alloc_cell _ _ _ _ _ rfl)
          have HB4 := Lib.hid (Below.call (Below.al HB.out _) hb4)
          clear hb4 q0 q1 q2 q3
          go_wp2_with fail
          refine (HPA.out _).mono ?_
          rintro e w5 ⟨rfl, hb5⟩
          have HB5 := Lib.hid (Below.call HB4.out hb5)
          clear hb5
          go_wp2
          go_roundw
          case rel => exact ⟨k + 1, t + u.c * u.d, by omega, num_i (by omega), num_i (by omega), by omega, by omega, HF1.out, HB5.out⟩
          case measure => simp [intOf]; omega
      · obtain rfl : k = us.length := by omega
        have HF1 := Lib.hid (show idU p us 0 = (0, 3) by rw [← HGO.out, List.drop_length]; rfl)
        go_wp2
        go_ret2
        exact ⟨by rw [HF1.out]; rfl, Below.call HB0.out HW.out⟩
  · have T : idV d p = (0, dchk d) := by unfold idV; rw [if_neg hz]
    rw [T]
    have hz' : (dchk d != 0) = true := by rw [bne_iff_ne]; exact hz
    clear T hz hd
    generalize dchk d = c at *
    go_enter Try.func29, Try.ntmps29
    go_wp2_with fail
    rw [← hw0]
    clear hw0
    refine (HC.out _ HD0.out).mono ?_
    rintro e w1 ⟨rfl, hb1⟩
    have HB1 := Lib.hid hb1
    clear hb1
    go_wp2
    go_ret2
    exact ⟨rfl, Below.call HB0.out HB1.out⟩
end Go.Proofs.Ytegghoniboebkaa
