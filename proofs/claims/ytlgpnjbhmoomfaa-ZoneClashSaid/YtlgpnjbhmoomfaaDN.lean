/- How many parts there are, the part of an id, the id of a part: what the reference answers. -/
import Derived.Test.YtlgpnjbhmoomfaaDM
namespace Go.Proofs.Ytlgpnjbhmoomfaa
open Go.RowKit

theorem partV_K (d : Dk) (id : Int) (h : dchk d = 0) : partV d id = partR (partsK d) id := by unfold partV partsK; rw [if_pos h, if_pos h]
theorem idV_K (d : Dk) (p : Q4) (h : dchk d = 0) : idV d p = idR p (partsK d) 0 := by unfold idV partsK; rw [if_pos h, if_pos h]

set_option maxRecDepth 100000 in
set_option maxHeartbeats 4000000 in
theorem rcounts_any (d : Dk) (w : World) (hd : d.In w w.heap.size) : Calls Try.prog 91 #[d.v] w fun e w' => e = .returned (.tuple #[.int .i64 (cntV d).1, .int .i64 (cntV d).2.1, .int .i64 (cntV d).2.2]) ∧ Below w.heap.size w w' := by
  have HP := Lib.hid (fun w h => rparts_any d w h)
  have HD := Lib.hid hd
  have HOK := Lib.hid (parts_okP d)
  have HLN := Lib.hid (parts_len d)
  rw [cnt_V]
  dsimp only
  obtain ⟨P, hP⟩ : ∃ P, P = partsK d := ⟨_, rfl⟩
  rw [← hP] at HP HOK HLN ⊢
  clear hP hd
  obtain ⟨w0, hw0⟩ : ∃ w0, w0 = (w.alloc (.cells #[.slice d.bA d.bn d.bc, .slice d.pA d.pn d.pc, .slice d.rA d.rn d.rc, .int .i64 d.arms] 26)).alloc (.cells #[.int .i64 0, .int .i64 0, .int .i64 0, .int .i64 0] 116) := ⟨_, rfl⟩
  have HB0 := Lib.hid (show Below w.heap.size w w0 by rw [hw0]; exact Below.al (Below.al (Below.refl _ _) _) _)
  have HD0 := Lib.hid (HD.out.then HB0.out)
  have HSZ := Lib.hid (show w.heap.size + 1 < w0.heap.size by rw [hw0]; simp)
  have HF := Lib.hid (show ∀ w1, Below w0.heap.size w0 w1 → (w1.cell? ⟨w.heap.size + 1, 0, none⟩ = some (.int .i64 0) ∧ w1.cell? ⟨w.heap.size + 1, 1, none⟩ = some (.int .i64 0) ∧ w1.cell? ⟨w.heap.size + 1, 2, none⟩ = some (.int .i64 0) ∧ w1.cell? ⟨w.heap.size + 1, 3, none⟩ = some (.int .i64 0)) ∧
    (w1.frozen? ⟨w.heap.size + 1, 1, none⟩ = false ∧ w1.frozen? ⟨w.heap.size + 1, 2, none⟩ = false ∧ w1.frozen? ⟨w.heap.size + 1, 3, none⟩ = false) from by
      intro w1 hb
      have hs : w.heap.size + 1 < w0.heap.size := HSZ.out
      refine ⟨⟨keep_cell hb ?_, keep_cell hb ?_, keep_cell hb ?_, keep_cell hb ?_⟩, (hb.frozen (p := ⟨_, 1, none⟩) hs).trans ?_, (hb.frozen (p := ⟨_, 2, none⟩) hs).trans ?_, (hb.frozen (p := ⟨_, 3, none⟩) hs).trans ?_⟩
      all_goals (rw [hw0]; simp))
  go_enter Try.func91, Try.ntmps91
  go_wp2_with fail
  rw [← hw0]
  clear hw0
  refine (HP.out _ HD0.out).mono ?_
  rintro e w3 ⟨v, rfl, hown, hb3⟩
  obtain ⟨⟨r0, r1, r2, r3⟩, z1, z2, z3⟩ := HF.out w3 hb3
  have HB3 := Lib.hid (Below.call HB0.out hb3)
  have HS3 := Lib.hid (Nat.lt_of_lt_of_le HSZ.out hb3.size)
  have HL := Lib.hid (hown.isL (by have := HLN.out; omega))
  obtain ⟨⟨A, cap, rfl, hcap, hcell⟩, _, _⟩ := hown.isL (by have := HLN.out; omega)
  have hpl : P.length ≤ 49152 := HLN.out
  have HGE : w0.heap.size ≤ w3.heap.size := hb3.size
  obtain ⟨B, hB⟩ : ∃ B, KQ.IsL w3 B (.slice A P.length cap) P ∧ w.heap.size + 1 < B := ⟨_, HL.out, HS3.out⟩
  have HOW := Lib.hid (hown)
  clear hown hb3 hcell
  go_wp2
  go_loopw [7] (fun i wr => ∃ k : Nat, k ≤ P.length ∧ i = .int .i64 k ∧ (∀ b o u, w.heap.size + 1 < b → w3.cell? ⟨b, o, none⟩ = some u → wr.cell? ⟨b, o, none⟩ = some u) ∧ wr.cell? ⟨w.heap.size + 1, 1, none⟩ = some (.int .i64 (cntK 1 (P.take k))) ∧ wr.cell? ⟨w.heap.size + 1, 2, none⟩ = some (.int .i64 (cntK 2 (P.take k))) ∧ wr.cell? ⟨w.heap.size + 1, 3, none⟩ = some (.int .i64 (cntK 3 (P.take k))) ∧
    wr.frozen? ⟨w.heap.size + 1, 1, none⟩ = false ∧ wr.frozen? ⟨w.heap.size + 1, 2, none⟩ = false ∧ wr.frozen? ⟨w.heap.size + 1, 3, none⟩ = false ∧ Below w.heap.size w wr) (fun i _ => P.length - (intOf i).toNat)
  case atStart => exact ⟨0, Nat.zero_le _, rfl, fun _ _ _ _ h => h, r1, r2, r3, z1, z2, z3, HB3.out⟩
  case round =>
    clear r0 r1 r2 r3 z1 z2 z3
    obtain ⟨k, hk, rfl, hkeep, r1, r2, r3, z1, z2, z3, hbl⟩ := hrel
    have HB := Lib.hid hbl
    have HKP := Lib.hid hkeep
    clear hbl hkeep
    obtain ⟨b1, b2⟩ := cnt_bd 1 P k
    obtain ⟨b3, b4⟩ := cnt_bd 2 P k
    obtain ⟨b5, b6⟩ := cnt_bd 3 P k
    by_cases hlt : k < P.length
    · obtain ⟨b, off, hA, hbB, _, hcell⟩ := q4_cells (K := KQ) rfl rfl rfl HL.out (by omega)
      have hbw : w.heap.size + 1 < b := by
        rcases HOW.out.1.2 with ⟨h, _⟩ | ⟨g, c, cur, h, hb, _⟩
        · rw [hA] at h; cases h
        · rw [hA] at h
          injection h with e1
          injection e1 with e2
          injection e2 with e3
          have := HSZ.out
          omega
      obtain ⟨c0, _⟩ := hcell k hlt
      have hc0 := HKP.out _ _ _ hbw c0
      have S1 := Lib.hid (cnt_snoc 1 P k hlt)
      have S2 := Lib.hid (cnt_snoc 2 P k hlt)
      have S3 := Lib.hid (cnt_snoc 3 P k hlt)
      obtain ⟨hp, _⟩ := HOK.out _ (getD_mem' P k ⟨0, 0, 0, 0⟩ hlt)
      subst hA
      clear hcell c0
      generalize P.getD k ⟨0, 0, 0, 0⟩ = q at *
      generalize cntK 1 (P.take k) = n1 at *
      generalize cntK 2 (P.take k) = n2 at *
      generalize cntK 3 (P.take k) = n3 at *
      obtain ⟨qa, qb, qc, qd⟩ := q
      dsimp only at *
      rcases hp with rfl | rfl | rfl
      · go_wp2
        go_roundw
        case rel =>
          refine ⟨k + 1, by omega, num_i (by omega), fun b o u h1 h2 => st_other (HKP.out b o u h1 h2) (fun e => by injection e with e1; omega), by rw [S1.out]; exact st_same r1, by rw [S2.out]; exact st_other (by simpa using r2) (by simp), by rw [S3.out]; exact st_other (by simpa using r3) (by simp), st_fz z1, st_fz z2, st_fz z3, Below.st HB.out (show w.heap.size ≤ w.heap.size + 1 by omega)⟩
        case measure => simp [intOf]; omega
      · go_wp2
        go_roundw
        case rel =>
          refine ⟨k + 1, by omega, num_i (by omega), fun b o u h1 h2 => st_other (HKP.out b o u h1 h2) (fun e => by injection e with e1; omega), by rw [S1.out]; exact st_other (by simpa using r1) (by simp), by rw [S2.out]; exact st_same r2, by rw [S3.out]; exact st_other (by simpa using r3) (by simp), st_fz z1, st_fz z2, st_fz z3, Below.st HB.out (show w.heap.size ≤ w.heap.size + 1 by omega)⟩
        case measure => simp [intOf]; omega
      · go_wp2
        go_roundw
        case rel =>
          refine ⟨k + 1, by omega, num_i (by omega), fun b o u h1 h2 => st_other (HKP.out b o u h1 h2) (fun e => by injection e with e1; omega), by rw [S1.out]; exact st_other (by simpa using r1) (by simp), by rw [S2.out]; exact st_other (by simpa using r2) (by simp), by rw [S3.out]; exact st_same r3, st_fz z1, st_fz z2, st_fz z3, Below.st HB.out (show w.heap.size ≤ w.heap.size + 1 by omega)⟩
        case measure => simp [intOf]; omega
    · obtain rfl : k = P.length := by omega
      rw [List.take_length] at r1 r2 r3
      clear b1 b2 b3 b4 b5 b6
      go_wp2_with fail
      go_quiet (fail)
      go_wp2
      go_ret3
      exact ⟨rfl, below_drewN HB.out _⟩
end Go.Proofs.Ytlgpnjbhmoomfaa
