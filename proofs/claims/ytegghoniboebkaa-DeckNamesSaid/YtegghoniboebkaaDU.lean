/- The id of a name: what the program and the reference answer. -/
import Derived.Test.YtegghoniboebkaaDT
namespace Go.Proofs.Ytegghoniboebkaa
open Go.RowKit
/-- The id that a name has, and what is wrong: the program's. -/
noncomputable def findV (d : Dk) (l : List UInt8) : Int × Int := if dchk d = 0 then (if (namT l).2 = true then idV d (namT l).1 else (0, 3)) else (0, dchk d)
/-- The first part of that name. -/
def findR (l : List UInt8) : List Q4 → Int → Int × Int
  | [], _ => (0, 3)
  | x :: xs, s => if nameQ x = l then (s, 0) else findR l xs (s + 1)
/-- The reference's. -/
noncomputable def findW (d : Dk) (l : List UInt8) : Int × Int := if dchk d = 0 then findR l (partsK d) 0 else (0, dchk d)

set_option maxRecDepth 100000 in
set_option maxHeartbeats 4000000 in
theorem find_any (d : Dk) (s : ByteArray) (l : List UInt8) (hs : IsT s l) (hl : l.length ≤ 1000000) (w : World) (hd : d.In w w.heap.size) : Calls Try.prog 37 #[d.v, .string s] w fun e w' => e = .returned (.tuple #[.int .i64 (findV d l).1, .int .i64 (findV d l).2]) ∧ Below w.heap.size w w' := by
  have HC := Lib.hid (fun w h => dcheck_any d w h)
  have HI := Lib.hid (fun p w h => id_any d p w h)
  have HD := Lib.hid hd
  have HN := Lib.hid (fun w => named_any s l hs hl w)
  obtain ⟨w0, hw0⟩ : ∃ w0, w0 = w.alloc (.cells #[.slice d.bA d.bn d.bc, .slice d.pA d.pn d.pc, .slice d.rA d.rn d.rc, .int .i64 d.arms] 44) := ⟨_, rfl⟩
  have HB0 := Lib.hid (show Below w.heap.size w w0 by rw [hw0]; exact Below.al (Below.refl _ _) _)
  have HD0 := Lib.hid (HD.out.then HB0.out)
  have HF := Lib.hid (show ∀ w1, Below w0.heap.size w0 w1 → w.heap.size < w1.heap.size ∧ (w1.cell? ⟨w.heap.size, 0, none⟩ = some (.slice d.bA d.bn d.bc) ∧ w1.cell? ⟨w.heap.size, 1, none⟩ = some (.slice d.pA d.pn d.pc) ∧ w1.cell? ⟨w.heap.size, 2, none⟩ = some (.slice d.rA d.rn d.rc) ∧ w1.cell? ⟨w.heap.size, 3, none⟩ = some (.int .i64 d.arms)) from by
      intro w1 hb
      have hs : w.heap.size < w0.heap.size := by rw [hw0]; simp
      refine ⟨Nat.lt_of_lt_of_le hs hb.size, keep_cell hb ?_, keep_cell hb ?_, keep_cell hb ?_, keep_cell hb ?_⟩
      all_goals (rw [hw0]; simp))
  by_cases hz : dchk d = 0
  · have HV := Lib.hid (show findV d l = (if (namT l).2 = true then idV d (namT l).1 else (0, 3)) by unfold findV; rw [if_pos hz])
    rw [HV.out]
    rw [hz] at HC
    clear hz hd HV hs hl
    generalize namT l = t at *
    obtain ⟨q, b⟩ := t
    dsimp only at *
    cases b
    · rw [if_neg (by simp)]
      go_enter Try.func37, Try.ntmps37
      go_wp2_with fail
      rw [← hw0]
      clear hw0
      refine (HC.out _ HD0.out).mono ?_
      rintro e w1 ⟨rfl, hb1⟩
      have HB1 := Lib.hid (Below.call HB0.out hb1)
      clear hb1
      go_wp2_with fail
      refine (HN.out _).mono ?_
      rintro e w2 ⟨rfl, hb2⟩
      have HB2 := Lib.hid (Below.call HB1.out hb2)
      clear hb2
      go_wp2
      go_ret2
      exact ⟨rfl, Below.al HB2.out _⟩
    · rw [if_pos rfl]
      have HI2 := Lib.hid (HI.out q)
      generalize idV d q = r at *
      clear HI
      obtain ⟨qa, qb, qc, qd⟩ := q
      have hqv : (⟨qa, qb, qc, qd⟩ : Q4).v = .agg #[.int .i64 qa, .int .i64 qb, .int .i64 qc, .int .i64 qd] := rfl
      rw [hqv] at HI2 HN
      clear hqv
      go_enter Try.func37, Try.ntmps37
      go_wp2_with fail
      rw [← hw0]
      clear hw0
      refine (HC.out _ HD0.out).mono ?_
      rintro e w1 ⟨rfl, hb1⟩
      have HBA := Lib.hid hb1
      clear hb1
      go_wp2_with fail
      refine (HN.out _).mono ?_
      rintro e w2 ⟨rfl, hb2⟩
      have hb2 := Below.call HBA.out hb2
      obtain ⟨hz0, d0, d1, d2, d3⟩ := HF.out _ hb2
      have HB2 := Lib.hid hb2
      clear hb2 HBA
      go_wp2_with fail
      have hb3 := Below.al HB2.out (.cells #[.int .i64 qa, .int .i64 qb, .int .i64 qc, .int .i64 qd] 50)
      clear d0 d1 d2 d3
      refine (HI2.out _ (HD0.out.then hb3)).mono ?_
      rintro e w4 ⟨rfl, hb4⟩
      have HB4 := Lib.hid (Below.call (Below.call HB0.out hb3) hb4)
      clear hb4 hb3
      go_wp2
      go_ret2
      exact ⟨rfl, HB4.out⟩
  · have HV := Lib.hid (show findV d l = (0, dchk d) by unfold findV; rw [if_neg hz])
    have hz' : (dchk d != 0) = true := by rw [bne_iff_ne]; exact hz
    rw [HV.out]
    clear hz HV
    generalize dchk d = c at *
    go_enter Try.func37, Try.ntmps37
    go_wp2_with fail
    rw [← hw0]
    clear hw0
    refine (HC.out _ HD0.out).mono ?_
    rintro e w1 ⟨rfl, hb1⟩
    have HB1 := Lib.hid (Below.call HB0.out hb1)
    clear hb1
    go_wp2
    go_ret2
    exact ⟨rfl, HB1.out⟩

set_option maxRecDepth 100000 in
set_option maxHeartbeats 4000000 in
theorem rfind_any (d : Dk) (s : ByteArray) (l : List UInt8) (hs : IsT s l) (w : World) (hd : d.In w w.heap.size) : Calls Try.prog 38 #[d.v, .string s] w fun e w' => e = .returned (.tuple #[.int .i64 (findW d l).1, .int .i64 (findW d l).2]) ∧ Below w.heap.size w w' := by
  have HC := Lib.hid (fun w h => rdcheck_any d w h)
  have HP := Lib.hid (fun w h => rparts_any d w h)
  have HD := Lib.hid hd
  have HOK := Lib.hid (parts_okP d)
  have HLN := Lib.hid (parts_len d)
  obtain rfl := hs.eq
  obtain ⟨w0, hw0⟩ : ∃ w0, w0 = w.alloc (.cells #[.slice d.bA d.bn d.bc, .slice d.pA d.pn d.pc, .slice d.rA d.rn d.rc, .int .i64 d.arms] 44) := ⟨_, rfl⟩
  have HB0 := Lib.hid (show Below w.heap.size w w0 by rw [hw0]; exact Below.al (Below.refl _ _) _)
  have HD0 := Lib.hid (HD.out.then HB0.out)
  have HF := Lib.hid (show ∀ w1, Below w0.heap.size w0 w1 → w.heap.size < w1.heap.size ∧ (w1.cell? ⟨w.heap.size, 0, none⟩ = some (.slice d.bA d.bn d.bc) ∧ w1.cell? ⟨w.heap.size, 1, none⟩ = some (.slice d.pA d.pn d.pc) ∧ w1.cell? ⟨w.heap.size, 2, none⟩ = some (.slice d.rA d.rn d.rc) ∧ w1.cell? ⟨w.heap.size, 3, none⟩ = some (.int .i64 d.arms)) from by
      intro w1 hb
      have hs : w.heap.size < w0.heap.size := by rw [hw0]; simp
      refine ⟨Nat.lt_of_lt_of_le hs hb.size, keep_cell hb ?_, keep_cell hb ?_, keep_cell hb ?_, keep_cell hb ?_⟩
      all_goals (rw [hw0]; simp))
  by_cases hz : dchk d = 0
  · have HV := Lib.hid (show findW d l = findR l (partsK d) 0 by unfold findW; rw [if_pos hz])
    rw [HV.out]
    rw [hz] at HC
    clear hz hd HV hs
    obtain ⟨P, hP⟩ : ∃ P, P = partsK d := ⟨_, rfl⟩
    rw [← hP] at HP HLN HOK ⊢
    clear hP
    have hpl : P.length ≤ 49152 := HLN.out
    go_enter Try.func38, Try.ntmps38
    go_wp2_with fail
    rw [← hw0]
    clear hw0
    refine (HC.out _ HD0.out).mono ?_
    rintro e w1 ⟨rfl, hb1⟩
    obtain ⟨hz0, d0, d1, d2, d3⟩ := HF.out w1 hb1
    have HB1 := Lib.hid hb1
    clear hb1
    go_wp2_with fail
    refine (HP.out w1 (HD0.out.then HB1.out)).mono ?_
    rintro e w3 ⟨v, rfl, hown, hb3⟩
    have HB3 := Lib.hid (Below.call HB1.out hb3)
    have HL := Lib.hid (hown.isL (by omega))
    obtain ⟨⟨A, cap, rfl, hcap, _⟩, _, _⟩ := HL.out
    clear hown hb3 d0 d1 d2 d3
    go_wp2
    go_loopw [8] (fun i wr => ∃ (k : Nat), k ≤ P.length ∧ i = .int .i64 k ∧ Below w3.heap.size w3 wr ∧ findR l (P.drop k) k = findR l P 0) (fun i _ => P.length - (intOf i).toNat)
    case atStart => exact ⟨0, Nat.zero_le _, rfl, Below.refl _ _, rfl⟩
    case round =>
      obtain ⟨k, hk, rfl, hw, hgo⟩ := hrel
      have HW := Lib.hid hw
      have HGO := Lib.hid hgo
      clear hgo hw
      by_cases hlt : k < P.length
      · obtain ⟨b, off, rfl, hbB, _, hcell⟩ := q4_cells (K := KQ) rfl rfl rfl (HL.out.below HW.out) (by omega)
        obtain ⟨c0, c1, c2, c3⟩ := hcell k hlt
        have hgo := HGO.out
        rw [drop_snoc P k ⟨0, 0, 0, 0⟩ hlt] at hgo
        have HIR := Lib.hid (show ∀ x : Q4, findR l (x :: P.drop (k + 1)) k = if nameQ x = l then ((k : Int), 0) else findR l (P.drop (k + 1)) (k + 1) from fun _ => rfl)
        rw [HIR.out] at hgo
        have HQ := Lib.hid (rnm_any _ (HOK.out _ (getD_mem' P k ⟨0, 0, 0, 0⟩ hlt)))
        clear hcell HIR
        generalize P.getD k ⟨0, 0, 0, 0⟩ = q at *
        generalize nameQ q = nmq at *
        by_cases hq : nmq = l
        · rw [if_pos hq] at hgo
          have HF1 := Lib.hid hgo
          have hq2 : (nmq == l) = true := by rw [beq_iff_eq]; exact hq
          clear hgo hq
          go_wp2_with fail
          refine (HQ.out _).mono ?_
          rintro e w4 ⟨rfl, hb4⟩
          have HB4 := Lib.hid (Below.call HW.out hb4)
          clear hb4
          go_wp2
          go_ret2
          exact ⟨by rw [← HF1.out]; rfl, Below.call (Below.call HB0.out HB3.out) HB4.out⟩
        · rw [if_neg hq] at hgo
          have HF1 := Lib.hid hgo
          have hq2 : (nmq == l) = false := by rw [beq_eq_false_iff_ne]; exact hq
          clear hgo hq
          go_wp2_with fail
          refine (HQ.out _).mono ?_
          rintro e w4 ⟨rfl, hb4⟩
          have HB4 := Lib.hid (Below.call HW.out hb4)
          clear hb4
          go_wp2
          go_roundw
          case rel => exact ⟨k + 1, by omega, num_i (by omega), HB4.out, HF1.out⟩
          case measure => simp [intOf]; omega
      · obtain rfl : k = P.length := by omega
        have HF1 := Lib.hid (show findR l P 0 = (0, 3) by rw [← HGO.out, List.drop_length]; rfl)
        go_wp2
        go_ret2
        exact ⟨by rw [HF1.out]; rfl, Below.call (Below.call HB0.out HB3.out) HW.out⟩
  · have HV := Lib.hid (show findW d l = (0, dchk d) by unfold findW; rw [if_neg hz])
    have hz' : (dchk d != 0) = true := by rw [bne_iff_ne]; exact hz
    rw [HV.out]
    clear hz HV
    generalize dchk d = c at *
    go_enter Try.func38, Try.ntmps38
    go_wp2_with fail
    rw [← hw0]
    clear hw0
    refine (HC.out _ HD0.out).mono ?_
    rintro e w1 ⟨rfl, hb1⟩
    have HB1 := Lib.hid (Below.call HB0.out hb1)
    clear hb1
    go_wp2
    go_ret2
    exact ⟨rfl, HB1.out⟩
end Go.Proofs.Ytegghoniboebkaa
