/- What is wrong with a deck: what the reference answers. -/
import Derived.Test.YtlgpnjbhmoomfaaDD
namespace Go.Proofs.Ytlgpnjbhmoomfaa
open Go.RowKit

set_option maxRecDepth 100000 in
set_option maxHeartbeats 4000000 in
theorem rdcheck_any (d : Dk) (w : World) (hd : d.In w w.heap.size) : Calls Try.prog 52 #[d.v] w fun e w' => e = .returned (.int .i64 (dchk d)) ∧ Below w.heap.size w w' := by
  have HD := Lib.hid hd
  have B1 := Lib.hid (dchk_b d)
  have B2 := Lib.hid (dchk_a d)
  have B3 := Lib.hid (dchk_l d)
  have B4 := Lib.hid (dchk_p d)
  have B5 := Lib.hid (dchk_r d)
  have B6 := Lib.hid (dchk_n d)
  have HPN := Lib.hid (all_no' d.pl KP.dflt plateB)
  have HPY := Lib.hid (all_yes' d.pl KP.dflt plateB)
  have HRN := Lib.hid (all_no' d.rl KR.dflt rackB)
  have HRY := Lib.hid (all_yes' d.rl KR.dflt rackB)
  have HSW := Lib.hid (wells_snoc d.pl)
  have HST := Lib.hid (tips_snoc d.rl)
  have e0 := hd.b.len
  have e1 := hd.p.len
  have e2 := hd.r.len
  have ha := hd.a
  obtain ⟨C, hC⟩ : ∃ C, C = dchk d := ⟨_, rfl⟩
  rw [← hC] at B1 B2 B3 B4 B5 B6 ⊢
  clear hC
  obtain ⟨bA, bn, bc, bl, pA, pn, pc, pl, rA, rn, rc, rl, arms⟩ := d
  dsimp only at *
  subst e0 e1 e2
  unfold fits at ha
  clear hd
  obtain ⟨w0, hw0⟩ : ∃ w0, w0 = w.alloc (.cells #[.slice bA bl.length bc, .slice pA pl.length pc, .slice rA rl.length rc, .int .i64 arms] 26) := ⟨_, rfl⟩
  have f0 : w0.cell? ⟨w.heap.size, 0, none⟩ = some (.slice bA bl.length bc) := by rw [hw0]; exact alloc_cell _ _ _ _ _ rfl
  have f1 : w0.cell? ⟨w.heap.size, 1, none⟩ = some (.slice pA pl.length pc) := by rw [hw0]; exact alloc_cell _ _ _ _ _ rfl
  have f2 : w0.cell? ⟨w.heap.size, 2, none⟩ = some (.slice rA rl.length rc) := by rw [hw0]; exact alloc_cell _ _ _ _ _ rfl
  have f3 : w0.cell? ⟨w.heap.size, 3, none⟩ = some (.int .i64 arms) := by rw [hw0]; exact alloc_cell _ _ _ _ _ rfl
  have HB0 := Lib.hid (show Below w.heap.size w w0 by rw [hw0]; exact Below.al (Below.refl _ _) _)
  have HD0 := Lib.hid (HD.out.then HB0.out)
  have HK := Lib.hid (rcheck_any _ bl w0 HD0.out.b)
  by_cases hz : chkE bl = 0
  · rw [hz] at HK
    by_cases h1 : 1 ≤ arms ∧ arms ≤ 8
    · obtain ⟨a1, a2⟩ := h1
      by_cases h2 : 4 < pl.length ∨ 4 < rl.length
      · obtain rfl := B3.out hz ⟨a1, a2⟩ h2
        clear B1 B2 B3 B4 B5 B6 hz
        by_cases p4 : 4 < pl.length
        · clear h2
          go_enter Try.func52, Try.ntmps52
          go_wp2_with fail
          rw [← hw0]
          clear hw0
          refine HK.out.mono ?_
          rintro e w' ⟨rfl, d, rfl⟩
          go_wp2
          go_ret
          exact ⟨rfl, below_drewN HB0.out _⟩
        · have r4 : 4 < rl.length := by omega
          clear h2
          go_enter Try.func52, Try.ntmps52
          go_wp2_with fail
          rw [← hw0]
          clear hw0
          refine HK.out.mono ?_
          rintro e w' ⟨rfl, d, rfl⟩
          go_wp2
          go_ret
          exact ⟨rfl, below_drewN HB0.out _⟩
      · have p4 : pl.length ≤ 4 := by omega
        have r4 : rl.length ≤ 4 := by omega
        have C4 := Lib.hid (B4.out hz ⟨a1, a2⟩ h2)
        have C5 := Lib.hid (B5.out hz ⟨a1, a2⟩ h2)
        have C6 := Lib.hid (B6.out hz ⟨a1, a2⟩ h2)
        clear B1 B2 B3 B4 B5 B6 h2 hz
        have F0 := Lib.hid (show ∀ w1, Below w0.heap.size w0 w1 → w1.cell? ⟨w.heap.size, 1, none⟩ = some (.slice pA pl.length pc) ∧ w1.cell? ⟨w.heap.size, 2, none⟩ = some (.slice rA rl.length rc) from
          fun w1 hb => ⟨keep_cell hb f1, keep_cell hb f2⟩)
        go_enter Try.func52, Try.ntmps52
        go_wp2_with fail
        rw [← hw0]
        clear hw0
        refine HK.out.mono ?_
        rintro e wd ⟨rfl, dd, hwd⟩
        have HBD := Lib.hid (show Below w0.heap.size w0 wd by rw [hwd]; exact below_drewN (Below.refl _ _) _)
        have k0 := keep_cell HBD.out f0
        have k1 := keep_cell HBD.out f1
        have k2 := keep_cell HBD.out f2
        have k3 := keep_cell HBD.out f3
        clear hwd f0 f1 f2 f3
        go_wp2
        clear k0 k1 k2 k3
        go_loopw [4, 6] (fun s i wr => ∃ k : Nat, k ≤ pl.length ∧ i = .int .i64 k ∧ s = .int .i64 (wellsV (pl.take k)) ∧ (k : Int) ≤ wellsV (pl.take k) ∧ wellsV (pl.take k) ≤ 1536 * k ∧ (∀ i, i < k → plateB (pl.getD i KP.dflt) = true) ∧ Below w0.heap.size w0 wr) (fun _ i _ => pl.length - (intOf i).toNat)
        case atStart => exact ⟨0, Nat.zero_le _, rfl, rfl, by simp [wellsV], by simp [wellsV], fun i hi => by omega, HBD.out⟩
        case round =>
          obtain ⟨k, hk, rfl, rfl, b1, b2, hall, hbl⟩ := hrel
          have HB := Lib.hid hbl
          have HL := Lib.hid hall
          clear hbl hall
          obtain ⟨q1, q2⟩ := F0.out wr HB.out
          by_cases hlt : k < pl.length
          · obtain ⟨b, off, rfl, hb, hc, hcell⟩ := plate_cells (HD0.out.p.below HB.out) (by dsimp only; omega)
            obtain ⟨c0, c1, c2, c3, c4, c5, c6⟩ := hcell k hlt
            have HRP := Lib.hid (rplate_any (pl.getD k KP.dflt) wr (((HD0.out.s _ (getD_mem' pl k KP.dflt hlt)).below HB.out).more HB.out.size) (HD0.out.p.okAt k hlt))
            have HPN' := Lib.hid (HPN.out k hlt)
            have HS := Lib.hid (HSW.out k hlt)
            have HLS := Lib.hid (show ∀ (h : plateB (pl.getD k KP.dflt) = true) (i : Nat), i < k + 1 → plateB (pl.getD i KP.dflt) = true from fun h i hi => by
              by_cases e : i = k
              · rw [e]; exact h
              · exact HL.out i (by omega))
            have HPS := Lib.hid (fun h => plate_size (q := pl.getD k KP.dflt) h)
            clear hcell
            dsimp only at *
            generalize pl.getD k KP.dflt = q at *
            generalize wellsV (pl.take k) = s at *
            rcases Bool.eq_false_or_eq_true (plateB q) with g | g
            · have HR := Lib.hid (HLS.out g)
              rw [g] at HRP
              obtain ⟨m1, m2⟩ := size_mul (HPS.out g)
              have hok := HD0.out
              go_wp2_with fail
              refine HRP.out.mono ?_
              rintro e w2 ⟨rfl, hb2⟩
              have y1 := keep_cell hb2 q1
              have y2 := keep_cell hb2 c0
              have y3 := keep_cell hb2 c1
              have HB2 := Lib.hid (Below.call HB.out hb2)
              clear hb2 q1 q2 c0 c1 c2 c3 c4 c5 c6 hok
              go_wp2_with fail
              go_quiet (fail)
              go_wp2
              go_roundw
              case rel => exact ⟨k + 1, by omega, num_i (by omega), num_i (by rw [HS.out]), by rw [HS.out]; omega, by rw [HS.out]; omega, HR.out, below_drewN HB2.out _⟩
              case measure => simp [intOf]; omega
            · have HR := Lib.hid (C4.out (HPN'.out g))
              rw [g] at HRP
              go_wp2_with fail
              refine HRP.out.mono ?_
              rintro e w2 ⟨rfl, hb2⟩
              have HB2 := Lib.hid (Below.call HB.out hb2)
              clear hb2
              go_wp2
              go_ret
              exact ⟨ret_i HR.out.symm, Below.call HB0.out HB2.out⟩
          · obtain rfl : k = pl.length := by omega
            have HPA := Lib.hid (HPY.out HL.out)
            rw [List.take_length] at b1 b2 ⊢
            generalize hs : wellsV pl = s at *
            clear hs
            clear HPY HPN HL C4 HSW
            go_wp2
            obtain ⟨w1, hw1⟩ : ∃ w1, w1 = wr := ⟨_, rfl⟩
            subst hw1
            clear q1 q2
            go_loopw [5, 7] (fun s i wr => ∃ k : Nat, k ≤ rl.length ∧ i = .int .i64 k ∧ s = .int .i64 (tipsV (rl.take k)) ∧ (k : Int) ≤ tipsV (rl.take k) ∧ tipsV (rl.take k) ≤ 1536 * k ∧ (∀ i, i < k → rackB (rl.getD i KR.dflt) = true) ∧ Below w0.heap.size w0 wr) (fun _ i _ => rl.length - (intOf i).toNat)
            case atStart => exact ⟨0, Nat.zero_le _, rfl, rfl, by simp [tipsV], by simp [tipsV], fun i hi => by omega, HB.out⟩
            case round =>
              obtain ⟨k, hk, rfl, rfl, t1, t2, hall, hbl⟩ := hrel
              have HB2 := Lib.hid hbl
              have HL := Lib.hid hall
              clear hbl hall
              obtain ⟨q1, q2⟩ := F0.out wr HB2.out
              by_cases hlt : k < rl.length
              · obtain ⟨b, off, rfl, hb, hc, hcell⟩ := rack_cells (HD0.out.r.below HB2.out) (by dsimp only; omega)
                obtain ⟨c0, c1, c2, c3, c4⟩ := hcell k hlt
                have HRN' := Lib.hid (HRN.out k hlt)
                have HS := Lib.hid (HST.out k hlt)
                have HLS := Lib.hid (show ∀ (h : rackB (rl.getD k KR.dflt) = true) (i : Nat), i < k + 1 → rackB (rl.getD i KR.dflt) = true from fun h i hi => by
                  by_cases e : i = k
                  · rw [e]; exact h
                  · exact HL.out i (by omega))
                clear hcell
                dsimp only at *
                generalize rl.getD k KR.dflt = q at *
                generalize tipsV (rl.take k) = t at *
                rcases Bool.eq_false_or_eq_true (sizeB q.rows q.cols) with g | g
                · have HR := Lib.hid (HLS.out g)
                  obtain ⟨m1, m2⟩ := size_mul g
                  have HBX := Lib.hid (fun n => show Calls Try.prog 76 #[.int .i64 q.rows, .int .i64 q.cols] (wr.drewN n) fun e w' => e = .returned (.bool true) ∧ w' = wr.drewN n from (box_any q.rows q.cols (wr.drewN n)).mono fun _ _ x => ⟨by rw [x.1, g], x.2.symm⟩)
                  go_wp2_with fail
                  go_quiet ((go_at_call 76; exact Calls.quiet_of_same (HBX.out _)))
                  have y2 : (wr.drewN nq).cell? ⟨w.heap.size, 2, none⟩ = some (.slice (some ⟨b, off, none⟩) rl.length rc) := q2
                  have y0 : (wr.drewN nq).cell? ⟨b, off + k * 5, none⟩ = some (.int .i64 q.rows) := c0
                  have y1 : (wr.drewN nq).cell? ⟨b, off + k * 5 + 1, none⟩ = some (.int .i64 q.cols) := c1
                  have HB3 := Lib.hid (below_drewN HB2.out nq)
                  clear q1 q2 c0 c1 c2 c3 c4 HBX HB2
                  generalize wr.drewN nq = w3 at *
                  go_wp2_with fail
                  go_quiet (fail)
                  go_wp2
                  go_roundw
                  case rel => exact ⟨k + 1, by omega, num_i (by omega), num_i (by rw [HS.out]), by rw [HS.out]; omega, by rw [HS.out]; omega, HR.out, below_drewN HB3.out _⟩
                  case measure => simp [intOf]; omega
                · have HR := Lib.hid (C5.out HPA.out (HRN'.out g))
                  have HBX := Lib.hid (fun n => show Calls Try.prog 76 #[.int .i64 q.rows, .int .i64 q.cols] (wr.drewN n) fun e w' => e = .returned (.bool false) ∧ w' = wr.drewN n from (box_any q.rows q.cols (wr.drewN n)).mono fun _ _ x => ⟨by rw [x.1, g], x.2.symm⟩)
                  go_wp2_with fail
                  go_quiet ((go_at_call 76; exact Calls.quiet_of_same (HBX.out _)))
                  go_wp2
                  go_ret
                  exact ⟨ret_i HR.out.symm, Below.call HB0.out (below_drewN HB2.out _)⟩
              · obtain rfl : k = rl.length := by omega
                have HRA := Lib.hid (HRY.out HL.out)
                have HCC := Lib.hid (C6.out HPA.out HRA.out)
                rw [List.take_length] at t1 t2 ⊢
                clear HRY HRN HL C5 C6 HST
                generalize hs : tipsV rl = t at *
                clear hs
                by_cases hs : 384 < s
                · have HF := Lib.hid (HCC.out.trans (if_pos (.inl hs)))
                  clear HCC
                  go_wp2
                  go_ret
                  exact ⟨ret_i HF.out.symm, Below.call HB0.out HB2.out⟩
                · by_cases ht : 384 < t
                  · have HF := Lib.hid (HCC.out.trans (if_pos (.inr ht)))
                    clear HCC
                    go_wp2
                    go_ret
                    exact ⟨ret_i HF.out.symm, Below.call HB0.out HB2.out⟩
                  · have HF := Lib.hid (HCC.out.trans (if_neg (by omega)))
                    clear HCC
                    go_wp2
                    go_ret
                    exact ⟨ret_i HF.out.symm, Below.call HB0.out HB2.out⟩
    · obtain rfl := B2.out hz h1
      clear B1 B2 B3 B4 B5 B6 hz
      by_cases a1 : arms < 1
      · clear h1
        go_enter Try.func52, Try.ntmps52
        go_wp2_with fail
        rw [← hw0]
        clear hw0
        refine HK.out.mono ?_
        rintro e w' ⟨rfl, d, rfl⟩
        go_wp2
        go_ret
        exact ⟨rfl, below_drewN HB0.out _⟩
      · have a2 : 8 < arms := by omega
        clear h1
        go_enter Try.func52, Try.ntmps52
        go_wp2_with fail
        rw [← hw0]
        clear hw0
        refine HK.out.mono ?_
        rintro e w' ⟨rfl, d, rfl⟩
        go_wp2
        go_ret
        exact ⟨rfl, below_drewN HB0.out _⟩
  · obtain rfl := B1.out hz
    have hz' : (chkE bl != 0) = true := by rw [bne_iff_ne]; exact hz
    clear B1 B2 B3 B4 B5 B6 hz
    generalize chkE bl = c at *
    go_enter Try.func52, Try.ntmps52
    go_wp2_with fail
    rw [← hw0]
    clear hw0
    refine HK.out.mono ?_
    rintro e w' ⟨rfl, d, rfl⟩
    go_wp2
    go_ret
    exact ⟨rfl, below_drewN HB0.out _⟩
end Go.Proofs.Ytlgpnjbhmoomfaa
