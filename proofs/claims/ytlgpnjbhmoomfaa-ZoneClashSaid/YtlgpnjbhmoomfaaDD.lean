/- What is wrong with a deck: what the program answers. -/
import Derived.Test.YtlgpnjbhmoomfaaDC
namespace Go.Proofs.Ytlgpnjbhmoomfaa
open Go.RowKit

def rackB (q : Rk) : Bool := sizeB q.rows q.cols
/-- What is wrong with a deck. -/
def dchk (d : Dk) : Int :=
  if chkE d.bl ≠ 0 then chkE d.bl
  else if ¬ (1 ≤ d.arms ∧ d.arms ≤ 8) then 80
  else if 4 < d.pl.length ∨ 4 < d.rl.length then 2
  else if d.pl.all plateB = false then 81
  else if d.rl.all rackB = false then 82
  else if 384 < wellsV d.pl ∨ 384 < tipsV d.rl then 2 else 0
theorem all_no' {α : Type} (l : List α) (z : α) (f : α → Bool) (k : Nat) (h : k < l.length) (hf : f (l.getD k z) = false) : l.all f = false := by
  rw [← Bool.not_eq_true, List.all_eq_true]
  intro hh
  have := hh _ (getD_mem' l k z h)
  rw [hf] at this
  cases this
theorem all_yes' {α : Type} (l : List α) (z : α) (f : α → Bool) (h : ∀ i, i < l.length → f (l.getD i z) = true) : l.all f = true := by
  rw [List.all_eq_true]
  intro x hx
  obtain ⟨i, hi, rfl⟩ := List.mem_iff_getElem.1 hx
  have := h i hi
  rw [List.getD_eq_getElem?_getD, List.getElem?_eq_getElem hi] at this
  exact this
theorem plate_size {q : Pl} (h : plateB q = true) : sizeB q.rows q.cols = true := by
  cases hs : sizeB q.rows q.cols
  · rw [plate_no1 q hs] at h; cases h
  · rfl
theorem dchk_b (d : Dk) (h : chkE d.bl ≠ 0) : dchk d = chkE d.bl := by unfold dchk; rw [if_pos h]
theorem dchk_a (d : Dk) (h : chkE d.bl = 0) (h1 : ¬ (1 ≤ d.arms ∧ d.arms ≤ 8)) : dchk d = 80 := by unfold dchk; rw [if_neg (by simp [h]), if_pos h1]
theorem dchk_l (d : Dk) (h : chkE d.bl = 0) (h1 : 1 ≤ d.arms ∧ d.arms ≤ 8) (h2 : 4 < d.pl.length ∨ 4 < d.rl.length) : dchk d = 2 := by unfold dchk; rw [if_neg (by simp [h]), if_neg (by simp [h1]), if_pos h2]
theorem dchk_p (d : Dk) (h : chkE d.bl = 0) (h1 : 1 ≤ d.arms ∧ d.arms ≤ 8) (h2 : ¬ (4 < d.pl.length ∨ 4 < d.rl.length)) (h3 : d.pl.all plateB = false) : dchk d = 81 := by unfold dchk; rw [if_neg (by simp [h]), if_neg (by simp [h1]), if_neg h2, if_pos h3]
theorem dchk_r (d : Dk) (h : chkE d.bl = 0) (h1 : 1 ≤ d.arms ∧ d.arms ≤ 8) (h2 : ¬ (4 < d.pl.length ∨ 4 < d.rl.length)) (h3 : d.pl.all plateB = true) (h4 : d.rl.all rackB = false) : dchk d = 82 := by unfold dchk; rw [if_neg (by simp [h]), if_neg (by simp [h1]), if_neg h2, if_neg (by simp [h3]), if_pos h4]
theorem dchk_n (d : Dk) (h : chkE d.bl = 0) (h1 : 1 ≤ d.arms ∧ d.arms ≤ 8) (h2 : ¬ (4 < d.pl.length ∨ 4 < d.rl.length)) (h3 : d.pl.all plateB = true) (h4 : d.rl.all rackB = true) : dchk d = if 384 < wellsV d.pl ∨ 384 < tipsV d.rl then 2 else 0 := by unfold dchk; rw [if_neg (by simp [h]), if_neg (by simp [h1]), if_neg h2, if_neg (by simp [h3]), if_neg (by simp [h4])]

set_option maxRecDepth 100000 in
set_option maxHeartbeats 4000000 in
theorem dcheck_any (d : Dk) (w : World) (hd : d.In w w.heap.size) : Calls Try.prog 57 #[d.v] w fun e w' => e = .returned (.int .i64 (dchk d)) ∧ Below w.heap.size w w' := by
  have HD := Lib.hid hd
  have B1 := Lib.hid (dchk_b d)
  have B2 := Lib.hid (dchk_a d)
  have B3 := Lib.hid (dchk_l d)
  have B4 := Lib.hid (dchk_p d)
  have B5 := Lib.hid (dchk_r d)
  have B6 := Lib.hid (dchk_n d)
  have HPN := Lib.hid (all_no' d.pl KP.dflt plateB)
  have HPY := Lib.hid (all_yes' d.pl KP.dflt plateB)
  have HRN := Lib.hid (all_no' d.rl KR.dflt rackB)
  have HRY := Lib.hid (all_yes' d.rl KR.dflt rackB)
  have e0 := hd.b.len
  have e1 := hd.p.len
  have e2 := hd.r.len
  have ha := hd.a
  have HPL := Lib.hid (fun w h => places_any d w h)
  obtain ⟨C, hC⟩ : ∃ C, C = dchk d := ⟨_, rfl⟩
  rw [← hC] at B1 B2 B3 B4 B5 B6 ⊢
  clear hC
  obtain ⟨bA, bn, bc, bl, pA, pn, pc, pl, rA, rn, rc, rl, arms⟩ := d
  dsimp only at *
  subst e0 e1 e2
  unfold fits at ha
  clear hd
  have hsf := fun (w : World) (a : Addr) (m : Mode) (b : Nat) => run_store_float (P := Try.prog) (w := w) (a := a) (m := m) .f64 b
  obtain ⟨w0, hw0⟩ : ∃ w0, w0 = w.alloc (.cells #[.slice bA bl.length bc, .slice pA pl.length pc, .slice rA rl.length rc, .int .i64 arms] 26) := ⟨_, rfl⟩
  have f0 : w0.cell? ⟨w.heap.size, 0, none⟩ = some (.slice bA bl.length bc) := by rw [hw0]; exact alloc_cell _ _ _ _ _ rfl
  have f1 : w0.cell? ⟨w.heap.size, 1, none⟩ = some (.slice pA pl.length pc) := by rw [hw0]; exact alloc_cell _ _ _ _ _ rfl
  have f2 : w0.cell? ⟨w.heap.size, 2, none⟩ = some (.slice rA rl.length rc) := by rw [hw0]; exact alloc_cell _ _ _ _ _ rfl
  have f3 : w0.cell? ⟨w.heap.size, 3, none⟩ = some (.int .i64 arms) := by rw [hw0]; exact alloc_cell _ _ _ _ _ rfl
  have HB0 := Lib.hid (show Below w.heap.size w w0 by rw [hw0]; exact Below.al (Below.refl _ _) _)
  have HD0 := Lib.hid (HD.out.then HB0.out)
  have HK := Lib.hid (check_any _ bl w0 HD0.out.b)
  by_cases hz : chkE bl = 0
  · rw [hz] at HK
    by_cases h1 : 1 ≤ arms ∧ arms ≤ 8
    · obtain ⟨a1, a2⟩ := h1
      by_cases h2 : 4 < pl.length ∨ 4 < rl.length
      · obtain rfl := B3.out hz ⟨a1, a2⟩ h2
        clear B1 B2 B3 B4 B5 B6 hz
        by_cases p4 : 4 < pl.length
        · clear h2
          go_enter Try.func57, Try.ntmps57
          go_wp2_with fail
          rw [← hw0]
          clear hw0
          refine HK.out.mono ?_
          rintro e w' ⟨rfl, rfl⟩
          go_wp2
          go_ret
          exact ⟨rfl, HB0.out⟩
        · have r4 : 4 < rl.length := by omega
          clear h2
          go_enter Try.func57, Try.ntmps57
          go_wp2_with fail
          rw [← hw0]
          clear hw0
          refine HK.out.mono ?_
          rintro e w' ⟨rfl, rfl⟩
          go_wp2
          go_ret
          exact ⟨rfl, HB0.out⟩
      · have p4 : pl.length ≤ 4 := by omega
        have r4 : rl.length ≤ 4 := by omega
        have C4 := Lib.hid (B4.out hz ⟨a1, a2⟩ h2)
        have C5 := Lib.hid (B5.out hz ⟨a1, a2⟩ h2)
        have C6 := Lib.hid (B6.out hz ⟨a1, a2⟩ h2)
        clear B1 B2 B3 B4 B5 B6 h2 hz
        go_enter Try.func57, Try.ntmps57
        go_wp2_with fail
        rw [← hw0]
        clear hw0
        refine HK.out.mono ?_
        rintro e w' ⟨rfl, rfl⟩
        have g0 := Lib.hid f0
        have g1 := Lib.hid f1
        have g3 := Lib.hid f3
        go_wp2
        clear f0 f1 f3
        have F2 := Lib.hid f2
        have F0 := Lib.hid (show ∀ w1, Below w0.heap.size w0 w1 → w1.cell? ⟨w.heap.size, 0, none⟩ = some (.slice bA bl.length bc) ∧ w1.cell? ⟨w.heap.size, 1, none⟩ = some (.slice pA pl.length pc) ∧ w1.cell? ⟨w.heap.size, 2, none⟩ = some (.slice rA rl.length rc) ∧ w1.cell? ⟨w.heap.size, 3, none⟩ = some (.int .i64 arms) from
          fun w1 hb => ⟨keep_cell hb g0.out, keep_cell hb g1.out, keep_cell hb f2, keep_cell hb g3.out⟩)
        clear f2
        go_loopw [39] (fun i wr => ∃ k : Nat, k ≤ pl.length ∧ i = .int .i64 k ∧ (∀ i, i < k → plateB (pl.getD i KP.dflt) = true) ∧ Below w0.heap.size w0 wr) (fun i _ => pl.length - (intOf i).toNat)
        case atStart => exact ⟨0, Nat.zero_le _, rfl, fun i hi => by omega, Below.refl _ _⟩
        case round =>
          obtain ⟨k, hk, rfl, hall, hbl⟩ := hrel
          have HB := Lib.hid hbl
          have HL := Lib.hid hall
          clear hbl hall
          by_cases hlt : k < pl.length
          · obtain ⟨b, off, rfl, hb, hc, hcell⟩ := plate_cells (HD0.out.p.below HB.out) (by dsimp only; omega)
            obtain ⟨c0, c1, c2, c3, c4, c5, c6⟩ := hcell k hlt
            have HRP := Lib.hid (fun w1 (hb1 : Below w0.heap.size w0 w1) => rightPlate_any (pl.getD k KP.dflt) w1 (((HD0.out.s _ (getD_mem' pl k KP.dflt hlt)).below hb1).more hb1.size) (HD0.out.p.okAt k hlt))
            have HPN' := Lib.hid (HPN.out k hlt)
            have HLS := Lib.hid (show ∀ (h : plateB (pl.getD k KP.dflt) = true) (i : Nat), i < k + 1 → plateB (pl.getD i KP.dflt) = true from fun h i hi => by
              by_cases e : i = k
              · rw [e]; exact h
              · exact HL.out i (by omega))
            clear hcell
            dsimp only at *
            generalize pl.getD k KP.dflt = q at *
            rcases Bool.eq_false_or_eq_true (plateB q) with g | g
            · have HR := Lib.hid (HLS.out g)
              rw [g] at HRP
              go_wp2_with fail
              refine (HRP.out _ (Below.al HB.out _)).mono ?_
              rintro e w2 ⟨rfl, hb2⟩
              have HB2 := Lib.hid (Below.call (Below.al HB.out _) hb2)
              clear hb2
              go_wp2
              go_roundw
              case rel => exact ⟨k + 1, by omega, num_i (by omega), HR.out, HB2.out⟩
              case measure => simp [intOf]; omega
            · have HR := Lib.hid (C4.out (HPN'.out g))
              rw [g] at HRP
              go_wp2_with fail
              refine (HRP.out _ (Below.al HB.out _)).mono ?_
              rintro e w2 ⟨rfl, hb2⟩
              have HB2 := Lib.hid (Below.call (Below.al HB.out _) hb2)
              clear hb2
              go_wp2
              go_ret
              exact ⟨ret_i HR.out.symm, Below.call HB0.out HB2.out⟩
          · obtain rfl : k = pl.length := by omega
            have HPA := Lib.hid (HPY.out HL.out)
            obtain ⟨g0', g1', g2', g3'⟩ := F0.out wr HB.out
            clear HPY HPN HL C4
            go_wp2
            obtain ⟨w1, hw1⟩ : ∃ w1, w1 = wr := ⟨_, rfl⟩
            subst hw1
            have HD1 := Lib.hid (HD0.out.then HB.out)
            clear g0' g1' g2' g3'
            go_loopw [50] (fun i wr => ∃ k : Nat, k ≤ rl.length ∧ i = .int .i64 k ∧ (∀ i, i < k → rackB (rl.getD i KR.dflt) = true) ∧ Below w1.heap.size w1 wr) (fun i _ => rl.length - (intOf i).toNat)
            case atStart => exact ⟨0, Nat.zero_le _, rfl, fun i hi => by omega, Below.refl _ _⟩
            case round =>
              obtain ⟨k, hk, rfl, hall, hbl⟩ := hrel
              have HB2 := Lib.hid hbl
              have HL := Lib.hid hall
              clear hbl hall
              by_cases hlt : k < rl.length
              · obtain ⟨b, off, rfl, hb, hc, hcell⟩ := rack_cells (HD1.out.r.below HB2.out) (by dsimp only; omega)
                obtain ⟨c0, c1, c2, c3, c4⟩ := hcell k hlt
                have HRN' := Lib.hid (HRN.out k hlt)
                have HLS := Lib.hid (show ∀ (h : rackB (rl.getD k KR.dflt) = true) (i : Nat), i < k + 1 → rackB (rl.getD i KR.dflt) = true from fun h i hi => by
                  by_cases e : i = k
                  · rw [e]; exact h
                  · exact HL.out i (by omega))
                clear hcell
                dsimp only at *
                generalize rl.getD k KR.dflt = q at *
                rcases Bool.eq_false_or_eq_true (sizeB q.rows q.cols) with g | g
                · have HR := Lib.hid (HLS.out g)
                  go_wp2_with fail
                  refine (rightSize_any _ _ _).mono ?_
                  rintro e w' ⟨rfl, rfl⟩
                  go_wp2
                  go_roundw
                  case rel => exact ⟨k + 1, by omega, num_i (by omega), HR.out, Below.al HB2.out _⟩
                  case measure => simp [intOf]; omega
                · have HR := Lib.hid (C5.out HPA.out (HRN'.out g))
                  go_wp2_with fail
                  refine (rightSize_any _ _ _).mono ?_
                  rintro e w' ⟨rfl, rfl⟩
                  go_wp2
                  go_ret
                  exact ⟨ret_i HR.out.symm, Below.call HB0.out (Below.call HB.out (Below.al HB2.out _))⟩
              · obtain rfl : k = rl.length := by omega
                have HRA := Lib.hid (HRY.out HL.out)
                have HCC := Lib.hid (C6.out HPA.out HRA.out)
                have HB3 := Lib.hid (HB.out.trans (HB2.out.mono HB.out.size))
                obtain ⟨g0', g1', g2', g3'⟩ := F0.out wr HB3.out
                have HPP := Lib.hid (HPL.out wr (HD0.out.then HB3.out) p4 r4 (fun i hi => plate_size (List.all_eq_true.1 HPA.out _ (getD_mem' pl i _ hi))) (fun i hi => List.all_eq_true.1 HRA.out _ (getD_mem' rl i _ hi)))
                clear HRY HRN HL C5 C6 HPL
                generalize wellsV pl = s at *
                generalize tipsV rl = t at *
                by_cases hs : 384 < s
                · have HF := Lib.hid (HCC.out.trans (if_pos (.inl hs)))
                  clear HCC
                  go_wp2_with fail
                  refine HPP.out.mono ?_
                  rintro e w4 ⟨rfl, hb4⟩
                  have HB4 := Lib.hid hb4
                  clear hb4
                  go_wp2
                  go_ret
                  exact ⟨ret_i HF.out.symm, Below.call HB0.out (Below.call HB3.out HB4.out)⟩
                · by_cases ht : 384 < t
                  · have HF := Lib.hid (HCC.out.trans (if_pos (.inr ht)))
                    clear HCC
                    go_wp2_with fail
                    refine HPP.out.mono ?_
                    rintro e w4 ⟨rfl, hb4⟩
                    have HB4 := Lib.hid hb4
                    clear hb4
                    go_wp2
                    go_ret
                    exact ⟨ret_i HF.out.symm, Below.call HB0.out (Below.call HB3.out HB4.out)⟩
                  · have HF := Lib.hid (HCC.out.trans (if_neg (by omega)))
                    clear HCC
                    go_wp2_with fail
                    refine HPP.out.mono ?_
                    rintro e w4 ⟨rfl, hb4⟩
                    have HB4 := Lib.hid hb4
                    clear hb4
                    go_wp2
                    go_ret
                    exact ⟨ret_i HF.out.symm, Below.call HB0.out (Below.call HB3.out HB4.out)⟩
    · obtain rfl := B2.out hz h1
      clear B1 B2 B3 B4 B5 B6 hz
      by_cases a1 : arms < 1
      · clear h1
        go_enter Try.func57, Try.ntmps57
        go_wp2_with fail
        rw [← hw0]
        clear hw0
        refine HK.out.mono ?_
        rintro e w' ⟨rfl, rfl⟩
        go_wp2
        go_ret
        exact ⟨rfl, HB0.out⟩
      · have a2 : 8 < arms := by omega
        clear h1
        go_enter Try.func57, Try.ntmps57
        go_wp2_with fail
        rw [← hw0]
        clear hw0
        refine HK.out.mono ?_
        rintro e w' ⟨rfl, rfl⟩
        go_wp2
        go_ret
        exact ⟨rfl, HB0.out⟩
  · obtain rfl := B1.out hz
    have hz' : (chkE bl != 0) = true := by rw [bne_iff_ne]; exact hz
    clear B1 B2 B3 B4 B5 B6 hz
    generalize chkE bl = c at *
    go_enter Try.func57, Try.ntmps57
    go_wp2_with fail
    rw [← hw0]
    clear hw0
    refine HK.out.mono ?_
    rintro e w' ⟨rfl, rfl⟩
    go_wp2
    go_ret
    exact ⟨rfl, HB0.out⟩
end Go.Proofs.Ytlgpnjbhmoomfaa
