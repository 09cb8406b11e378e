/- Two lists that are the same; the statements ZoneChecks and ZoneNeeds, walked. -/
import Derived.Test.YtlgpnjbhmoomfaaZR
namespace Go.Proofs.Ytlgpnjbhmoomfaa
open Go.RowKit

set_option maxRecDepth 100000 in
set_option maxHeartbeats 4000000 in
theorem sameS_eq (v u : Value) (xs : List (Int × Int)) (w : World) (h1 : KS.IsL w w.heap.size v xs) (h2 : KS.IsL w w.heap.size u xs) : Calls Try.prog 22 #[v, u] w fun e w' => e = .returned (.bool true) ∧ Below w.heap.size w w' := by
  obtain ⟨A, ca, rfl⟩ : ∃ A cap, v = .slice A xs.length cap := by
    obtain ⟨⟨A, cap, h, _⟩, _⟩ := h1
    exact ⟨A, cap, h⟩
  obtain ⟨B, cb, rfl⟩ : ∃ A cap, u = .slice A xs.length cap := by
    obtain ⟨⟨A, cap, h, _⟩, _⟩ := h2
    exact ⟨A, cap, h⟩
  have hlen := h1.2.2
  have HL := Lib.hid hlen
  have H10 := Lib.hid h1
  have H20 := Lib.hid h2
  clear h1 h2
  go_enter Try.func22, Try.ntmps22
  go_wp2_with fail
  go_loopw [5] (fun i wr => ∃ k : Nat, k ≤ xs.length ∧ i = .int .i64 k ∧ Below w.heap.size w wr) (fun i _ => xs.length - (intOf i).toNat)
  case atStart => exact ⟨0, Nat.zero_le _, rfl, Below.refl _ _⟩
  case round =>
    obtain ⟨k, hk, rfl, hbl⟩ := hrel
    have HB := Lib.hid hbl
    have H1 := Lib.hid (H10.out.below hbl)
    have H2 := Lib.hid (H20.out.below hbl)
    clear hbl
    by_cases hlt : k < xs.length
    · skip
      obtain ⟨b1, off1, rfl, hb1, hc1, hcell1⟩ := span_cells H1.out (by omega)
      obtain ⟨b2, off2, rfl, hb2, hc2, hcell2⟩ := span_cells H2.out (by omega)
      obtain ⟨c0, c1⟩ := hcell1 k hlt
      obtain ⟨e0, e1⟩ := hcell2 k hlt
      clear hcell1 hcell2
      generalize xs.getD k (0, 0) = t at *
      go_wp2_with fail
      go_quiet (fail)
      go_wp2
      go_roundw
      case rel => exact ⟨k + 1, by omega, num_i (by omega), below_drewN HB.out _⟩
      case measure => simp [intOf]; omega
    · obtain rfl : k = xs.length := by omega
      go_wp2
      go_ret
      exact ⟨rfl, HB.out⟩

set_option maxRecDepth 100000 in
set_option maxHeartbeats 4000000 in
theorem sameI_eq (v u : Value) (xs : List Int) (w : World) (h1 : KI.IsL w w.heap.size v xs) (h2 : KI.IsL w w.heap.size u xs) : Calls Try.prog 25 #[v, u] w fun e w' => e = .returned (.bool true) ∧ Below w.heap.size w w' := by
  obtain ⟨A, ca, rfl⟩ : ∃ A cap, v = .slice A xs.length cap := by
    obtain ⟨⟨A, cap, h, _⟩, _⟩ := h1
    exact ⟨A, cap, h⟩
  obtain ⟨B, cb, rfl⟩ : ∃ A cap, u = .slice A xs.length cap := by
    obtain ⟨⟨A, cap, h, _⟩, _⟩ := h2
    exact ⟨A, cap, h⟩
  have hlen := h1.2.2
  have HL := Lib.hid hlen
  have H10 := Lib.hid h1
  have H20 := Lib.hid h2
  clear h1 h2
  go_enter Try.func25, Try.ntmps25
  go_wp2_with fail
  go_loopw [5] (fun i wr => ∃ k : Nat, k ≤ xs.length ∧ i = .int .i64 k ∧ Below w.heap.size w wr) (fun i _ => xs.length - (intOf i).toNat)
  case atStart => exact ⟨0, Nat.zero_le _, rfl, Below.refl _ _⟩
  case round =>
    obtain ⟨k, hk, rfl, hbl⟩ := hrel
    have HB := Lib.hid hbl
    have H1 := Lib.hid (H10.out.below hbl)
    have H2 := Lib.hid (H20.out.below hbl)
    clear hbl
    by_cases hlt : k < xs.length
    · skip
      obtain ⟨b1, off1, c1', hv1, _, hb1, _, hcell1, _⟩ := KI.cells H1.out (by omega)
      obtain ⟨b2, off2, c2', hv2, _, hb2, _, hcell2, _⟩ := KI.cells H2.out (by omega)
      obtain ⟨rfl, rfl⟩ : A = some ⟨b1, off1, none⟩ ∧ c1' = ca := by cases hv1; exact ⟨rfl, rfl⟩
      obtain ⟨rfl, rfl⟩ : B = some ⟨b2, off2, none⟩ ∧ c2' = cb := by cases hv2; exact ⟨rfl, rfl⟩
      have c0 := hcell1 k hlt
      have e0 := hcell2 k hlt
      clear hcell1 hcell2 hv1 hv2
      generalize xs.getD k 0 = t at *
      go_wp2_with fail
      go_quiet (fail)
      go_wp2
      go_roundw
      case rel => exact ⟨k + 1, by omega, num_i (by omega), below_drewN HB.out _⟩
      case measure => simp [intOf]; omega
    · obtain rfl : k = xs.length := by omega
      go_wp2
      go_ret
      exact ⟨rfl, HB.out⟩

set_option maxRecDepth 100000 in
set_option maxHeartbeats 8000000 in
theorem zoneChecks_walk (d : Dk) (w : World) (hd : d.In w w.heap.size) : Calls Try.prog 4 #[d.v] w fun e w' => e = .returned (.bool true) ∧ Below w.heap.size w w' := by
  have HD := Lib.hid hd
  have HLG := Lib.hid (fun w h => large_any d w h)
  have HT := Lib.hid (fun w h => table_any d w h)
  have HRT := Lib.hid (fun w h => rtable_any d w h)
  have HZ := Lib.hid (fun w h => zcheck_any d w h)
  have HLV := Lib.hid (fun w => lives9 w)
  have HTL := Lib.hid (show (tabV d).length ≤ 9223372036854775807 by
    unfold tabV
    by_cases e : zchk d = 0
    · rw [if_pos e, pairs_len, tab_len0]
      have := parts_len d
      unfold partsK at this
      rw [if_pos (zchk_d d e)] at this
      omega
    · rw [if_neg e]; exact Nat.zero_le _)
  obtain ⟨w0, hw0⟩ : ∃ w0, w0 = w.alloc (.cells #[.slice d.bA d.bn d.bc, .slice d.pA d.pn d.pc, .slice d.rA d.rn d.rc, .int .i64 d.arms] 26) := ⟨_, rfl⟩
  have HB0 := Lib.hid (show Below w.heap.size w w0 by rw [hw0]; exact Below.al (Below.refl _ _) _)
  have HD0 := Lib.hid (HD.out.then HB0.out)
  have hsz0 : w.heap.size < w0.heap.size := by rw [hw0]; simp
  have HF := Lib.hid (show ∀ w1, Below w0.heap.size w0 w1 → (w1.cell? ⟨w.heap.size, 0, none⟩ = some (.slice d.bA d.bn d.bc) ∧ w1.cell? ⟨w.heap.size, 1, none⟩ = some (.slice d.pA d.pn d.pc) ∧ w1.cell? ⟨w.heap.size, 2, none⟩ = some (.slice d.rA d.rn d.rc) ∧ w1.cell? ⟨w.heap.size, 3, none⟩ = some (.int .i64 d.arms)) from by
      intro w1 hb
      refine ⟨keep_cell hb ?_, keep_cell hb ?_, keep_cell hb ?_, keep_cell hb ?_⟩
      all_goals (rw [hw0]; simp))
  clear hd
  generalize tabV d = TV at *
  generalize zchk d = E at *
  rcases Bool.eq_false_or_eq_true (largeB d) with g | g
  · rw [g] at HLG
    clear g
    go_enter Try.func4, Try.ntmps4
    go_wp2_with fail
    rw [← hw0]
    clear hw0
    refine (HLG.out w0 HD0.out).mono ?_
    rintro e w1 ⟨rfl, hb1⟩
    have HB1 := Lib.hid hb1
    clear hb1
    go_wp2_with fail
    refine (HLV.out _).mono ?_
    rintro e w2 ⟨rfl, hb2⟩
    have HB2 := Lib.hid (Below.call HB1.out hb2)
    clear hb2
    go_wp2
    go_ret
    exact ⟨rfl, Below.call HB0.out HB2.out⟩
  · rw [g] at HLG
    clear g
    go_enter Try.func4, Try.ntmps4
    go_wp2_with fail
    rw [← hw0]
    clear hw0
    refine (HLG.out w0 HD0.out).mono ?_
    rintro e w1 ⟨rfl, hb1⟩
    have HB1 := Lib.hid hb1
    clear hb1
    obtain ⟨d0, d1, d2, d3⟩ := HF.out w1 HB1.out
    go_wp2_with fail
    refine (HT.out w1 (HD0.out.then HB1.out)).mono ?_
    rintro e w2 ⟨u2, rfl, ho2, hb2⟩
    have HB2 := Lib.hid (Below.call HB1.out hb2)
    have HI2 := Lib.hid (ho2.isL HTL.out)
    obtain ⟨f0, f1, f2, f3⟩ := HF.out w2 HB2.out
    clear hb2 ho2 d0 d1 d2 d3
    go_wp2_with fail
    refine (HRT.out w2 (HD0.out.then HB2.out)).mono ?_
    rintro e w3 ⟨u3, rfl, ho3, hb3⟩
    have HB3 := Lib.hid (Below.call HB2.out hb3)
    have HI3 := Lib.hid (ho3.isL HTL.out)
    have HI2' := Lib.hid (HI2.out.then hb3)
    clear hb3 ho3 f0 f1 f2 f3
    go_wp2_with fail
    refine (HLV.out _).mono ?_
    rintro e w4 ⟨rfl, hb4⟩
    have HB4 := Lib.hid (Below.call HB3.out hb4)
    have HI2'' := Lib.hid (HI2'.out.then hb4)
    have HI3' := Lib.hid (HI3.out.then hb4)
    obtain ⟨d0, d1, d2, d3⟩ := HF.out w4 HB4.out
    clear hb4
    go_wp2_with fail
    refine (HZ.out w4 (HD0.out.then HB4.out)).mono ?_
    rintro e w5 ⟨rfl, hb5⟩
    have HB5 := Lib.hid (Below.call HB4.out hb5)
    have HI2 := Lib.hid (HI2''.out.then hb5)
    have HI3 := Lib.hid (HI3'.out.then hb5)
    clear hb5 d0 d1 d2 d3
    go_wp2_with fail
    refine (sameS_eq _ _ _ _ HI2.out HI3.out).mono ?_
    rintro e w6 ⟨rfl, hb6⟩
    have HB6 := Lib.hid (Below.call HB5.out hb6)
    clear hb6
    go_wp2
    go_ret
    exact ⟨ret_b (by simp), Below.call HB0.out HB6.out⟩

set_option maxRecDepth 100000 in
set_option maxHeartbeats 8000000 in
theorem zoneNeeds_walk (d : Dk) (v : Value) (ids : List Int) (w : World) (hd : d.In w w.heap.size) (hv : KI.IsL w w.heap.size v ids) : Calls Try.prog 5 #[d.v, v] w fun e w' => e = .returned (.bool true) ∧ Below w.heap.size w w' := by
  have HD := Lib.hid hd
  have HV := Lib.hid hv
  have HLG := Lib.hid (fun w h => large_any d w h)
  have HLV := Lib.hid (fun w => lives9 w)
  have hvl := hv.2.2
  have HN := Lib.hid (fun w h1 h2 hl => needs_any d v ids w h1 h2 hl)
  have HRN := Lib.hid (fun w h1 h2 hl => rneeds_any d v ids w h1 h2 hl)
  obtain ⟨A, ca, rfl⟩ : ∃ A cap, v = .slice A ids.length cap := by
    obtain ⟨⟨A, cap, h, _⟩, _⟩ := hv
    exact ⟨A, cap, h⟩
  obtain ⟨w0, hw0⟩ : ∃ w0, w0 = w.alloc (.cells #[.slice d.bA d.bn d.bc, .slice d.pA d.pn d.pc, .slice d.rA d.rn d.rc, .int .i64 d.arms] 26) := ⟨_, rfl⟩
  have HB0 := Lib.hid (show Below w.heap.size w w0 by rw [hw0]; exact Below.al (Below.refl _ _) _)
  have HD0 := Lib.hid (HD.out.then HB0.out)
  have hsz0 : w.heap.size < w0.heap.size := by rw [hw0]; simp
  have HF := Lib.hid (show ∀ w1, Below w0.heap.size w0 w1 → (w1.cell? ⟨w.heap.size, 0, none⟩ = some (.slice d.bA d.bn d.bc) ∧ w1.cell? ⟨w.heap.size, 1, none⟩ = some (.slice d.pA d.pn d.pc) ∧ w1.cell? ⟨w.heap.size, 2, none⟩ = some (.slice d.rA d.rn d.rc) ∧ w1.cell? ⟨w.heap.size, 3, none⟩ = some (.int .i64 d.arms)) from by
      intro w1 hb
      refine ⟨keep_cell hb ?_, keep_cell hb ?_, keep_cell hb ?_, keep_cell hb ?_⟩
      all_goals (rw [hw0]; simp))
  clear hd hv
  generalize setV d ids = SV at *
  generalize spsE d ids = E at *
  by_cases hg : largeB d = true ∨ 60 < ids.length
  · go_enter Try.func5, Try.ntmps5
    go_wp2_with fail
    rw [← hw0]
    clear hw0
    rcases Bool.eq_false_or_eq_true (largeB d) with g | g
    · rw [g] at HLG
      clear g hg
      refine (HLG.out w0 HD0.out).mono ?_
      rintro e w1 ⟨rfl, hb1⟩
      have HB1 := Lib.hid hb1
      clear hb1
      go_wp2_with fail
      refine (HLV.out _).mono ?_
      rintro e w2 ⟨rfl, hb2⟩
      have HB2 := Lib.hid (Below.call HB1.out hb2)
      clear hb2
      go_wp2
      go_ret
      exact ⟨rfl, Below.call HB0.out HB2.out⟩
    · have hl : 60 < ids.length := by rcases hg with h | h; rw [g] at h; cases h; exact h
      rw [g] at HLG
      clear g hg
      refine (HLG.out w0 HD0.out).mono ?_
      rintro e w1 ⟨rfl, hb1⟩
      have HB1 := Lib.hid hb1
      clear hb1
      go_wp2_with fail
      refine (HLV.out _).mono ?_
      rintro e w2 ⟨rfl, hb2⟩
      have HB2 := Lib.hid (Below.call HB1.out hb2)
      clear hb2
      go_wp2
      go_ret
      exact ⟨rfl, Below.call HB0.out HB2.out⟩
  · have g : largeB d = false := by rcases Bool.eq_false_or_eq_true (largeB d) with g | g; exact absurd (.inl g) hg; exact g
    have hl : ids.length ≤ 60 := by omega
    rw [g] at HLG
    clear g hg
    go_enter Try.func5, Try.ntmps5
    go_wp2_with fail
    rw [← hw0]
    clear hw0
    refine (HLG.out w0 HD0.out).mono ?_
    rintro e w1 ⟨rfl, hb1⟩
    have HB1 := Lib.hid hb1
    clear hb1
    obtain ⟨d0, d1, d2, d3⟩ := HF.out w1 HB1.out
    have HV1 := Lib.hid (HV.out.then (Below.call HB0.out HB1.out))
    go_wp2_with fail
    refine (HN.out w1 (HD0.out.then HB1.out) HV1.out (by omega)).mono ?_
    rintro e w2 ⟨u2, rfl, ho2, hb2⟩
    have HB2 := Lib.hid (Below.call HB1.out hb2)
    have HI2 := Lib.hid ho2
    have HV2 := Lib.hid (HV1.out.then hb2)
    obtain ⟨f0, f1, f2, f3⟩ := HF.out w2 HB2.out
    clear hb2 ho2 d0 d1 d2 d3
    go_wp2_with fail
    refine (HRN.out w2 (HD0.out.then HB2.out) HV2.out (by omega)).mono ?_
    rintro e w3 ⟨u3, rfl, ho3, hb3⟩
    have HB3 := Lib.hid (Below.call HB2.out hb3)
    have HI3 := Lib.hid ho3
    have HI2' := Lib.hid (HI2.out.then hb3)
    clear hb3 ho3 f0 f1 f2 f3
    go_wp2_with fail
    refine (HLV.out _).mono ?_
    rintro e w4 ⟨rfl, hb4⟩
    have HB4 := Lib.hid (Below.call HB3.out hb4)
    have HI2'' := Lib.hid (HI2'.out.then hb4)
    have HI3' := Lib.hid (HI3.out.then hb4)
    clear hb4
    go_wp2_with fail
    refine (sameI_eq _ _ _ _ HI2''.out HI3'.out).mono ?_
    rintro e w6 ⟨rfl, hb6⟩
    have HB6 := Lib.hid (Below.call HB4.out hb6)
    clear hb6
    go_wp2
    go_ret
    exact ⟨ret_b (by simp), Below.call HB0.out HB6.out⟩
end Go.Proofs.Ytlgpnjbhmoomfaa
