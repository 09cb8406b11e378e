/- The law on the lanes that a tool touches. -/
import Derived.Test.YtegghoniboebkaaFN
namespace Go.Proofs.Ytegghoniboebkaa
open Go.RowKit

theorem lo_mono (l : List Nat) (h : Rise l) (a b : Nat) (ha : ¬ nan a) (hb : ¬ nan b) (hab : vf a ≤ vf b) : loV l a 0 ≤ loV l b 0 := by
  have h2 := h.two
  obtain ⟨a1, a2, a3⟩ := lo_spec l h a ha _ 0 rfl (by omega) (fun j hj => by omega)
  obtain ⟨b1, b2, b3⟩ := lo_spec l h b hb _ 0 rfl (by omega) (fun j hj => by omega)
  apply Nat.le_of_not_lt
  intro hh
  have := a2 _ hh
  rcases b3 with b3 | b3 <;> omega
theorem hi_mono (l : List Nat) (h : Rise l) (a b : Nat) (ha : ¬ nan a) (hb : ¬ nan b) (h0 : vf (l.getD 0 0) ≤ vf a) (hab : vf a ≤ vf b) : hiV l a (l.length - 2) ≤ hiV l b (l.length - 2) := by
  have h2 := h.two
  obtain ⟨a1, a2, a3⟩ := hi_spec l h a ha h0 (l.length - 2) (by omega)
  obtain ⟨b1, b2, b3⟩ := hi_spec l h b hb (by omega) (l.length - 2) (by omega)
  apply Nat.le_of_not_lt
  intro hh
  have := b3 _ hh (by omega)
  omega
theorem out_iff (l : List Nat) (h : Rise l) (a b : Nat) (ha : ¬ nan a) (hb : ¬ nan b) : outB l a b = false ↔ vf a ≤ vf (l.getD (l.length - 1) 0) ∧ vf (l.getD 0 0) ≤ vf b := by
  have h2 := h.two
  unfold outB
  rw [Bool.or_eq_false_iff, gtb_num ha (h.num _ (by omega)), ltb_num hb (h.num _ (by omega)), decide_eq_false_iff_not, decide_eq_false_iff_not]
  omega
theorem lane_in (l : List Nat) (h : Rise l) (a x b : Nat) (ha : ¬ nan a) (hx : ¬ nan x) (hb : ¬ nan b) (h1 : vf a ≤ vf x) (h2 : vf x ≤ vf b) (ho : outB l x x = false) : loV l a 0 ≤ loV l x 0 ∧ loV l x 0 ≤ hiV l b (l.length - 2) := by
  refine ⟨lo_mono l h a x ha hx h1, ?_⟩
  rw [lo_hi l h x hx ho]
  exact hi_mono l h x b hx hb ((out_iff l h x x hx hx).1 ho).2 h2
/-- Where Reach refuses nothing. -/
theorem rch_ok (l : List Nat) (x r : Nat) (he : (rch l x r).2.2 = 0) : chkE l = 0 ∧ nanb x = false ∧ nanb r = false ∧ ltb r 0 = false ∧
    ∃ a q, Ieee.double.sub x r = some a ∧ Ieee.double.add x r = some q ∧ outB l a q = false ∧ rch l x r = (loV l a 0, hiV l q (l.length - 2), 0) := by
  by_cases hz : chkE l = 0
  · rcases hx : nanb x with _ | _
    · rcases hy : nanb r with _ | _
      · rcases hl : ltb r 0 with _ | _
        · rcases es : Ieee.double.sub x r with _ | a
          · rw [rch_none l x r hz hx hy hl (.inl es)] at he; cases he
          · rcases ea : Ieee.double.add x r with _ | q
            · rw [rch_none l x r hz hx hy hl (.inr ea)] at he; cases he
            · have e := rch_some l x r a q hz hx hy hl es ea
              rw [e] at he ⊢
              have ho : outB l a q = false := by
                rw [← Bool.not_eq_true]
                intro ho
                dsimp only at he
                unfold tEr at he
                rw [if_pos ho] at he
                cases he
              refine ⟨hz, rfl, rfl, rfl, a, q, rfl, rfl, ho, ?_⟩
              unfold tLo tHi tEr
              rw [if_neg (by rw [ho]; simp), if_neg (by rw [ho]; simp), if_neg (by rw [ho]; simp)]
        · rw [rch_neg l x r hz hx hy hl] at he; cases he
      · rw [rch_nan l x r hz (.inr hy)] at he; cases he
    · rw [rch_nan l x r hz (.inl hx)] at he; cases he
  · rw [rch_bad l x r hz] at he
    exact absurd he hz

set_option maxRecDepth 100000 in
set_option maxHeartbeats 4000000 in
theorem railReaches_walk (v : Value) (xs : List Nat) (x r : Nat) (h64 : r < 18446744073709551616) (w : World) (h : KF.IsL w w.heap.size v xs) : Calls Try.prog 5 #[v, .float .f64 x, .float .f64 r] w (Good w) := by
  by_cases h60 : 60 < xs.length
  · obtain ⟨⟨A, cap, hv, hc, hA⟩, hf, hl⟩ := h
    subst hv
    clear hA hf
    go_enter Try.func5, Try.ntmps5
    go_wp2_with fail
    refine (lives7 _).mono ?_
    rintro e w1 ⟨rfl, hb⟩
    have HB := Lib.hid hb
    clear hb
    go_wp2_with fail
    go_ret
    exact ⟨rfl, HB.out⟩
  have HR1 := Lib.hid (fun w h => reach_any v xs x r h64 w h)
  have HR2 := Lib.hid (fun w h => rreach_any v xs x r h64 w h)
  have HI := Lib.hid h
  by_cases he : (rch xs x r).2.2 = 0
  · obtain ⟨hz, hx, hy, hl, a, q, es, ea, ho, e⟩ := rch_ok xs x r he
    obtain ⟨hr, b, off, cap, n, rfl, hn, hm, hb, hcell, hlt⟩ := rise_cells h hz
    obtain ⟨na, nq, v1, v2⟩ := sub_le_add x r a q h64 (nanb_of hx) (nanb_of hy) (ltb_0 r (nanb_of hy) hl) es ea
    obtain ⟨sp1, sp2, hrest⟩ := lanes_spec xs hr a q na nq (Int.le_trans v1 v2) ho
    clear hrest
    have HTI := Lib.hid (tch_iff xs hr a q na nq (Int.le_trans v1 v2) ho)
    have HLI := Lib.hid (lane_in xs hr a x q na (nanb_of hx) nq v1 v2)
    have HLK := Lib.hid (lane_ok xs x)
    have HLL := Lib.hid (fun w h => lane_any (.slice (some ⟨b, off, none⟩) xs.length cap) xs x w h)
    have HLE := Lib.hid (show laneE xs x = if outB xs x x = true then 71 else 0 by unfold laneE; rw [if_pos hz, if_neg (by rw [hx]; simp)])
    have HTT := Lib.hid (fun (w' : World) hc k hk => touches_any b off cap n xs hn hm w' hc k hk a q)
    have HC := Lib.hid hcell
    have hs := fun w => run_float_arith (P := Try.prog) w .sub 28 .f64 _ _ _ es
    have ha := fun w => run_float_arith (P := Try.prog) w .add 28 .f64 _ _ _ ea
    rw [e] at HR1 HR2
    unfold rchVal at HR1 HR2
    dsimp only at HR1 HR2
    rw [hn] at HR1 HR2 HI HTT HLL HTI HLI HC sp1 sp2 HLK
    rw [show n + 2 - 2 = n by omega] at HR1 HR2 HTI HLI sp1 sp2
    rw [hn]
    have sp3 : hiV xs q n ≤ n := by omega
    clear hz hx hy hl es ea ho e hr hn hcell hlt na nq v1 v2 sp2 he h60 h
    generalize loV xs a 0 = lo at *
    generalize hiV xs q n = hi at *
    go_enter Try.func5, Try.ntmps5
    go_wp2_with fail
    refine (HR1.out w HI.out).mono ?_
    rintro e w1 ⟨rfl, hb1⟩
    have hI1 := HI.out.then hb1
    go_wp2_with fail
    have hI2 := hI1.then (Below.al (Below.refl _ _) (.cells #[.int .i64 lo, .int .i64 hi] 35))
    have hB2 := Below.al hb1 (.cells #[.int .i64 lo, .int .i64 hi] 35)
    have hs0 : (w1.alloc (.cells #[.int .i64 lo, .int .i64 hi] 35)).cell? ⟨w1.heap.size, 0, none⟩ = some (.int .i64 lo) := by simp
    have hs1 : (w1.alloc (.cells #[.int .i64 lo, .int .i64 hi] 35)).cell? ⟨w1.heap.size, 1, none⟩ = some (.int .i64 hi) := by simp
    generalize w1.alloc (.cells #[.int .i64 lo, .int .i64 hi] 35) = w2 at hI2 hB2 hs0 hs1 ⊢
    generalize w1.heap.size = g1 at hs0 hs1 ⊢
    have HI2 := Lib.hid hI2
    have HB2 := Lib.hid hB2
    clear hI1 hI2 hB2 hb1
    refine (HR2.out w2 HI2.out).mono ?_
    rintro e w3 ⟨rfl, hb3⟩
    have hI3 := HI2.out.then hb3
    have hB3 := Below.call HB2.out hb3
    have hs0' := keep_cell hb3 hs0
    have hs1' := keep_cell hb3 hs1
    clear hs0 hs1 hb3
    go_wp2_with fail
    have hI4 := hI3.then (Below.al (Below.refl _ _) (.cells #[.int .i64 lo, .int .i64 hi] 35))
    have hB4 := Below.al hB3 (.cells #[.int .i64 lo, .int .i64 hi] 35)
    have hp0 : (w3.alloc (.cells #[.int .i64 lo, .int .i64 hi] 35)).cell? ⟨w3.heap.size, 0, none⟩ = some (.int .i64 lo) := by simp
    have hp1 : (w3.alloc (.cells #[.int .i64 lo, .int .i64 hi] 35)).cell? ⟨w3.heap.size, 1, none⟩ = some (.int .i64 hi) := by simp
    have hs0 := keep_cell (Below.al (Below.refl _ _) (.cells #[.int .i64 lo, .int .i64 hi] 35)) hs0'
    have hs1 := keep_cell (Below.al (Below.refl _ _) (.cells #[.int .i64 lo, .int .i64 hi] 35)) hs1'
    clear hs0' hs1'
    generalize w3.alloc (.cells #[.int .i64 lo, .int .i64 hi] 35) = w4 at hI4 hB4 hs0 hs1 hp0 hp1 ⊢
    generalize w3.heap.size = g2 at hp0 hp1 ⊢
    have HI4 := Lib.hid hI4
    have HB4 := Lib.hid hB4
    clear hI3 hI4 hB3 hB4 HI2 HB2
    refine (lives7 _).mono ?_
    rintro e w5 ⟨rfl, hb5⟩
    have s0 := keep_cell hb5 hs0
    have s1 := keep_cell hb5 hs1
    have p0 := keep_cell hb5 hp0
    have p1 := keep_cell hb5 hp1
    have HI5 := Lib.hid (HI4.out.then hb5)
    have HB5 := Lib.hid (Below.call HB4.out hb5)
    clear hs0 hs1 hp0 hp1 hb5 HI4 HB4
    go_wp2
    go_loop [11] (fun i => ∃ j : Nat, i = .int .i64 j ∧ lo ≤ j ∧ j ≤ hi + 1) (fun i => hi + 1 - (intOf i).toNat)
    case atStart => exact ⟨lo, rfl, Nat.le_refl _, by omega⟩
    case round =>
      obtain ⟨j, rfl, j1, j2⟩ := hrel
      by_cases hj : j ≤ hi
      · have HT := Lib.hid (HTT.out w5 (fun i hi => (HB5.out.cell (p := ⟨b, off + i, none⟩) hb).trans (HC.out i hi)) j (by omega))
        rw [(HTI.out j (by omega)).2 ⟨j1, hj⟩] at HT
        go_wp2_with fail
        refine HT.out.mono ?_
        rintro e w' ⟨rfl, rfl⟩
        go_wp2
        go_round
        case rel => exact ⟨j + 1, num_i (by omega), by omega, by omega⟩
        case measure => simp [intOf]; omega
      · have HL5 := Lib.hid (HLL.out w5 HI5.out)
        by_cases h0 : laneE xs x = 0
        · obtain ⟨_, _, hv, _⟩ := HLK.out h0
          have hoo : outB xs x x = false := by
            rw [← Bool.not_eq_true]
            intro hh
            have := HLE.out
            rw [if_pos hh, h0] at this
            omega
          obtain ⟨k1, k2⟩ := HLI.out hoo
          rw [h0, hv] at HL5
          clear hv hoo h0
          generalize loV xs x 0 = m at *
          go_wp2_with fail
          refine HL5.out.mono ?_
          rintro e w6 ⟨rfl, hb6⟩
          have q0 := keep_cell hb6 s0
          have q1 := keep_cell hb6 s1
          have HB6 := Lib.hid (Below.call HB5.out hb6)
          clear hb6 s0 s1 p0 p1
          go_wp2_with fail
          go_ret
          exact ⟨ret_b (by simp), HB6.out⟩
        · have h0' : (laneE xs x != 0) = true := by rw [bne_iff_ne]; exact h0
          clear h0 HLE HLK
          generalize laneE xs x = c at *
          generalize laneV xs x = m at *
          go_wp2_with fail
          refine HL5.out.mono ?_
          rintro e w6 ⟨rfl, hb6⟩
          have q0 := keep_cell hb6 s0
          have q1 := keep_cell hb6 s1
          have HB6 := Lib.hid (Below.call HB5.out hb6)
          clear hb6 s0 s1 p0 p1
          go_wp2_with fail
          go_ret
          exact ⟨rfl, HB6.out⟩
  · obtain ⟨⟨A, cap, hv, hc, hA⟩, hf, hl⟩ := h
    have he' : ((rch xs x r).2.2 != 0) = true := by rw [bne_iff_ne]; exact he
    subst hv
    clear hA hf he
    obtain ⟨t, ht⟩ : ∃ t, t = rch xs x r := ⟨_, rfl⟩
    rw [← ht] at HR1 HR2 he'
    clear ht
    obtain ⟨lo, hi, c⟩ := t
    unfold rchVal at HR1 HR2
    dsimp only at HR1 HR2 he'
    go_enter Try.func5, Try.ntmps5
    go_wp2_with fail
    refine (HR1.out w HI.out).mono ?_
    rintro e w1 ⟨rfl, hb1⟩
    have hI1 := HI.out.then hb1
    go_wp2_with fail
    have hI2 := hI1.then (Below.al (Below.refl _ _) (.cells #[.int .i64 lo, .int .i64 hi] 35))
    have hB2 := Below.al hb1 (.cells #[.int .i64 lo, .int .i64 hi] 35)
    have hs0 : (w1.alloc (.cells #[.int .i64 lo, .int .i64 hi] 35)).cell? ⟨w1.heap.size, 0, none⟩ = some (.int .i64 lo) := by simp
    have hs1 : (w1.alloc (.cells #[.int .i64 lo, .int .i64 hi] 35)).cell? ⟨w1.heap.size, 1, none⟩ = some (.int .i64 hi) := by simp
    generalize w1.alloc (.cells #[.int .i64 lo, .int .i64 hi] 35) = w2 at hI2 hB2 hs0 hs1 ⊢
    generalize w1.heap.size = g1 at hs0 hs1 ⊢
    have HI2 := Lib.hid hI2
    have HB2 := Lib.hid hB2
    clear hI1 hI2 hB2 hb1
    refine (HR2.out w2 HI2.out).mono ?_
    rintro e w3 ⟨rfl, hb3⟩
    have hI3 := HI2.out.then hb3
    have hB3 := Below.call HB2.out hb3
    have hs0' := keep_cell hb3 hs0
    have hs1' := keep_cell hb3 hs1
    clear hs0 hs1 hb3
    go_wp2_with fail
    have hI4 := hI3.then (Below.al (Below.refl _ _) (.cells #[.int .i64 lo, .int .i64 hi] 35))
    have hB4 := Below.al hB3 (.cells #[.int .i64 lo, .int .i64 hi] 35)
    have hp0 : (w3.alloc (.cells #[.int .i64 lo, .int .i64 hi] 35)).cell? ⟨w3.heap.size, 0, none⟩ = some (.int .i64 lo) := by simp
    have hp1 : (w3.alloc (.cells #[.int .i64 lo, .int .i64 hi] 35)).cell? ⟨w3.heap.size, 1, none⟩ = some (.int .i64 hi) := by simp
    have hs0 := keep_cell (Below.al (Below.refl _ _) (.cells #[.int .i64 lo, .int .i64 hi] 35)) hs0'
    have hs1 := keep_cell (Below.al (Below.refl _ _) (.cells #[.int .i64 lo, .int .i64 hi] 35)) hs1'
    clear hs0' hs1'
    generalize w3.alloc (.cells #[.int .i64 lo, .int .i64 hi] 35) = w4 at hI4 hB4 hs0 hs1 hp0 hp1 ⊢
    generalize w3.heap.size = g2 at hp0 hp1 ⊢
    have HI4 := Lib.hid hI4
    have HB4 := Lib.hid hB4
    clear hI3 hI4 hB3 hB4 HI2 HB2
    refine (lives7 _).mono ?_
    rintro e w5 ⟨rfl, hb5⟩
    have s0 := keep_cell hb5 hs0
    have s1 := keep_cell hb5 hs1
    have p0 := keep_cell hb5 hp0
    have p1 := keep_cell hb5 hp1
    have HI5 := Lib.hid (HI4.out.then hb5)
    have HB5 := Lib.hid (Below.call HB4.out hb5)
    clear hs0 hs1 hp0 hp1 hb5 HI4 HB4
    go_wp2_with fail
    go_ret
    exact ⟨rfl, HB5.out⟩
end Go.Proofs.Ytegghoniboebkaa
