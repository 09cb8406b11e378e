/- The law on any floats' order. -/
import Derived.Test.YtdnifilmckialaaDoorWY
namespace Go.Proofs.YtdnifilmckialaaDoor
open Go.RowKit

set_option maxHeartbeats 1000000 in
theorem sorts_long (b off len cap : Nat) (hlong : 200 < len) (hm : len ≤ 9223372036854775807) (w : World) (hT : Tab w) :
    Calls Tryd.prog 6 #[.slice (some ⟨b, off, none⟩) len cap] w fun e w' => e = .returned (.bool true) ∧ Below w.heap.size w w' := by
  go_enter Tryd.func6, Tryd.ntmps6
  go_wp2_with (go_at_call 14; refine (lives1 _ hT).mono ?_; rintro e w' ⟨rfl, hB⟩)
  go_ret
  exact ⟨rfl, hB⟩
set_option maxHeartbeats 1000000 in
theorem sorts_nil (a : Option Addr) (cap : Nat) (w : World) (hT : Tab w) : Calls Tryd.prog 6 #[.slice a 0 cap] w fun e w' => e = .returned (.bool true) ∧ Below w.heap.size w w' := by
  have hT' := Lib.hid hT
  clear hT
  go_enter Tryd.func6, Tryd.ntmps6
  go_wp2_with fail
  refine (sort_nil a cap _).mono ?_
  rintro e w1 ⟨G, rfl, hB1⟩
  have HB1 := Lib.hid hB1
  have HT1 := Lib.hid (hT'.out.below hB1)
  clear hB1
  go_wp2_with fail
  refine (listR_nil a cap _).mono ?_
  rintro e w2 ⟨rfl, rfl⟩
  go_wp2_with fail
  refine (rsort_nil none 0 _).mono ?_
  rintro e w2 ⟨rfl, rfl⟩
  go_wp2_with fail
  refine (ends_nil a cap _).mono ?_
  rintro e w2 ⟨rfl, rfl⟩
  go_wp2_with fail
  refine (lives1 _ HT1.out).mono ?_
  rintro e w2 ⟨rfl, hB2⟩
  have HB2 := Lib.hid (HB1.out.trans (bl_le hB2 HB1.out.size))
  clear hB2
  go_wp2
  go_loop [8, 9] (fun k i => k = .int .i64 0 ∧ i = .int .i64 0) (fun _ _ => 0)
  case atStart => exact ⟨rfl, rfl⟩
  case round =>
    obtain ⟨rfl, rfl⟩ := hrel
    go_wp2_with (go_at_call 29; refine (one_true 0 0 (Or.inl rfl) _).mono ?_; rintro e w' ⟨rfl, rfl⟩)
    go_ret
    exact ⟨ret_b (by simp), HB2.out⟩
set_option maxHeartbeats 2000000 in
theorem sorts_short (b off n cap : Nat) (hn0 : 0 < n) (hn : n ≤ 200) (xs : List Nat) (hx : xs.length = n) (hlt : ∀ x ∈ xs, x < 18446744073709551616) (w : World) (hT : Tab w) (hc : Cells w b off xs) (hb : b < w.heap.size) :
    Calls Tryd.prog 6 #[.slice (some ⟨b, off, none⟩) n cap] w fun e w' => e = .returned (.bool true) ∧ Below w.heap.size w w' := by
  have HX := Lib.hid hx
  have HLT := Lib.hid hlt
  have HC := Lib.hid hc
  have HT := Lib.hid hT
  have HBB := Lib.hid hb
  have HE := Lib.hid (ends_sorted xs hlt)
  clear hx hlt hc hT hb
  go_enter Tryd.func6, Tryd.ntmps6
  go_wp2_with fail
  refine (sort_any b off n cap xs HX.out (by omega) hn0 HLT.out _ HC.out HBB.out).mono ?_
  rintro e w1 ⟨G, zs, rfl, hp, hs, hr, hB1⟩
  have hc1 : Cells w1 b off xs := fun i hi => (hB1.cell (p := ⟨b, off + i, none⟩) HBB.out).trans (HC.out i hi)
  have HP := Lib.hid hp
  have HS := Lib.hid hs
  have HR := Lib.hid hr
  have HB1 := Lib.hid hB1
  have HC1 := Lib.hid hc1
  have hGl : G < w1.heap.size := hr.lt
  have HGL := Lib.hid hGl
  clear hp hs hr hB1 hc1 hGl
  go_wp2_with fail
  refine (listR_any b off n cap xs HX.out (by omega) _ HC1.out (fun _ => Nat.lt_of_lt_of_le HBB.out HB1.out.size)).mono ?_
  rintro e w2 ⟨v, rfl, hown, hB2⟩
  obtain ⟨ao, cap2, rfl, hform⟩ := own_form HX.out hown
  rcases hform with ⟨_, h0, _⟩ | ⟨Q, rfl, hQ1, hQ2, hQ3, hQc⟩
  · omega
  have hcQ : CellsR w2 Q 0 xs := fun i hi => by
    rw [Nat.zero_add]
    exact hQc i (by rw [← HX.out]; exact hi)
  have HCQ := Lib.hid hcQ
  have HQ2 := Lib.hid hQ2
  have HB2 := Lib.hid hB2
  clear hown hQ1 hQ2 hQ3 hQc hcQ hB2
  go_wp2_with fail
  refine (rsort_any Q n cap2 xs HX.out (by omega) HLT.out _ HCQ.out (fun _ => HQ2.out)).mono ?_
  rintro e w3 ⟨v, rfl, hown, hB3⟩
  obtain ⟨ao, cap3, rfl, hform⟩ := own_form ((rsort_length xs).trans HX.out) hown
  rcases hform with ⟨_, h0, _⟩ | ⟨R, rfl, hR1, hR2, hR3, hRc⟩
  · omega
  have hb13 : Below w1.heap.size w1 w3 := HB2.out.trans (bl_le hB3 HB2.out.size)
  have hb03 : Below w.heap.size w w3 := HB1.out.trans (bl_le hb13 HB1.out.size)
  have hc3 : Cells w3 b off xs := fun i hi => (hb03.cell (p := ⟨b, off + i, none⟩) HBB.out).trans (HC.out i hi)
  have hzl : zs.length = n := HP.out.length_eq.trans HX.out
  have hz3 : ∀ i, i < n → w3.cell? ⟨G, i, none⟩ = some (.float .f64 (zs.getD i 0)) := fun i hi => (hb13.cell (p := ⟨G, i, none⟩) HGL.out).trans (HR.out.cell i (by rw [hzl]; exact hi))
  have HC3 := Lib.hid hc3
  have HZ3 := Lib.hid hz3
  have HR2 := Lib.hid hR2
  have HRC := Lib.hid hRc
  have HT3 := Lib.hid (HT.out.below hb03)
  have HB03 := Lib.hid hb03
  have HGL3 := Lib.hid (Nat.lt_of_lt_of_le HGL.out hb13.size)
  clear hown hR1 hR2 hR3 hRc hb13 hb03 hc3 hzl hz3 hB3
  go_wp2_with fail
  refine (ends_any b off n cap xs HX.out (by omega) HLT.out _ HC3.out).mono ?_
  rintro e w4 ⟨rfl, rfl⟩
  go_wp2_with fail
  refine (lives1 _ HT3.out).mono ?_
  rintro e w4 ⟨rfl, hB4⟩
  have hz4 : ∀ i, i < n → w4.cell? ⟨G, i, none⟩ = some (.float .f64 (zs.getD i 0)) := fun i hi => (hB4.cell (p := ⟨G, i, none⟩) HGL3.out).trans (HZ3.out i hi)
  have hw4 : ∀ i, i < n → w4.cell? ⟨R, i, none⟩ = some (.int .u64 ((rsort xs).getD i 0)) := fun i hi => (hB4.cell (p := ⟨R, i, none⟩) HR2.out).trans (HRC.out i hi)
  have hone : ∀ i, i < n → Same1 (zs.getD i 0) ((rsort xs).getD i 0) := fun i hi => same_each xs zs HLT.out HP.out HS.out i (by rw [HX.out]; exact hi)
  have HZ4 := Lib.hid hz4
  have HW4 := Lib.hid hw4
  have HONE := Lib.hid hone
  have HB4 := Lib.hid (HB03.out.trans (bl_le hB4 HB03.out.size))
  have hwl : (rsort xs).length = n := (rsort_length xs).trans HX.out
  have HWL := Lib.hid hwl
  have hwlt : ∀ x ∈ rsort xs, x < 18446744073709551616 := fun x hx => HLT.out x ((rsort_perm xs).subset hx)
  have HWLT := Lib.hid hwlt
  clear hB4 hz4 hw4 hone hwl hwlt
  generalize rsort xs = want at *
  generalize ends xs = s at *
  obtain ⟨s1, s2, s3⟩ := s
  dsimp only at *
  go_wp2
  have hcnt := HE.out.1
  have H0 := Lib.hid HE.out.2.1
  have H1 := Lib.hid HE.out.2.2
  have HCNT := Lib.hid hcnt
  have hs3 : s3 ≤ n := by rw [hcnt, ← HWL.out]; exact List.countP_le_length
  clear hcnt
  go_loopw [8, 9] (fun k j wr => ∃ (i d : Nat), i ≤ n ∧ k = .int .i64 (List.countP (fun x => cls x != 1) (want.take i) : Nat) ∧ j = .int .i64 i ∧ wr = w4.drewN d) (fun _ j _ => n - (intOf j).toNat)
  case atStart => exact ⟨0, 0, Nat.zero_le _, rfl, rfl, rfl⟩
  case round =>
    obtain ⟨i, d, hi, rfl, rfl, hw⟩ := hrel
    have HW := Lib.hid hw
    clear hw
    by_cases hlt : i < n
    · have hz : wr.cell? ⟨G, i, none⟩ = some (.float .f64 (zs.getD i 0)) := by rw [HW.out]; exact HZ4.out i hlt
      have hy : wr.cell? ⟨R, i, none⟩ = some (.int .u64 (want.getD i 0)) := by rw [HW.out]; exact HW4.out i hlt
      have hone := HONE.out i hlt
      have hk1 : List.countP (fun x => cls x != 1) (want.take (i + 1)) = List.countP (fun x => cls x != 1) (want.take i) + if cls (want.getD i 0) = 1 then 0 else 1 := by
        rw [take_snoc_getD want i (by rw [HWL.out]; exact hlt), List.countP_append]
        by_cases c : cls (want.getD i 0) = 1
        · simp
        · simp
      have hkl : List.countP (fun x => cls x != 1) (want.take i) ≤ i := Nat.le_trans List.countP_le_length (by rw [List.length_take]; omega)
      have hcl := cls_range (want.getD i 0)
      have HK1 := Lib.hid hk1
      clear hk1
      generalize zs.getD i 0 = z at *
      generalize want.getD i 0 = y at *
      generalize List.countP (fun x => cls x != 1) (want.take i) = k at *
      have HY := Lib.hid hone
      clear hone
      by_cases c : 1 < cls y
      · go_wp2_with fail
        go_quiet ((go_at_call 29; refine Calls.quiet_of_same ((one_true z y HY.out _).mono fun _ _ ⟨he, hw⟩ => ⟨he, hw.symm⟩)))
        go_wp2_with (go_at_call 16; refine (rclass_any _ _).mono ?_; rintro e w' ⟨rfl, rfl⟩)
        go_roundw
        case rel =>
          have e1 := HW.out
          subst e1
          exact ⟨i + 1, d + _, by omega, num_i (by rw [HK1.out, if_neg (by omega)]; omega), num_i (by omega), World.drewN_drewN _ _ _⟩
        case measure => simp [intOf]; omega
      · go_wp2_with fail
        go_quiet ((go_at_call 29; refine Calls.quiet_of_same ((one_true z y HY.out _).mono fun _ _ ⟨he, hw⟩ => ⟨he, hw.symm⟩)))
        go_wp2_with (go_at_call 16; refine (rclass_any _ _).mono ?_; rintro e w' ⟨rfl, rfl⟩)
        go_roundw
        case rel =>
          have e1 := HW.out
          subst e1
          exact ⟨i + 1, d + _, by omega, num_i (by rw [HK1.out, if_pos (by omega)]; omega), num_i (by omega), World.drewN_drewN _ _ _⟩
        case measure => simp [intOf]; omega
    · have e2 : List.countP (fun x => cls x != 1) (want.take i) = s3 := by rw [List.take_of_length_le (by rw [HWL.out]; omega)]; exact HCNT.out.symm
      rw [e2]
      clear e2
      have hB : Below w.heap.size w wr := by rw [HW.out]; exact below_drewN HB4.out _
      have HBF := Lib.hid hB
      have hcell : 0 < s3 → wr.cell? ⟨R, 0, none⟩ = some (.int .u64 (want.getD 0 0)) ∧ wr.cell? ⟨R, s3 - 1, none⟩ = some (.int .u64 (want.getD (s3 - 1) 0)) := fun h => by
        rw [HW.out]
        exact ⟨HW4.out 0 (by omega), HW4.out (s3 - 1) (by omega)⟩
      have HCE := Lib.hid hcell
      clear hB hcell
      by_cases z : s3 = 0
      · obtain ⟨rfl, rfl⟩ := H0.out z
        subst z
        go_wp2_with (go_at_call 29; refine (one_true 0 0 (Or.inl rfl) _).mono ?_; rintro e w' ⟨rfl, rfl⟩)
        go_ret
        exact ⟨ret_b (by simp), HBF.out⟩
      · obtain ⟨g1, g2⟩ := H1.out z
        obtain ⟨c1, c2⟩ := HCE.out (by omega)
        have G1 := Lib.hid g1
        have G2 := Lib.hid g2
        clear g1 g2
        have z' : ((s3 : Int) == 0) = false := by rw [beq_eq_false_iff_ne]; omega
        generalize want.getD 0 0 = y0 at *
        generalize want.getD (s3 - 1) 0 = y1 at *
        have q1 : (0 : Int) < (n : Int) := by omega
        have q2 : (0 : Int) ≤ (s3 : Int) - 1 := by omega
        have q3 : (s3 : Int) - 1 < (n : Int) := by omega
        have q4 : ((s3 : Int) - 1).toNat = s3 - 1 := by omega
        go_wp2_with (go_at_call 29; (first | with_reducible refine (one_true s1 y0 G1.out _).mono ?_ | with_reducible refine (one_true s2 y1 G2.out _).mono ?_); rintro e w' ⟨rfl, rfl⟩)
        go_ret
        exact ⟨ret_b (by simp), HBF.out⟩
theorem sorts_any (b off len cap : Nat) (hm : len ≤ 9223372036854775807) (xs : List Nat) (hx : xs.length = len) (hlt : ∀ x ∈ xs, x < 18446744073709551616) (w : World) (hT : Tab w) (hc : Cells w b off xs) (hbB : 0 < len → b < w.heap.size) :
    Calls Tryd.prog 6 #[.slice (some ⟨b, off, none⟩) len cap] w fun e w' => e = .returned (.bool true) ∧ Below w.heap.size w w' := by
  by_cases h : 200 < len
  · exact sorts_long b off len cap h hm w hT
  · by_cases h0 : len = 0
    · subst h0
      exact sorts_nil _ cap w hT
    · exact sorts_short b off len cap (by omega) (by omega) xs hx hlt w hT hc (hbB (by omega))
end Go.Proofs.YtdnifilmckialaaDoor
