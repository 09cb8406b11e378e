/- The law on any two spans. -/
import Derived.Test.YtchnljdijmgnfaaLV
import Derived.Deep.CutRange
namespace Go.Proofs.Ytchnljdijmgnfaa
open Go.RowKit
theorem cut_has (a b : Int × Int) (n : Int) : hasB (cutV a b) n = (hasB a n && hasB b n) := by
  unfold hasB cutV
  rw [Bool.eq_iff_iff]
  split
  · simp only [Bool.and_eq_true, decide_eq_true_eq]
    omega
  · simp only [Bool.and_eq_true, decide_eq_true_eq]
    omega
theorem hull_has (a b : Int × Int) (n : Int) (h : hasB a n = true ∨ hasB b n = true) : hasB (hullV a b) n = true := by
  unfold hasB at *
  unfold hullV
  simp only [decide_eq_true_eq] at *
  split
  · split
    · omega
    · omega
  · split
    · omega
    · simp only
      omega
def Mid2 (w : World) (p q c h : Int × Int) (t u : Value) (wc : World) : Prop := ∃ B7 B8, t = .pointer (some ⟨B7, 0, none⟩) ∧ u = .pointer (some ⟨B8, 0, none⟩) ∧ Cell2 wc w.heap.size p ∧ Cell2 wc (w.heap.size + 1) q ∧ Cell2 wc B7 c ∧ Cell2 wc B8 h ∧ Below w.heap.size w wc
set_option maxRecDepth 100000 in
set_option maxHeartbeats 8000000 in
theorem spanTwo_walk (p q : Int × Int) (n : Int) (hp : fits p.1 ∧ fits p.2) (w : World) : Calls Try.prog 3 #[.agg #[.int .i64 p.1, .int .i64 p.2], .agg #[.int .i64 q.1, .int .i64 q.2], .int .i64 n] w fun e w' => e = .returned (.bool true) ∧ Below w.heap.size w w' := by
  obtain ⟨a1, a2⟩ := p
  obtain ⟨b1, b2⟩ := q
  have HP := Lib.hid hp
  have HCU := Lib.hid (cut_any (a1, a2) (b1, b2))
  have HHU := Lib.hid (hull_any (a1, a2) (b1, b2))
  have HRC := Lib.hid (rcut_any (a1, a2) (b1, b2))
  have HRH := Lib.hid (rhull_any (a1, a2) (b1, b2))
  have HM := Lib.hid (meets_any (a1, a2) (b1, b2))
  have HRM := Lib.hid (rmeets_any (a1, a2) (b1, b2))
  have HL := Lib.hid (len_any (a1, a2) hp.1 hp.2)
  have HRL := Lib.hid (rlen_any (a1, a2) hp.1 hp.2)
  have HHA := Lib.hid (has_any (a1, a2) n)
  have HRA := Lib.hid (rhas_any (a1, a2) n)
  have HRB := Lib.hid (rhas_any (b1, b2) n)
  have HHC := Lib.hid (has_any (cutV (a1, a2) (b1, b2)) n)
  have HHH := Lib.hid (has_any (hullV (a1, a2) (b1, b2)) n)
  have EC := Lib.hid (cut_has (a1, a2) (b1, b2) n)
  have EH := Lib.hid (hull_has (a1, a2) (b1, b2) n)
  simp only at HCU HHU HRC HRH HM HRM HL HRL HHA HRA HRB
  clear hp
  generalize cutV (a1, a2) (b1, b2) = c at *
  generalize hullV (a1, a2) (b1, b2) = h at *
  generalize meetsB (a1, a2) (b1, b2) = m at *
  generalize lenV (a1, a2) = l at *
  generalize hasB (a1, a2) n = ha at *
  generalize hasB (b1, b2) n = hb' at *
  generalize hasB c n = hc at *
  generalize hasB h n = hh at *
  obtain ⟨c1, c2⟩ := c
  obtain ⟨h1, h2⟩ := h
  simp only at HCU HHU HRC HRH HHC HHH
  have K0 := Lib.hid (Below.al (Below.al (Below.refl w.heap.size w) (.cells #[.int .i64 a1, .int .i64 a2] 23)) (.cells #[.int .i64 b1, .int .i64 b2] 23))
  go_enter Try.func3, Try.ntmps3
  go_wp2
  have P0 := Lib.hid (show Cell2 ((w.alloc (.cells #[.int .i64 a1, .int .i64 a2] 23)).alloc (.cells #[.int .i64 b1, .int .i64 b2] 23)) w.heap.size (a1, a2) from (cell2_new w (a1, a2)).alloc _)
  have Q0 : Hid (Cell2 ((w.alloc (.cells #[.int .i64 a1, .int .i64 a2] 23)).alloc (.cells #[.int .i64 b1, .int .i64 b2] 23)) (w.heap.size + 1) (b1, b2)) := Lib.hid (by have q := cell2_new (w.alloc (.cells #[.int .i64 a1, .int .i64 a2] 23)) (b1, b2); simpa using q)
  go_cut [7, 8] from 9 to 14 (fun t u wc => Mid2 w (a1, a2) (b1, b2) (c1, c2) (h1, h2) t u wc)
  case first =>
    have e0 := P0.out.c0
    have e1 := P0.out.c1
    have e2 := Q0.out.c0
    have e3 := Q0.out.c1
    refine wp_region_held_drew (S := fun w' => w'.cell? ⟨w.heap.size, 0, none⟩ = some (.int .i64 a1) ∧ w'.cell? ⟨w.heap.size, 1, none⟩ = some (.int .i64 a2) ∧ w'.cell? ⟨w.heap.size + 1, 0, none⟩ = some (.int .i64 b1) ∧ w'.cell? ⟨w.heap.size + 1, 1, none⟩ = some (.int .i64 b2)) (by kernel_rfl) ?_ (fun hHeld => ?_)
    · exact ⟨e0, e1, e2, e3⟩
    refine wpAnyH_take (i := 0) (oi := ⟨some 9, _, _, _, _, _⟩) (v := ?_) rfl (by kernel_rfl) (by kernel_rfl) (by kernel_rfl) (fun _ _ _ h => h) (Or.inl ⟨by kernel_rfl, ?_⟩) (by assumption) ?_
    rotate_left 1
    · ((intro w hSw; (try dsimp only at hSw); go_simp) <;> (try with_reducible rfl))
    (try simp only [Act.put, List.setIfInBounds_toArray, List.set_cons_zero, List.set_cons_succ])
    refine wpAnyH_take (i := 1) (oi := ⟨some 10, _, _, _, _, _⟩) (v := ?_) rfl (by kernel_rfl) (by kernel_rfl) (by kernel_rfl) (fun _ _ _ h => h) (Or.inl ⟨by kernel_rfl, ?_⟩) (by assumption) ?_
    rotate_left 1
    · ((intro w hSw; (try dsimp only at hSw); go_simp) <;> (try with_reducible rfl))
    (try simp only [Act.put, List.setIfInBounds_toArray, List.set_cons_zero, List.set_cons_succ])
    refine wpAnyH_take (i := 3) (oi := ⟨some 12, _, _, _, _, _⟩) (v := ?_) rfl (by kernel_rfl) (by kernel_rfl) (by kernel_rfl) (fun _ _ _ h => h) (Or.inl ⟨by kernel_rfl, ?_⟩) (by assumption) ?_
    rotate_left 1
    · ((intro w hSw; (try dsimp only at hSw); go_simp) <;> (try with_reducible rfl))
    (try simp only [Act.put, List.setIfInBounds_toArray, List.set_cons_zero, List.set_cons_succ])
    refine wpAnyH_take (i := 4) (oi := ⟨some 13, _, _, _, _, _⟩) (v := ?_) rfl (by kernel_rfl) (by kernel_rfl) (by kernel_rfl) (fun _ _ _ h => h) (Or.inl ⟨by kernel_rfl, ?_⟩) (by assumption) ?_
    rotate_left 1
    · ((intro w hSw; (try dsimp only at hSw); go_simp) <;> (try with_reducible rfl))
    (try simp only [Act.put, List.setIfInBounds_toArray, List.set_cons_zero, List.set_cons_succ])
    clear e0 e1 e2 e3
    have P1 := Lib.hid P0.out.drew
    have Q1 := Lib.hid Q0.out.drew
    have L1 := Lib.hid (show Below w.heap.size w _ from K0.out.drew)
    clear P0 Q0 K0
    generalize ((w.alloc (.cells #[.int .i64 a1, .int .i64 a2] 23)).alloc (.cells #[.int .i64 b1, .int .i64 b2] 23)).drew = v0 at *
    refine wpAnyH_ready (rs := [2, 6, 7]) (by kernel_rfl) (by simp) ?_
    refine AllReadyH.cons (o := ⟨some 11, _, _, _, _, _⟩) rfl (fun K hK => ?_) ?_
    · go_simp
      refine (HCU.out _).mono ?_
      rintro e v1 ⟨rfl, hb⟩
      have P_1 := Lib.hid (P1.out.below hb)
      have Q_1 := Lib.hid (Q1.out.below hb)
      have L_1 := Lib.hid (Below.call L1.out hb)
      clear hb
      go_wp2_with fail
      refine hK.out _ _ ?_ (fun hHeld => ?_)
      · exact ⟨P_1.out.c0, P_1.out.c1, Q_1.out.c0, Q_1.out.c1⟩
      clear hK K P1 Q1 L1
      (try simp only [Act.put, List.setIfInBounds_toArray, List.set_cons_zero, List.set_cons_succ])
      refine wpAnyH_ready (rs := [5, 6, 7]) (by kernel_rfl) (by simp) ?_
      refine AllReadyH.cons (o := ⟨some 14, _, _, _, _, _⟩) rfl (fun K hK => ?_) ?_
      · go_simp
        refine (HHU.out _).mono ?_
        rintro e v2 ⟨rfl, hb⟩
        have P_2 := Lib.hid (P_1.out.below hb)
        have Q_2 := Lib.hid (Q_1.out.below hb)
        have L_2 := Lib.hid (Below.call L_1.out hb)
        clear hb
        go_wp2_with fail
        refine hK.out _ _ ?_ (fun hHeld => ?_)
        · exact ⟨P_2.out.c0, P_2.out.c1, Q_2.out.c0, Q_2.out.c1⟩
        clear hK K P_1 Q_1 L_1
        (try simp only [Act.put, List.setIfInBounds_toArray, List.set_cons_zero, List.set_cons_succ])
        refine wpAnyH_ready (rs := [6, 7]) (by kernel_rfl) (by simp) ?_
        refine AllReadyH.cons (o := ⟨some 7, _, _, _, _, _⟩) rfl (fun K hK => ?_) ?_
        · go_simp
          have P_3 := Lib.hid (P_2.out.alloc (.cells #[.int .i64 0, .int .i64 0] 23))
          have Q_3 := Lib.hid (Q_2.out.alloc (.cells #[.int .i64 0, .int .i64 0] 23))
          have L_3 := Lib.hid (Below.al L_2.out (.cells #[.int .i64 0, .int .i64 0] 23))
          have A7_3 := Lib.hid (cell2_new v2 (0, 0))
          have NA7X := Lib.hid (show w.heap.size + 1 < v2.heap.size from Q_2.out.lt)
          generalize v2.heap.size = bA7_3 at *
          generalize v2.alloc (.cells #[.int .i64 0, .int .i64 0] 23) = v3 at *
          refine hK.out _ _ ?_ (fun hHeld => ?_)
          · exact ⟨P_3.out.c0, P_3.out.c1, Q_3.out.c0, Q_3.out.c1⟩
          clear hK K P_2 Q_2 L_2
          (try simp only [Act.put, List.setIfInBounds_toArray, List.set_cons_zero, List.set_cons_succ])
          refine wpAnyH_ready (rs := [7]) (by kernel_rfl) (by simp) ?_
          refine AllReadyH.cons (o := ⟨some 8, _, _, _, _, _⟩) rfl (fun K hK => ?_) ?_
          · go_simp
            have P_4 := Lib.hid (P_3.out.alloc (.cells #[.int .i64 0, .int .i64 0] 23))
            have Q_4 := Lib.hid (Q_3.out.alloc (.cells #[.int .i64 0, .int .i64 0] 23))
            have L_4 := Lib.hid (Below.al L_3.out (.cells #[.int .i64 0, .int .i64 0] 23))
            have A7_4 := Lib.hid (A7_3.out.alloc (.cells #[.int .i64 0, .int .i64 0] 23))
            have A8_4 := Lib.hid (cell2_new v3 (0, 0))
            have NA8X := Lib.hid (show w.heap.size + 1 < v3.heap.size from Q_3.out.lt)
            have NEX := Lib.hid (show v3.heap.size ≠ _ from Nat.ne_of_gt A7_3.out.lt)
            generalize v3.heap.size = bA8_4 at *
            generalize v3.alloc (.cells #[.int .i64 0, .int .i64 0] 23) = v4 at *
            refine hK.out _ _ ?_ (fun hHeld => ?_)
            · exact ⟨P_4.out.c0, P_4.out.c1, Q_4.out.c0, Q_4.out.c1⟩
            clear hK K P_3 Q_3 L_3 A7_3
            (try simp only [Act.put, List.setIfInBounds_toArray, List.set_cons_zero, List.set_cons_succ])
            refine wpAnyH_ready (rs := [8]) (by kernel_rfl) (by simp) ?_
            refine AllReadyH.cons (o := ⟨none, _, _, _, _, _⟩) rfl (fun K hK => ?_) AllReadyH.nil
            have s0 := A7_4.out.c0
            have s1 := A7_4.out.c1
            have s2 := A7_4.out.f0
            have s3 := A7_4.out.f1
            go_simp
            clear s0 s1 s2 s3
            have P_5 := Lib.hid (P_4.out.grown (grown_set (g := bA7_3) (j := 1) (u := .int .i64 c2) (grown_set (g := bA7_3) (j := 0) (u := .int .i64 c1) (World.grownBy.refl _ _))) (by have := NA7X.out; simp; omega))
            have Q_5 := Lib.hid (Q_4.out.grown (grown_set (g := bA7_3) (j := 1) (u := .int .i64 c2) (grown_set (g := bA7_3) (j := 0) (u := .int .i64 c1) (World.grownBy.refl _ _))) (by have := NA7X.out; simp; omega))
            have A8_5 := Lib.hid (A8_4.out.grown (grown_set (g := bA7_3) (j := 1) (u := .int .i64 c2) (grown_set (g := bA7_3) (j := 0) (u := .int .i64 c1) (World.grownBy.refl _ _))) (by have := NEX.out; simp; omega))
            have A7_5 := Lib.hid (A7_4.out.set2 (c1, c2))
            have L_5 := Lib.hid (Below.st (p := ⟨bA7_3, 1, none⟩) (v := .int .i64 c2) (Below.st (p := ⟨bA7_3, 0, none⟩) (v := .int .i64 c1) L_4.out (by have := NA7X.out; simp; omega)) (by have := NA7X.out; simp; omega))
            refine hK.out _ _ ?_ (fun hHeld => ?_)
            · exact ⟨P_5.out.c0, P_5.out.c1, Q_5.out.c0, Q_5.out.c1⟩
            clear hK K P_4 Q_4 L_4 A7_4 A8_4
            (try simp only [Act.put, List.setIfInBounds_toArray, List.set_cons_zero, List.set_cons_succ])
            refine wpAnyH_ready (rs := [9]) (by kernel_rfl) (by simp) ?_
            refine AllReadyH.cons (o := ⟨none, _, _, _, _, _⟩) rfl (fun K hK => ?_) AllReadyH.nil
            have s0 := A8_5.out.c0
            have s1 := A8_5.out.c1
            have s2 := A8_5.out.f0
            have s3 := A8_5.out.f1
            go_simp
            clear s0 s1 s2 s3
            have P_6 := Lib.hid (P_5.out.grown (grown_set (g := bA8_4) (j := 1) (u := .int .i64 h2) (grown_set (g := bA8_4) (j := 0) (u := .int .i64 h1) (World.grownBy.refl _ _))) (by have := NA8X.out; simp; omega))
            have Q_6 := Lib.hid (Q_5.out.grown (grown_set (g := bA8_4) (j := 1) (u := .int .i64 h2) (grown_set (g := bA8_4) (j := 0) (u := .int .i64 h1) (World.grownBy.refl _ _))) (by have := NA8X.out; simp; omega))
            have A7_6 := Lib.hid (A7_5.out.grown (grown_set (g := bA8_4) (j := 1) (u := .int .i64 h2) (grown_set (g := bA8_4) (j := 0) (u := .int .i64 h1) (World.grownBy.refl _ _))) (by have := NEX.out; simp; omega))
            have A8_6 := Lib.hid (A8_5.out.set2 (h1, h2))
            have L_6 := Lib.hid (Below.st (p := ⟨bA8_4, 1, none⟩) (v := .int .i64 h2) (Below.st (p := ⟨bA8_4, 0, none⟩) (v := .int .i64 h1) L_5.out (by have := NA8X.out; simp; omega)) (by have := NA8X.out; simp; omega))
            refine hK.out _ _ ?_ (fun hHeld => ?_)
            · exact ⟨P_6.out.c0, P_6.out.c1, Q_6.out.c0, Q_6.out.c1⟩
            clear hK K P_5 Q_5 A8_5 A7_5 L_5
            (try simp only [Act.put, List.setIfInBounds_toArray, List.set_cons_zero, List.set_cons_succ])
            refine wpAnyH_done (by kernel_rfl) ?_ _
            go_wp2_with fail
            go_meet
            exact ⟨_, _, rfl, rfl, P_6.out, Q_6.out, A7_6.out, A8_6.out, L_6.out⟩
          exact AllReadyH.nil
        refine AllReadyH.cons (o := ⟨some 8, _, _, _, _, _⟩) rfl (fun K hK => ?_) ?_
        · go_simp
          have P_7 := Lib.hid (P_2.out.alloc (.cells #[.int .i64 0, .int .i64 0] 23))
          have Q_7 := Lib.hid (Q_2.out.alloc (.cells #[.int .i64 0, .int .i64 0] 23))
          have L_7 := Lib.hid (Below.al L_2.out (.cells #[.int .i64 0, .int .i64 0] 23))
          have A8_7 := Lib.hid (cell2_new v2 (0, 0))
          have NA8X := Lib.hid (show w.heap.size + 1 < v2.heap.size from Q_2.out.lt)
          generalize v2.heap.size = bA8_7 at *
          generalize v2.alloc (.cells #[.int .i64 0, .int .i64 0] 23) = v7 at *
          refine hK.out _ _ ?_ (fun hHeld => ?_)
          · exact ⟨P_7.out.c0, P_7.out.c1, Q_7.out.c0, Q_7.out.c1⟩
          clear hK K P_2 Q_2 L_2
          (try simp only [Act.put, List.setIfInBounds_toArray, List.set_cons_zero, List.set_cons_succ])
          refine wpAnyH_ready (rs := [6]) (by kernel_rfl) (by simp) ?_
          refine AllReadyH.cons (o := ⟨some 7, _, _, _, _, _⟩) rfl (fun K hK => ?_) ?_
          · go_simp
            have P_8 := Lib.hid (P_7.out.alloc (.cells #[.int .i64 0, .int .i64 0] 23))
            have Q_8 := Lib.hid (Q_7.out.alloc (.cells #[.int .i64 0, .int .i64 0] 23))
            have L_8 := Lib.hid (Below.al L_7.out (.cells #[.int .i64 0, .int .i64 0] 23))
            have A8_8 := Lib.hid (A8_7.out.alloc (.cells #[.int .i64 0, .int .i64 0] 23))
            have A7_8 := Lib.hid (cell2_new v7 (0, 0))
            have NA7X := Lib.hid (show w.heap.size + 1 < v7.heap.size from Q_7.out.lt)
            have NEX := Lib.hid (show v7.heap.size ≠ _ from Nat.ne_of_gt A8_7.out.lt)
            generalize v7.heap.size = bA7_8 at *
            generalize v7.alloc (.cells #[.int .i64 0, .int .i64 0] 23) = v8 at *
            refine hK.out _ _ ?_ (fun hHeld => ?_)
            · exact ⟨P_8.out.c0, P_8.out.c1, Q_8.out.c0, Q_8.out.c1⟩
            clear hK K P_7 Q_7 L_7 A8_7
            (try simp only [Act.put, List.setIfInBounds_toArray, List.set_cons_zero, List.set_cons_succ])
            refine wpAnyH_ready (rs := [8]) (by kernel_rfl) (by simp) ?_
            refine AllReadyH.cons (o := ⟨none, _, _, _, _, _⟩) rfl (fun K hK => ?_) AllReadyH.nil
            have s0 := A7_8.out.c0
            have s1 := A7_8.out.c1
            have s2 := A7_8.out.f0
            have s3 := A7_8.out.f1
            go_simp
            clear s0 s1 s2 s3
            have P_9 := Lib.hid (P_8.out.grown (grown_set (g := bA7_8) (j := 1) (u := .int .i64 c2) (grown_set (g := bA7_8) (j := 0) (u := .int .i64 c1) (World.grownBy.refl _ _))) (by have := NA7X.out; simp; omega))
            have Q_9 := Lib.hid (Q_8.out.grown (grown_set (g := bA7_8) (j := 1) (u := .int .i64 c2) (grown_set (g := bA7_8) (j := 0) (u := .int .i64 c1) (World.grownBy.refl _ _))) (by have := NA7X.out; simp; omega))
            have A8_9 := Lib.hid (A8_8.out.grown (grown_set (g := bA7_8) (j := 1) (u := .int .i64 c2) (grown_set (g := bA7_8) (j := 0) (u := .int .i64 c1) (World.grownBy.refl _ _))) (by have := NEX.out; simp; omega))
            have A7_9 := Lib.hid (A7_8.out.set2 (c1, c2))
            have L_9 := Lib.hid (Below.st (p := ⟨bA7_8, 1, none⟩) (v := .int .i64 c2) (Below.st (p := ⟨bA7_8, 0, none⟩) (v := .int .i64 c1) L_8.out (by have := NA7X.out; simp; omega)) (by have := NA7X.out; simp; omega))
            refine hK.out _ _ ?_ (fun hHeld => ?_)
            · exact ⟨P_9.out.c0, P_9.out.c1, Q_9.out.c0, Q_9.out.c1⟩
            clear hK K P_8 Q_8 L_8 A8_8 A7_8
            (try simp only [Act.put, List.setIfInBounds_toArray, List.set_cons_zero, List.set_cons_succ])
            refine wpAnyH_ready (rs := [9]) (by kernel_rfl) (by simp) ?_
            refine AllReadyH.cons (o := ⟨none, _, _, _, _, _⟩) rfl (fun K hK => ?_) AllReadyH.nil
            have s0 := A8_9.out.c0
            have s1 := A8_9.out.c1
            have s2 := A8_9.out.f0
            have s3 := A8_9.out.f1
            go_simp
            clear s0 s1 s2 s3
            have P_10 := Lib.hid (P_9.out.grown (grown_set (g := bA8_7) (j := 1) (u := .int .i64 h2) (grown_set (g := bA8_7) (j := 0) (u := .int .i64 h1) (World.grownBy.refl _ _))) (by have := NA8X.out; simp; omega))
            have Q_10 := Lib.hid (Q_9.out.grown (grown_set (g := bA8_7) (j := 1) (u := .int .i64 h2) (grown_set (g := bA8_7) (j := 0) (u := .int .i64 h1) (World.grownBy.refl _ _))) (by have := NA8X.out; simp; omega))
            have A7_10 := Lib.hid (A7_9.out.grown (grown_set (g := bA8_7) (j := 1) (u := .int .i64 h2) (grown_set (g := bA8_7) (j := 0) (u := .int .i64 h1) (World.grownBy.refl _ _))) (by have := NEX.out; simp; omega))
            have A8_10 := Lib.hid (A8_9.out.set2 (h1, h2))
            have L_10 := Lib.hid (Below.st (p := ⟨bA8_7, 1, none⟩) (v := .int .i64 h2) (Below.st (p := ⟨bA8_7, 0, none⟩) (v := .int .i64 h1) L_9.out (by have := NA8X.out; simp; omega)) (by have := NA8X.out; simp; omega))
            refine hK.out _ _ ?_ (fun hHeld => ?_)
            · exact ⟨P_10.out.c0, P_10.out.c1, Q_10.out.c0, Q_10.out.c1⟩
            clear hK K P_9 Q_9 A8_9 A7_9 L_9
            (try simp only [Act.put, List.setIfInBounds_toArray, List.set_cons_zero, List.set_cons_succ])
            refine wpAnyH_done (by kernel_rfl) ?_ _
            go_wp2_with fail
            go_meet
            exact ⟨_, _, rfl, rfl, P_10.out, Q_10.out, A7_10.out, A8_10.out, L_10.out⟩
          exact AllReadyH.nil
        exact AllReadyH.nil
      refine AllReadyH.cons (o := ⟨some 7, _, _, _, _, _⟩) rfl (fun K hK => ?_) ?_
      · go_simp
        have P_11 := Lib.hid (P_1.out.alloc (.cells #[.int .i64 0, .int .i64 0] 23))
        have Q_11 := Lib.hid (Q_1.out.alloc (.cells #[.int .i64 0, .int .i64 0] 23))
        have L_11 := Lib.hid (Below.al L_1.out (.cells #[.int .i64 0, .int .i64 0] 23))
        have A7_11 := Lib.hid (cell2_new v1 (0, 0))
        have NA7X := Lib.hid (show w.heap.size + 1 < v1.heap.size from Q_1.out.lt)
        generalize v1.heap.size = bA7_11 at *
        generalize v1.alloc (.cells #[.int .i64 0, .int .i64 0] 23) = v11 at *
        refine hK.out _ _ ?_ (fun hHeld => ?_)
        · exact ⟨P_11.out.c0, P_11.out.c1, Q_11.out.c0, Q_11.out.c1⟩
        clear hK K P_1 Q_1 L_1
        (try simp only [Act.put, List.setIfInBounds_toArray, List.set_cons_zero, List.set_cons_succ])
        refine wpAnyH_ready (rs := [5, 7]) (by kernel_rfl) (by simp) ?_
        refine AllReadyH.cons (o := ⟨some 14, _, _, _, _, _⟩) rfl (fun K hK => ?_) ?_
        · go_simp
          refine (HHU.out _).mono ?_
          rintro e v12 ⟨rfl, hb⟩
          have P_12 := Lib.hid (P_11.out.below hb)
          have Q_12 := Lib.hid (Q_11.out.below hb)
          have L_12 := Lib.hid (Below.call L_11.out hb)
          have A7_12 := Lib.hid (A7_11.out.below hb)
          clear hb
          go_wp2_with fail
          refine hK.out _ _ ?_ (fun hHeld => ?_)
          · exact ⟨P_12.out.c0, P_12.out.c1, Q_12.out.c0, Q_12.out.c1⟩
          clear hK K P_11 Q_11 L_11 A7_11
          (try simp only [Act.put, List.setIfInBounds_toArray, List.set_cons_zero, List.set_cons_succ])
          refine wpAnyH_ready (rs := [7]) (by kernel_rfl) (by simp) ?_
          refine AllReadyH.cons (o := ⟨some 8, _, _, _, _, _⟩) rfl (fun K hK => ?_) ?_
          · go_simp
            have P_13 := Lib.hid (P_12.out.alloc (.cells #[.int .i64 0, .int .i64 0] 23))
            have Q_13 := Lib.hid (Q_12.out.alloc (.cells #[.int .i64 0, .int .i64 0] 23))
            have L_13 := Lib.hid (Below.al L_12.out (.cells #[.int .i64 0, .int .i64 0] 23))
            have A7_13 := Lib.hid (A7_12.out.alloc (.cells #[.int .i64 0, .int .i64 0] 23))
            have A8_13 := Lib.hid (cell2_new v12 (0, 0))
            have NA8X := Lib.hid (show w.heap.size + 1 < v12.heap.size from Q_12.out.lt)
            have NEX := Lib.hid (show v12.heap.size ≠ _ from Nat.ne_of_gt A7_12.out.lt)
            generalize v12.heap.size = bA8_13 at *
            generalize v12.alloc (.cells #[.int .i64 0, .int .i64 0] 23) = v13 at *
            refine hK.out _ _ ?_ (fun hHeld => ?_)
            · exact ⟨P_13.out.c0, P_13.out.c1, Q_13.out.c0, Q_13.out.c1⟩
            clear hK K P_12 Q_12 L_12 A7_12
            (try simp only [Act.put, List.setIfInBounds_toArray, List.set_cons_zero, List.set_cons_succ])
            refine wpAnyH_ready (rs := [8]) (by kernel_rfl) (by simp) ?_
            refine AllReadyH.cons (o := ⟨none, _, _, _, _, _⟩) rfl (fun K hK => ?_) AllReadyH.nil
            have s0 := A7_13.out.c0
            have s1 := A7_13.out.c1
            have s2 := A7_13.out.f0
            have s3 := A7_13.out.f1
            go_simp
            clear s0 s1 s2 s3
            have P_14 := Lib.hid (P_13.out.grown (grown_set (g := bA7_11) (j := 1) (u := .int .i64 c2) (grown_set (g := bA7_11) (j := 0) (u := .int .i64 c1) (World.grownBy.refl _ _))) (by have := NA7X.out; simp; omega))
            have Q_14 := Lib.hid (Q_13.out.grown (grown_set (g := bA7_11) (j := 1) (u := .int .i64 c2) (grown_set (g := bA7_11) (j := 0) (u := .int .i64 c1) (World.grownBy.refl _ _))) (by have := NA7X.out; simp; omega))
            have A8_14 := Lib.hid (A8_13.out.grown (grown_set (g := bA7_11) (j := 1) (u := .int .i64 c2) (grown_set (g := bA7_11) (j := 0) (u := .int .i64 c1) (World.grownBy.refl _ _))) (by have := NEX.out; simp; omega))
            have A7_14 := Lib.hid (A7_13.out.set2 (c1, c2))
            have L_14 := Lib.hid (Below.st (p := ⟨bA7_11, 1, none⟩) (v := .int .i64 c2) (Below.st (p := ⟨bA7_11, 0, none⟩) (v := .int .i64 c1) L_13.out (by have := NA7X.out; simp; omega)) (by have := NA7X.out; simp; omega))
            refine hK.out _ _ ?_ (fun hHeld => ?_)
            · exact ⟨P_14.out.c0, P_14.out.c1, Q_14.out.c0, Q_14.out.c1⟩
            clear hK K P_13 Q_13 L_13 A7_13 A8_13
            (try simp only [Act.put, List.setIfInBounds_toArray, List.set_cons_zero, List.set_cons_succ])
            refine wpAnyH_ready (rs := [9]) (by kernel_rfl) (by simp) ?_
            refine AllReadyH.cons (o := ⟨none, _, _, _, _, _⟩) rfl (fun K hK => ?_) AllReadyH.nil
            have s0 := A8_14.out.c0
            have s1 := A8_14.out.c1
            have s2 := A8_14.out.f0
            have s3 := A8_14.out.f1
            go_simp
            clear s0 s1 s2 s3
            have P_15 := Lib.hid (P_14.out.grown (grown_set (g := bA8_13) (j := 1) (u := .int .i64 h2) (grown_set (g := bA8_13) (j := 0) (u := .int .i64 h1) (World.grownBy.refl _ _))) (by have := NA8X.out; simp; omega))
            have Q_15 := Lib.hid (Q_14.out.grown (grown_set (g := bA8_13) (j := 1) (u := .int .i64 h2) (grown_set (g := bA8_13) (j := 0) (u := .int .i64 h1) (World.grownBy.refl _ _))) (by have := NA8X.out; simp; omega))
            have A7_15 := Lib.hid (A7_14.out.grown (grown_set (g := bA8_13) (j := 1) (u := .int .i64 h2) (grown_set (g := bA8_13) (j := 0) (u := .int .i64 h1) (World.grownBy.refl _ _))) (by have := NEX.out; simp; omega))
            have A8_15 := Lib.hid (A8_14.out.set2 (h1, h2))
            have L_15 := Lib.hid (Below.st (p := ⟨bA8_13, 1, none⟩) (v := .int .i64 h2) (Below.st (p := ⟨bA8_13, 0, none⟩) (v := .int .i64 h1) L_14.out (by have := NA8X.out; simp; omega)) (by have := NA8X.out; simp; omega))
            refine hK.out _ _ ?_ (fun hHeld => ?_)
            · exact ⟨P_15.out.c0, P_15.out.c1, Q_15.out.c0, Q_15.out.c1⟩
            clear hK K P_14 Q_14 A8_14 A7_14 L_14
            (try simp only [Act.put, List.setIfInBounds_toArray, List.set_cons_zero, List.set_cons_succ])
            refine wpAnyH_done (by kernel_rfl) ?_ _
            go_wp2_with fail
            go_meet
            exact ⟨_, _, rfl, rfl, P_15.out, Q_15.out, A7_15.out, A8_15.out, L_15.out⟩
          exact AllReadyH.nil
        refine AllReadyH.cons (o := ⟨some 8, _, _, _, _, _⟩) rfl (fun K hK => ?_) ?_
        · go_simp
          have P_16 := Lib.hid (P_11.out.alloc (.cells #[.int .i64 0, .int .i64 0] 23))
          have Q_16 := Lib.hid (Q_11.out.alloc (.cells #[.int .i64 0, .int .i64 0] 23))
          have L_16 := Lib.hid (Below.al L_11.out (.cells #[.int .i64 0, .int .i64 0] 23))
          have A7_16 := Lib.hid (A7_11.out.alloc (.cells #[.int .i64 0, .int .i64 0] 23))
          have A8_16 := Lib.hid (cell2_new v11 (0, 0))
          have NA8X := Lib.hid (show w.heap.size + 1 < v11.heap.size from Q_11.out.lt)
          have NEX := Lib.hid (show v11.heap.size ≠ _ from Nat.ne_of_gt A7_11.out.lt)
          generalize v11.heap.size = bA8_16 at *
          generalize v11.alloc (.cells #[.int .i64 0, .int .i64 0] 23) = v16 at *
          refine hK.out _ _ ?_ (fun hHeld => ?_)
          · exact ⟨P_16.out.c0, P_16.out.c1, Q_16.out.c0, Q_16.out.c1⟩
          clear hK K P_11 Q_11 L_11 A7_11
          (try simp only [Act.put, List.setIfInBounds_toArray, List.set_cons_zero, List.set_cons_succ])
          refine wpAnyH_ready (rs := [5]) (by kernel_rfl) (by simp) ?_
          refine AllReadyH.cons (o := ⟨some 14, _, _, _, _, _⟩) rfl (fun K hK => ?_) ?_
          · go_simp
            refine (HHU.out _).mono ?_
            rintro e v17 ⟨rfl, hb⟩
            have P_17 := Lib.hid (P_16.out.below hb)
            have Q_17 := Lib.hid (Q_16.out.below hb)
            have L_17 := Lib.hid (Below.call L_16.out hb)
            have A7_17 := Lib.hid (A7_16.out.below hb)
            have A8_17 := Lib.hid (A8_16.out.below hb)
            clear hb
            go_wp2_with fail
            refine hK.out _ _ ?_ (fun hHeld => ?_)
            · exact ⟨P_17.out.c0, P_17.out.c1, Q_17.out.c0, Q_17.out.c1⟩
            clear hK K P_16 Q_16 L_16 A7_16 A8_16
            (try simp only [Act.put, List.setIfInBounds_toArray, List.set_cons_zero, List.set_cons_succ])
            refine wpAnyH_ready (rs := [8]) (by kernel_rfl) (by simp) ?_
            refine AllReadyH.cons (o := ⟨none, _, _, _, _, _⟩) rfl (fun K hK => ?_) AllReadyH.nil
            have s0 := A7_17.out.c0
            have s1 := A7_17.out.c1
            have s2 := A7_17.out.f0
            have s3 := A7_17.out.f1
            go_simp
            clear s0 s1 s2 s3
            have P_18 := Lib.hid (P_17.out.grown (grown_set (g := bA7_11) (j := 1) (u := .int .i64 c2) (grown_set (g := bA7_11) (j := 0) (u := .int .i64 c1) (World.grownBy.refl _ _))) (by have := NA7X.out; simp; omega))
            have Q_18 := Lib.hid (Q_17.out.grown (grown_set (g := bA7_11) (j := 1) (u := .int .i64 c2) (grown_set (g := bA7_11) (j := 0) (u := .int .i64 c1) (World.grownBy.refl _ _))) (by have := NA7X.out; simp; omega))
            have A8_18 := Lib.hid (A8_17.out.grown (grown_set (g := bA7_11) (j := 1) (u := .int .i64 c2) (grown_set (g := bA7_11) (j := 0) (u := .int .i64 c1) (World.grownBy.refl _ _))) (by have := NEX.out; simp; omega))
            have A7_18 := Lib.hid (A7_17.out.set2 (c1, c2))
            have L_18 := Lib.hid (Below.st (p := ⟨bA7_11, 1, none⟩) (v := .int .i64 c2) (Below.st (p := ⟨bA7_11, 0, none⟩) (v := .int .i64 c1) L_17.out (by have := NA7X.out; simp; omega)) (by have := NA7X.out; simp; omega))
            refine hK.out _ _ ?_ (fun hHeld => ?_)
            · exact ⟨P_18.out.c0, P_18.out.c1, Q_18.out.c0, Q_18.out.c1⟩
            clear hK K P_17 Q_17 L_17 A7_17 A8_17
            (try simp only [Act.put, List.setIfInBounds_toArray, List.set_cons_zero, List.set_cons_succ])
            refine wpAnyH_ready (rs := [9]) (by kernel_rfl) (by simp) ?_
            refine AllReadyH.cons (o := ⟨none, _, _, _, _, _⟩) rfl (fun K hK => ?_) AllReadyH.nil
            have s0 := A8_18.out.c0
            have s1 := A8_18.out.c1
            have s2 := A8_18.out.f0
            have s3 := A8_18.out.f1
            go_simp
            clear s0 s1 s2 s3
            have P_19 := Lib.hid (P_18.out.grown (grown_set (g := bA8_16) (j := 1) (u := .int .i64 h2) (grown_set (g := bA8_16) (j := 0) (u := .int .i64 h1) (World.grownBy.refl _ _))) (by have := NA8X.out; simp; omega))
            have Q_19 := Lib.hid (Q_18.out.grown (grown_set (g := bA8_16) (j := 1) (u := .int .i64 h2) (grown_set (g := bA8_16) (j := 0) (u := .int .i64 h1) (World.grownBy.refl _ _))) (by have := NA8X.out; simp; omega))
            have A7_19 := Lib.hid (A7_18.out.grown (grown_set (g := bA8_16) (j := 1) (u := .int .i64 h2) (grown_set (g := bA8_16) (j := 0) (u := .int .i64 h1) (World.grownBy.refl _ _))) (by have := NEX.out; simp; omega))
            have A8_19 := Lib.hid (A8_18.out.set2 (h1, h2))
            have L_19 := Lib.hid (Below.st (p := ⟨bA8_16, 1, none⟩) (v := .int .i64 h2) (Below.st (p := ⟨bA8_16, 0, none⟩) (v := .int .i64 h1) L_18.out (by have := NA8X.out; simp; omega)) (by have := NA8X.out; simp; omega))
            refine hK.out _ _ ?_ (fun hHeld => ?_)
            · exact ⟨P_19.out.c0, P_19.out.c1, Q_19.out.c0, Q_19.out.c1⟩
            clear hK K P_18 Q_18 A8_18 A7_18 L_18
            (try simp only [Act.put, List.setIfInBounds_toArray, List.set_cons_zero, List.set_cons_succ])
            refine wpAnyH_done (by kernel_rfl) ?_ _
            go_wp2_with fail
            go_meet
            exact ⟨_, _, rfl, rfl, P_19.out, Q_19.out, A7_19.out, A8_19.out, L_19.out⟩
          exact AllReadyH.nil
        exact AllReadyH.nil
      refine AllReadyH.cons (o := ⟨some 8, _, _, _, _, _⟩) rfl (fun K hK => ?_) ?_
      · go_simp
        have P_20 := Lib.hid (P_1.out.alloc (.cells #[.int .i64 0, .int .i64 0] 23))
        have Q_20 := Lib.hid (Q_1.out.alloc (.cells #[.int .i64 0, .int .i64 0] 23))
        have L_20 := Lib.hid (Below.al L_1.out (.cells #[.int .i64 0, .int .i64 0] 23))
        have A8_20 := Lib.hid (cell2_new v1 (0, 0))
        have NA8X := Lib.hid (show w.heap.size + 1 < v1.heap.size from Q_1.out.lt)
        generalize v1.heap.size = bA8_20 at *
        generalize v1.alloc (.cells #[.int .i64 0, .int .i64 0] 23) = v20 at *
        refine hK.out _ _ ?_ (fun hHeld => ?_)
        · exact ⟨P_20.out.c0, P_20.out.c1, Q_20.out.c0, Q_20.out.c1⟩
        clear hK K P_1 Q_1 L_1
        (try simp only [Act.put, List.setIfInBounds_toArray, List.set_cons_zero, List.set_cons_succ])
        refine wpAnyH_ready (rs := [5, 6]) (by kernel_rfl) (by simp) ?_
        refine AllReadyH.cons (o := ⟨some 14, _, _, _, _, _⟩) rfl (fun K hK => ?_) ?_
        · go_simp
          refine (HHU.out _).mono ?_
          rintro e v21 ⟨rfl, hb⟩
          have P_21 := Lib.hid (P_20.out.below hb)
          have Q_21 := Lib.hid (Q_20.out.below hb)
          have L_21 := Lib.hid (Below.call L_20.out hb)
          have A8_21 := Lib.hid (A8_20.out.below hb)
          clear hb
          go_wp2_with fail
          refine hK.out _ _ ?_ (fun hHeld => ?_)
          · exact ⟨P_21.out.c0, P_21.out.c1, Q_21.out.c0, Q_21.out.c1⟩
          clear hK K P_20 Q_20 L_20 A8_20
          (try simp only [Act.put, List.setIfInBounds_toArray, List.set_cons_zero, List.set_cons_succ])
          refine wpAnyH_ready (rs := [6]) (by kernel_rfl) (by simp) ?_
          refine AllReadyH.cons (o := ⟨some 7, _, _, _, _, _⟩) rfl (fun K hK => ?_) ?_
          · go_simp
            have P_22 := Lib.hid (P_21.out.alloc (.cells #[.int .i64 0, .int .i64 0] 23))
            have Q_22 := Lib.hid (Q_21.out.alloc (.cells #[.int .i64 0, .int .i64 0] 23))
            have L_22 := Lib.hid (Below.al L_21.out (.cells #[.int .i64 0, .int .i64 0] 23))
            have A8_22 := Lib.hid (A8_21.out.alloc (.cells #[.int .i64 0, .int .i64 0] 23))
            have A7_22 := Lib.hid (cell2_new v21 (0, 0))
            have NA7X := Lib.hid (show w.heap.size + 1 < v21.heap.size from Q_21.out.lt)
            have NEX := Lib.hid (show v21.heap.size ≠ _ from Nat.ne_of_gt A8_21.out.lt)
            generalize v21.heap.size = bA7_22 at *
            generalize v21.alloc (.cells #[.int .i64 0, .int .i64 0] 23) = v22 at *
            refine hK.out _ _ ?_ (fun hHeld => ?_)
            · exact ⟨P_22.out.c0, P_22.out.c1, Q_22.out.c0, Q_22.out.c1⟩
            clear hK K P_21 Q_21 L_21 A8_21
            (try simp only [Act.put, List.setIfInBounds_toArray, List.set_cons_zero, List.set_cons_succ])
            refine wpAnyH_ready (rs := [8]) (by kernel_rfl) (by simp) ?_
            refine AllReadyH.cons (o := ⟨none, _, _, _, _, _⟩) rfl (fun K hK => ?_) AllReadyH.nil
            have s0 := A7_22.out.c0
            have s1 := A7_22.out.c1
            have s2 := A7_22.out.f0
            have s3 := A7_22.out.f1
            go_simp
            clear s0 s1 s2 s3
            have P_23 := Lib.hid (P_22.out.grown (grown_set (g := bA7_22) (j := 1) (u := .int .i64 c2) (grown_set (g := bA7_22) (j := 0) (u := .int .i64 c1) (World.grownBy.refl _ _))) (by have := NA7X.out; simp; omega))
            have Q_23 := Lib.hid (Q_22.out.grown (grown_set (g := bA7_22) (j := 1) (u := .int .i64 c2) (grown_set (g := bA7_22) (j := 0) (u := .int .i64 c1) (World.grownBy.refl _ _))) (by have := NA7X.out; simp; omega))
            have A8_23 := Lib.hid (A8_22.out.grown (grown_set (g := bA7_22) (j := 1) (u := .int .i64 c2) (grown_set (g := bA7_22) (j := 0) (u := .int .i64 c1) (World.grownBy.refl _ _))) (by have := NEX.out; simp; omega))
            have A7_23 := Lib.hid (A7_22.out.set2 (c1, c2))
            have L_23 := Lib.hid (Below.st (p := ⟨bA7_22, 1, none⟩) (v := .int .i64 c2) (Below.st (p := ⟨bA7_22, 0, none⟩) (v := .int .i64 c1) L_22.out (by have := NA7X.out; simp; omega)) (by have := NA7X.out; simp; omega))
            refine hK.out _ _ ?_ (fun hHeld => ?_)
            · exact ⟨P_23.out.c0, P_23.out.c1, Q_23.out.c0, Q_23.out.c1⟩
            clear hK K P_22 Q_22 L_22 A8_22 A7_22
            (try simp only [Act.put, List.setIfInBounds_toArray, List.set_cons_zero, List.set_cons_succ])
            refine wpAnyH_ready (rs := [9]) (by kernel_rfl) (by simp) ?_
            refine AllReadyH.cons (o := ⟨none, _, _, _, _, _⟩) rfl (fun K hK => ?_) AllReadyH.nil
            have s0 := A8_23.out.c0
            have s1 := A8_23.out.c1
            have s2 := A8_23.out.f0
            have s3 := A8_23.out.f1
            go_simp
            clear s0 s1 s2 s3
            have P_24 := Lib.hid (P_23.out.grown (grown_set (g := bA8_20) (j := 1) (u := .int .i64 h2) (grown_set (g := bA8_20) (j := 0) (u := .int .i64 h1) (World.grownBy.refl _ _))) (by have := NA8X.out; simp; omega))
            have Q_24 := Lib.hid (Q_23.out.grown (grown_set (g := bA8_20) (j := 1) (u := .int .i64 h2) (grown_set (g := bA8_20) (j := 0) (u := .int .i64 h1) (World.grownBy.refl _ _))) (by have := NA8X.out; simp; omega))
            have A7_24 := Lib.hid (A7_23.out.grown (grown_set (g := bA8_20) (j := 1) (u := .int .i64 h2) (grown_set (g := bA8_20) (j := 0) (u := .int .i64 h1) (World.grownBy.refl _ _))) (by have := NEX.out; simp; omega))
            have A8_24 := Lib.hid (A8_23.out.set2 (h1, h2))
            have L_24 := Lib.hid (Below.st (p := ⟨bA8_20, 1, none⟩) (v := .int .i64 h2) (Below.st (p := ⟨bA8_20, 0, none⟩) (v := .int .i64 h1) L_23.out (by have := NA8X.out; simp; omega)) (by have := NA8X.out; simp; omega))
            refine hK.out _ _ ?_ (fun hHeld => ?_)
            · exact ⟨P_24.out.c0, P_24.out.c1, Q_24.out.c0, Q_24.out.c1⟩
            clear hK K P_23 Q_23 A8_23 A7_23 L_23
            (try simp only [Act.put, List.setIfInBounds_toArray, List.set_cons_zero, List.set_cons_succ])
            refine wpAnyH_done (by kernel_rfl) ?_ _
            go_wp2_with fail
            go_meet
            exact ⟨_, _, rfl, rfl, P_24.out, Q_24.out, A7_24.out, A8_24.out, L_24.out⟩
          exact AllReadyH.nil
        refine AllReadyH.cons (o := ⟨some 7, _, _, _, _, _⟩) rfl (fun K hK => ?_) ?_
        · go_simp
          have P_25 := Lib.hid (P_20.out.alloc (.cells #[.int .i64 0, .int .i64 0] 23))
          have Q_25 := Lib.hid (Q_20.out.alloc (.cells #[.int .i64 0, .int .i64 0] 23))
          have L_25 := Lib.hid (Below.al L_20.out (.cells #[.int .i64 0, .int .i64 0] 23))
          have A8_25 := Lib.hid (A8_20.out.alloc (.cells #[.int .i64 0, .int .i64 0] 23))
          have A7_25 := Lib.hid (cell2_new v20 (0, 0))
          have NA7X := Lib.hid (show w.heap.size + 1 < v20.heap.size from Q_20.out.lt)
          have NEX := Lib.hid (show v20.heap.size ≠ _ from Nat.ne_of_gt A8_20.out.lt)
          generalize v20.heap.size = bA7_25 at *
          generalize v20.alloc (.cells #[.int .i64 0, .int .i64 0] 23) = v25 at *
          refine hK.out _ _ ?_ (fun hHeld => ?_)
          · exact ⟨P_25.out.c0, P_25.out.c1, Q_25.out.c0, Q_25.out.c1⟩
          clear hK K P_20 Q_20 L_20 A8_20
          (try simp only [Act.put, List.setIfInBounds_toArray, List.set_cons_zero, List.set_cons_succ])
          refine wpAnyH_ready (rs := [5]) (by kernel_rfl) (by simp) ?_
          refine AllReadyH.cons (o := ⟨some 14, _, _, _, _, _⟩) rfl (fun K hK => ?_) ?_
          · go_simp
            refine (HHU.out _).mono ?_
            rintro e v26 ⟨rfl, hb⟩
            have P_26 := Lib.hid (P_25.out.below hb)
            have Q_26 := Lib.hid (Q_25.out.below hb)
            have L_26 := Lib.hid (Below.call L_25.out hb)
            have A8_26 := Lib.hid (A8_25.out.below hb)
            have A7_26 := Lib.hid (A7_25.out.below hb)
            clear hb
            go_wp2_with fail
            refine hK.out _ _ ?_ (fun hHeld => ?_)
            · exact ⟨P_26.out.c0, P_26.out.c1, Q_26.out.c0, Q_26.out.c1⟩
            clear hK K P_25 Q_25 L_25 A8_25 A7_25
            (try simp only [Act.put, List.setIfInBounds_toArray, List.set_cons_zero, List.set_cons_succ])
            refine wpAnyH_ready (rs := [8]) (by kernel_rfl) (by simp) ?_
            refine AllReadyH.cons (o := ⟨none, _, _, _, _, _⟩) rfl (fun K hK => ?_) AllReadyH.nil
            have s0 := A7_26.out.c0
            have s1 := A7_26.out.c1
            have s2 := A7_26.out.f0
            have s3 := A7_26.out.f1
            go_simp
            clear s0 s1 s2 s3
            have P_27 := Lib.hid (P_26.out.grown (grown_set (g := bA7_25) (j := 1) (u := .int .i64 c2) (grown_set (g := bA7_25) (j := 0) (u := .int .i64 c1) (World.grownBy.refl _ _))) (by have := NA7X.out; simp; omega))
            have Q_27 := Lib.hid (Q_26.out.grown (grown_set (g := bA7_25) (j := 1) (u := .int .i64 c2) (grown_set (g := bA7_25) (j := 0) (u := .int .i64 c1) (World.grownBy.refl _ _))) (by have := NA7X.out; simp; omega))
            have A8_27 := Lib.hid (A8_26.out.grown (grown_set (g := bA7_25) (j := 1) (u := .int .i64 c2) (grown_set (g := bA7_25) (j := 0) (u := .int .i64 c1) (World.grownBy.refl _ _))) (by have := NEX.out; simp; omega))
            have A7_27 := Lib.hid (A7_26.out.set2 (c1, c2))
            have L_27 := Lib.hid (Below.st (p := ⟨bA7_25, 1, none⟩) (v := .int .i64 c2) (Below.st (p := ⟨bA7_25, 0, none⟩) (v := .int .i64 c1) L_26.out (by have := NA7X.out; simp; omega)) (by have := NA7X.out; simp; omega))
            refine hK.out _ _ ?_ (fun hHeld => ?_)
            · exact ⟨P_27.out.c0, P_27.out.c1, Q_27.out.c0, Q_27.out.c1⟩
            clear hK K P_26 Q_26 L_26 A8_26 A7_26
            (try simp only [Act.put, List.setIfInBounds_toArray, List.set_cons_zero, List.set_cons_succ])
            refine wpAnyH_ready (rs := [9]) (by kernel_rfl) (by simp) ?_
            refine AllReadyH.cons (o := ⟨none, _, _, _, _, _⟩) rfl (fun K hK => ?_) AllReadyH.nil
            have s0 := A8_27.out.c0
            have s1 := A8_27.out.c1
            have s2 := A8_27.out.f0
            have s3 := A8_27.out.f1
            go_simp
            clear s0 s1 s2 s3
            have P_28 := Lib.hid (P_27.out.grown (grown_set (g := bA8_20) (j := 1) (u := .int .i64 h2) (grown_set (g := bA8_20) (j := 0) (u := .int .i64 h1) (World.grownBy.refl _ _))) (by have := NA8X.out; simp; omega))
            have Q_28 := Lib.hid (Q_27.out.grown (grown_set (g := bA8_20) (j := 1) (u := .int .i64 h2) (grown_set (g := bA8_20) (j := 0) (u := .int .i64 h1) (World.grownBy.refl _ _))) (by have := NA8X.out; simp; omega))
            have A7_28 := Lib.hid (A7_27.out.grown (grown_set (g := bA8_20) (j := 1) (u := .int .i64 h2) (grown_set (g := bA8_20) (j := 0) (u := .int .i64 h1) (World.grownBy.refl _ _))) (by have := NEX.out; simp; omega))
            have A8_28 := Lib.hid (A8_27.out.set2 (h1, h2))
            have L_28 := Lib.hid (Below.st (p := ⟨bA8_20, 1, none⟩) (v := .int .i64 h2) (Below.st (p := ⟨bA8_20, 0, none⟩) (v := .int .i64 h1) L_27.out (by have := NA8X.out; simp; omega)) (by have := NA8X.out; simp; omega))
            refine hK.out _ _ ?_ (fun hHeld => ?_)
            · exact ⟨P_28.out.c0, P_28.out.c1, Q_28.out.c0, Q_28.out.c1⟩
            clear hK K P_27 Q_27 A8_27 A7_27 L_27
            (try simp only [Act.put, List.setIfInBounds_toArray, List.set_cons_zero, List.set_cons_succ])
            refine wpAnyH_done (by kernel_rfl) ?_ _
            go_wp2_with fail
            go_meet
            exact ⟨_, _, rfl, rfl, P_28.out, Q_28.out, A7_28.out, A8_28.out, L_28.out⟩
          exact AllReadyH.nil
        exact AllReadyH.nil
      exact AllReadyH.nil
    refine AllReadyH.cons (o := ⟨some 7, _, _, _, _, _⟩) rfl (fun K hK => ?_) ?_
    · go_simp
      have P_29 := Lib.hid (P1.out.alloc (.cells #[.int .i64 0, .int .i64 0] 23))
      have Q_29 := Lib.hid (Q1.out.alloc (.cells #[.int .i64 0, .int .i64 0] 23))
      have L_29 := Lib.hid (Below.al L1.out (.cells #[.int .i64 0, .int .i64 0] 23))
      have A7_29 := Lib.hid (cell2_new v0 (0, 0))
      have NA7X := Lib.hid (show w.heap.size + 1 < v0.heap.size from Q1.out.lt)
      generalize v0.heap.size = bA7_29 at *
      generalize v0.alloc (.cells #[.int .i64 0, .int .i64 0] 23) = v29 at *
      refine hK.out _ _ ?_ (fun hHeld => ?_)
      · exact ⟨P_29.out.c0, P_29.out.c1, Q_29.out.c0, Q_29.out.c1⟩
      clear hK K P1 Q1 L1
      (try simp only [Act.put, List.setIfInBounds_toArray, List.set_cons_zero, List.set_cons_succ])
      refine wpAnyH_ready (rs := [2, 7]) (by kernel_rfl) (by simp) ?_
      refine AllReadyH.cons (o := ⟨some 11, _, _, _, _, _⟩) rfl (fun K hK => ?_) ?_
      · go_simp
        refine (HCU.out _).mono ?_
        rintro e v30 ⟨rfl, hb⟩
        have P_30 := Lib.hid (P_29.out.below hb)
        have Q_30 := Lib.hid (Q_29.out.below hb)
        have L_30 := Lib.hid (Below.call L_29.out hb)
        have A7_30 := Lib.hid (A7_29.out.below hb)
        clear hb
        go_wp2_with fail
        refine hK.out _ _ ?_ (fun hHeld => ?_)
        · exact ⟨P_30.out.c0, P_30.out.c1, Q_30.out.c0, Q_30.out.c1⟩
        clear hK K P_29 Q_29 L_29 A7_29
        (try simp only [Act.put, List.setIfInBounds_toArray, List.set_cons_zero, List.set_cons_succ])
        refine wpAnyH_ready (rs := [5, 7]) (by kernel_rfl) (by simp) ?_
        refine AllReadyH.cons (o := ⟨some 14, _, _, _, _, _⟩) rfl (fun K hK => ?_) ?_
        · go_simp
          refine (HHU.out _).mono ?_
          rintro e v31 ⟨rfl, hb⟩
          have P_31 := Lib.hid (P_30.out.below hb)
          have Q_31 := Lib.hid (Q_30.out.below hb)
          have L_31 := Lib.hid (Below.call L_30.out hb)
          have A7_31 := Lib.hid (A7_30.out.below hb)
          clear hb
          go_wp2_with fail
          refine hK.out _ _ ?_ (fun hHeld => ?_)
          · exact ⟨P_31.out.c0, P_31.out.c1, Q_31.out.c0, Q_31.out.c1⟩
          clear hK K P_30 Q_30 L_30 A7_30
          (try simp only [Act.put, List.setIfInBounds_toArray, List.set_cons_zero, List.set_cons_succ])
          refine wpAnyH_ready (rs := [7]) (by kernel_rfl) (by simp) ?_
          refine AllReadyH.cons (o := ⟨some 8, _, _, _, _, _⟩) rfl (fun K hK => ?_) ?_
          · go_simp
            have P_32 := Lib.hid (P_31.out.alloc (.cells #[.int .i64 0, .int .i64 0] 23))
            have Q_32 := Lib.hid (Q_31.out.alloc (.cells #[.int .i64 0, .int .i64 0] 23))
            have L_32 := Lib.hid (Below.al L_31.out (.cells #[.int .i64 0, .int .i64 0] 23))
            have A7_32 := Lib.hid (A7_31.out.alloc (.cells #[.int .i64 0, .int .i64 0] 23))
            have A8_32 := Lib.hid (cell2_new v31 (0, 0))
            have NA8X := Lib.hid (show w.heap.size + 1 < v31.heap.size from Q_31.out.lt)
            have NEX := Lib.hid (show v31.heap.size ≠ _ from Nat.ne_of_gt A7_31.out.lt)
            generalize v31.heap.size = bA8_32 at *
            generalize v31.alloc (.cells #[.int .i64 0, .int .i64 0] 23) = v32 at *
            refine hK.out _ _ ?_ (fun hHeld => ?_)
            · exact ⟨P_32.out.c0, P_32.out.c1, Q_32.out.c0, Q_32.out.c1⟩
            clear hK K P_31 Q_31 L_31 A7_31
            (try simp only [Act.put, List.setIfInBounds_toArray, List.set_cons_zero, List.set_cons_succ])
            refine wpAnyH_ready (rs := [8]) (by kernel_rfl) (by simp) ?_
            refine AllReadyH.cons (o := ⟨none, _, _, _, _, _⟩) rfl (fun K hK => ?_) AllReadyH.nil
            have s0 := A7_32.out.c0
            have s1 := A7_32.out.c1
            have s2 := A7_32.out.f0
            have s3 := A7_32.out.f1
            go_simp
            clear s0 s1 s2 s3
            have P_33 := Lib.hid (P_32.out.grown (grown_set (g := bA7_29) (j := 1) (u := .int .i64 c2) (grown_set (g := bA7_29) (j := 0) (u := .int .i64 c1) (World.grownBy.refl _ _))) (by have := NA7X.out; simp; omega))
            have Q_33 := Lib.hid (Q_32.out.grown (grown_set (g := bA7_29) (j := 1) (u := .int .i64 c2) (grown_set (g := bA7_29) (j := 0) (u := .int .i64 c1) (World.grownBy.refl _ _))) (by have := NA7X.out; simp; omega))
            have A8_33 := Lib.hid (A8_32.out.grown (grown_set (g := bA7_29) (j := 1) (u := .int .i64 c2) (grown_set (g := bA7_29) (j := 0) (u := .int .i64 c1) (World.grownBy.refl _ _))) (by have := NEX.out; simp; omega))
            have A7_33 := Lib.hid (A7_32.out.set2 (c1, c2))
            have L_33 := Lib.hid (Below.st (p := ⟨bA7_29, 1, none⟩) (v := .int .i64 c2) (Below.st (p := ⟨bA7_29, 0, none⟩) (v := .int .i64 c1) L_32.out (by have := NA7X.out; simp; omega)) (by have := NA7X.out; simp; omega))
            refine hK.out _ _ ?_ (fun hHeld => ?_)
            · exact ⟨P_33.out.c0, P_33.out.c1, Q_33.out.c0, Q_33.out.c1⟩
            clear hK K P_32 Q_32 L_32 A7_32 A8_32
            (try simp only [Act.put, List.setIfInBounds_toArray, List.set_cons_zero, List.set_cons_succ])
            refine wpAnyH_ready (rs := [9]) (by kernel_rfl) (by simp) ?_
            refine AllReadyH.cons (o := ⟨none, _, _, _, _, _⟩) rfl (fun K hK => ?_) AllReadyH.nil
            have s0 := A8_33.out.c0
            have s1 := A8_33.out.c1
            have s2 := A8_33.out.f0
            have s3 := A8_33.out.f1
            go_simp
            clear s0 s1 s2 s3
            have P_34 := Lib.hid (P_33.out.grown (grown_set (g := bA8_32) (j := 1) (u := .int .i64 h2) (grown_set (g := bA8_32) (j := 0) (u := .int .i64 h1) (World.grownBy.refl _ _))) (by have := NA8X.out; simp; omega))
            have Q_34 := Lib.hid (Q_33.out.grown (grown_set (g := bA8_32) (j := 1) (u := .int .i64 h2) (grown_set (g := bA8_32) (j := 0) (u := .int .i64 h1) (World.grownBy.refl _ _))) (by have := NA8X.out; simp; omega))
            have A7_34 := Lib.hid (A7_33.out.grown (grown_set (g := bA8_32) (j := 1) (u := .int .i64 h2) (grown_set (g := bA8_32) (j := 0) (u := .int .i64 h1) (World.grownBy.refl _ _))) (by have := NEX.out; simp; omega))
            have A8_34 := Lib.hid (A8_33.out.set2 (h1, h2))
            have L_34 := Lib.hid (Below.st (p := ⟨bA8_32, 1, none⟩) (v := .int .i64 h2) (Below.st (p := ⟨bA8_32, 0, none⟩) (v := .int .i64 h1) L_33.out (by have := NA8X.out; simp; omega)) (by have := NA8X.out; simp; omega))
            refine hK.out _ _ ?_ (fun hHeld => ?_)
            · exact ⟨P_34.out.c0, P_34.out.c1, Q_34.out.c0, Q_34.out.c1⟩
            clear hK K P_33 Q_33 A8_33 A7_33 L_33
            (try simp only [Act.put, List.setIfInBounds_toArray, List.set_cons_zero, List.set_cons_succ])
            refine wpAnyH_done (by kernel_rfl) ?_ _
            go_wp2_with fail
            go_meet
            exact ⟨_, _, rfl, rfl, P_34.out, Q_34.out, A7_34.out, A8_34.out, L_34.out⟩
          exact AllReadyH.nil
        refine AllReadyH.cons (o := ⟨some 8, _, _, _, _, _⟩) rfl (fun K hK => ?_) ?_
        · go_simp
          have P_35 := Lib.hid (P_30.out.alloc (.cells #[.int .i64 0, .int .i64 0] 23))
          have Q_35 := Lib.hid (Q_30.out.alloc (.cells #[.int .i64 0, .int .i64 0] 23))
          have L_35 := Lib.hid (Below.al L_30.out (.cells #[.int .i64 0, .int .i64 0] 23))
          have A7_35 := Lib.hid (A7_30.out.alloc (.cells #[.int .i64 0, .int .i64 0] 23))
          have A8_35 := Lib.hid (cell2_new v30 (0, 0))
          have NA8X := Lib.hid (show w.heap.size + 1 < v30.heap.size from Q_30.out.lt)
          have NEX := Lib.hid (show v30.heap.size ≠ _ from Nat.ne_of_gt A7_30.out.lt)
          generalize v30.heap.size = bA8_35 at *
          generalize v30.alloc (.cells #[.int .i64 0, .int .i64 0] 23) = v35 at *
          refine hK.out _ _ ?_ (fun hHeld => ?_)
          · exact ⟨P_35.out.c0, P_35.out.c1, Q_35.out.c0, Q_35.out.c1⟩
          clear hK K P_30 Q_30 L_30 A7_30
          (try simp only [Act.put, List.setIfInBounds_toArray, List.set_cons_zero, List.set_cons_succ])
          refine wpAnyH_ready (rs := [5]) (by kernel_rfl) (by simp) ?_
          refine AllReadyH.cons (o := ⟨some 14, _, _, _, _, _⟩) rfl (fun K hK => ?_) ?_
          · go_simp
            refine (HHU.out _).mono ?_
            rintro e v36 ⟨rfl, hb⟩
            have P_36 := Lib.hid (P_35.out.below hb)
            have Q_36 := Lib.hid (Q_35.out.below hb)
            have L_36 := Lib.hid (Below.call L_35.out hb)
            have A7_36 := Lib.hid (A7_35.out.below hb)
            have A8_36 := Lib.hid (A8_35.out.below hb)
            clear hb
            go_wp2_with fail
            refine hK.out _ _ ?_ (fun hHeld => ?_)
            · exact ⟨P_36.out.c0, P_36.out.c1, Q_36.out.c0, Q_36.out.c1⟩
            clear hK K P_35 Q_35 L_35 A7_35 A8_35
            (try simp only [Act.put, List.setIfInBounds_toArray, List.set_cons_zero, List.set_cons_succ])
            refine wpAnyH_ready (rs := [8]) (by kernel_rfl) (by simp) ?_
            refine AllReadyH.cons (o := ⟨none, _, _, _, _, _⟩) rfl (fun K hK => ?_) AllReadyH.nil
            have s0 := A7_36.out.c0
            have s1 := A7_36.out.c1
            have s2 := A7_36.out.f0
            have s3 := A7_36.out.f1
            go_simp
            clear s0 s1 s2 s3
            have P_37 := Lib.hid (P_36.out.grown (grown_set (g := bA7_29) (j := 1) (u := .int .i64 c2) (grown_set (g := bA7_29) (j := 0) (u := .int .i64 c1) (World.grownBy.refl _ _))) (by have := NA7X.out; simp; omega))
            have Q_37 := Lib.hid (Q_36.out.grown (grown_set (g := bA7_29) (j := 1) (u := .int .i64 c2) (grown_set (g := bA7_29) (j := 0) (u := .int .i64 c1) (World.grownBy.refl _ _))) (by have := NA7X.out; simp; omega))
            have A8_37 := Lib.hid (A8_36.out.grown (grown_set (g := bA7_29) (j := 1) (u := .int .i64 c2) (grown_set (g := bA7_29) (j := 0) (u := .int .i64 c1) (World.grownBy.refl _ _))) (by have := NEX.out; simp; omega))
            have A7_37 := Lib.hid (A7_36.out.set2 (c1, c2))
            have L_37 := Lib.hid (Below.st (p := ⟨bA7_29, 1, none⟩) (v := .int .i64 c2) (Below.st (p := ⟨bA7_29, 0, none⟩) (v := .int .i64 c1) L_36.out (by have := NA7X.out; simp; omega)) (by have := NA7X.out; simp; omega))
            refine hK.out _ _ ?_ (fun hHeld => ?_)
            · exact ⟨P_37.out.c0, P_37.out.c1, Q_37.out.c0, Q_37.out.c1⟩
            clear hK K P_36 Q_36 L_36 A7_36 A8_36
            (try simp only [Act.put, List.setIfInBounds_toArray, List.set_cons_zero, List.set_cons_succ])
            refine wpAnyH_ready (rs := [9]) (by kernel_rfl) (by simp) ?_
            refine AllReadyH.cons (o := ⟨none, _, _, _, _, _⟩) rfl (fun K hK => ?_) AllReadyH.nil
            have s0 := A8_37.out.c0
            have s1 := A8_37.out.c1
            have s2 := A8_37.out.f0
            have s3 := A8_37.out.f1
            go_simp
            clear s0 s1 s2 s3
            have P_38 := Lib.hid (P_37.out.grown (grown_set (g := bA8_35) (j := 1) (u := .int .i64 h2) (grown_set (g := bA8_35) (j := 0) (u := .int .i64 h1) (World.grownBy.refl _ _))) (by have := NA8X.out; simp; omega))
            have Q_38 := Lib.hid (Q_37.out.grown (grown_set (g := bA8_35) (j := 1) (u := .int .i64 h2) (grown_set (g := bA8_35) (j := 0) (u := .int .i64 h1) (World.grownBy.refl _ _))) (by have := NA8X.out; simp; omega))
            have A7_38 := Lib.hid (A7_37.out.grown (grown_set (g := bA8_35) (j := 1) (u := .int .i64 h2) (grown_set (g := bA8_35) (j := 0) (u := .int .i64 h1) (World.grownBy.refl _ _))) (by have := NEX.out; simp; omega))
            have A8_38 := Lib.hid (A8_37.out.set2 (h1, h2))
            have L_38 := Lib.hid (Below.st (p := ⟨bA8_35, 1, none⟩) (v := .int .i64 h2) (Below.st (p := ⟨bA8_35, 0, none⟩) (v := .int .i64 h1) L_37.out (by have := NA8X.out; simp; omega)) (by have := NA8X.out; simp; omega))
            refine hK.out _ _ ?_ (fun hHeld => ?_)
            · exact ⟨P_38.out.c0, P_38.out.c1, Q_38.out.c0, Q_38.out.c1⟩
            clear hK K P_37 Q_37 A8_37 A7_37 L_37
            (try simp only [Act.put, List.setIfInBounds_toArray, List.set_cons_zero, List.set_cons_succ])
            refine wpAnyH_done (by kernel_rfl) ?_ _
            go_wp2_with fail
            go_meet
            exact ⟨_, _, rfl, rfl, P_38.out, Q_38.out, A7_38.out, A8_38.out, L_38.out⟩
          exact AllReadyH.nil
        exact AllReadyH.nil
      refine AllReadyH.cons (o := ⟨some 8, _, _, _, _, _⟩) rfl (fun K hK => ?_) ?_
      · go_simp
        have P_39 := Lib.hid (P_29.out.alloc (.cells #[.int .i64 0, .int .i64 0] 23))
        have Q_39 := Lib.hid (Q_29.out.alloc (.cells #[.int .i64 0, .int .i64 0] 23))
        have L_39 := Lib.hid (Below.al L_29.out (.cells #[.int .i64 0, .int .i64 0] 23))
        have A7_39 := Lib.hid (A7_29.out.alloc (.cells #[.int .i64 0, .int .i64 0] 23))
        have A8_39 := Lib.hid (cell2_new v29 (0, 0))
        have NA8X := Lib.hid (show w.heap.size + 1 < v29.heap.size from Q_29.out.lt)
        have NEX := Lib.hid (show v29.heap.size ≠ _ from Nat.ne_of_gt A7_29.out.lt)
        generalize v29.heap.size = bA8_39 at *
        generalize v29.alloc (.cells #[.int .i64 0, .int .i64 0] 23) = v39 at *
        refine hK.out _ _ ?_ (fun hHeld => ?_)
        · exact ⟨P_39.out.c0, P_39.out.c1, Q_39.out.c0, Q_39.out.c1⟩
        clear hK K P_29 Q_29 L_29 A7_29
        (try simp only [Act.put, List.setIfInBounds_toArray, List.set_cons_zero, List.set_cons_succ])
        refine wpAnyH_ready (rs := [2]) (by kernel_rfl) (by simp) ?_
        refine AllReadyH.cons (o := ⟨some 11, _, _, _, _, _⟩) rfl (fun K hK => ?_) ?_
        · go_simp
          refine (HCU.out _).mono ?_
          rintro e v40 ⟨rfl, hb⟩
          have P_40 := Lib.hid (P_39.out.below hb)
          have Q_40 := Lib.hid (Q_39.out.below hb)
          have L_40 := Lib.hid (Below.call L_39.out hb)
          have A7_40 := Lib.hid (A7_39.out.below hb)
          have A8_40 := Lib.hid (A8_39.out.below hb)
          clear hb
          go_wp2_with fail
          refine hK.out _ _ ?_ (fun hHeld => ?_)
          · exact ⟨P_40.out.c0, P_40.out.c1, Q_40.out.c0, Q_40.out.c1⟩
          clear hK K P_39 Q_39 L_39 A7_39 A8_39
          (try simp only [Act.put, List.setIfInBounds_toArray, List.set_cons_zero, List.set_cons_succ])
          refine wpAnyH_ready (rs := [5]) (by kernel_rfl) (by simp) ?_
          refine AllReadyH.cons (o := ⟨some 14, _, _, _, _, _⟩) rfl (fun K hK => ?_) ?_
          · go_simp
            refine (HHU.out _).mono ?_
            rintro e v41 ⟨rfl, hb⟩
            have P_41 := Lib.hid (P_40.out.below hb)
            have Q_41 := Lib.hid (Q_40.out.below hb)
            have L_41 := Lib.hid (Below.call L_40.out hb)
            have A7_41 := Lib.hid (A7_40.out.below hb)
            have A8_41 := Lib.hid (A8_40.out.below hb)
            clear hb
            go_wp2_with fail
            refine hK.out _ _ ?_ (fun hHeld => ?_)
            · exact ⟨P_41.out.c0, P_41.out.c1, Q_41.out.c0, Q_41.out.c1⟩
            clear hK K P_40 Q_40 L_40 A7_40 A8_40
            (try simp only [Act.put, List.setIfInBounds_toArray, List.set_cons_zero, List.set_cons_succ])
            refine wpAnyH_ready (rs := [8]) (by kernel_rfl) (by simp) ?_
            refine AllReadyH.cons (o := ⟨none, _, _, _, _, _⟩) rfl (fun K hK => ?_) AllReadyH.nil
            have s0 := A7_41.out.c0
            have s1 := A7_41.out.c1
            have s2 := A7_41.out.f0
            have s3 := A7_41.out.f1
            go_simp
            clear s0 s1 s2 s3
            have P_42 := Lib.hid (P_41.out.grown (grown_set (g := bA7_29) (j := 1) (u := .int .i64 c2) (grown_set (g := bA7_29) (j := 0) (u := .int .i64 c1) (World.grownBy.refl _ _))) (by have := NA7X.out; simp; omega))
            have Q_42 := Lib.hid (Q_41.out.grown (grown_set (g := bA7_29) (j := 1) (u := .int .i64 c2) (grown_set (g := bA7_29) (j := 0) (u := .int .i64 c1) (World.grownBy.refl _ _))) (by have := NA7X.out; simp; omega))
            have A8_42 := Lib.hid (A8_41.out.grown (grown_set (g := bA7_29) (j := 1) (u := .int .i64 c2) (grown_set (g := bA7_29) (j := 0) (u := .int .i64 c1) (World.grownBy.refl _ _))) (by have := NEX.out; simp; omega))
            have A7_42 := Lib.hid (A7_41.out.set2 (c1, c2))
            have L_42 := Lib.hid (Below.st (p := ⟨bA7_29, 1, none⟩) (v := .int .i64 c2) (Below.st (p := ⟨bA7_29, 0, none⟩) (v := .int .i64 c1) L_41.out (by have := NA7X.out; simp; omega)) (by have := NA7X.out; simp; omega))
            refine hK.out _ _ ?_ (fun hHeld => ?_)
            · exact ⟨P_42.out.c0, P_42.out.c1, Q_42.out.c0, Q_42.out.c1⟩
            clear hK K P_41 Q_41 L_41 A7_41 A8_41
            (try simp only [Act.put, List.setIfInBounds_toArray, List.set_cons_zero, List.set_cons_succ])
            refine wpAnyH_ready (rs := [9]) (by kernel_rfl) (by simp) ?_
            refine AllReadyH.cons (o := ⟨none, _, _, _, _, _⟩) rfl (fun K hK => ?_) AllReadyH.nil
            have s0 := A8_42.out.c0
            have s1 := A8_42.out.c1
            have s2 := A8_42.out.f0
            have s3 := A8_42.out.f1
            go_simp
            clear s0 s1 s2 s3
            have P_43 := Lib.hid (P_42.out.grown (grown_set (g := bA8_39) (j := 1) (u := .int .i64 h2) (grown_set (g := bA8_39) (j := 0) (u := .int .i64 h1) (World.grownBy.refl _ _))) (by have := NA8X.out; simp; omega))
            have Q_43 := Lib.hid (Q_42.out.grown (grown_set (g := bA8_39) (j := 1) (u := .int .i64 h2) (grown_set (g := bA8_39) (j := 0) (u := .int .i64 h1) (World.grownBy.refl _ _))) (by have := NA8X.out; simp; omega))
            have A7_43 := Lib.hid (A7_42.out.grown (grown_set (g := bA8_39) (j := 1) (u := .int .i64 h2) (grown_set (g := bA8_39) (j := 0) (u := .int .i64 h1) (World.grownBy.refl _ _))) (by have := NEX.out; simp; omega))
            have A8_43 := Lib.hid (A8_42.out.set2 (h1, h2))
            have L_43 := Lib.hid (Below.st (p := ⟨bA8_39, 1, none⟩) (v := .int .i64 h2) (Below.st (p := ⟨bA8_39, 0, none⟩) (v := .int .i64 h1) L_42.out (by have := NA8X.out; simp; omega)) (by have := NA8X.out; simp; omega))
            refine hK.out _ _ ?_ (fun hHeld => ?_)
            · exact ⟨P_43.out.c0, P_43.out.c1, Q_43.out.c0, Q_43.out.c1⟩
            clear hK K P_42 Q_42 A8_42 A7_42 L_42
            (try simp only [Act.put, List.setIfInBounds_toArray, List.set_cons_zero, List.set_cons_succ])
            refine wpAnyH_done (by kernel_rfl) ?_ _
            go_wp2_with fail
            go_meet
            exact ⟨_, _, rfl, rfl, P_43.out, Q_43.out, A7_43.out, A8_43.out, L_43.out⟩
          exact AllReadyH.nil
        exact AllReadyH.nil
      exact AllReadyH.nil
    refine AllReadyH.cons (o := ⟨some 8, _, _, _, _, _⟩) rfl (fun K hK => ?_) ?_
    · go_simp
      have P_44 := Lib.hid (P1.out.alloc (.cells #[.int .i64 0, .int .i64 0] 23))
      have Q_44 := Lib.hid (Q1.out.alloc (.cells #[.int .i64 0, .int .i64 0] 23))
      have L_44 := Lib.hid (Below.al L1.out (.cells #[.int .i64 0, .int .i64 0] 23))
      have A8_44 := Lib.hid (cell2_new v0 (0, 0))
      have NA8X := Lib.hid (show w.heap.size + 1 < v0.heap.size from Q1.out.lt)
      generalize v0.heap.size = bA8_44 at *
      generalize v0.alloc (.cells #[.int .i64 0, .int .i64 0] 23) = v44 at *
      refine hK.out _ _ ?_ (fun hHeld => ?_)
      · exact ⟨P_44.out.c0, P_44.out.c1, Q_44.out.c0, Q_44.out.c1⟩
      clear hK K P1 Q1 L1
      (try simp only [Act.put, List.setIfInBounds_toArray, List.set_cons_zero, List.set_cons_succ])
      refine wpAnyH_ready (rs := [2, 6]) (by kernel_rfl) (by simp) ?_
      refine AllReadyH.cons (o := ⟨some 11, _, _, _, _, _⟩) rfl (fun K hK => ?_) ?_
      · go_simp
        refine (HCU.out _).mono ?_
        rintro e v45 ⟨rfl, hb⟩
        have P_45 := Lib.hid (P_44.out.below hb)
        have Q_45 := Lib.hid (Q_44.out.below hb)
        have L_45 := Lib.hid (Below.call L_44.out hb)
        have A8_45 := Lib.hid (A8_44.out.below hb)
        clear hb
        go_wp2_with fail
        refine hK.out _ _ ?_ (fun hHeld => ?_)
        · exact ⟨P_45.out.c0, P_45.out.c1, Q_45.out.c0, Q_45.out.c1⟩
        clear hK K P_44 Q_44 L_44 A8_44
        (try simp only [Act.put, List.setIfInBounds_toArray, List.set_cons_zero, List.set_cons_succ])
        refine wpAnyH_ready (rs := [5, 6]) (by kernel_rfl) (by simp) ?_
        refine AllReadyH.cons (o := ⟨some 14, _, _, _, _, _⟩) rfl (fun K hK => ?_) ?_
        · go_simp
          refine (HHU.out _).mono ?_
          rintro e v46 ⟨rfl, hb⟩
          have P_46 := Lib.hid (P_45.out.below hb)
          have Q_46 := Lib.hid (Q_45.out.below hb)
          have L_46 := Lib.hid (Below.call L_45.out hb)
          have A8_46 := Lib.hid (A8_45.out.below hb)
          clear hb
          go_wp2_with fail
          refine hK.out _ _ ?_ (fun hHeld => ?_)
          · exact ⟨P_46.out.c0, P_46.out.c1, Q_46.out.c0, Q_46.out.c1⟩
          clear hK K P_45 Q_45 L_45 A8_45
          (try simp only [Act.put, List.setIfInBounds_toArray, List.set_cons_zero, List.set_cons_succ])
          refine wpAnyH_ready (rs := [6]) (by kernel_rfl) (by simp) ?_
          refine AllReadyH.cons (o := ⟨some 7, _, _, _, _, _⟩) rfl (fun K hK => ?_) ?_
          · go_simp
            have P_47 := Lib.hid (P_46.out.alloc (.cells #[.int .i64 0, .int .i64 0] 23))
            have Q_47 := Lib.hid (Q_46.out.alloc (.cells #[.int .i64 0, .int .i64 0] 23))
            have L_47 := Lib.hid (Below.al L_46.out (.cells #[.int .i64 0, .int .i64 0] 23))
            have A8_47 := Lib.hid (A8_46.out.alloc (.cells #[.int .i64 0, .int .i64 0] 23))
            have A7_47 := Lib.hid (cell2_new v46 (0, 0))
            have NA7X := Lib.hid (show w.heap.size + 1 < v46.heap.size from Q_46.out.lt)
            have NEX := Lib.hid (show v46.heap.size ≠ _ from Nat.ne_of_gt A8_46.out.lt)
            generalize v46.heap.size = bA7_47 at *
            generalize v46.alloc (.cells #[.int .i64 0, .int .i64 0] 23) = v47 at *
            refine hK.out _ _ ?_ (fun hHeld => ?_)
            · exact ⟨P_47.out.c0, P_47.out.c1, Q_47.out.c0, Q_47.out.c1⟩
            clear hK K P_46 Q_46 L_46 A8_46
            (try simp only [Act.put, List.setIfInBounds_toArray, List.set_cons_zero, List.set_cons_succ])
            refine wpAnyH_ready (rs := [8]) (by kernel_rfl) (by simp) ?_
            refine AllReadyH.cons (o := ⟨none, _, _, _, _, _⟩) rfl (fun K hK => ?_) AllReadyH.nil
            have s0 := A7_47.out.c0
            have s1 := A7_47.out.c1
            have s2 := A7_47.out.f0
            have s3 := A7_47.out.f1
            go_simp
            clear s0 s1 s2 s3
            have P_48 := Lib.hid (P_47.out.grown (grown_set (g := bA7_47) (j := 1) (u := .int .i64 c2) (grown_set (g := bA7_47) (j := 0) (u := .int .i64 c1) (World.grownBy.refl _ _))) (by have := NA7X.out; simp; omega))
            have Q_48 := Lib.hid (Q_47.out.grown (grown_set (g := bA7_47) (j := 1) (u := .int .i64 c2) (grown_set (g := bA7_47) (j := 0) (u := .int .i64 c1) (World.grownBy.refl _ _))) (by have := NA7X.out; simp; omega))
            have A8_48 := Lib.hid (A8_47.out.grown (grown_set (g := bA7_47) (j := 1) (u := .int .i64 c2) (grown_set (g := bA7_47) (j := 0) (u := .int .i64 c1) (World.grownBy.refl _ _))) (by have := NEX.out; simp; omega))
            have A7_48 := Lib.hid (A7_47.out.set2 (c1, c2))
            have L_48 := Lib.hid (Below.st (p := ⟨bA7_47, 1, none⟩) (v := .int .i64 c2) (Below.st (p := ⟨bA7_47, 0, none⟩) (v := .int .i64 c1) L_47.out (by have := NA7X.out; simp; omega)) (by have := NA7X.out; simp; omega))
            refine hK.out _ _ ?_ (fun hHeld => ?_)
            · exact ⟨P_48.out.c0, P_48.out.c1, Q_48.out.c0, Q_48.out.c1⟩
            clear hK K P_47 Q_47 L_47 A8_47 A7_47
            (try simp only [Act.put, List.setIfInBounds_toArray, List.set_cons_zero, List.set_cons_succ])
            refine wpAnyH_ready (rs := [9]) (by kernel_rfl) (by simp) ?_
            refine AllReadyH.cons (o := ⟨none, _, _, _, _, _⟩) rfl (fun K hK => ?_) AllReadyH.nil
            have s0 := A8_48.out.c0
            have s1 := A8_48.out.c1
            have s2 := A8_48.out.f0
            have s3 := A8_48.out.f1
            go_simp
            clear s0 s1 s2 s3
            have P_49 := Lib.hid (P_48.out.grown (grown_set (g := bA8_44) (j := 1) (u := .int .i64 h2) (grown_set (g := bA8_44) (j := 0) (u := .int .i64 h1) (World.grownBy.refl _ _))) (by have := NA8X.out; simp; omega))
            have Q_49 := Lib.hid (Q_48.out.grown (grown_set (g := bA8_44) (j := 1) (u := .int .i64 h2) (grown_set (g := bA8_44) (j := 0) (u := .int .i64 h1) (World.grownBy.refl _ _))) (by have := NA8X.out; simp; omega))
            have A7_49 := Lib.hid (A7_48.out.grown (grown_set (g := bA8_44) (j := 1) (u := .int .i64 h2) (grown_set (g := bA8_44) (j := 0) (u := .int .i64 h1) (World.grownBy.refl _ _))) (by have := NEX.out; simp; omega))
            have A8_49 := Lib.hid (A8_48.out.set2 (h1, h2))
            have L_49 := Lib.hid (Below.st (p := ⟨bA8_44, 1, none⟩) (v := .int .i64 h2) (Below.st (p := ⟨bA8_44, 0, none⟩) (v := .int .i64 h1) L_48.out (by have := NA8X.out; simp; omega)) (by have := NA8X.out; simp; omega))
            refine hK.out _ _ ?_ (fun hHeld => ?_)
            · exact ⟨P_49.out.c0, P_49.out.c1, Q_49.out.c0, Q_49.out.c1⟩
            clear hK K P_48 Q_48 A8_48 A7_48 L_48
            (try simp only [Act.put, List.setIfInBounds_toArray, List.set_cons_zero, List.set_cons_succ])
            refine wpAnyH_done (by kernel_rfl) ?_ _
            go_wp2_with fail
            go_meet
            exact ⟨_, _, rfl, rfl, P_49.out, Q_49.out, A7_49.out, A8_49.out, L_49.out⟩
          exact AllReadyH.nil
        refine AllReadyH.cons (o := ⟨some 7, _, _, _, _, _⟩) rfl (fun K hK => ?_) ?_
        · go_simp
          have P_50 := Lib.hid (P_45.out.alloc (.cells #[.int .i64 0, .int .i64 0] 23))
          have Q_50 := Lib.hid (Q_45.out.alloc (.cells #[.int .i64 0, .int .i64 0] 23))
          have L_50 := Lib.hid (Below.al L_45.out (.cells #[.int .i64 0, .int .i64 0] 23))
          have A8_50 := Lib.hid (A8_45.out.alloc (.cells #[.int .i64 0, .int .i64 0] 23))
          have A7_50 := Lib.hid (cell2_new v45 (0, 0))
          have NA7X := Lib.hid (show w.heap.size + 1 < v45.heap.size from Q_45.out.lt)
          have NEX := Lib.hid (show v45.heap.size ≠ _ from Nat.ne_of_gt A8_45.out.lt)
          generalize v45.heap.size = bA7_50 at *
          generalize v45.alloc (.cells #[.int .i64 0, .int .i64 0] 23) = v50 at *
          refine hK.out _ _ ?_ (fun hHeld => ?_)
          · exact ⟨P_50.out.c0, P_50.out.c1, Q_50.out.c0, Q_50.out.c1⟩
          clear hK K P_45 Q_45 L_45 A8_45
          (try simp only [Act.put, List.setIfInBounds_toArray, List.set_cons_zero, List.set_cons_succ])
          refine wpAnyH_ready (rs := [5]) (by kernel_rfl) (by simp) ?_
          refine AllReadyH.cons (o := ⟨some 14, _, _, _, _, _⟩) rfl (fun K hK => ?_) ?_
          · go_simp
            refine (HHU.out _).mono ?_
            rintro e v51 ⟨rfl, hb⟩
            have P_51 := Lib.hid (P_50.out.below hb)
            have Q_51 := Lib.hid (Q_50.out.below hb)
            have L_51 := Lib.hid (Below.call L_50.out hb)
            have A8_51 := Lib.hid (A8_50.out.below hb)
            have A7_51 := Lib.hid (A7_50.out.below hb)
            clear hb
            go_wp2_with fail
            refine hK.out _ _ ?_ (fun hHeld => ?_)
            · exact ⟨P_51.out.c0, P_51.out.c1, Q_51.out.c0, Q_51.out.c1⟩
            clear hK K P_50 Q_50 L_50 A8_50 A7_50
            (try simp only [Act.put, List.setIfInBounds_toArray, List.set_cons_zero, List.set_cons_succ])
            refine wpAnyH_ready (rs := [8]) (by kernel_rfl) (by simp) ?_
            refine AllReadyH.cons (o := ⟨none, _, _, _, _, _⟩) rfl (fun K hK => ?_) AllReadyH.nil
            have s0 := A7_51.out.c0
            have s1 := A7_51.out.c1
            have s2 := A7_51.out.f0
            have s3 := A7_51.out.f1
            go_simp
            clear s0 s1 s2 s3
            have P_52 := Lib.hid (P_51.out.grown (grown_set (g := bA7_50) (j := 1) (u := .int .i64 c2) (grown_set (g := bA7_50) (j := 0) (u := .int .i64 c1) (World.grownBy.refl _ _))) (by have := NA7X.out; simp; omega))
            have Q_52 := Lib.hid (Q_51.out.grown (grown_set (g := bA7_50) (j := 1) (u := .int .i64 c2) (grown_set (g := bA7_50) (j := 0) (u := .int .i64 c1) (World.grownBy.refl _ _))) (by have := NA7X.out; simp; omega))
            have A8_52 := Lib.hid (A8_51.out.grown (grown_set (g := bA7_50) (j := 1) (u := .int .i64 c2) (grown_set (g := bA7_50) (j := 0) (u := .int .i64 c1) (World.grownBy.refl _ _))) (by have := NEX.out; simp; omega))
            have A7_52 := Lib.hid (A7_51.out.set2 (c1, c2))
            have L_52 := Lib.hid (Below.st (p := ⟨bA7_50, 1, none⟩) (v := .int .i64 c2) (Below.st (p := ⟨bA7_50, 0, none⟩) (v := .int .i64 c1) L_51.out (by have := NA7X.out; simp; omega)) (by have := NA7X.out; simp; omega))
            refine hK.out _ _ ?_ (fun hHeld => ?_)
            · exact ⟨P_52.out.c0, P_52.out.c1, Q_52.out.c0, Q_52.out.c1⟩
            clear hK K P_51 Q_51 L_51 A8_51 A7_51
            (try simp only [Act.put, List.setIfInBounds_toArray, List.set_cons_zero, List.set_cons_succ])
            refine wpAnyH_ready (rs := [9]) (by kernel_rfl) (by simp) ?_
            refine AllReadyH.cons (o := ⟨none, _, _, _, _, _⟩) rfl (fun K hK => ?_) AllReadyH.nil
            have s0 := A8_52.out.c0
            have s1 := A8_52.out.c1
            have s2 := A8_52.out.f0
            have s3 := A8_52.out.f1
            go_simp
            clear s0 s1 s2 s3
            have P_53 := Lib.hid (P_52.out.grown (grown_set (g := bA8_44) (j := 1) (u := .int .i64 h2) (grown_set (g := bA8_44) (j := 0) (u := .int .i64 h1) (World.grownBy.refl _ _))) (by have := NA8X.out; simp; omega))
            have Q_53 := Lib.hid (Q_52.out.grown (grown_set (g := bA8_44) (j := 1) (u := .int .i64 h2) (grown_set (g := bA8_44) (j := 0) (u := .int .i64 h1) (World.grownBy.refl _ _))) (by have := NA8X.out; simp; omega))
            have A7_53 := Lib.hid (A7_52.out.grown (grown_set (g := bA8_44) (j := 1) (u := .int .i64 h2) (grown_set (g := bA8_44) (j := 0) (u := .int .i64 h1) (World.grownBy.refl _ _))) (by have := NEX.out; simp; omega))
            have A8_53 := Lib.hid (A8_52.out.set2 (h1, h2))
            have L_53 := Lib.hid (Below.st (p := ⟨bA8_44, 1, none⟩) (v := .int .i64 h2) (Below.st (p := ⟨bA8_44, 0, none⟩) (v := .int .i64 h1) L_52.out (by have := NA8X.out; simp; omega)) (by have := NA8X.out; simp; omega))
            refine hK.out _ _ ?_ (fun hHeld => ?_)
            · exact ⟨P_53.out.c0, P_53.out.c1, Q_53.out.c0, Q_53.out.c1⟩
            clear hK K P_52 Q_52 A8_52 A7_52 L_52
            (try simp only [Act.put, List.setIfInBounds_toArray, List.set_cons_zero, List.set_cons_succ])
            refine wpAnyH_done (by kernel_rfl) ?_ _
            go_wp2_with fail
            go_meet
            exact ⟨_, _, rfl, rfl, P_53.out, Q_53.out, A7_53.out, A8_53.out, L_53.out⟩
          exact AllReadyH.nil
        exact AllReadyH.nil
      refine AllReadyH.cons (o := ⟨some 7, _, _, _, _, _⟩) rfl (fun K hK => ?_) ?_
      · go_simp
        have P_54 := Lib.hid (P_44.out.alloc (.cells #[.int .i64 0, .int .i64 0] 23))
        have Q_54 := Lib.hid (Q_44.out.alloc (.cells #[.int .i64 0, .int .i64 0] 23))
        have L_54 := Lib.hid (Below.al L_44.out (.cells #[.int .i64 0, .int .i64 0] 23))
        have A8_54 := Lib.hid (A8_44.out.alloc (.cells #[.int .i64 0, .int .i64 0] 23))
        have A7_54 := Lib.hid (cell2_new v44 (0, 0))
        have NA7X := Lib.hid (show w.heap.size + 1 < v44.heap.size from Q_44.out.lt)
        have NEX := Lib.hid (show v44.heap.size ≠ _ from Nat.ne_of_gt A8_44.out.lt)
        generalize v44.heap.size = bA7_54 at *
        generalize v44.alloc (.cells #[.int .i64 0, .int .i64 0] 23) = v54 at *
        refine hK.out _ _ ?_ (fun hHeld => ?_)
        · exact ⟨P_54.out.c0, P_54.out.c1, Q_54.out.c0, Q_54.out.c1⟩
        clear hK K P_44 Q_44 L_44 A8_44
        (try simp only [Act.put, List.setIfInBounds_toArray, List.set_cons_zero, List.set_cons_succ])
        refine wpAnyH_ready (rs := [2]) (by kernel_rfl) (by simp) ?_
        refine AllReadyH.cons (o := ⟨some 11, _, _, _, _, _⟩) rfl (fun K hK => ?_) ?_
        · go_simp
          refine (HCU.out _).mono ?_
          rintro e v55 ⟨rfl, hb⟩
          have P_55 := Lib.hid (P_54.out.below hb)
          have Q_55 := Lib.hid (Q_54.out.below hb)
          have L_55 := Lib.hid (Below.call L_54.out hb)
          have A8_55 := Lib.hid (A8_54.out.below hb)
          have A7_55 := Lib.hid (A7_54.out.below hb)
          clear hb
          go_wp2_with fail
          refine hK.out _ _ ?_ (fun hHeld => ?_)
          · exact ⟨P_55.out.c0, P_55.out.c1, Q_55.out.c0, Q_55.out.c1⟩
          clear hK K P_54 Q_54 L_54 A8_54 A7_54
          (try simp only [Act.put, List.setIfInBounds_toArray, List.set_cons_zero, List.set_cons_succ])
          refine wpAnyH_ready (rs := [5]) (by kernel_rfl) (by simp) ?_
          refine AllReadyH.cons (o := ⟨some 14, _, _, _, _, _⟩) rfl (fun K hK => ?_) ?_
          · go_simp
            refine (HHU.out _).mono ?_
            rintro e v56 ⟨rfl, hb⟩
            have P_56 := Lib.hid (P_55.out.below hb)
            have Q_56 := Lib.hid (Q_55.out.below hb)
            have L_56 := Lib.hid (Below.call L_55.out hb)
            have A8_56 := Lib.hid (A8_55.out.below hb)
            have A7_56 := Lib.hid (A7_55.out.below hb)
            clear hb
            go_wp2_with fail
            refine hK.out _ _ ?_ (fun hHeld => ?_)
            · exact ⟨P_56.out.c0, P_56.out.c1, Q_56.out.c0, Q_56.out.c1⟩
            clear hK K P_55 Q_55 L_55 A8_55 A7_55
            (try simp only [Act.put, List.setIfInBounds_toArray, List.set_cons_zero, List.set_cons_succ])
            refine wpAnyH_ready (rs := [8]) (by kernel_rfl) (by simp) ?_
            refine AllReadyH.cons (o := ⟨none, _, _, _, _, _⟩) rfl (fun K hK => ?_) AllReadyH.nil
            have s0 := A7_56.out.c0
            have s1 := A7_56.out.c1
            have s2 := A7_56.out.f0
            have s3 := A7_56.out.f1
            go_simp
            clear s0 s1 s2 s3
            have P_57 := Lib.hid (P_56.out.grown (grown_set (g := bA7_54) (j := 1) (u := .int .i64 c2) (grown_set (g := bA7_54) (j := 0) (u := .int .i64 c1) (World.grownBy.refl _ _))) (by have := NA7X.out; simp; omega))
            have Q_57 := Lib.hid (Q_56.out.grown (grown_set (g := bA7_54) (j := 1) (u := .int .i64 c2) (grown_set (g := bA7_54) (j := 0) (u := .int .i64 c1) (World.grownBy.refl _ _))) (by have := NA7X.out; simp; omega))
            have A8_57 := Lib.hid (A8_56.out.grown (grown_set (g := bA7_54) (j := 1) (u := .int .i64 c2) (grown_set (g := bA7_54) (j := 0) (u := .int .i64 c1) (World.grownBy.refl _ _))) (by have := NEX.out; simp; omega))
            have A7_57 := Lib.hid (A7_56.out.set2 (c1, c2))
            have L_57 := Lib.hid (Below.st (p := ⟨bA7_54, 1, none⟩) (v := .int .i64 c2) (Below.st (p := ⟨bA7_54, 0, none⟩) (v := .int .i64 c1) L_56.out (by have := NA7X.out; simp; omega)) (by have := NA7X.out; simp; omega))
            refine hK.out _ _ ?_ (fun hHeld => ?_)
            · exact ⟨P_57.out.c0, P_57.out.c1, Q_57.out.c0, Q_57.out.c1⟩
            clear hK K P_56 Q_56 L_56 A8_56 A7_56
            (try simp only [Act.put, List.setIfInBounds_toArray, List.set_cons_zero, List.set_cons_succ])
            refine wpAnyH_ready (rs := [9]) (by kernel_rfl) (by simp) ?_
            refine AllReadyH.cons (o := ⟨none, _, _, _, _, _⟩) rfl (fun K hK => ?_) AllReadyH.nil
            have s0 := A8_57.out.c0
            have s1 := A8_57.out.c1
            have s2 := A8_57.out.f0
            have s3 := A8_57.out.f1
            go_simp
            clear s0 s1 s2 s3
            have P_58 := Lib.hid (P_57.out.grown (grown_set (g := bA8_44) (j := 1) (u := .int .i64 h2) (grown_set (g := bA8_44) (j := 0) (u := .int .i64 h1) (World.grownBy.refl _ _))) (by have := NA8X.out; simp; omega))
            have Q_58 := Lib.hid (Q_57.out.grown (grown_set (g := bA8_44) (j := 1) (u := .int .i64 h2) (grown_set (g := bA8_44) (j := 0) (u := .int .i64 h1) (World.grownBy.refl _ _))) (by have := NA8X.out; simp; omega))
            have A7_58 := Lib.hid (A7_57.out.grown (grown_set (g := bA8_44) (j := 1) (u := .int .i64 h2) (grown_set (g := bA8_44) (j := 0) (u := .int .i64 h1) (World.grownBy.refl _ _))) (by have := NEX.out; simp; omega))
            have A8_58 := Lib.hid (A8_57.out.set2 (h1, h2))
            have L_58 := Lib.hid (Below.st (p := ⟨bA8_44, 1, none⟩) (v := .int .i64 h2) (Below.st (p := ⟨bA8_44, 0, none⟩) (v := .int .i64 h1) L_57.out (by have := NA8X.out; simp; omega)) (by have := NA8X.out; simp; omega))
            refine hK.out _ _ ?_ (fun hHeld => ?_)
            · exact ⟨P_58.out.c0, P_58.out.c1, Q_58.out.c0, Q_58.out.c1⟩
            clear hK K P_57 Q_57 A8_57 A7_57 L_57
            (try simp only [Act.put, List.setIfInBounds_toArray, List.set_cons_zero, List.set_cons_succ])
            refine wpAnyH_done (by kernel_rfl) ?_ _
            go_wp2_with fail
            go_meet
            exact ⟨_, _, rfl, rfl, P_58.out, Q_58.out, A7_58.out, A8_58.out, L_58.out⟩
          exact AllReadyH.nil
        exact AllReadyH.nil
      exact AllReadyH.nil
    exact AllReadyH.nil
  case rest =>
    obtain ⟨B7, B8, rfl, rfl, P2, Q2, A7, A8, K2⟩ := hcut
    have HLV := Lib.hid lives5
    have p0 := P2.c0
    have p1 := P2.c1
    have q0 := Q2.c0
    have q1 := Q2.c1
    have x0 := A7.c0
    have x1 := A7.c1
    have y0 := A8.c0
    have y1 := A8.c1
    have HK2 := Lib.hid K2
    clear P2 Q2 A7 A8 K2
    obtain ⟨wr, hwr⟩ : ∃ wr, wr = wc := ⟨_, rfl⟩
    subst hwr
    go_wp2_with fail
    (try simp only [List.append_eq, List.cons_append, List.nil_append])
    refine wp_region_held_drew (S := fun w' => w'.cell? ⟨w.heap.size, 0, none⟩ = some (.int .i64 a1) ∧ w'.cell? ⟨w.heap.size, 1, none⟩ = some (.int .i64 a2) ∧ w'.cell? ⟨w.heap.size + 1, 0, none⟩ = some (.int .i64 b1) ∧ w'.cell? ⟨w.heap.size + 1, 1, none⟩ = some (.int .i64 b2) ∧ w'.cell? ⟨B7, 0, none⟩ = some (.int .i64 c1) ∧ w'.cell? ⟨B7, 1, none⟩ = some (.int .i64 c2) ∧ w'.cell? ⟨B8, 0, none⟩ = some (.int .i64 h1) ∧ w'.cell? ⟨B8, 1, none⟩ = some (.int .i64 h2) ∧ Below wr.heap.size wr w') (by kernel_rfl) ?_ (fun hHeld => ?_)
    · exact ⟨p0, p1, q0, q1, x0, x1, y0, y1, (Below.refl _ _).drew⟩
    refine wpAnyH_ready (rs := [0]) (by kernel_rfl) (by simp) ?_
    refine AllReadyH.cons (o := ⟨some 15, _, _, _, _, _⟩) rfl (fun K hK => ?_) AllReadyH.nil
    go_simp
    (refine (HLV.out _).mono ?_; rintro e w1 ⟨rfl, hb⟩)
    go_wp2_with fail
    refine hK.out _ _ ?_ (fun hHeld => ?_)
    · exact ⟨keep_cell hb hHeld.1, keep_cell hb hHeld.2.1, keep_cell hb hHeld.2.2.1, keep_cell hb hHeld.2.2.2.1, keep_cell hb hHeld.2.2.2.2.1, keep_cell hb hHeld.2.2.2.2.2.1, keep_cell hb hHeld.2.2.2.2.2.2.1, keep_cell hb hHeld.2.2.2.2.2.2.2.1, Below.call hHeld.2.2.2.2.2.2.2.2 hb⟩
    clear hK K
    (try simp only [Act.put, List.setIfInBounds_toArray, List.set_cons_zero, List.set_cons_succ])
    refine wpAnyH_take (i := 1) (oi := ⟨some 16, _, _, _, _, _⟩) (v := ?_) rfl (by kernel_rfl) (by kernel_rfl) (by kernel_rfl) (fun _ _ _ h => h) (Or.inl ⟨by kernel_rfl, ?_⟩) (by assumption) ?_
    rotate_left 1
    · ((intro w hSw; (try dsimp only at hSw); go_simp) <;> (try with_reducible rfl))
    (try simp only [Act.put, List.setIfInBounds_toArray, List.set_cons_zero, List.set_cons_succ])
    refine wpAnyH_take (i := 2) (oi := ⟨some 17, _, _, _, _, _⟩) (v := ?_) rfl (by kernel_rfl) (by kernel_rfl) (by kernel_rfl) (fun _ _ _ h => h) (Or.inl ⟨by kernel_rfl, ?_⟩) (by assumption) ?_
    rotate_left 1
    · ((intro w hSw; (try dsimp only at hSw); go_simp) <;> (try with_reducible rfl))
    (try simp only [Act.put, List.setIfInBounds_toArray, List.set_cons_zero, List.set_cons_succ])
    refine wpAnyH_take (i := 3) (oi := ⟨some 18, _, _, _, _, _⟩) (v := ?_) rfl (by kernel_rfl) (by kernel_rfl) (by kernel_rfl) (fun _ _ _ h => h) (Or.inl ⟨by kernel_rfl, ?_⟩) (by assumption) ?_
    rotate_left 1
    · ((intro w hSw; (try dsimp only at hSw); go_simp) <;> (try with_reducible rfl))
    (try simp only [Act.put, List.setIfInBounds_toArray, List.set_cons_zero, List.set_cons_succ])
    refine wpAnyH_take (i := 4) (oi := ⟨some 19, _, _, _, _, _⟩) (v := ?_) rfl (by kernel_rfl) (by kernel_rfl) (by kernel_rfl) (fun _ _ _ h => h) (Or.inl ⟨by kernel_rfl, ?_⟩) (by assumption) ?_
    rotate_left 1
    · ((intro w hSw; (try dsimp only at hSw); go_simp) <;> (try with_reducible rfl))
    (try simp only [Act.put, List.setIfInBounds_toArray, List.set_cons_zero, List.set_cons_succ])
    refine wpAnyH_take (i := 5) (oi := ⟨some 20, _, _, _, _, _⟩) (v := ?_) rfl (by kernel_rfl) (by kernel_rfl) (by kernel_rfl) (fun _ _ _ h => h) (Or.inl ⟨by kernel_rfl, ?_⟩) (by assumption) ?_
    rotate_left 1
    · ((intro w hSw; (try dsimp only at hSw); go_simp) <;> (try with_reducible rfl))
    (try simp only [Act.put, List.setIfInBounds_toArray, List.set_cons_zero, List.set_cons_succ])
    refine wpAnyH_ready (rs := [6]) (by kernel_rfl) (by simp) ?_
    refine AllReadyH.cons (o := ⟨some 21, _, _, _, _, _⟩) rfl (fun K hK => ?_) AllReadyH.nil
    go_simp
    (refine (HRC.out _).mono ?_; rintro e w1 ⟨rfl, hb⟩)
    go_wp2_with fail
    refine hK.out _ _ ?_ (fun hHeld => ?_)
    · exact ⟨keep_cell hb hHeld.1, keep_cell hb hHeld.2.1, keep_cell hb hHeld.2.2.1, keep_cell hb hHeld.2.2.2.1, keep_cell hb hHeld.2.2.2.2.1, keep_cell hb hHeld.2.2.2.2.2.1, keep_cell hb hHeld.2.2.2.2.2.2.1, keep_cell hb hHeld.2.2.2.2.2.2.2.1, Below.call hHeld.2.2.2.2.2.2.2.2 hb⟩
    clear hK K
    (try simp only [Act.put, List.setIfInBounds_toArray, List.set_cons_zero, List.set_cons_succ])
    refine wpAnyH_take (i := 7) (oi := ⟨some 22, _, _, _, _, _⟩) (v := ?_) rfl (by kernel_rfl) (by kernel_rfl) (by kernel_rfl) (fun _ _ _ h => h) (Or.inl ⟨by kernel_rfl, ?_⟩) (by assumption) ?_
    rotate_left 1
    · ((intro w hSw; (try dsimp only at hSw); go_simp) <;> (try with_reducible rfl))
    (try simp only [Act.put, List.setIfInBounds_toArray, List.set_cons_zero, List.set_cons_succ])
    refine wpAnyH_take (i := 8) (oi := ⟨some 23, _, _, _, _, _⟩) (v := ?_) rfl (by kernel_rfl) (by kernel_rfl) (by kernel_rfl) (fun _ _ _ h => h) (Or.inl ⟨by kernel_rfl, ?_⟩) (by assumption) ?_
    rotate_left 1
    · ((intro w hSw; (try dsimp only at hSw); go_simp) <;> (try with_reducible rfl))
    (try simp only [Act.put, List.setIfInBounds_toArray, List.set_cons_zero, List.set_cons_succ])
    refine wpAnyH_take (i := 9) (oi := ⟨some 24, _, _, _, _, _⟩) (v := ?_) rfl (by kernel_rfl) (by kernel_rfl) (by kernel_rfl) (fun _ _ _ h => h) (Or.inl ⟨by kernel_rfl, ?_⟩) (by assumption) ?_
    rotate_left 1
    · ((intro w hSw; (try dsimp only at hSw); go_simp) <;> (try with_reducible rfl))
    (try simp only [Act.put, List.setIfInBounds_toArray, List.set_cons_zero, List.set_cons_succ])
    refine wpAnyH_take (i := 10) (oi := ⟨some 25, _, _, _, _, _⟩) (v := ?_) rfl (by kernel_rfl) (by kernel_rfl) (by kernel_rfl) (fun _ _ _ h => h) (Or.inl ⟨by kernel_rfl, ?_⟩) (by assumption) ?_
    rotate_left 1
    · ((intro w hSw; (try dsimp only at hSw); go_simp) <;> (try with_reducible rfl))
    (try simp only [Act.put, List.setIfInBounds_toArray, List.set_cons_zero, List.set_cons_succ])
    refine wpAnyH_take (i := 11) (oi := ⟨some 26, _, _, _, _, _⟩) (v := ?_) rfl (by kernel_rfl) (by kernel_rfl) (by kernel_rfl) (fun _ _ _ h => h) (Or.inl ⟨by kernel_rfl, ?_⟩) (by assumption) ?_
    rotate_left 1
    · ((intro w hSw; (try dsimp only at hSw); go_simp) <;> (try with_reducible rfl))
    (try simp only [Act.put, List.setIfInBounds_toArray, List.set_cons_zero, List.set_cons_succ])
    refine wpAnyH_take (i := 12) (oi := ⟨some 27, _, _, _, _, _⟩) (v := ?_) rfl (by kernel_rfl) (by kernel_rfl) (by kernel_rfl) (fun _ _ _ h => h) (Or.inl ⟨by kernel_rfl, ?_⟩) (by assumption) ?_
    rotate_left 1
    · ((intro w hSw; (try dsimp only at hSw); go_simp) <;> (try with_reducible rfl))
    (try simp only [Act.put, List.setIfInBounds_toArray, List.set_cons_zero, List.set_cons_succ])
    refine wpAnyH_ready (rs := [13]) (by kernel_rfl) (by simp) ?_
    refine AllReadyH.cons (o := ⟨some 28, _, _, _, _, _⟩) rfl (fun K hK => ?_) AllReadyH.nil
    go_simp
    (refine (HRH.out _).mono ?_; rintro e w1 ⟨rfl, hb⟩)
    go_wp2_with fail
    refine hK.out _ _ ?_ (fun hHeld => ?_)
    · exact ⟨keep_cell hb hHeld.1, keep_cell hb hHeld.2.1, keep_cell hb hHeld.2.2.1, keep_cell hb hHeld.2.2.2.1, keep_cell hb hHeld.2.2.2.2.1, keep_cell hb hHeld.2.2.2.2.2.1, keep_cell hb hHeld.2.2.2.2.2.2.1, keep_cell hb hHeld.2.2.2.2.2.2.2.1, Below.call hHeld.2.2.2.2.2.2.2.2 hb⟩
    clear hK K
    (try simp only [Act.put, List.setIfInBounds_toArray, List.set_cons_zero, List.set_cons_succ])
    refine wpAnyH_take (i := 14) (oi := ⟨some 29, _, _, _, _, _⟩) (v := ?_) rfl (by kernel_rfl) (by kernel_rfl) (by kernel_rfl) (fun _ _ _ h => h) (Or.inl ⟨by kernel_rfl, ?_⟩) (by assumption) ?_
    rotate_left 1
    · ((intro w hSw; (try dsimp only at hSw); go_simp) <;> (try with_reducible rfl))
    (try simp only [Act.put, List.setIfInBounds_toArray, List.set_cons_zero, List.set_cons_succ])
    refine wpAnyH_take (i := 15) (oi := ⟨some 30, _, _, _, _, _⟩) (v := ?_) rfl (by kernel_rfl) (by kernel_rfl) (by kernel_rfl) (fun _ _ _ h => h) (Or.inl ⟨by kernel_rfl, ?_⟩) (by assumption) ?_
    rotate_left 1
    · ((intro w hSw; (try dsimp only at hSw); go_simp) <;> (try with_reducible rfl))
    (try simp only [Act.put, List.setIfInBounds_toArray, List.set_cons_zero, List.set_cons_succ])
    refine wpAnyH_take (i := 16) (oi := ⟨some 31, _, _, _, _, _⟩) (v := ?_) rfl (by kernel_rfl) (by kernel_rfl) (by kernel_rfl) (fun _ _ _ h => h) (Or.inl ⟨by kernel_rfl, ?_⟩) (by assumption) ?_
    rotate_left 1
    · ((intro w hSw; (try dsimp only at hSw); go_simp) <;> (try with_reducible rfl))
    (try simp only [Act.put, List.setIfInBounds_toArray, List.set_cons_zero, List.set_cons_succ])
    refine wpAnyH_take (i := 17) (oi := ⟨some 32, _, _, _, _, _⟩) (v := ?_) rfl (by kernel_rfl) (by kernel_rfl) (by kernel_rfl) (fun _ _ _ h => h) (Or.inl ⟨by kernel_rfl, ?_⟩) (by assumption) ?_
    rotate_left 1
    · ((intro w hSw; (try dsimp only at hSw); go_simp) <;> (try with_reducible rfl))
    (try simp only [Act.put, List.setIfInBounds_toArray, List.set_cons_zero, List.set_cons_succ])
    refine wpAnyH_take (i := 18) (oi := ⟨some 33, _, _, _, _, _⟩) (v := ?_) rfl (by kernel_rfl) (by kernel_rfl) (by kernel_rfl) (fun _ _ _ h => h) (Or.inl ⟨by kernel_rfl, ?_⟩) (by assumption) ?_
    rotate_left 1
    · ((intro w hSw; (try dsimp only at hSw); go_simp) <;> (try with_reducible rfl))
    (try simp only [Act.put, List.setIfInBounds_toArray, List.set_cons_zero, List.set_cons_succ])
    refine wpAnyH_take (i := 20) (oi := ⟨some 35, _, _, _, _, _⟩) (v := ?_) rfl (by kernel_rfl) (by kernel_rfl) (by kernel_rfl) (fun _ _ _ h => h) (Or.inl ⟨by kernel_rfl, ?_⟩) (by assumption) ?_
    rotate_left 1
    · ((intro w hSw; (try dsimp only at hSw); go_simp) <;> (try with_reducible rfl))
    (try simp only [Act.put, List.setIfInBounds_toArray, List.set_cons_zero, List.set_cons_succ])
    refine wpAnyH_take (i := 21) (oi := ⟨some 36, _, _, _, _, _⟩) (v := ?_) rfl (by kernel_rfl) (by kernel_rfl) (by kernel_rfl) (fun _ _ _ h => h) (Or.inl ⟨by kernel_rfl, ?_⟩) (by assumption) ?_
    rotate_left 1
    · ((intro w hSw; (try dsimp only at hSw); go_simp) <;> (try with_reducible rfl))
    (try simp only [Act.put, List.setIfInBounds_toArray, List.set_cons_zero, List.set_cons_succ])
    refine wpAnyH_ready (rs := [19]) (by kernel_rfl) (by simp) ?_
    refine AllReadyH.cons (o := ⟨some 34, _, _, _, _, _⟩) rfl (fun K hK => ?_) AllReadyH.nil
    go_simp
    (refine (HM.out _).mono ?_; rintro e w1 ⟨rfl, hb⟩)
    go_wp2_with fail
    refine hK.out _ _ ?_ (fun hHeld => ?_)
    · exact ⟨keep_cell hb hHeld.1, keep_cell hb hHeld.2.1, keep_cell hb hHeld.2.2.1, keep_cell hb hHeld.2.2.2.1, keep_cell hb hHeld.2.2.2.2.1, keep_cell hb hHeld.2.2.2.2.2.1, keep_cell hb hHeld.2.2.2.2.2.2.1, keep_cell hb hHeld.2.2.2.2.2.2.2.1, Below.call hHeld.2.2.2.2.2.2.2.2 hb⟩
    clear hK K
    (try simp only [Act.put, List.setIfInBounds_toArray, List.set_cons_zero, List.set_cons_succ])
    refine wpAnyH_ready (rs := [22]) (by kernel_rfl) (by simp) ?_
    refine AllReadyH.cons (o := ⟨some 37, _, _, _, _, _⟩) rfl (fun K hK => ?_) AllReadyH.nil
    go_simp
    (refine (HRM.out _).mono ?_; rintro e w1 ⟨rfl, hb⟩)
    go_wp2_with fail
    refine hK.out _ _ ?_ (fun hHeld => ?_)
    · exact ⟨keep_cell hb hHeld.1, keep_cell hb hHeld.2.1, keep_cell hb hHeld.2.2.1, keep_cell hb hHeld.2.2.2.1, keep_cell hb hHeld.2.2.2.2.1, keep_cell hb hHeld.2.2.2.2.2.1, keep_cell hb hHeld.2.2.2.2.2.2.1, keep_cell hb hHeld.2.2.2.2.2.2.2.1, Below.call hHeld.2.2.2.2.2.2.2.2 hb⟩
    clear hK K
    (try simp only [Act.put, List.setIfInBounds_toArray, List.set_cons_zero, List.set_cons_succ])
    refine wpAnyH_take (i := 23) (oi := ⟨some 38, _, _, _, _, _⟩) (v := ?_) rfl (by kernel_rfl) (by kernel_rfl) (by kernel_rfl) (fun _ _ _ h => h) (Or.inl ⟨by kernel_rfl, ?_⟩) (by assumption) ?_
    rotate_left 1
    · ((intro w hSw; (try dsimp only at hSw); go_simp) <;> (try with_reducible rfl))
    (try simp only [Act.put, List.setIfInBounds_toArray, List.set_cons_zero, List.set_cons_succ])
    refine wpAnyH_take (i := 24) (oi := ⟨some 39, _, _, _, _, _⟩) (v := ?_) rfl (by kernel_rfl) (by kernel_rfl) (by kernel_rfl) (fun _ _ _ h => h) (Or.inl ⟨by kernel_rfl, ?_⟩) (by assumption) ?_
    rotate_left 1
    · ((intro w hSw; (try dsimp only at hSw); go_simp) <;> (try with_reducible rfl))
    (try simp only [Act.put, List.setIfInBounds_toArray, List.set_cons_zero, List.set_cons_succ])
    refine wpAnyH_take (i := 25) (oi := ⟨some 40, _, _, _, _, _⟩) (v := ?_) rfl (by kernel_rfl) (by kernel_rfl) (by kernel_rfl) (fun _ _ _ h => h) (Or.inl ⟨by kernel_rfl, ?_⟩) (by assumption) ?_
    rotate_left 1
    · ((intro w hSw; (try dsimp only at hSw); go_simp) <;> (try with_reducible rfl))
    (try simp only [Act.put, List.setIfInBounds_toArray, List.set_cons_zero, List.set_cons_succ])
    refine wpAnyH_take (i := 26) (oi := ⟨some 41, _, _, _, _, _⟩) (v := ?_) rfl (by kernel_rfl) (by kernel_rfl) (by kernel_rfl) (fun _ _ _ h => h) (Or.inl ⟨by kernel_rfl, ?_⟩) (by assumption) ?_
    rotate_left 1
    · ((intro w hSw; (try dsimp only at hSw); go_simp) <;> (try with_reducible rfl))
    (try simp only [Act.put, List.setIfInBounds_toArray, List.set_cons_zero, List.set_cons_succ])
    refine wpAnyH_take (i := 28) (oi := ⟨some 43, _, _, _, _, _⟩) (v := ?_) rfl (by kernel_rfl) (by kernel_rfl) (by kernel_rfl) (fun _ _ _ h => h) (Or.inl ⟨by kernel_rfl, ?_⟩) (by assumption) ?_
    rotate_left 1
    · ((intro w hSw; (try dsimp only at hSw); go_simp) <;> (try with_reducible rfl))
    (try simp only [Act.put, List.setIfInBounds_toArray, List.set_cons_zero, List.set_cons_succ])
    refine wpAnyH_ready (rs := [27]) (by kernel_rfl) (by simp) ?_
    refine AllReadyH.cons (o := ⟨some 42, _, _, _, _, _⟩) rfl (fun K hK => ?_) AllReadyH.nil
    go_simp
    (refine (HL.out _).mono ?_; rintro e w1 ⟨rfl, hb⟩)
    go_wp2_with fail
    refine hK.out _ _ ?_ (fun hHeld => ?_)
    · exact ⟨keep_cell hb hHeld.1, keep_cell hb hHeld.2.1, keep_cell hb hHeld.2.2.1, keep_cell hb hHeld.2.2.2.1, keep_cell hb hHeld.2.2.2.2.1, keep_cell hb hHeld.2.2.2.2.2.1, keep_cell hb hHeld.2.2.2.2.2.2.1, keep_cell hb hHeld.2.2.2.2.2.2.2.1, Below.call hHeld.2.2.2.2.2.2.2.2 hb⟩
    clear hK K
    (try simp only [Act.put, List.setIfInBounds_toArray, List.set_cons_zero, List.set_cons_succ])
    refine wpAnyH_ready (rs := [29]) (by kernel_rfl) (by simp) ?_
    refine AllReadyH.cons (o := ⟨some 44, _, _, _, _, _⟩) rfl (fun K hK => ?_) AllReadyH.nil
    go_simp
    (refine (HRL.out _).mono ?_; rintro e w1 ⟨rfl, hb⟩)
    go_wp2_with fail
    refine hK.out _ _ ?_ (fun hHeld => ?_)
    · exact ⟨keep_cell hb hHeld.1, keep_cell hb hHeld.2.1, keep_cell hb hHeld.2.2.1, keep_cell hb hHeld.2.2.2.1, keep_cell hb hHeld.2.2.2.2.1, keep_cell hb hHeld.2.2.2.2.2.1, keep_cell hb hHeld.2.2.2.2.2.2.1, keep_cell hb hHeld.2.2.2.2.2.2.2.1, Below.call hHeld.2.2.2.2.2.2.2.2 hb⟩
    clear hK K
    (try simp only [Act.put, List.setIfInBounds_toArray, List.set_cons_zero, List.set_cons_succ])
    refine wpAnyH_take (i := 30) (oi := ⟨some 45, _, _, _, _, _⟩) (v := ?_) rfl (by kernel_rfl) (by kernel_rfl) (by kernel_rfl) (fun _ _ _ h => h) (Or.inl ⟨by kernel_rfl, ?_⟩) (by assumption) ?_
    rotate_left 1
    · ((intro w hSw; (try dsimp only at hSw); go_simp) <;> (try with_reducible rfl))
    (try simp only [Act.put, List.setIfInBounds_toArray, List.set_cons_zero, List.set_cons_succ])
    refine wpAnyH_take (i := 31) (oi := ⟨some 46, _, _, _, _, _⟩) (v := ?_) rfl (by kernel_rfl) (by kernel_rfl) (by kernel_rfl) (fun _ _ _ h => h) (Or.inl ⟨by kernel_rfl, ?_⟩) (by assumption) ?_
    rotate_left 1
    · ((intro w hSw; (try dsimp only at hSw); go_simp) <;> (try with_reducible rfl))
    (try simp only [Act.put, List.setIfInBounds_toArray, List.set_cons_zero, List.set_cons_succ])
    refine wpAnyH_take (i := 32) (oi := ⟨some 47, _, _, _, _, _⟩) (v := ?_) rfl (by kernel_rfl) (by kernel_rfl) (by kernel_rfl) (fun _ _ _ h => h) (Or.inl ⟨by kernel_rfl, ?_⟩) (by assumption) ?_
    rotate_left 1
    · ((intro w hSw; (try dsimp only at hSw); go_simp) <;> (try with_reducible rfl))
    (try simp only [Act.put, List.setIfInBounds_toArray, List.set_cons_zero, List.set_cons_succ])
    refine wpAnyH_take (i := 33) (oi := ⟨some 48, _, _, _, _, _⟩) (v := ?_) rfl (by kernel_rfl) (by kernel_rfl) (by kernel_rfl) (fun _ _ _ h => h) (Or.inl ⟨by kernel_rfl, ?_⟩) (by assumption) ?_
    rotate_left 1
    · ((intro w hSw; (try dsimp only at hSw); go_simp) <;> (try with_reducible rfl))
    (try simp only [Act.put, List.setIfInBounds_toArray, List.set_cons_zero, List.set_cons_succ])
    refine wpAnyH_take (i := 34) (oi := ⟨some 49, _, _, _, _, _⟩) (v := ?_) rfl (by kernel_rfl) (by kernel_rfl) (by kernel_rfl) (fun _ _ _ h => h) (Or.inl ⟨by kernel_rfl, ?_⟩) (by assumption) ?_
    rotate_left 1
    · ((intro w hSw; (try dsimp only at hSw); go_simp) <;> (try with_reducible rfl))
    (try simp only [Act.put, List.setIfInBounds_toArray, List.set_cons_zero, List.set_cons_succ])
    refine wpAnyH_take (i := 36) (oi := ⟨some 51, _, _, _, _, _⟩) (v := ?_) rfl (by kernel_rfl) (by kernel_rfl) (by kernel_rfl) (fun _ _ _ h => h) (Or.inl ⟨by kernel_rfl, ?_⟩) (by assumption) ?_
    rotate_left 1
    · ((intro w hSw; (try dsimp only at hSw); go_simp) <;> (try with_reducible rfl))
    (try simp only [Act.put, List.setIfInBounds_toArray, List.set_cons_zero, List.set_cons_succ])
    refine wpAnyH_take (i := 37) (oi := ⟨some 52, _, _, _, _, _⟩) (v := ?_) rfl (by kernel_rfl) (by kernel_rfl) (by kernel_rfl) (fun _ _ _ h => h) (Or.inl ⟨by kernel_rfl, ?_⟩) (by assumption) ?_
    rotate_left 1
    · ((intro w hSw; (try dsimp only at hSw); go_simp) <;> (try with_reducible rfl))
    (try simp only [Act.put, List.setIfInBounds_toArray, List.set_cons_zero, List.set_cons_succ])
    refine wpAnyH_ready (rs := [35]) (by kernel_rfl) (by simp) ?_
    refine AllReadyH.cons (o := ⟨some 50, _, _, _, _, _⟩) rfl (fun K hK => ?_) AllReadyH.nil
    go_simp
    (refine (HHA.out _).mono ?_; rintro e w1 ⟨rfl, hb⟩)
    go_wp2_with fail
    refine hK.out _ _ ?_ (fun hHeld => ?_)
    · exact ⟨keep_cell hb hHeld.1, keep_cell hb hHeld.2.1, keep_cell hb hHeld.2.2.1, keep_cell hb hHeld.2.2.2.1, keep_cell hb hHeld.2.2.2.2.1, keep_cell hb hHeld.2.2.2.2.2.1, keep_cell hb hHeld.2.2.2.2.2.2.1, keep_cell hb hHeld.2.2.2.2.2.2.2.1, Below.call hHeld.2.2.2.2.2.2.2.2 hb⟩
    clear hK K
    (try simp only [Act.put, List.setIfInBounds_toArray, List.set_cons_zero, List.set_cons_succ])
    refine wpAnyH_ready (rs := [38]) (by kernel_rfl) (by simp) ?_
    refine AllReadyH.cons (o := ⟨some 53, _, _, _, _, _⟩) rfl (fun K hK => ?_) AllReadyH.nil
    go_simp
    (refine (HRA.out _).mono ?_; rintro e w1 ⟨rfl, hb⟩)
    go_wp2_with fail
    refine hK.out _ _ ?_ (fun hHeld => ?_)
    · exact ⟨keep_cell hb hHeld.1, keep_cell hb hHeld.2.1, keep_cell hb hHeld.2.2.1, keep_cell hb hHeld.2.2.2.1, keep_cell hb hHeld.2.2.2.2.1, keep_cell hb hHeld.2.2.2.2.2.1, keep_cell hb hHeld.2.2.2.2.2.2.1, keep_cell hb hHeld.2.2.2.2.2.2.2.1, Below.call hHeld.2.2.2.2.2.2.2.2 hb⟩
    clear hK K
    (try simp only [Act.put, List.setIfInBounds_toArray, List.set_cons_zero, List.set_cons_succ])
    refine wpAnyH_take (i := 39) (oi := ⟨some 54, _, _, _, _, _⟩) (v := ?_) rfl (by kernel_rfl) (by kernel_rfl) (by kernel_rfl) (fun _ _ _ h => h) (Or.inl ⟨by kernel_rfl, ?_⟩) (by assumption) ?_
    rotate_left 1
    · ((intro w hSw; (try dsimp only at hSw); go_simp) <;> (try with_reducible rfl))
    (try simp only [Act.put, List.setIfInBounds_toArray, List.set_cons_zero, List.set_cons_succ])
    refine wpAnyH_take (i := 40) (oi := ⟨some 55, _, _, _, _, _⟩) (v := ?_) rfl (by kernel_rfl) (by kernel_rfl) (by kernel_rfl) (fun _ _ _ h => h) (Or.inl ⟨by kernel_rfl, ?_⟩) (by assumption) ?_
    rotate_left 1
    · ((intro w hSw; (try dsimp only at hSw); go_simp) <;> (try with_reducible rfl))
    (try simp only [Act.put, List.setIfInBounds_toArray, List.set_cons_zero, List.set_cons_succ])
    refine wpAnyH_done (by kernel_rfl) ?_ _
    obtain ⟨p0, p1, q0, q1, x0, x1, y0, y1, LL⟩ := hHeld
    cases ha
    · cases hb'
      · have ec : hc = false := EC.out
        subst ec
        clear EC EH
        go_wp2_with fail
        refine wp_region_held_drew (S := fun w' => w'.cell? ⟨w.heap.size, 0, none⟩ = some (.int .i64 a1) ∧ w'.cell? ⟨w.heap.size, 1, none⟩ = some (.int .i64 a2) ∧ w'.cell? ⟨w.heap.size + 1, 0, none⟩ = some (.int .i64 b1) ∧ w'.cell? ⟨w.heap.size + 1, 1, none⟩ = some (.int .i64 b2) ∧ w'.cell? ⟨B7, 0, none⟩ = some (.int .i64 c1) ∧ w'.cell? ⟨B7, 1, none⟩ = some (.int .i64 c2) ∧ w'.cell? ⟨B8, 0, none⟩ = some (.int .i64 h1) ∧ w'.cell? ⟨B8, 1, none⟩ = some (.int .i64 h2) ∧ Below wr.heap.size wr w') (by kernel_rfl) ?_ (fun hHeld => ?_)
        · exact ⟨p0, p1, q0, q1, x0, x1, y0, y1, LL.drew⟩
        refine wpAnyH_take (i := 0) (oi := ⟨some 56, _, _, _, _, _⟩) (v := ?_) rfl (by kernel_rfl) (by kernel_rfl) (by kernel_rfl) (fun _ _ _ h => h) (Or.inl ⟨by kernel_rfl, ?_⟩) (by assumption) ?_
        rotate_left 1
        · ((intro w hSw; (try dsimp only at hSw); go_simp) <;> (try with_reducible rfl))
        (try simp only [Act.put, List.setIfInBounds_toArray, List.set_cons_zero, List.set_cons_succ])
        refine wpAnyH_take (i := 1) (oi := ⟨some 57, _, _, _, _, _⟩) (v := ?_) rfl (by kernel_rfl) (by kernel_rfl) (by kernel_rfl) (fun _ _ _ h => h) (Or.inl ⟨by kernel_rfl, ?_⟩) (by assumption) ?_
        rotate_left 1
        · ((intro w hSw; (try dsimp only at hSw); go_simp) <;> (try with_reducible rfl))
        (try simp only [Act.put, List.setIfInBounds_toArray, List.set_cons_zero, List.set_cons_succ])
        refine wpAnyH_take (i := 3) (oi := ⟨some 59, _, _, _, _, _⟩) (v := ?_) rfl (by kernel_rfl) (by kernel_rfl) (by kernel_rfl) (fun _ _ _ h => h) (Or.inl ⟨by kernel_rfl, ?_⟩) (by assumption) ?_
        rotate_left 1
        · ((intro w hSw; (try dsimp only at hSw); go_simp) <;> (try with_reducible rfl))
        (try simp only [Act.put, List.setIfInBounds_toArray, List.set_cons_zero, List.set_cons_succ])
        refine wpAnyH_take (i := 4) (oi := ⟨some 60, _, _, _, _, _⟩) (v := ?_) rfl (by kernel_rfl) (by kernel_rfl) (by kernel_rfl) (fun _ _ _ h => h) (Or.inl ⟨by kernel_rfl, ?_⟩) (by assumption) ?_
        rotate_left 1
        · ((intro w hSw; (try dsimp only at hSw); go_simp) <;> (try with_reducible rfl))
        (try simp only [Act.put, List.setIfInBounds_toArray, List.set_cons_zero, List.set_cons_succ])
        refine wpAnyH_ready (rs := [2]) (by kernel_rfl) (by simp) ?_
        refine AllReadyH.cons (o := ⟨some 58, _, _, _, _, _⟩) rfl (fun K hK => ?_) AllReadyH.nil
        go_simp
        (refine (HHC.out _).mono ?_; rintro e w1 ⟨rfl, hb⟩)
        go_wp2_with fail
        refine hK.out _ _ ?_ (fun hHeld => ?_)
        · exact ⟨keep_cell hb hHeld.1, keep_cell hb hHeld.2.1, keep_cell hb hHeld.2.2.1, keep_cell hb hHeld.2.2.2.1, keep_cell hb hHeld.2.2.2.2.1, keep_cell hb hHeld.2.2.2.2.2.1, keep_cell hb hHeld.2.2.2.2.2.2.1, keep_cell hb hHeld.2.2.2.2.2.2.2.1, Below.call hHeld.2.2.2.2.2.2.2.2 hb⟩
        clear hK K
        (try simp only [Act.put, List.setIfInBounds_toArray, List.set_cons_zero, List.set_cons_succ])
        refine wpAnyH_ready (rs := [5]) (by kernel_rfl) (by simp) ?_
        refine AllReadyH.cons (o := ⟨some 61, _, _, _, _, _⟩) rfl (fun K hK => ?_) AllReadyH.nil
        go_simp
        (refine (HRA.out _).mono ?_; rintro e w1 ⟨rfl, hb⟩)
        go_wp2_with fail
        refine hK.out _ _ ?_ (fun hHeld => ?_)
        · exact ⟨keep_cell hb hHeld.1, keep_cell hb hHeld.2.1, keep_cell hb hHeld.2.2.1, keep_cell hb hHeld.2.2.2.1, keep_cell hb hHeld.2.2.2.2.1, keep_cell hb hHeld.2.2.2.2.2.1, keep_cell hb hHeld.2.2.2.2.2.2.1, keep_cell hb hHeld.2.2.2.2.2.2.2.1, Below.call hHeld.2.2.2.2.2.2.2.2 hb⟩
        clear hK K
        (try simp only [Act.put, List.setIfInBounds_toArray, List.set_cons_zero, List.set_cons_succ])
        refine wpAnyH_take (i := 6) (oi := ⟨some 62, _, _, _, _, _⟩) (v := ?_) rfl (by kernel_rfl) (by kernel_rfl) (by kernel_rfl) (fun _ _ _ h => h) (Or.inl ⟨by kernel_rfl, ?_⟩) (by assumption) ?_
        rotate_left 1
        · ((intro w hSw; (try dsimp only at hSw); go_simp) <;> (try with_reducible rfl))
        (try simp only [Act.put, List.setIfInBounds_toArray, List.set_cons_zero, List.set_cons_succ])
        refine wpAnyH_take (i := 7) (oi := ⟨some 63, _, _, _, _, _⟩) (v := undef) rfl (by kernel_rfl) (by kernel_rfl) (by kernel_rfl) (fun _ _ _ h => h) (Or.inr ⟨by kernel_rfl, rfl⟩) (by assumption) ?_
        (try simp only [Act.put, List.setIfInBounds_toArray, List.set_cons_zero, List.set_cons_succ])
        refine wpAnyH_take (i := 8) (oi := ⟨some 64, _, _, _, _, _⟩) (v := undef) rfl (by kernel_rfl) (by kernel_rfl) (by kernel_rfl) (fun _ _ _ h => h) (Or.inr ⟨by kernel_rfl, rfl⟩) (by assumption) ?_
        (try simp only [Act.put, List.setIfInBounds_toArray, List.set_cons_zero, List.set_cons_succ])
        refine wpAnyH_take (i := 9) (oi := ⟨some 65, _, _, _, _, _⟩) (v := undef) rfl (by kernel_rfl) (by kernel_rfl) (by kernel_rfl) (fun _ _ _ h => h) (Or.inr ⟨by kernel_rfl, rfl⟩) (by assumption) ?_
        (try simp only [Act.put, List.setIfInBounds_toArray, List.set_cons_zero, List.set_cons_succ])
        refine wpAnyH_take (i := 10) (oi := ⟨some 66, _, _, _, _, _⟩) (v := ?_) rfl (by kernel_rfl) (by kernel_rfl) (by kernel_rfl) (fun _ _ _ h => h) (Or.inl ⟨by kernel_rfl, ?_⟩) (by assumption) ?_
        rotate_left 1
        · ((intro w hSw; (try dsimp only at hSw); go_simp) <;> (try with_reducible rfl))
        (try simp only [Act.put, List.setIfInBounds_toArray, List.set_cons_zero, List.set_cons_succ])
        refine wpAnyH_take (i := 11) (oi := ⟨some 67, _, _, _, _, _⟩) (v := ?_) rfl (by kernel_rfl) (by kernel_rfl) (by kernel_rfl) (fun _ _ _ h => h) (Or.inl ⟨by kernel_rfl, ?_⟩) (by assumption) ?_
        rotate_left 1
        · ((intro w hSw; (try dsimp only at hSw); go_simp) <;> (try with_reducible rfl))
        (try simp only [Act.put, List.setIfInBounds_toArray, List.set_cons_zero, List.set_cons_succ])
        refine wpAnyH_done (by kernel_rfl) ?_ _
        obtain ⟨p0, p1, q0, q1, x0, x1, y0, y1, LL⟩ := hHeld
        have HLL := Lib.hid LL
        clear LL
        go_wp2_with fail
        refine (HRA.out _).mono ?_
        rintro e w1 ⟨rfl, hb⟩
        replace p0 := keep_cell hb p0
        replace p1 := keep_cell hb p1
        replace q0 := keep_cell hb q0
        replace q1 := keep_cell hb q1
        replace x0 := keep_cell hb x0
        replace x1 := keep_cell hb x1
        replace y0 := keep_cell hb y0
        replace y1 := keep_cell hb y1
        replace HLL := Lib.hid (Below.call HLL.out hb)
        clear hb
        go_wp2_with fail
        refine (HRB.out _).mono ?_
        rintro e w1 ⟨rfl, hb⟩
        replace p0 := keep_cell hb p0
        replace p1 := keep_cell hb p1
        replace q0 := keep_cell hb q0
        replace q1 := keep_cell hb q1
        replace x0 := keep_cell hb x0
        replace x1 := keep_cell hb x1
        replace y0 := keep_cell hb y0
        replace y1 := keep_cell hb y1
        replace HLL := Lib.hid (Below.call HLL.out hb)
        clear hb
        go_wp2
        go_ret
        exact ⟨ret_b rfl, Below.call HK2.out HLL.out⟩
      · have ec : hc = false := EC.out
        subst ec
        have eh : hh = true := EH.out (by simp)
        subst eh
        clear EC EH
        go_wp2_with fail
        refine wp_region_held_drew (S := fun w' => w'.cell? ⟨w.heap.size, 0, none⟩ = some (.int .i64 a1) ∧ w'.cell? ⟨w.heap.size, 1, none⟩ = some (.int .i64 a2) ∧ w'.cell? ⟨w.heap.size + 1, 0, none⟩ = some (.int .i64 b1) ∧ w'.cell? ⟨w.heap.size + 1, 1, none⟩ = some (.int .i64 b2) ∧ w'.cell? ⟨B7, 0, none⟩ = some (.int .i64 c1) ∧ w'.cell? ⟨B7, 1, none⟩ = some (.int .i64 c2) ∧ w'.cell? ⟨B8, 0, none⟩ = some (.int .i64 h1) ∧ w'.cell? ⟨B8, 1, none⟩ = some (.int .i64 h2) ∧ Below wr.heap.size wr w') (by kernel_rfl) ?_ (fun hHeld => ?_)
        · exact ⟨p0, p1, q0, q1, x0, x1, y0, y1, LL.drew⟩
        refine wpAnyH_take (i := 0) (oi := ⟨some 56, _, _, _, _, _⟩) (v := ?_) rfl (by kernel_rfl) (by kernel_rfl) (by kernel_rfl) (fun _ _ _ h => h) (Or.inl ⟨by kernel_rfl, ?_⟩) (by assumption) ?_
        rotate_left 1
        · ((intro w hSw; (try dsimp only at hSw); go_simp) <;> (try with_reducible rfl))
        (try simp only [Act.put, List.setIfInBounds_toArray, List.set_cons_zero, List.set_cons_succ])
        refine wpAnyH_take (i := 1) (oi := ⟨some 57, _, _, _, _, _⟩) (v := ?_) rfl (by kernel_rfl) (by kernel_rfl) (by kernel_rfl) (fun _ _ _ h => h) (Or.inl ⟨by kernel_rfl, ?_⟩) (by assumption) ?_
        rotate_left 1
        · ((intro w hSw; (try dsimp only at hSw); go_simp) <;> (try with_reducible rfl))
        (try simp only [Act.put, List.setIfInBounds_toArray, List.set_cons_zero, List.set_cons_succ])
        refine wpAnyH_take (i := 3) (oi := ⟨some 59, _, _, _, _, _⟩) (v := ?_) rfl (by kernel_rfl) (by kernel_rfl) (by kernel_rfl) (fun _ _ _ h => h) (Or.inl ⟨by kernel_rfl, ?_⟩) (by assumption) ?_
        rotate_left 1
        · ((intro w hSw; (try dsimp only at hSw); go_simp) <;> (try with_reducible rfl))
        (try simp only [Act.put, List.setIfInBounds_toArray, List.set_cons_zero, List.set_cons_succ])
        refine wpAnyH_take (i := 4) (oi := ⟨some 60, _, _, _, _, _⟩) (v := ?_) rfl (by kernel_rfl) (by kernel_rfl) (by kernel_rfl) (fun _ _ _ h => h) (Or.inl ⟨by kernel_rfl, ?_⟩) (by assumption) ?_
        rotate_left 1
        · ((intro w hSw; (try dsimp only at hSw); go_simp) <;> (try with_reducible rfl))
        (try simp only [Act.put, List.setIfInBounds_toArray, List.set_cons_zero, List.set_cons_succ])
        refine wpAnyH_ready (rs := [2]) (by kernel_rfl) (by simp) ?_
        refine AllReadyH.cons (o := ⟨some 58, _, _, _, _, _⟩) rfl (fun K hK => ?_) AllReadyH.nil
        go_simp
        (refine (HHC.out _).mono ?_; rintro e w1 ⟨rfl, hb⟩)
        go_wp2_with fail
        refine hK.out _ _ ?_ (fun hHeld => ?_)
        · exact ⟨keep_cell hb hHeld.1, keep_cell hb hHeld.2.1, keep_cell hb hHeld.2.2.1, keep_cell hb hHeld.2.2.2.1, keep_cell hb hHeld.2.2.2.2.1, keep_cell hb hHeld.2.2.2.2.2.1, keep_cell hb hHeld.2.2.2.2.2.2.1, keep_cell hb hHeld.2.2.2.2.2.2.2.1, Below.call hHeld.2.2.2.2.2.2.2.2 hb⟩
        clear hK K
        (try simp only [Act.put, List.setIfInBounds_toArray, List.set_cons_zero, List.set_cons_succ])
        refine wpAnyH_ready (rs := [5]) (by kernel_rfl) (by simp) ?_
        refine AllReadyH.cons (o := ⟨some 61, _, _, _, _, _⟩) rfl (fun K hK => ?_) AllReadyH.nil
        go_simp
        (refine (HRA.out _).mono ?_; rintro e w1 ⟨rfl, hb⟩)
        go_wp2_with fail
        refine hK.out _ _ ?_ (fun hHeld => ?_)
        · exact ⟨keep_cell hb hHeld.1, keep_cell hb hHeld.2.1, keep_cell hb hHeld.2.2.1, keep_cell hb hHeld.2.2.2.1, keep_cell hb hHeld.2.2.2.2.1, keep_cell hb hHeld.2.2.2.2.2.1, keep_cell hb hHeld.2.2.2.2.2.2.1, keep_cell hb hHeld.2.2.2.2.2.2.2.1, Below.call hHeld.2.2.2.2.2.2.2.2 hb⟩
        clear hK K
        (try simp only [Act.put, List.setIfInBounds_toArray, List.set_cons_zero, List.set_cons_succ])
        refine wpAnyH_take (i := 6) (oi := ⟨some 62, _, _, _, _, _⟩) (v := ?_) rfl (by kernel_rfl) (by kernel_rfl) (by kernel_rfl) (fun _ _ _ h => h) (Or.inl ⟨by kernel_rfl, ?_⟩) (by assumption) ?_
        rotate_left 1
        · ((intro w hSw; (try dsimp only at hSw); go_simp) <;> (try with_reducible rfl))
        (try simp only [Act.put, List.setIfInBounds_toArray, List.set_cons_zero, List.set_cons_succ])
        refine wpAnyH_take (i := 7) (oi := ⟨some 63, _, _, _, _, _⟩) (v := undef) rfl (by kernel_rfl) (by kernel_rfl) (by kernel_rfl) (fun _ _ _ h => h) (Or.inr ⟨by kernel_rfl, rfl⟩) (by assumption) ?_
        (try simp only [Act.put, List.setIfInBounds_toArray, List.set_cons_zero, List.set_cons_succ])
        refine wpAnyH_take (i := 8) (oi := ⟨some 64, _, _, _, _, _⟩) (v := undef) rfl (by kernel_rfl) (by kernel_rfl) (by kernel_rfl) (fun _ _ _ h => h) (Or.inr ⟨by kernel_rfl, rfl⟩) (by assumption) ?_
        (try simp only [Act.put, List.setIfInBounds_toArray, List.set_cons_zero, List.set_cons_succ])
        refine wpAnyH_take (i := 9) (oi := ⟨some 65, _, _, _, _, _⟩) (v := undef) rfl (by kernel_rfl) (by kernel_rfl) (by kernel_rfl) (fun _ _ _ h => h) (Or.inr ⟨by kernel_rfl, rfl⟩) (by assumption) ?_
        (try simp only [Act.put, List.setIfInBounds_toArray, List.set_cons_zero, List.set_cons_succ])
        refine wpAnyH_take (i := 10) (oi := ⟨some 66, _, _, _, _, _⟩) (v := ?_) rfl (by kernel_rfl) (by kernel_rfl) (by kernel_rfl) (fun _ _ _ h => h) (Or.inl ⟨by kernel_rfl, ?_⟩) (by assumption) ?_
        rotate_left 1
        · ((intro w hSw; (try dsimp only at hSw); go_simp) <;> (try with_reducible rfl))
        (try simp only [Act.put, List.setIfInBounds_toArray, List.set_cons_zero, List.set_cons_succ])
        refine wpAnyH_take (i := 11) (oi := ⟨some 67, _, _, _, _, _⟩) (v := ?_) rfl (by kernel_rfl) (by kernel_rfl) (by kernel_rfl) (fun _ _ _ h => h) (Or.inl ⟨by kernel_rfl, ?_⟩) (by assumption) ?_
        rotate_left 1
        · ((intro w hSw; (try dsimp only at hSw); go_simp) <;> (try with_reducible rfl))
        (try simp only [Act.put, List.setIfInBounds_toArray, List.set_cons_zero, List.set_cons_succ])
        refine wpAnyH_done (by kernel_rfl) ?_ _
        obtain ⟨p0, p1, q0, q1, x0, x1, y0, y1, LL⟩ := hHeld
        have HLL := Lib.hid LL
        clear LL
        go_wp2_with fail
        refine (HRA.out _).mono ?_
        rintro e w1 ⟨rfl, hb⟩
        replace p0 := keep_cell hb p0
        replace p1 := keep_cell hb p1
        replace q0 := keep_cell hb q0
        replace q1 := keep_cell hb q1
        replace x0 := keep_cell hb x0
        replace x1 := keep_cell hb x1
        replace y0 := keep_cell hb y0
        replace y1 := keep_cell hb y1
        replace HLL := Lib.hid (Below.call HLL.out hb)
        clear hb
        go_wp2_with fail
        refine (HRB.out _).mono ?_
        rintro e w1 ⟨rfl, hb⟩
        replace p0 := keep_cell hb p0
        replace p1 := keep_cell hb p1
        replace q0 := keep_cell hb q0
        replace q1 := keep_cell hb q1
        replace x0 := keep_cell hb x0
        replace x1 := keep_cell hb x1
        replace y0 := keep_cell hb y0
        replace y1 := keep_cell hb y1
        replace HLL := Lib.hid (Below.call HLL.out hb)
        clear hb
        go_wp2_with fail
        refine (HHH.out _).mono ?_
        rintro e w1 ⟨rfl, hb⟩
        replace p0 := keep_cell hb p0
        replace p1 := keep_cell hb p1
        replace q0 := keep_cell hb q0
        replace q1 := keep_cell hb q1
        replace x0 := keep_cell hb x0
        replace x1 := keep_cell hb x1
        replace y0 := keep_cell hb y0
        replace y1 := keep_cell hb y1
        replace HLL := Lib.hid (Below.call HLL.out hb)
        clear hb
        go_wp2
        go_ret
        exact ⟨ret_b rfl, Below.call HK2.out HLL.out⟩
    · cases hb'
      · have ec : hc = false := EC.out
        subst ec
        have eh : hh = true := EH.out (by simp)
        subst eh
        clear EC EH
        go_wp2_with fail
        refine wp_region_held_drew (S := fun w' => w'.cell? ⟨w.heap.size, 0, none⟩ = some (.int .i64 a1) ∧ w'.cell? ⟨w.heap.size, 1, none⟩ = some (.int .i64 a2) ∧ w'.cell? ⟨w.heap.size + 1, 0, none⟩ = some (.int .i64 b1) ∧ w'.cell? ⟨w.heap.size + 1, 1, none⟩ = some (.int .i64 b2) ∧ w'.cell? ⟨B7, 0, none⟩ = some (.int .i64 c1) ∧ w'.cell? ⟨B7, 1, none⟩ = some (.int .i64 c2) ∧ w'.cell? ⟨B8, 0, none⟩ = some (.int .i64 h1) ∧ w'.cell? ⟨B8, 1, none⟩ = some (.int .i64 h2) ∧ Below wr.heap.size wr w') (by kernel_rfl) ?_ (fun hHeld => ?_)
        · exact ⟨p0, p1, q0, q1, x0, x1, y0, y1, LL.drew⟩
        refine wpAnyH_take (i := 0) (oi := ⟨some 56, _, _, _, _, _⟩) (v := ?_) rfl (by kernel_rfl) (by kernel_rfl) (by kernel_rfl) (fun _ _ _ h => h) (Or.inl ⟨by kernel_rfl, ?_⟩) (by assumption) ?_
        rotate_left 1
        · ((intro w hSw; (try dsimp only at hSw); go_simp) <;> (try with_reducible rfl))
        (try simp only [Act.put, List.setIfInBounds_toArray, List.set_cons_zero, List.set_cons_succ])
        refine wpAnyH_take (i := 1) (oi := ⟨some 57, _, _, _, _, _⟩) (v := ?_) rfl (by kernel_rfl) (by kernel_rfl) (by kernel_rfl) (fun _ _ _ h => h) (Or.inl ⟨by kernel_rfl, ?_⟩) (by assumption) ?_
        rotate_left 1
        · ((intro w hSw; (try dsimp only at hSw); go_simp) <;> (try with_reducible rfl))
        (try simp only [Act.put, List.setIfInBounds_toArray, List.set_cons_zero, List.set_cons_succ])
        refine wpAnyH_take (i := 3) (oi := ⟨some 59, _, _, _, _, _⟩) (v := ?_) rfl (by kernel_rfl) (by kernel_rfl) (by kernel_rfl) (fun _ _ _ h => h) (Or.inl ⟨by kernel_rfl, ?_⟩) (by assumption) ?_
        rotate_left 1
        · ((intro w hSw; (try dsimp only at hSw); go_simp) <;> (try with_reducible rfl))
        (try simp only [Act.put, List.setIfInBounds_toArray, List.set_cons_zero, List.set_cons_succ])
        refine wpAnyH_take (i := 4) (oi := ⟨some 60, _, _, _, _, _⟩) (v := ?_) rfl (by kernel_rfl) (by kernel_rfl) (by kernel_rfl) (fun _ _ _ h => h) (Or.inl ⟨by kernel_rfl, ?_⟩) (by assumption) ?_
        rotate_left 1
        · ((intro w hSw; (try dsimp only at hSw); go_simp) <;> (try with_reducible rfl))
        (try simp only [Act.put, List.setIfInBounds_toArray, List.set_cons_zero, List.set_cons_succ])
        refine wpAnyH_ready (rs := [2]) (by kernel_rfl) (by simp) ?_
        refine AllReadyH.cons (o := ⟨some 58, _, _, _, _, _⟩) rfl (fun K hK => ?_) AllReadyH.nil
        go_simp
        (refine (HHC.out _).mono ?_; rintro e w1 ⟨rfl, hb⟩)
        go_wp2_with fail
        refine hK.out _ _ ?_ (fun hHeld => ?_)
        · exact ⟨keep_cell hb hHeld.1, keep_cell hb hHeld.2.1, keep_cell hb hHeld.2.2.1, keep_cell hb hHeld.2.2.2.1, keep_cell hb hHeld.2.2.2.2.1, keep_cell hb hHeld.2.2.2.2.2.1, keep_cell hb hHeld.2.2.2.2.2.2.1, keep_cell hb hHeld.2.2.2.2.2.2.2.1, Below.call hHeld.2.2.2.2.2.2.2.2 hb⟩
        clear hK K
        (try simp only [Act.put, List.setIfInBounds_toArray, List.set_cons_zero, List.set_cons_succ])
        refine wpAnyH_ready (rs := [5]) (by kernel_rfl) (by simp) ?_
        refine AllReadyH.cons (o := ⟨some 61, _, _, _, _, _⟩) rfl (fun K hK => ?_) AllReadyH.nil
        go_simp
        (refine (HRA.out _).mono ?_; rintro e w1 ⟨rfl, hb⟩)
        go_wp2_with fail
        refine hK.out _ _ ?_ (fun hHeld => ?_)
        · exact ⟨keep_cell hb hHeld.1, keep_cell hb hHeld.2.1, keep_cell hb hHeld.2.2.1, keep_cell hb hHeld.2.2.2.1, keep_cell hb hHeld.2.2.2.2.1, keep_cell hb hHeld.2.2.2.2.2.1, keep_cell hb hHeld.2.2.2.2.2.2.1, keep_cell hb hHeld.2.2.2.2.2.2.2.1, Below.call hHeld.2.2.2.2.2.2.2.2 hb⟩
        clear hK K
        (try simp only [Act.put, List.setIfInBounds_toArray, List.set_cons_zero, List.set_cons_succ])
        refine wpAnyH_take (i := 6) (oi := ⟨some 62, _, _, _, _, _⟩) (v := ?_) rfl (by kernel_rfl) (by kernel_rfl) (by kernel_rfl) (fun _ _ _ h => h) (Or.inl ⟨by kernel_rfl, ?_⟩) (by assumption) ?_
        rotate_left 1
        · ((intro w hSw; (try dsimp only at hSw); go_simp) <;> (try with_reducible rfl))
        (try simp only [Act.put, List.setIfInBounds_toArray, List.set_cons_zero, List.set_cons_succ])
        refine wpAnyH_take (i := 7) (oi := ⟨some 63, _, _, _, _, _⟩) (v := ?_) rfl (by kernel_rfl) (by kernel_rfl) (by kernel_rfl) (fun _ _ _ h => h) (Or.inl ⟨by kernel_rfl, ?_⟩) (by assumption) ?_
        rotate_left 1
        · ((intro w hSw; (try dsimp only at hSw); go_simp) <;> (try with_reducible rfl))
        (try simp only [Act.put, List.setIfInBounds_toArray, List.set_cons_zero, List.set_cons_succ])
        refine wpAnyH_take (i := 8) (oi := ⟨some 64, _, _, _, _, _⟩) (v := ?_) rfl (by kernel_rfl) (by kernel_rfl) (by kernel_rfl) (fun _ _ _ h => h) (Or.inl ⟨by kernel_rfl, ?_⟩) (by assumption) ?_
        rotate_left 1
        · ((intro w hSw; (try dsimp only at hSw); go_simp) <;> (try with_reducible rfl))
        (try simp only [Act.put, List.setIfInBounds_toArray, List.set_cons_zero, List.set_cons_succ])
        refine wpAnyH_ready (rs := [9]) (by kernel_rfl) (by simp) ?_
        refine AllReadyH.cons (o := ⟨some 65, _, _, _, _, _⟩) rfl (fun K hK => ?_) AllReadyH.nil
        go_simp
        (refine (HRB.out _).mono ?_; rintro e w1 ⟨rfl, hb⟩)
        go_wp2_with fail
        refine hK.out _ _ ?_ (fun hHeld => ?_)
        · exact ⟨keep_cell hb hHeld.1, keep_cell hb hHeld.2.1, keep_cell hb hHeld.2.2.1, keep_cell hb hHeld.2.2.2.1, keep_cell hb hHeld.2.2.2.2.1, keep_cell hb hHeld.2.2.2.2.2.1, keep_cell hb hHeld.2.2.2.2.2.2.1, keep_cell hb hHeld.2.2.2.2.2.2.2.1, Below.call hHeld.2.2.2.2.2.2.2.2 hb⟩
        clear hK K
        (try simp only [Act.put, List.setIfInBounds_toArray, List.set_cons_zero, List.set_cons_succ])
        refine wpAnyH_take (i := 10) (oi := ⟨some 66, _, _, _, _, _⟩) (v := ?_) rfl (by kernel_rfl) (by kernel_rfl) (by kernel_rfl) (fun _ _ _ h => h) (Or.inl ⟨by kernel_rfl, ?_⟩) (by assumption) ?_
        rotate_left 1
        · ((intro w hSw; (try dsimp only at hSw); go_simp) <;> (try with_reducible rfl))
        (try simp only [Act.put, List.setIfInBounds_toArray, List.set_cons_zero, List.set_cons_succ])
        refine wpAnyH_take (i := 11) (oi := ⟨some 67, _, _, _, _, _⟩) (v := ?_) rfl (by kernel_rfl) (by kernel_rfl) (by kernel_rfl) (fun _ _ _ h => h) (Or.inl ⟨by kernel_rfl, ?_⟩) (by assumption) ?_
        rotate_left 1
        · ((intro w hSw; (try dsimp only at hSw); go_simp) <;> (try with_reducible rfl))
        (try simp only [Act.put, List.setIfInBounds_toArray, List.set_cons_zero, List.set_cons_succ])
        refine wpAnyH_done (by kernel_rfl) ?_ _
        obtain ⟨p0, p1, q0, q1, x0, x1, y0, y1, LL⟩ := hHeld
        have HLL := Lib.hid LL
        clear LL
        go_wp2_with fail
        refine (HRA.out _).mono ?_
        rintro e w1 ⟨rfl, hb⟩
        replace p0 := keep_cell hb p0
        replace p1 := keep_cell hb p1
        replace q0 := keep_cell hb q0
        replace q1 := keep_cell hb q1
        replace x0 := keep_cell hb x0
        replace x1 := keep_cell hb x1
        replace y0 := keep_cell hb y0
        replace y1 := keep_cell hb y1
        replace HLL := Lib.hid (Below.call HLL.out hb)
        clear hb
        go_wp2_with fail
        refine (HHH.out _).mono ?_
        rintro e w1 ⟨rfl, hb⟩
        replace p0 := keep_cell hb p0
        replace p1 := keep_cell hb p1
        replace q0 := keep_cell hb q0
        replace q1 := keep_cell hb q1
        replace x0 := keep_cell hb x0
        replace x1 := keep_cell hb x1
        replace y0 := keep_cell hb y0
        replace y1 := keep_cell hb y1
        replace HLL := Lib.hid (Below.call HLL.out hb)
        clear hb
        go_wp2
        go_ret
        exact ⟨ret_b rfl, Below.call HK2.out HLL.out⟩
      · have ec : hc = true := EC.out
        subst ec
        have eh : hh = true := EH.out (by simp)
        subst eh
        clear EC EH
        go_wp2_with fail
        refine wp_region_held_drew (S := fun w' => w'.cell? ⟨w.heap.size, 0, none⟩ = some (.int .i64 a1) ∧ w'.cell? ⟨w.heap.size, 1, none⟩ = some (.int .i64 a2) ∧ w'.cell? ⟨w.heap.size + 1, 0, none⟩ = some (.int .i64 b1) ∧ w'.cell? ⟨w.heap.size + 1, 1, none⟩ = some (.int .i64 b2) ∧ w'.cell? ⟨B7, 0, none⟩ = some (.int .i64 c1) ∧ w'.cell? ⟨B7, 1, none⟩ = some (.int .i64 c2) ∧ w'.cell? ⟨B8, 0, none⟩ = some (.int .i64 h1) ∧ w'.cell? ⟨B8, 1, none⟩ = some (.int .i64 h2) ∧ Below wr.heap.size wr w') (by kernel_rfl) ?_ (fun hHeld => ?_)
        · exact ⟨p0, p1, q0, q1, x0, x1, y0, y1, LL.drew⟩
        refine wpAnyH_take (i := 0) (oi := ⟨some 56, _, _, _, _, _⟩) (v := ?_) rfl (by kernel_rfl) (by kernel_rfl) (by kernel_rfl) (fun _ _ _ h => h) (Or.inl ⟨by kernel_rfl, ?_⟩) (by assumption) ?_
        rotate_left 1
        · ((intro w hSw; (try dsimp only at hSw); go_simp) <;> (try with_reducible rfl))
        (try simp only [Act.put, List.setIfInBounds_toArray, List.set_cons_zero, List.set_cons_succ])
        refine wpAnyH_take (i := 1) (oi := ⟨some 57, _, _, _, _, _⟩) (v := ?_) rfl (by kernel_rfl) (by kernel_rfl) (by kernel_rfl) (fun _ _ _ h => h) (Or.inl ⟨by kernel_rfl, ?_⟩) (by assumption) ?_
        rotate_left 1
        · ((intro w hSw; (try dsimp only at hSw); go_simp) <;> (try with_reducible rfl))
        (try simp only [Act.put, List.setIfInBounds_toArray, List.set_cons_zero, List.set_cons_succ])
        refine wpAnyH_take (i := 3) (oi := ⟨some 59, _, _, _, _, _⟩) (v := ?_) rfl (by kernel_rfl) (by kernel_rfl) (by kernel_rfl) (fun _ _ _ h => h) (Or.inl ⟨by kernel_rfl, ?_⟩) (by assumption) ?_
        rotate_left 1
        · ((intro w hSw; (try dsimp only at hSw); go_simp) <;> (try with_reducible rfl))
        (try simp only [Act.put, List.setIfInBounds_toArray, List.set_cons_zero, List.set_cons_succ])
        refine wpAnyH_take (i := 4) (oi := ⟨some 60, _, _, _, _, _⟩) (v := ?_) rfl (by kernel_rfl) (by kernel_rfl) (by kernel_rfl) (fun _ _ _ h => h) (Or.inl ⟨by kernel_rfl, ?_⟩) (by assumption) ?_
        rotate_left 1
        · ((intro w hSw; (try dsimp only at hSw); go_simp) <;> (try with_reducible rfl))
        (try simp only [Act.put, List.setIfInBounds_toArray, List.set_cons_zero, List.set_cons_succ])
        refine wpAnyH_ready (rs := [2]) (by kernel_rfl) (by simp) ?_
        refine AllReadyH.cons (o := ⟨some 58, _, _, _, _, _⟩) rfl (fun K hK => ?_) AllReadyH.nil
        go_simp
        (refine (HHC.out _).mono ?_; rintro e w1 ⟨rfl, hb⟩)
        go_wp2_with fail
        refine hK.out _ _ ?_ (fun hHeld => ?_)
        · exact ⟨keep_cell hb hHeld.1, keep_cell hb hHeld.2.1, keep_cell hb hHeld.2.2.1, keep_cell hb hHeld.2.2.2.1, keep_cell hb hHeld.2.2.2.2.1, keep_cell hb hHeld.2.2.2.2.2.1, keep_cell hb hHeld.2.2.2.2.2.2.1, keep_cell hb hHeld.2.2.2.2.2.2.2.1, Below.call hHeld.2.2.2.2.2.2.2.2 hb⟩
        clear hK K
        (try simp only [Act.put, List.setIfInBounds_toArray, List.set_cons_zero, List.set_cons_succ])
        refine wpAnyH_ready (rs := [5]) (by kernel_rfl) (by simp) ?_
        refine AllReadyH.cons (o := ⟨some 61, _, _, _, _, _⟩) rfl (fun K hK => ?_) AllReadyH.nil
        go_simp
        (refine (HRA.out _).mono ?_; rintro e w1 ⟨rfl, hb⟩)
        go_wp2_with fail
        refine hK.out _ _ ?_ (fun hHeld => ?_)
        · exact ⟨keep_cell hb hHeld.1, keep_cell hb hHeld.2.1, keep_cell hb hHeld.2.2.1, keep_cell hb hHeld.2.2.2.1, keep_cell hb hHeld.2.2.2.2.1, keep_cell hb hHeld.2.2.2.2.2.1, keep_cell hb hHeld.2.2.2.2.2.2.1, keep_cell hb hHeld.2.2.2.2.2.2.2.1, Below.call hHeld.2.2.2.2.2.2.2.2 hb⟩
        clear hK K
        (try simp only [Act.put, List.setIfInBounds_toArray, List.set_cons_zero, List.set_cons_succ])
        refine wpAnyH_take (i := 6) (oi := ⟨some 62, _, _, _, _, _⟩) (v := ?_) rfl (by kernel_rfl) (by kernel_rfl) (by kernel_rfl) (fun _ _ _ h => h) (Or.inl ⟨by kernel_rfl, ?_⟩) (by assumption) ?_
        rotate_left 1
        · ((intro w hSw; (try dsimp only at hSw); go_simp) <;> (try with_reducible rfl))
        (try simp only [Act.put, List.setIfInBounds_toArray, List.set_cons_zero, List.set_cons_succ])
        refine wpAnyH_take (i := 7) (oi := ⟨some 63, _, _, _, _, _⟩) (v := ?_) rfl (by kernel_rfl) (by kernel_rfl) (by kernel_rfl) (fun _ _ _ h => h) (Or.inl ⟨by kernel_rfl, ?_⟩) (by assumption) ?_
        rotate_left 1
        · ((intro w hSw; (try dsimp only at hSw); go_simp) <;> (try with_reducible rfl))
        (try simp only [Act.put, List.setIfInBounds_toArray, List.set_cons_zero, List.set_cons_succ])
        refine wpAnyH_take (i := 8) (oi := ⟨some 64, _, _, _, _, _⟩) (v := ?_) rfl (by kernel_rfl) (by kernel_rfl) (by kernel_rfl) (fun _ _ _ h => h) (Or.inl ⟨by kernel_rfl, ?_⟩) (by assumption) ?_
        rotate_left 1
        · ((intro w hSw; (try dsimp only at hSw); go_simp) <;> (try with_reducible rfl))
        (try simp only [Act.put, List.setIfInBounds_toArray, List.set_cons_zero, List.set_cons_succ])
        refine wpAnyH_ready (rs := [9]) (by kernel_rfl) (by simp) ?_
        refine AllReadyH.cons (o := ⟨some 65, _, _, _, _, _⟩) rfl (fun K hK => ?_) AllReadyH.nil
        go_simp
        (refine (HRB.out _).mono ?_; rintro e w1 ⟨rfl, hb⟩)
        go_wp2_with fail
        refine hK.out _ _ ?_ (fun hHeld => ?_)
        · exact ⟨keep_cell hb hHeld.1, keep_cell hb hHeld.2.1, keep_cell hb hHeld.2.2.1, keep_cell hb hHeld.2.2.2.1, keep_cell hb hHeld.2.2.2.2.1, keep_cell hb hHeld.2.2.2.2.2.1, keep_cell hb hHeld.2.2.2.2.2.2.1, keep_cell hb hHeld.2.2.2.2.2.2.2.1, Below.call hHeld.2.2.2.2.2.2.2.2 hb⟩
        clear hK K
        (try simp only [Act.put, List.setIfInBounds_toArray, List.set_cons_zero, List.set_cons_succ])
        refine wpAnyH_take (i := 10) (oi := ⟨some 66, _, _, _, _, _⟩) (v := ?_) rfl (by kernel_rfl) (by kernel_rfl) (by kernel_rfl) (fun _ _ _ h => h) (Or.inl ⟨by kernel_rfl, ?_⟩) (by assumption) ?_
        rotate_left 1
        · ((intro w hSw; (try dsimp only at hSw); go_simp) <;> (try with_reducible rfl))
        (try simp only [Act.put, List.setIfInBounds_toArray, List.set_cons_zero, List.set_cons_succ])
        refine wpAnyH_take (i := 11) (oi := ⟨some 67, _, _, _, _, _⟩) (v := ?_) rfl (by kernel_rfl) (by kernel_rfl) (by kernel_rfl) (fun _ _ _ h => h) (Or.inl ⟨by kernel_rfl, ?_⟩) (by assumption) ?_
        rotate_left 1
        · ((intro w hSw; (try dsimp only at hSw); go_simp) <;> (try with_reducible rfl))
        (try simp only [Act.put, List.setIfInBounds_toArray, List.set_cons_zero, List.set_cons_succ])
        refine wpAnyH_done (by kernel_rfl) ?_ _
        obtain ⟨p0, p1, q0, q1, x0, x1, y0, y1, LL⟩ := hHeld
        have HLL := Lib.hid LL
        clear LL
        go_wp2_with fail
        refine (HRA.out _).mono ?_
        rintro e w1 ⟨rfl, hb⟩
        replace p0 := keep_cell hb p0
        replace p1 := keep_cell hb p1
        replace q0 := keep_cell hb q0
        replace q1 := keep_cell hb q1
        replace x0 := keep_cell hb x0
        replace x1 := keep_cell hb x1
        replace y0 := keep_cell hb y0
        replace y1 := keep_cell hb y1
        replace HLL := Lib.hid (Below.call HLL.out hb)
        clear hb
        go_wp2_with fail
        refine (HHH.out _).mono ?_
        rintro e w1 ⟨rfl, hb⟩
        replace p0 := keep_cell hb p0
        replace p1 := keep_cell hb p1
        replace q0 := keep_cell hb q0
        replace q1 := keep_cell hb q1
        replace x0 := keep_cell hb x0
        replace x1 := keep_cell hb x1
        replace y0 := keep_cell hb y0
        replace y1 := keep_cell hb y1
        replace HLL := Lib.hid (Below.call HLL.out hb)
        clear hb
        go_wp2
        go_ret
        exact ⟨ret_b rfl, Below.call HK2.out HLL.out⟩
end Go.Proofs.Ytchnljdijmgnfaa
