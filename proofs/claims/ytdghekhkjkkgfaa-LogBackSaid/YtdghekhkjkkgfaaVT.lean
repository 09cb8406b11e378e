/- Whoever notes each change tells each volume that there was since the oldest change that is kept, and no older one: the walk. -/
import Derived.Test.YtdghekhkjkkgfaaVS
namespace Go.Proofs.Ytdghekhkjkkgfaa
open Go.RowKit

set_option maxRecDepth 100000 in
set_option maxHeartbeats 4000000 in
theorem logBack_walk (r o : Int) (v : Value) (xs : List Int) (w : World) (hv : KI.IsL w w.heap.size v xs) : Calls Try.prog 5 #[.int .i64 r, .int .i64 o, v] w fun e w' => e = .returned (.bool true) ∧ Below w.heap.size w w' := by
  obtain ⟨A, c, rfl, _⟩ := hv.shape
  have HV := Lib.hid hv
  have hxl := hv.2.2
  have H15 := Lib.hid (fun w => new_any r w)
  have HLV := Lib.hid (fun w => lives11_any w)
  clear hv
  by_cases h1 : 1 ≤ r
  · by_cases h2 : r ≤ 64
    · by_cases h3 : 0 ≤ o
      · by_cases h4 : o ≤ 1099511627776
        · by_cases h5 : xs.length ≤ 300
          · rw [show newE r = 0 from if_pos ⟨h1, h2⟩, show newR r = r from if_pos ⟨h1, h2⟩] at H15
            go_enter Try.func5, Try.ntmps5
            go_wp2_with fail
            refine (H15.out _).mono ?_
            rintro e w1 ⟨rfl, hb1⟩
            have hbv := Below.al hb1 (.cells #[.int .i64 r, .int .i64 0, .slice none 0 0] 24)
            obtain ⟨v1, hv1⟩ : ∃ v1, v1 = w1.alloc (.cells #[.int .i64 r, .int .i64 0, .slice none 0 0] 24) := ⟨_, rfl⟩
            rw [← hv1] at hbv
            have HB1 := Lib.hid hbv
            have HP1 := Lib.hid (show Cells3 v1 w1.heap.size (.int .i64 r) (.int .i64 ((0 : Nat) : Int)) (.slice none 0 0) by rw [hv1]; exact Cells3.new w1 _ _ _ _)
            have hwP : w.heap.size ≤ w1.heap.size := hb1.size
            clear hb1 hbv
            go_wp2_with fail
            rw [← hv1]
            clear hv1
            obtain ⟨P, hP⟩ : ∃ P, w1.heap.size = P := ⟨_, rfl⟩
            rw [hP] at HP1 hwP
            simp only [hP]
            clear hP
            refine (HLV.out _).mono ?_
            rintro e w2 ⟨rfl, hb2⟩
            have HP2 := Lib.hid (HP1.out.below hb2)
            have HB2 := Lib.hid (Below.call HB1.out hb2)
            clear hb2 HP1 HB1
            obtain ⟨W0, hW0⟩ : ∃ W0, W0 = w2.alloc (.cells #[.int .i64 o] 3) := ⟨_, rfl⟩
            have HB0 := Lib.hid (show Below w.heap.size w W0 by rw [hW0]; exact Below.al HB2.out _)
            have HP0 := Lib.hid (show Cells3 W0 P (.int .i64 r) (.int .i64 ((0 : Nat) : Int)) (.slice none 0 0) by rw [hW0]; exact HP2.out.below (Below.al (Below.refl _ _) _))
            have HO0 := Lib.hid (show KI.Own W0 (P + 1) (.slice (some ⟨w2.heap.size, 0, none⟩) 1 1) [o] by rw [hW0]; exact Lk.Own.lit (K := KI) w2 (P + 1) o #[.int .i64 o] (show fits o by unfold fits; omega) rfl HP2.out.2.2.2.2.2.2)
            go_wp2
            rw [← hW0]
            clear hW0 HB2 HP2
            go_loopw [1, 9, 10] (fun tv th ti wr => ∃ (k j : Nat) (L : List Ch) (vol : Int) (had : List Int) (A1 : Option Addr) (c1 : Nat), tv = .int .i64 vol ∧ ti = .int .i64 k ∧ k ≤ xs.length ∧ Bk r k j L vol had ∧ KI.Own wr (P + 1) th had ∧ KC.Own wr (P + 1) (.slice A1 L.length c1) L ∧ ((Value.slice A1 L.length c1).ownBlock = none ∨ (Value.slice A1 L.length c1).ownBlock ≠ th.ownBlock) ∧ Cells3 wr P (.int .i64 r) (.int .i64 (j : Int)) (.slice A1 L.length c1) ∧ Below w.heap.size w wr) (fun _ _ i _ => xs.length - (intOf i).toNat)
            case atStart => exact ⟨0, 0, [], o, [o], none, 0, rfl, rfl, Nat.zero_le _, Bk.start r o h1 h2 h3 h4, HO0.out, Lk.Own.nil _ _, .inl rfl, HP0.out, HB0.out⟩
            case round =>
              obtain ⟨k, j, L, vol, had, A1, c1, rfl, rfl, hk, hbk, hown, hlo, hne, hcp, hbl⟩ := hrel
              have HB := Lib.hid hbl
              have HP := Lib.hid hcp
              have HOwn := Lib.hid hown
              have HLO := Lib.hid hlo
              have HNE := Lib.hid hne
              have HBK := Lib.hid hbk
              obtain ⟨g0, g1, g2, _⟩ := hcp
              have hfv := hbk.vol (by omega)
              have hjk := hbk.le
              clear hbl hown hlo hne hbk
              by_cases hlt : k < xs.length
              · obtain ⟨b', off, cap, e, hcap, hb', _, hcell, hfit⟩ := KI.cells (HV.out.below HB.out) (by omega)
                simp only [Value.slice.injEq] at e
                obtain ⟨rfl, _, rfl⟩ := e
                have e1 := hcell k hlt
                have hfx := hfit k hlt
                clear hcell hfit
                generalize xs.getD k 0 = x at *
                have CK := Lib.hid e1
                have HLr := Lib.hid (HLO.out.isL (by have := HBK.out.small; omega))
                have hbw : b' < wr.heap.size := Nat.lt_of_lt_of_le hb' HB.out.size
                have HW8 := Lib.hid (show IntKind.i64.wrap (1 + (k : Int).tmod 8) = 1 + (k : Int) % 8 by rw [Int.tmod_eq_emod_of_nonneg (by omega)]; exact wrap_fits _ (by unfold fits; omega))
                cases hm : mayB (1 + (k : Int) % 8) x
                · have hE : ntE r j L (1 + (k : Int) % 8) x = 1 := by rw [HBK.out.nt (by omega), hm]; rfl
                  have HK := Lib.hid (show ∀ b : Int, b = 1 + (k : Int) % 8 → ∀ w, KC.IsL w w.heap.size (.slice A1 L.length c1) L → Calls Try.prog 10 #[lgV r j A1 L.length c1, .int .i64 b, .int .i64 x] w fun e w' => e = .returned (.tuple #[lgV 0 0 none 0 0, .int .i64 1]) ∧ Below w.heap.size w w' from fun b hb w h => by
                    have q := note_bad r j A1 c1 L b x (by rw [hb, hE]; decide) w h
                    rw [hb, hE] at q
                    rw [hb]
                    exact q)
                  have hx := of_decide_eq_false hm
                  have hx3 : x = 0 ∨ x < -1099511627776 ∨ 1099511627776 < x := by omega
                  clear hE hm hx
                  rcases hx3 with rfl | hx | hx
                  · go_wp2_with fail
                    refine wp_region_held_drew (S := fun w' => w'.cell? ⟨P, 0, none⟩ = some (.int .i64 r) ∧ w'.cell? ⟨P, 1, none⟩ = some (.int .i64 (j : Int)) ∧ w'.cell? ⟨P, 2, none⟩ = some (.slice A1 L.length c1) ∧ w'.cell? ⟨b', off + k, none⟩ = some (.int .i64 0)) (by kernel_rfl) ?_ (fun hHeld => ?_)
                    · exact ⟨g0, g1, g2, e1⟩
                    refine wpAnyH_take (i := 0) (oi := ⟨some 50, _, _, _, _, _⟩) (v := ?_) rfl (by kernel_rfl) (by kernel_rfl) (by kernel_rfl) (fun _ _ _ h => h) (Or.inl ⟨by kernel_rfl, ?_⟩) (by assumption) ?_
                    rotate_left 1
                    · ((intro w hSw; (try dsimp only at hSw); go_simp) <;> (try with_reducible rfl))
                    (try simp only [Act.put, List.setIfInBounds_toArray, List.set_cons_zero, List.set_cons_succ])
                    refine wpAnyH_take (i := 1) (oi := ⟨some 51, _, _, _, _, _⟩) (v := ?_) rfl (by kernel_rfl) (by kernel_rfl) (by kernel_rfl) (fun _ _ _ h => h) (Or.inl ⟨by kernel_rfl, ?_⟩) (by assumption) ?_
                    rotate_left 1
                    · ((intro w hSw; (try dsimp only at hSw); go_simp) <;> (try with_reducible rfl))
                    (try simp only [Act.put, List.setIfInBounds_toArray, List.set_cons_zero, List.set_cons_succ])
                    refine wpAnyH_take (i := 2) (oi := ⟨some 52, _, _, _, _, _⟩) (v := ?_) rfl (by kernel_rfl) (by kernel_rfl) (by kernel_rfl) (fun _ _ _ h => h) (Or.inl ⟨by kernel_rfl, ?_⟩) (by assumption) ?_
                    rotate_left 1
                    · ((intro w hSw; (try dsimp only at hSw); go_simp) <;> (try with_reducible rfl))
                    (try simp only [Act.put, List.setIfInBounds_toArray, List.set_cons_zero, List.set_cons_succ])
                    refine wpAnyH_take (i := 3) (oi := ⟨some 53, _, _, _, _, _⟩) (v := ?_) rfl (by kernel_rfl) (by kernel_rfl) (by kernel_rfl) (fun _ _ _ h => h) (Or.inl ⟨by kernel_rfl, ?_⟩) (by assumption) ?_
                    rotate_left 1
                    · ((intro w hSw; (try dsimp only at hSw); go_simp) <;> (try with_reducible rfl))
                    (try simp only [Act.put, List.setIfInBounds_toArray, List.set_cons_zero, List.set_cons_succ])
                    refine wpAnyH_take (i := 4) (oi := ⟨some 54, _, _, _, _, _⟩) (v := ?_) rfl (by kernel_rfl) (by kernel_rfl) (by kernel_rfl) (fun _ _ _ h => h) (Or.inl ⟨by kernel_rfl, ?_⟩) (by assumption) ?_
                    rotate_left 1
                    · ((intro w hSw; (try dsimp only at hSw); go_simp) <;> (try with_reducible rfl))
                    (try simp only [Act.put, List.setIfInBounds_toArray, List.set_cons_zero, List.set_cons_succ])
                    refine wpAnyH_take (i := 5) (oi := ⟨some 55, _, _, _, _, _⟩) (v := ?_) rfl (by kernel_rfl) (by kernel_rfl) (by kernel_rfl) (fun _ _ _ h => h) (Or.inl ⟨by kernel_rfl, ?_⟩) (by assumption) ?_
                    rotate_left 1
                    · ((intro w hSw; (try dsimp only at hSw); go_simp) <;> (try with_reducible rfl))
                    (try simp only [Act.put, List.setIfInBounds_toArray, List.set_cons_zero, List.set_cons_succ])
                    refine wpAnyH_take (i := 6) (oi := ⟨some 56, _, _, _, _, _⟩) (v := ?_) rfl (by kernel_rfl) (by kernel_rfl) (by kernel_rfl) (fun _ _ _ h => h) (Or.inl ⟨by kernel_rfl, ?_⟩) (by assumption) ?_
                    rotate_left 1
                    · ((intro w hSw; (try dsimp only at hSw); go_simp) <;> (try with_reducible rfl))
                    (try simp only [Act.put, List.setIfInBounds_toArray, List.set_cons_zero, List.set_cons_succ])
                    refine wpAnyH_take (i := 7) (oi := ⟨some 57, _, _, _, _, _⟩) (v := ?_) rfl (by kernel_rfl) (by kernel_rfl) (by kernel_rfl) (fun _ _ _ h => h) (Or.inl ⟨by kernel_rfl, ?_⟩) (by assumption) ?_
                    rotate_left 1
                    · ((intro w hSw; (try dsimp only at hSw); go_simp) <;> (try with_reducible rfl))
                    (try simp only [Act.put, List.setIfInBounds_toArray, List.set_cons_zero, List.set_cons_succ])
                    simp only [HW8.out]
                    clear g0 g1 g2 e1 hHeld
                    have BV := Lib.hid (show Below wr.heap.size wr wr.drew from (Below.refl _ _).drew)
                    generalize wr.drew = v0 at *
                    refine wpAnyH_ready (rs := [8, 12]) (by kernel_rfl) (by simp) ?_
                    refine AllReadyH.cons (o := ⟨some 58, _, _, _, _, _⟩) rfl (fun K hK => ?_) ?_
                    · go_simp
                      refine (HK.out _ rfl _ (HLr.out.then BV.out)).mono ?_
                      rintro e v1 ⟨rfl, hb⟩
                      have QB1 := Lib.hid (Below.call BV.out hb)
                      clear hb BV
                      go_wp2_with fail
                      refine hK.out _ _ ?_ (fun hHeld => ?_)
                      · exact ⟨keep_cell QB1.out HP.out.1, keep_cell QB1.out HP.out.2.1, keep_cell QB1.out HP.out.2.2.1, keep_cell QB1.out CK.out⟩
                      clear hK K
                      (try simp only [Act.put, List.setIfInBounds_toArray, List.set_cons_zero, List.set_cons_succ])
                      refine wpAnyH_take (i := 9) (oi := ⟨some 49, _, _, _, _, _⟩) (v := ?_) rfl (by kernel_rfl) (by kernel_rfl) (by kernel_rfl) (fun _ _ _ h => h) (Or.inl ⟨by kernel_rfl, ?_⟩) (by assumption) ?_
                      rotate_left 1
                      · ((intro w hSw; (try dsimp only at hSw); go_simp) <;> (try with_reducible rfl))
                      (try simp only [Act.put, List.setIfInBounds_toArray, List.set_cons_zero, List.set_cons_succ])
                      refine wpAnyH_take (i := 10) (oi := ⟨some 59, _, _, _, _, _⟩) (v := ?_) rfl (by kernel_rfl) (by kernel_rfl) (by kernel_rfl) (fun _ _ _ h => h) (Or.inl ⟨by kernel_rfl, ?_⟩) (by assumption) ?_
                      rotate_left 1
                      · ((intro w hSw; (try dsimp only at hSw); go_simp) <;> (try with_reducible rfl))
                      (try simp only [Act.put, List.setIfInBounds_toArray, List.set_cons_zero, List.set_cons_succ])
                      refine wpAnyH_take (i := 11) (oi := ⟨some 60, _, _, _, _, _⟩) (v := ?_) rfl (by kernel_rfl) (by kernel_rfl) (by kernel_rfl) (fun _ _ _ h => h) (Or.inl ⟨by kernel_rfl, ?_⟩) (by assumption) ?_
                      rotate_left 1
                      · ((intro w hSw; (try dsimp only at hSw); go_simp) <;> (try with_reducible rfl))
                      (try simp only [Act.put, List.setIfInBounds_toArray, List.set_cons_zero, List.set_cons_succ])
                      clear hHeld
                      refine wpAnyH_ready (rs := [12]) (by kernel_rfl) (by simp) ?_
                      refine AllReadyH.cons (o := ⟨some 11, _, _, _, _, _⟩) rfl (fun K hK => ?_) AllReadyH.nil
                      go_simp
                      have QB2 := Lib.hid (Below.al QB1.out (.cells #[.int .i64 0, .int .i64 0, .slice none 0 0] 24))
                      have QD2 := Lib.hid (Cells3.new v1 24 (.int .i64 0) (.int .i64 0) (.slice none 0 0))
                      have DL := Lib.hid (show wr.heap.size ≤ v1.heap.size from QB1.out.size)
                      clear QB1
                      generalize v1.alloc (.cells #[.int .i64 0, .int .i64 0, .slice none 0 0] 24) = v2 at *
                      generalize v1.heap.size = D at *
                      refine hK.out _ _ ?_ (fun hHeld => ?_)
                      · exact ⟨keep_cell QB2.out HP.out.1, keep_cell QB2.out HP.out.2.1, keep_cell QB2.out HP.out.2.2.1, keep_cell QB2.out CK.out⟩
                      clear hK K hHeld
                      (try simp only [Act.put, List.setIfInBounds_toArray, List.set_cons_zero, List.set_cons_succ])
                      refine wpAnyH_ready (rs := [13]) (by kernel_rfl) (by simp) ?_
                      refine AllReadyH.cons (o := ⟨none, _, _, _, _, _⟩) rfl (fun K hK => ?_) AllReadyH.nil
                      obtain ⟨s0, s1, s2, y0, y1, y2, sl⟩ := QD2.out
                      go_simp
                      clear s0 s1 s2 y0 y1 y2 sl
                      have BX := Lib.hid (below_set3 QB2.out DL.out (.int .i64 0) (.int .i64 0) (.slice none 0 0))
                      have DX := Lib.hid (QD2.out.set (.int .i64 0) (.int .i64 0) (.slice none 0 0))
                      refine hK.out _ _ ?_ (fun hHeld => ?_)
                      · exact ⟨keep_cell BX.out HP.out.1, keep_cell BX.out HP.out.2.1, keep_cell BX.out HP.out.2.2.1, keep_cell BX.out CK.out⟩
                      clear hK K
                      (try simp only [Act.put, List.setIfInBounds_toArray, List.set_cons_zero, List.set_cons_succ])
                      refine wpAnyH_take (i := 14) (oi := ⟨some 12, _, _, _, _, _⟩) (v := ?_) rfl (by kernel_rfl) (by kernel_rfl) (by kernel_rfl) (fun _ _ _ h => h) (Or.inl ⟨by kernel_rfl, ?_⟩) (by assumption) ?_
                      rotate_left 1
                      · ((intro w hSw; (try dsimp only at hSw); go_simp) <;> (try with_reducible rfl))
                      (try simp only [Act.put, List.setIfInBounds_toArray, List.set_cons_zero, List.set_cons_succ])
                      refine wpAnyH_done (by kernel_rfl) ?_ _
                      clear hHeld QB2 QD2
                      generalize ((v2.setCell ⟨D, 0, none⟩ (.int .i64 0)).setCell ⟨D, 1, none⟩ (.int .i64 0)).setCell ⟨D, 2, none⟩ (.slice none 0 0) = vx at *
                      have HOx := Lib.hid (HOwn.out.below BX.out)
                      have HPx := Lib.hid (HP.out.below BX.out)
                      have HLx := Lib.hid (HLO.out.below BX.out)
                      have HBx := Lib.hid (Below.call HB.out BX.out)
                      have ex := keep_cell BX.out CK.out
                      clear BX DX DL
                      go_wp2_with fail
                      go_roundw
                      case rel => exact ⟨k + 1, j, L, vol, had, A1, c1, rfl, num_i (by omega), by omega, HBK.out.skip, HOx.out, HLx.out, HNE.out, HPx.out, HBx.out⟩
                      case measure => simp [intOf]; omega
                    refine AllReadyH.cons (o := ⟨some 11, _, _, _, _, _⟩) rfl (fun K hK => ?_) ?_
                    · go_simp
                      have QB3 := Lib.hid (Below.al BV.out (.cells #[.int .i64 0, .int .i64 0, .slice none 0 0] 24))
                      have QD3 := Lib.hid (Cells3.new v0 24 (.int .i64 0) (.int .i64 0) (.slice none 0 0))
                      have DL := Lib.hid (show wr.heap.size ≤ v0.heap.size from BV.out.size)
                      clear BV
                      generalize v0.alloc (.cells #[.int .i64 0, .int .i64 0, .slice none 0 0] 24) = v3 at *
                      generalize v0.heap.size = D at *
                      refine hK.out _ _ ?_ (fun hHeld => ?_)
                      · exact ⟨keep_cell QB3.out HP.out.1, keep_cell QB3.out HP.out.2.1, keep_cell QB3.out HP.out.2.2.1, keep_cell QB3.out CK.out⟩
                      clear hK K hHeld
                      (try simp only [Act.put, List.setIfInBounds_toArray, List.set_cons_zero, List.set_cons_succ])
                      refine wpAnyH_ready (rs := [8]) (by kernel_rfl) (by simp) ?_
                      refine AllReadyH.cons (o := ⟨some 58, _, _, _, _, _⟩) rfl (fun K hK => ?_) AllReadyH.nil
                      go_simp
                      refine (HK.out _ rfl _ (HLr.out.then QB3.out)).mono ?_
                      rintro e v4 ⟨rfl, hb⟩
                      have QB4 := Lib.hid (Below.call QB3.out hb)
                      have QD4 := Lib.hid (QD3.out.below hb)
                      clear hb QB3 QD3
                      go_wp2_with fail
                      refine hK.out _ _ ?_ (fun hHeld => ?_)
                      · exact ⟨keep_cell QB4.out HP.out.1, keep_cell QB4.out HP.out.2.1, keep_cell QB4.out HP.out.2.2.1, keep_cell QB4.out CK.out⟩
                      clear hK K
                      (try simp only [Act.put, List.setIfInBounds_toArray, List.set_cons_zero, List.set_cons_succ])
                      refine wpAnyH_take (i := 9) (oi := ⟨some 49, _, _, _, _, _⟩) (v := ?_) rfl (by kernel_rfl) (by kernel_rfl) (by kernel_rfl) (fun _ _ _ h => h) (Or.inl ⟨by kernel_rfl, ?_⟩) (by assumption) ?_
                      rotate_left 1
                      · ((intro w hSw; (try dsimp only at hSw); go_simp) <;> (try with_reducible rfl))
                      (try simp only [Act.put, List.setIfInBounds_toArray, List.set_cons_zero, List.set_cons_succ])
                      refine wpAnyH_take (i := 10) (oi := ⟨some 59, _, _, _, _, _⟩) (v := ?_) rfl (by kernel_rfl) (by kernel_rfl) (by kernel_rfl) (fun _ _ _ h => h) (Or.inl ⟨by kernel_rfl, ?_⟩) (by assumption) ?_
                      rotate_left 1
                      · ((intro w hSw; (try dsimp only at hSw); go_simp) <;> (try with_reducible rfl))
                      (try simp only [Act.put, List.setIfInBounds_toArray, List.set_cons_zero, List.set_cons_succ])
                      refine wpAnyH_take (i := 11) (oi := ⟨some 60, _, _, _, _, _⟩) (v := ?_) rfl (by kernel_rfl) (by kernel_rfl) (by kernel_rfl) (fun _ _ _ h => h) (Or.inl ⟨by kernel_rfl, ?_⟩) (by assumption) ?_
                      rotate_left 1
                      · ((intro w hSw; (try dsimp only at hSw); go_simp) <;> (try with_reducible rfl))
                      (try simp only [Act.put, List.setIfInBounds_toArray, List.set_cons_zero, List.set_cons_succ])
                      clear hHeld
                      refine wpAnyH_ready (rs := [13]) (by kernel_rfl) (by simp) ?_
                      refine AllReadyH.cons (o := ⟨none, _, _, _, _, _⟩) rfl (fun K hK => ?_) AllReadyH.nil
                      obtain ⟨s0, s1, s2, y0, y1, y2, sl⟩ := QD4.out
                      go_simp
                      clear s0 s1 s2 y0 y1 y2 sl
                      have BX := Lib.hid (below_set3 QB4.out DL.out (.int .i64 0) (.int .i64 0) (.slice none 0 0))
                      have DX := Lib.hid (QD4.out.set (.int .i64 0) (.int .i64 0) (.slice none 0 0))
                      refine hK.out _ _ ?_ (fun hHeld => ?_)
                      · exact ⟨keep_cell BX.out HP.out.1, keep_cell BX.out HP.out.2.1, keep_cell BX.out HP.out.2.2.1, keep_cell BX.out CK.out⟩
                      clear hK K
                      (try simp only [Act.put, List.setIfInBounds_toArray, List.set_cons_zero, List.set_cons_succ])
                      refine wpAnyH_take (i := 14) (oi := ⟨some 12, _, _, _, _, _⟩) (v := ?_) rfl (by kernel_rfl) (by kernel_rfl) (by kernel_rfl) (fun _ _ _ h => h) (Or.inl ⟨by kernel_rfl, ?_⟩) (by assumption) ?_
                      rotate_left 1
                      · ((intro w hSw; (try dsimp only at hSw); go_simp) <;> (try with_reducible rfl))
                      (try simp only [Act.put, List.setIfInBounds_toArray, List.set_cons_zero, List.set_cons_succ])
                      refine wpAnyH_done (by kernel_rfl) ?_ _
                      clear hHeld QB4 QD4
                      generalize ((v4.setCell ⟨D, 0, none⟩ (.int .i64 0)).setCell ⟨D, 1, none⟩ (.int .i64 0)).setCell ⟨D, 2, none⟩ (.slice none 0 0) = vx at *
                      have HOx := Lib.hid (HOwn.out.below BX.out)
                      have HPx := Lib.hid (HP.out.below BX.out)
                      have HLx := Lib.hid (HLO.out.below BX.out)
                      have HBx := Lib.hid (Below.call HB.out BX.out)
                      have ex := keep_cell BX.out CK.out
                      clear BX DX DL
                      go_wp2_with fail
                      go_roundw
                      case rel => exact ⟨k + 1, j, L, vol, had, A1, c1, rfl, num_i (by omega), by omega, HBK.out.skip, HOx.out, HLx.out, HNE.out, HPx.out, HBx.out⟩
                      case measure => simp [intOf]; omega
                    exact AllReadyH.nil
                  · go_wp2_with fail
                    refine wp_region_held_drew (S := fun w' => w'.cell? ⟨P, 0, none⟩ = some (.int .i64 r) ∧ w'.cell? ⟨P, 1, none⟩ = some (.int .i64 (j : Int)) ∧ w'.cell? ⟨P, 2, none⟩ = some (.slice A1 L.length c1) ∧ w'.cell? ⟨b', off + k, none⟩ = some (.int .i64 x)) (by kernel_rfl) ?_ (fun hHeld => ?_)
                    · exact ⟨g0, g1, g2, e1⟩
                    refine wpAnyH_take (i := 0) (oi := ⟨some 50, _, _, _, _, _⟩) (v := ?_) rfl (by kernel_rfl) (by kernel_rfl) (by kernel_rfl) (fun _ _ _ h => h) (Or.inl ⟨by kernel_rfl, ?_⟩) (by assumption) ?_
                    rotate_left 1
                    · ((intro w hSw; (try dsimp only at hSw); go_simp) <;> (try with_reducible rfl))
                    (try simp only [Act.put, List.setIfInBounds_toArray, List.set_cons_zero, List.set_cons_succ])
                    refine wpAnyH_take (i := 1) (oi := ⟨some 51, _, _, _, _, _⟩) (v := ?_) rfl (by kernel_rfl) (by kernel_rfl) (by kernel_rfl) (fun _ _ _ h => h) (Or.inl ⟨by kernel_rfl, ?_⟩) (by assumption) ?_
                    rotate_left 1
                    · ((intro w hSw; (try dsimp only at hSw); go_simp) <;> (try with_reducible rfl))
                    (try simp only [Act.put, List.setIfInBounds_toArray, List.set_cons_zero, List.set_cons_succ])
                    refine wpAnyH_take (i := 2) (oi := ⟨some 52, _, _, _, _, _⟩) (v := ?_) rfl (by kernel_rfl) (by kernel_rfl) (by kernel_rfl) (fun _ _ _ h => h) (Or.inl ⟨by kernel_rfl, ?_⟩) (by assumption) ?_
                    rotate_left 1
                    · ((intro w hSw; (try dsimp only at hSw); go_simp) <;> (try with_reducible rfl))
                    (try simp only [Act.put, List.setIfInBounds_toArray, List.set_cons_zero, List.set_cons_succ])
                    refine wpAnyH_take (i := 3) (oi := ⟨some 53, _, _, _, _, _⟩) (v := ?_) rfl (by kernel_rfl) (by kernel_rfl) (by kernel_rfl) (fun _ _ _ h => h) (Or.inl ⟨by kernel_rfl, ?_⟩) (by assumption) ?_
                    rotate_left 1
                    · ((intro w hSw; (try dsimp only at hSw); go_simp) <;> (try with_reducible rfl))
                    (try simp only [Act.put, List.setIfInBounds_toArray, List.set_cons_zero, List.set_cons_succ])
                    refine wpAnyH_take (i := 4) (oi := ⟨some 54, _, _, _, _, _⟩) (v := ?_) rfl (by kernel_rfl) (by kernel_rfl) (by kernel_rfl) (fun _ _ _ h => h) (Or.inl ⟨by kernel_rfl, ?_⟩) (by assumption) ?_
                    rotate_left 1
                    · ((intro w hSw; (try dsimp only at hSw); go_simp) <;> (try with_reducible rfl))
                    (try simp only [Act.put, List.setIfInBounds_toArray, List.set_cons_zero, List.set_cons_succ])
                    refine wpAnyH_take (i := 5) (oi := ⟨some 55, _, _, _, _, _⟩) (v := ?_) rfl (by kernel_rfl) (by kernel_rfl) (by kernel_rfl) (fun _ _ _ h => h) (Or.inl ⟨by kernel_rfl, ?_⟩) (by assumption) ?_
                    rotate_left 1
                    · ((intro w hSw; (try dsimp only at hSw); go_simp) <;> (try with_reducible rfl))
                    (try simp only [Act.put, List.setIfInBounds_toArray, List.set_cons_zero, List.set_cons_succ])
                    refine wpAnyH_take (i := 6) (oi := ⟨some 56, _, _, _, _, _⟩) (v := ?_) rfl (by kernel_rfl) (by kernel_rfl) (by kernel_rfl) (fun _ _ _ h => h) (Or.inl ⟨by kernel_rfl, ?_⟩) (by assumption) ?_
                    rotate_left 1
                    · ((intro w hSw; (try dsimp only at hSw); go_simp) <;> (try with_reducible rfl))
                    (try simp only [Act.put, List.setIfInBounds_toArray, List.set_cons_zero, List.set_cons_succ])
                    refine wpAnyH_take (i := 7) (oi := ⟨some 57, _, _, _, _, _⟩) (v := ?_) rfl (by kernel_rfl) (by kernel_rfl) (by kernel_rfl) (fun _ _ _ h => h) (Or.inl ⟨by kernel_rfl, ?_⟩) (by assumption) ?_
                    rotate_left 1
                    · ((intro w hSw; (try dsimp only at hSw); go_simp) <;> (try with_reducible rfl))
                    (try simp only [Act.put, List.setIfInBounds_toArray, List.set_cons_zero, List.set_cons_succ])
                    simp only [HW8.out]
                    clear g0 g1 g2 e1 hHeld
                    have BV := Lib.hid (show Below wr.heap.size wr wr.drew from (Below.refl _ _).drew)
                    generalize wr.drew = v0 at *
                    refine wpAnyH_ready (rs := [8, 12]) (by kernel_rfl) (by simp) ?_
                    refine AllReadyH.cons (o := ⟨some 58, _, _, _, _, _⟩) rfl (fun K hK => ?_) ?_
                    · go_simp
                      refine (HK.out _ rfl _ (HLr.out.then BV.out)).mono ?_
                      rintro e v1 ⟨rfl, hb⟩
                      have QB1 := Lib.hid (Below.call BV.out hb)
                      clear hb BV
                      go_wp2_with fail
                      refine hK.out _ _ ?_ (fun hHeld => ?_)
                      · exact ⟨keep_cell QB1.out HP.out.1, keep_cell QB1.out HP.out.2.1, keep_cell QB1.out HP.out.2.2.1, keep_cell QB1.out CK.out⟩
                      clear hK K
                      (try simp only [Act.put, List.setIfInBounds_toArray, List.set_cons_zero, List.set_cons_succ])
                      refine wpAnyH_take (i := 9) (oi := ⟨some 49, _, _, _, _, _⟩) (v := ?_) rfl (by kernel_rfl) (by kernel_rfl) (by kernel_rfl) (fun _ _ _ h => h) (Or.inl ⟨by kernel_rfl, ?_⟩) (by assumption) ?_
                      rotate_left 1
                      · ((intro w hSw; (try dsimp only at hSw); go_simp) <;> (try with_reducible rfl))
                      (try simp only [Act.put, List.setIfInBounds_toArray, List.set_cons_zero, List.set_cons_succ])
                      refine wpAnyH_take (i := 10) (oi := ⟨some 59, _, _, _, _, _⟩) (v := ?_) rfl (by kernel_rfl) (by kernel_rfl) (by kernel_rfl) (fun _ _ _ h => h) (Or.inl ⟨by kernel_rfl, ?_⟩) (by assumption) ?_
                      rotate_left 1
                      · ((intro w hSw; (try dsimp only at hSw); go_simp) <;> (try with_reducible rfl))
                      (try simp only [Act.put, List.setIfInBounds_toArray, List.set_cons_zero, List.set_cons_succ])
                      refine wpAnyH_take (i := 11) (oi := ⟨some 60, _, _, _, _, _⟩) (v := ?_) rfl (by kernel_rfl) (by kernel_rfl) (by kernel_rfl) (fun _ _ _ h => h) (Or.inl ⟨by kernel_rfl, ?_⟩) (by assumption) ?_
                      rotate_left 1
                      · ((intro w hSw; (try dsimp only at hSw); go_simp) <;> (try with_reducible rfl))
                      (try simp only [Act.put, List.setIfInBounds_toArray, List.set_cons_zero, List.set_cons_succ])
                      clear hHeld
                      refine wpAnyH_ready (rs := [12]) (by kernel_rfl) (by simp) ?_
                      refine AllReadyH.cons (o := ⟨some 11, _, _, _, _, _⟩) rfl (fun K hK => ?_) AllReadyH.nil
                      go_simp
                      have QB2 := Lib.hid (Below.al QB1.out (.cells #[.int .i64 0, .int .i64 0, .slice none 0 0] 24))
                      have QD2 := Lib.hid (Cells3.new v1 24 (.int .i64 0) (.int .i64 0) (.slice none 0 0))
                      have DL := Lib.hid (show wr.heap.size ≤ v1.heap.size from QB1.out.size)
                      clear QB1
                      generalize v1.alloc (.cells #[.int .i64 0, .int .i64 0, .slice none 0 0] 24) = v2 at *
                      generalize v1.heap.size = D at *
                      refine hK.out _ _ ?_ (fun hHeld => ?_)
                      · exact ⟨keep_cell QB2.out HP.out.1, keep_cell QB2.out HP.out.2.1, keep_cell QB2.out HP.out.2.2.1, keep_cell QB2.out CK.out⟩
                      clear hK K hHeld
                      (try simp only [Act.put, List.setIfInBounds_toArray, List.set_cons_zero, List.set_cons_succ])
                      refine wpAnyH_ready (rs := [13]) (by kernel_rfl) (by simp) ?_
                      refine AllReadyH.cons (o := ⟨none, _, _, _, _, _⟩) rfl (fun K hK => ?_) AllReadyH.nil
                      obtain ⟨s0, s1, s2, y0, y1, y2, sl⟩ := QD2.out
                      go_simp
                      clear s0 s1 s2 y0 y1 y2 sl
                      have BX := Lib.hid (below_set3 QB2.out DL.out (.int .i64 0) (.int .i64 0) (.slice none 0 0))
                      have DX := Lib.hid (QD2.out.set (.int .i64 0) (.int .i64 0) (.slice none 0 0))
                      refine hK.out _ _ ?_ (fun hHeld => ?_)
                      · exact ⟨keep_cell BX.out HP.out.1, keep_cell BX.out HP.out.2.1, keep_cell BX.out HP.out.2.2.1, keep_cell BX.out CK.out⟩
                      clear hK K
                      (try simp only [Act.put, List.setIfInBounds_toArray, List.set_cons_zero, List.set_cons_succ])
                      refine wpAnyH_take (i := 14) (oi := ⟨some 12, _, _, _, _, _⟩) (v := ?_) rfl (by kernel_rfl) (by kernel_rfl) (by kernel_rfl) (fun _ _ _ h => h) (Or.inl ⟨by kernel_rfl, ?_⟩) (by assumption) ?_
                      rotate_left 1
                      · ((intro w hSw; (try dsimp only at hSw); go_simp) <;> (try with_reducible rfl))
                      (try simp only [Act.put, List.setIfInBounds_toArray, List.set_cons_zero, List.set_cons_succ])
                      refine wpAnyH_done (by kernel_rfl) ?_ _
                      clear hHeld QB2 QD2
                      generalize ((v2.setCell ⟨D, 0, none⟩ (.int .i64 0)).setCell ⟨D, 1, none⟩ (.int .i64 0)).setCell ⟨D, 2, none⟩ (.slice none 0 0) = vx at *
                      have HOx := Lib.hid (HOwn.out.below BX.out)
                      have HPx := Lib.hid (HP.out.below BX.out)
                      have HLx := Lib.hid (HLO.out.below BX.out)
                      have HBx := Lib.hid (Below.call HB.out BX.out)
                      have ex := keep_cell BX.out CK.out
                      clear BX DX DL
                      go_wp2_with fail
                      go_roundw
                      case rel => exact ⟨k + 1, j, L, vol, had, A1, c1, rfl, num_i (by omega), by omega, HBK.out.skip, HOx.out, HLx.out, HNE.out, HPx.out, HBx.out⟩
                      case measure => simp [intOf]; omega
                    refine AllReadyH.cons (o := ⟨some 11, _, _, _, _, _⟩) rfl (fun K hK => ?_) ?_
                    · go_simp
                      have QB3 := Lib.hid (Below.al BV.out (.cells #[.int .i64 0, .int .i64 0, .slice none 0 0] 24))
                      have QD3 := Lib.hid (Cells3.new v0 24 (.int .i64 0) (.int .i64 0) (.slice none 0 0))
                      have DL := Lib.hid (show wr.heap.size ≤ v0.heap.size from BV.out.size)
                      clear BV
                      generalize v0.alloc (.cells #[.int .i64 0, .int .i64 0, .slice none 0 0] 24) = v3 at *
                      generalize v0.heap.size = D at *
                      refine hK.out _ _ ?_ (fun hHeld => ?_)
                      · exact ⟨keep_cell QB3.out HP.out.1, keep_cell QB3.out HP.out.2.1, keep_cell QB3.out HP.out.2.2.1, keep_cell QB3.out CK.out⟩
                      clear hK K hHeld
                      (try simp only [Act.put, List.setIfInBounds_toArray, List.set_cons_zero, List.set_cons_succ])
                      refine wpAnyH_ready (rs := [8]) (by kernel_rfl) (by simp) ?_
                      refine AllReadyH.cons (o := ⟨some 58, _, _, _, _, _⟩) rfl (fun K hK => ?_) AllReadyH.nil
                      go_simp
                      refine (HK.out _ rfl _ (HLr.out.then QB3.out)).mono ?_
                      rintro e v4 ⟨rfl, hb⟩
                      have QB4 := Lib.hid (Below.call QB3.out hb)
                      have QD4 := Lib.hid (QD3.out.below hb)
                      clear hb QB3 QD3
                      go_wp2_with fail
                      refine hK.out _ _ ?_ (fun hHeld => ?_)
                      · exact ⟨keep_cell QB4.out HP.out.1, keep_cell QB4.out HP.out.2.1, keep_cell QB4.out HP.out.2.2.1, keep_cell QB4.out CK.out⟩
                      clear hK K
                      (try simp only [Act.put, List.setIfInBounds_toArray, List.set_cons_zero, List.set_cons_succ])
                      refine wpAnyH_take (i := 9) (oi := ⟨some 49, _, _, _, _, _⟩) (v := ?_) rfl (by kernel_rfl) (by kernel_rfl) (by kernel_rfl) (fun _ _ _ h => h) (Or.inl ⟨by kernel_rfl, ?_⟩) (by assumption) ?_
                      rotate_left 1
                      · ((intro w hSw; (try dsimp only at hSw); go_simp) <;> (try with_reducible rfl))
                      (try simp only [Act.put, List.setIfInBounds_toArray, List.set_cons_zero, List.set_cons_succ])
                      refine wpAnyH_take (i := 10) (oi := ⟨some 59, _, _, _, _, _⟩) (v := ?_) rfl (by kernel_rfl) (by kernel_rfl) (by kernel_rfl) (fun _ _ _ h => h) (Or.inl ⟨by kernel_rfl, ?_⟩) (by assumption) ?_
                      rotate_left 1
                      · ((intro w hSw; (try dsimp only at hSw); go_simp) <;> (try with_reducible rfl))
                      (try simp only [Act.put, List.setIfInBounds_toArray, List.set_cons_zero, List.set_cons_succ])
                      refine wpAnyH_take (i := 11) (oi := ⟨some 60, _, _, _, _, _⟩) (v := ?_) rfl (by kernel_rfl) (by kernel_rfl) (by kernel_rfl) (fun _ _ _ h => h) (Or.inl ⟨by kernel_rfl, ?_⟩) (by assumption) ?_
                      rotate_left 1
                      · ((intro w hSw; (try dsimp only at hSw); go_simp) <;> (try with_reducible rfl))
                      (try simp only [Act.put, List.setIfInBounds_toArray, List.set_cons_zero, List.set_cons_succ])
                      clear hHeld
                      refine wpAnyH_ready (rs := [13]) (by kernel_rfl) (by simp) ?_
                      refine AllReadyH.cons (o := ⟨none, _, _, _, _, _⟩) rfl (fun K hK => ?_) AllReadyH.nil
                      obtain ⟨s0, s1, s2, y0, y1, y2, sl⟩ := QD4.out
                      go_simp
                      clear s0 s1 s2 y0 y1 y2 sl
                      have BX := Lib.hid (below_set3 QB4.out DL.out (.int .i64 0) (.int .i64 0) (.slice none 0 0))
                      have DX := Lib.hid (QD4.out.set (.int .i64 0) (.int .i64 0) (.slice none 0 0))
                      refine hK.out _ _ ?_ (fun hHeld => ?_)
                      · exact ⟨keep_cell BX.out HP.out.1, keep_cell BX.out HP.out.2.1, keep_cell BX.out HP.out.2.2.1, keep_cell BX.out CK.out⟩
                      clear hK K
                      (try simp only [Act.put, List.setIfInBounds_toArray, List.set_cons_zero, List.set_cons_succ])
                      refine wpAnyH_take (i := 14) (oi := ⟨some 12, _, _, _, _, _⟩) (v := ?_) rfl (by kernel_rfl) (by kernel_rfl) (by kernel_rfl) (fun _ _ _ h => h) (Or.inl ⟨by kernel_rfl, ?_⟩) (by assumption) ?_
                      rotate_left 1
                      · ((intro w hSw; (try dsimp only at hSw); go_simp) <;> (try with_reducible rfl))
                      (try simp only [Act.put, List.setIfInBounds_toArray, List.set_cons_zero, List.set_cons_succ])
                      refine wpAnyH_done (by kernel_rfl) ?_ _
                      clear hHeld QB4 QD4
                      generalize ((v4.setCell ⟨D, 0, none⟩ (.int .i64 0)).setCell ⟨D, 1, none⟩ (.int .i64 0)).setCell ⟨D, 2, none⟩ (.slice none 0 0) = vx at *
                      have HOx := Lib.hid (HOwn.out.below BX.out)
                      have HPx := Lib.hid (HP.out.below BX.out)
                      have HLx := Lib.hid (HLO.out.below BX.out)
                      have HBx := Lib.hid (Below.call HB.out BX.out)
                      have ex := keep_cell BX.out CK.out
                      clear BX DX DL
                      go_wp2_with fail
                      go_roundw
                      case rel => exact ⟨k + 1, j, L, vol, had, A1, c1, rfl, num_i (by omega), by omega, HBK.out.skip, HOx.out, HLx.out, HNE.out, HPx.out, HBx.out⟩
                      case measure => simp [intOf]; omega
                    exact AllReadyH.nil
                  · go_wp2_with fail
                    refine wp_region_held_drew (S := fun w' => w'.cell? ⟨P, 0, none⟩ = some (.int .i64 r) ∧ w'.cell? ⟨P, 1, none⟩ = some (.int .i64 (j : Int)) ∧ w'.cell? ⟨P, 2, none⟩ = some (.slice A1 L.length c1) ∧ w'.cell? ⟨b', off + k, none⟩ = some (.int .i64 x)) (by kernel_rfl) ?_ (fun hHeld => ?_)
                    · exact ⟨g0, g1, g2, e1⟩
                    refine wpAnyH_take (i := 0) (oi := ⟨some 50, _, _, _, _, _⟩) (v := ?_) rfl (by kernel_rfl) (by kernel_rfl) (by kernel_rfl) (fun _ _ _ h => h) (Or.inl ⟨by kernel_rfl, ?_⟩) (by assumption) ?_
                    rotate_left 1
                    · ((intro w hSw; (try dsimp only at hSw); go_simp) <;> (try with_reducible rfl))
                    (try simp only [Act.put, List.setIfInBounds_toArray, List.set_cons_zero, List.set_cons_succ])
                    refine wpAnyH_take (i := 1) (oi := ⟨some 51, _, _, _, _, _⟩) (v := ?_) rfl (by kernel_rfl) (by kernel_rfl) (by kernel_rfl) (fun _ _ _ h => h) (Or.inl ⟨by kernel_rfl, ?_⟩) (by assumption) ?_
                    rotate_left 1
                    · ((intro w hSw; (try dsimp only at hSw); go_simp) <;> (try with_reducible rfl))
                    (try simp only [Act.put, List.setIfInBounds_toArray, List.set_cons_zero, List.set_cons_succ])
                    refine wpAnyH_take (i := 2) (oi := ⟨some 52, _, _, _, _, _⟩) (v := ?_) rfl (by kernel_rfl) (by kernel_rfl) (by kernel_rfl) (fun _ _ _ h => h) (Or.inl ⟨by kernel_rfl, ?_⟩) (by assumption) ?_
                    rotate_left 1
                    · ((intro w hSw; (try dsimp only at hSw); go_simp) <;> (try with_reducible rfl))
                    (try simp only [Act.put, List.setIfInBounds_toArray, List.set_cons_zero, List.set_cons_succ])
                    refine wpAnyH_take (i := 3) (oi := ⟨some 53, _, _, _, _, _⟩) (v := ?_) rfl (by kernel_rfl) (by kernel_rfl) (by kernel_rfl) (fun _ _ _ h => h) (Or.inl ⟨by kernel_rfl, ?_⟩) (by assumption) ?_
                    rotate_left 1
                    · ((intro w hSw; (try dsimp only at hSw); go_simp) <;> (try with_reducible rfl))
                    (try simp only [Act.put, List.setIfInBounds_toArray, List.set_cons_zero, List.set_cons_succ])
                    refine wpAnyH_take (i := 4) (oi := ⟨some 54, _, _, _, _, _⟩) (v := ?_) rfl (by kernel_rfl) (by kernel_rfl) (by kernel_rfl) (fun _ _ _ h => h) (Or.inl ⟨by kernel_rfl, ?_⟩) (by assumption) ?_
                    rotate_left 1
                    · ((intro w hSw; (try dsimp only at hSw); go_simp) <;> (try with_reducible rfl))
                    (try simp only [Act.put, List.setIfInBounds_toArray, List.set_cons_zero, List.set_cons_succ])
                    refine wpAnyH_take (i := 5) (oi := ⟨some 55, _, _, _, _, _⟩) (v := ?_) rfl (by kernel_rfl) (by kernel_rfl) (by kernel_rfl) (fun _ _ _ h => h) (Or.inl ⟨by kernel_rfl, ?_⟩) (by assumption) ?_
                    rotate_left 1
                    · ((intro w hSw; (try dsimp only at hSw); go_simp) <;> (try with_reducible rfl))
                    (try simp only [Act.put, List.setIfInBounds_toArray, List.set_cons_zero, List.set_cons_succ])
                    refine wpAnyH_take (i := 6) (oi := ⟨some 56, _, _, _, _, _⟩) (v := ?_) rfl (by kernel_rfl) (by kernel_rfl) (by kernel_rfl) (fun _ _ _ h => h) (Or.inl ⟨by kernel_rfl, ?_⟩) (by assumption) ?_
                    rotate_left 1
                    · ((intro w hSw; (try dsimp only at hSw); go_simp) <;> (try with_reducible rfl))
                    (try simp only [Act.put, List.setIfInBounds_toArray, List.set_cons_zero, List.set_cons_succ])
                    refine wpAnyH_take (i := 7) (oi := ⟨some 57, _, _, _, _, _⟩) (v := ?_) rfl (by kernel_rfl) (by kernel_rfl) (by kernel_rfl) (fun _ _ _ h => h) (Or.inl ⟨by kernel_rfl, ?_⟩) (by assumption) ?_
                    rotate_left 1
                    · ((intro w hSw; (try dsimp only at hSw); go_simp) <;> (try with_reducible rfl))
                    (try simp only [Act.put, List.setIfInBounds_toArray, List.set_cons_zero, List.set_cons_succ])
                    simp only [HW8.out]
                    clear g0 g1 g2 e1 hHeld
                    have BV := Lib.hid (show Below wr.heap.size wr wr.drew from (Below.refl _ _).drew)
                    generalize wr.drew = v0 at *
                    refine wpAnyH_ready (rs := [8, 12]) (by kernel_rfl) (by simp) ?_
                    refine AllReadyH.cons (o := ⟨some 58, _, _, _, _, _⟩) rfl (fun K hK => ?_) ?_
                    · go_simp
                      refine (HK.out _ rfl _ (HLr.out.then BV.out)).mono ?_
                      rintro e v1 ⟨rfl, hb⟩
                      have QB1 := Lib.hid (Below.call BV.out hb)
                      clear hb BV
                      go_wp2_with fail
                      refine hK.out _ _ ?_ (fun hHeld => ?_)
                      · exact ⟨keep_cell QB1.out HP.out.1, keep_cell QB1.out HP.out.2.1, keep_cell QB1.out HP.out.2.2.1, keep_cell QB1.out CK.out⟩
                      clear hK K
                      (try simp only [Act.put, List.setIfInBounds_toArray, List.set_cons_zero, List.set_cons_succ])
                      refine wpAnyH_take (i := 9) (oi := ⟨some 49, _, _, _, _, _⟩) (v := ?_) rfl (by kernel_rfl) (by kernel_rfl) (by kernel_rfl) (fun _ _ _ h => h) (Or.inl ⟨by kernel_rfl, ?_⟩) (by assumption) ?_
                      rotate_left 1
                      · ((intro w hSw; (try dsimp only at hSw); go_simp) <;> (try with_reducible rfl))
                      (try simp only [Act.put, List.setIfInBounds_toArray, List.set_cons_zero, List.set_cons_succ])
                      refine wpAnyH_take (i := 10) (oi := ⟨some 59, _, _, _, _, _⟩) (v := ?_) rfl (by kernel_rfl) (by kernel_rfl) (by kernel_rfl) (fun _ _ _ h => h) (Or.inl ⟨by kernel_rfl, ?_⟩) (by assumption) ?_
                      rotate_left 1
                      · ((intro w hSw; (try dsimp only at hSw); go_simp) <;> (try with_reducible rfl))
                      (try simp only [Act.put, List.setIfInBounds_toArray, List.set_cons_zero, List.set_cons_succ])
                      refine wpAnyH_take (i := 11) (oi := ⟨some 60, _, _, _, _, _⟩) (v := ?_) rfl (by kernel_rfl) (by kernel_rfl) (by kernel_rfl) (fun _ _ _ h => h) (Or.inl ⟨by kernel_rfl, ?_⟩) (by assumption) ?_
                      rotate_left 1
                      · ((intro w hSw; (try dsimp only at hSw); go_simp) <;> (try with_reducible rfl))
                      (try simp only [Act.put, List.setIfInBounds_toArray, List.set_cons_zero, List.set_cons_succ])
                      clear hHeld
                      refine wpAnyH_ready (rs := [12]) (by kernel_rfl) (by simp) ?_
                      refine AllReadyH.cons (o := ⟨some 11, _, _, _, _, _⟩) rfl (fun K hK => ?_) AllReadyH.nil
                      go_simp
                      have QB2 := Lib.hid (Below.al QB1.out (.cells #[.int .i64 0, .int .i64 0, .slice none 0 0] 24))
                      have QD2 := Lib.hid (Cells3.new v1 24 (.int .i64 0) (.int .i64 0) (.slice none 0 0))
                      have DL := Lib.hid (show wr.heap.size ≤ v1.heap.size from QB1.out.size)
                      clear QB1
                      generalize v1.alloc (.cells #[.int .i64 0, .int .i64 0, .slice none 0 0] 24) = v2 at *
                      generalize v1.heap.size = D at *
                      refine hK.out _ _ ?_ (fun hHeld => ?_)
                      · exact ⟨keep_cell QB2.out HP.out.1, keep_cell QB2.out HP.out.2.1, keep_cell QB2.out HP.out.2.2.1, keep_cell QB2.out CK.out⟩
                      clear hK K hHeld
                      (try simp only [Act.put, List.setIfInBounds_toArray, List.set_cons_zero, List.set_cons_succ])
                      refine wpAnyH_ready (rs := [13]) (by kernel_rfl) (by simp) ?_
                      refine AllReadyH.cons (o := ⟨none, _, _, _, _, _⟩) rfl (fun K hK => ?_) AllReadyH.nil
                      obtain ⟨s0, s1, s2, y0, y1, y2, sl⟩ := QD2.out
                      go_simp
                      clear s0 s1 s2 y0 y1 y2 sl
                      have BX := Lib.hid (below_set3 QB2.out DL.out (.int .i64 0) (.int .i64 0) (.slice none 0 0))
                      have DX := Lib.hid (QD2.out.set (.int .i64 0) (.int .i64 0) (.slice none 0 0))
                      refine hK.out _ _ ?_ (fun hHeld => ?_)
                      · exact ⟨keep_cell BX.out HP.out.1, keep_cell BX.out HP.out.2.1, keep_cell BX.out HP.out.2.2.1, keep_cell BX.out CK.out⟩
                      clear hK K
                      (try simp only [Act.put, List.setIfInBounds_toArray, List.set_cons_zero, List.set_cons_succ])
                      refine wpAnyH_take (i := 14) (oi := ⟨some 12, _, _, _, _, _⟩) (v := ?_) rfl (by kernel_rfl) (by kernel_rfl) (by kernel_rfl) (fun _ _ _ h => h) (Or.inl ⟨by kernel_rfl, ?_⟩) (by assumption) ?_
                      rotate_left 1
                      · ((intro w hSw; (try dsimp only at hSw); go_simp) <;> (try with_reducible rfl))
                      (try simp only [Act.put, List.setIfInBounds_toArray, List.set_cons_zero, List.set_cons_succ])
                      refine wpAnyH_done (by kernel_rfl) ?_ _
                      clear hHeld QB2 QD2
                      generalize ((v2.setCell ⟨D, 0, none⟩ (.int .i64 0)).setCell ⟨D, 1, none⟩ (.int .i64 0)).setCell ⟨D, 2, none⟩ (.slice none 0 0) = vx at *
                      have HOx := Lib.hid (HOwn.out.below BX.out)
                      have HPx := Lib.hid (HP.out.below BX.out)
                      have HLx := Lib.hid (HLO.out.below BX.out)
                      have HBx := Lib.hid (Below.call HB.out BX.out)
                      have ex := keep_cell BX.out CK.out
                      clear BX DX DL
                      go_wp2_with fail
                      go_roundw
                      case rel => exact ⟨k + 1, j, L, vol, had, A1, c1, rfl, num_i (by omega), by omega, HBK.out.skip, HOx.out, HLx.out, HNE.out, HPx.out, HBx.out⟩
                      case measure => simp [intOf]; omega
                    refine AllReadyH.cons (o := ⟨some 11, _, _, _, _, _⟩) rfl (fun K hK => ?_) ?_
                    · go_simp
                      have QB3 := Lib.hid (Below.al BV.out (.cells #[.int .i64 0, .int .i64 0, .slice none 0 0] 24))
                      have QD3 := Lib.hid (Cells3.new v0 24 (.int .i64 0) (.int .i64 0) (.slice none 0 0))
                      have DL := Lib.hid (show wr.heap.size ≤ v0.heap.size from BV.out.size)
                      clear BV
                      generalize v0.alloc (.cells #[.int .i64 0, .int .i64 0, .slice none 0 0] 24) = v3 at *
                      generalize v0.heap.size = D at *
                      refine hK.out _ _ ?_ (fun hHeld => ?_)
                      · exact ⟨keep_cell QB3.out HP.out.1, keep_cell QB3.out HP.out.2.1, keep_cell QB3.out HP.out.2.2.1, keep_cell QB3.out CK.out⟩
                      clear hK K hHeld
                      (try simp only [Act.put, List.setIfInBounds_toArray, List.set_cons_zero, List.set_cons_succ])
                      refine wpAnyH_ready (rs := [8]) (by kernel_rfl) (by simp) ?_
                      refine AllReadyH.cons (o := ⟨some 58, _, _, _, _, _⟩) rfl (fun K hK => ?_) AllReadyH.nil
                      go_simp
                      refine (HK.out _ rfl _ (HLr.out.then QB3.out)).mono ?_
                      rintro e v4 ⟨rfl, hb⟩
                      have QB4 := Lib.hid (Below.call QB3.out hb)
                      have QD4 := Lib.hid (QD3.out.below hb)
                      clear hb QB3 QD3
                      go_wp2_with fail
                      refine hK.out _ _ ?_ (fun hHeld => ?_)
                      · exact ⟨keep_cell QB4.out HP.out.1, keep_cell QB4.out HP.out.2.1, keep_cell QB4.out HP.out.2.2.1, keep_cell QB4.out CK.out⟩
                      clear hK K
                      (try simp only [Act.put, List.setIfInBounds_toArray, List.set_cons_zero, List.set_cons_succ])
                      refine wpAnyH_take (i := 9) (oi := ⟨some 49, _, _, _, _, _⟩) (v := ?_) rfl (by kernel_rfl) (by kernel_rfl) (by kernel_rfl) (fun _ _ _ h => h) (Or.inl ⟨by kernel_rfl, ?_⟩) (by assumption) ?_
                      rotate_left 1
                      · ((intro w hSw; (try dsimp only at hSw); go_simp) <;> (try with_reducible rfl))
                      (try simp only [Act.put, List.setIfInBounds_toArray, List.set_cons_zero, List.set_cons_succ])
                      refine wpAnyH_take (i := 10) (oi := ⟨some 59, _, _, _, _, _⟩) (v := ?_) rfl (by kernel_rfl) (by kernel_rfl) (by kernel_rfl) (fun _ _ _ h => h) (Or.inl ⟨by kernel_rfl, ?_⟩) (by assumption) ?_
                      rotate_left 1
                      · ((intro w hSw; (try dsimp only at hSw); go_simp) <;> (try with_reducible rfl))
                      (try simp only [Act.put, List.setIfInBounds_toArray, List.set_cons_zero, List.set_cons_succ])
                      refine wpAnyH_take (i := 11) (oi := ⟨some 60, _, _, _, _, _⟩) (v := ?_) rfl (by kernel_rfl) (by kernel_rfl) (by kernel_rfl) (fun _ _ _ h => h) (Or.inl ⟨by kernel_rfl, ?_⟩) (by assumption) ?_
                      rotate_left 1
                      · ((intro w hSw; (try dsimp only at hSw); go_simp) <;> (try with_reducible rfl))
                      (try simp only [Act.put, List.setIfInBounds_toArray, List.set_cons_zero, List.set_cons_succ])
                      clear hHeld
                      refine wpAnyH_ready (rs := [13]) (by kernel_rfl) (by simp) ?_
                      refine AllReadyH.cons (o := ⟨none, _, _, _, _, _⟩) rfl (fun K hK => ?_) AllReadyH.nil
                      obtain ⟨s0, s1, s2, y0, y1, y2, sl⟩ := QD4.out
                      go_simp
                      clear s0 s1 s2 y0 y1 y2 sl
                      have BX := Lib.hid (below_set3 QB4.out DL.out (.int .i64 0) (.int .i64 0) (.slice none 0 0))
                      have DX := Lib.hid (QD4.out.set (.int .i64 0) (.int .i64 0) (.slice none 0 0))
                      refine hK.out _ _ ?_ (fun hHeld => ?_)
                      · exact ⟨keep_cell BX.out HP.out.1, keep_cell BX.out HP.out.2.1, keep_cell BX.out HP.out.2.2.1, keep_cell BX.out CK.out⟩
                      clear hK K
                      (try simp only [Act.put, List.setIfInBounds_toArray, List.set_cons_zero, List.set_cons_succ])
                      refine wpAnyH_take (i := 14) (oi := ⟨some 12, _, _, _, _, _⟩) (v := ?_) rfl (by kernel_rfl) (by kernel_rfl) (by kernel_rfl) (fun _ _ _ h => h) (Or.inl ⟨by kernel_rfl, ?_⟩) (by assumption) ?_
                      rotate_left 1
                      · ((intro w hSw; (try dsimp only at hSw); go_simp) <;> (try with_reducible rfl))
                      (try simp only [Act.put, List.setIfInBounds_toArray, List.set_cons_zero, List.set_cons_succ])
                      refine wpAnyH_done (by kernel_rfl) ?_ _
                      clear hHeld QB4 QD4
                      generalize ((v4.setCell ⟨D, 0, none⟩ (.int .i64 0)).setCell ⟨D, 1, none⟩ (.int .i64 0)).setCell ⟨D, 2, none⟩ (.slice none 0 0) = vx at *
                      have HOx := Lib.hid (HOwn.out.below BX.out)
                      have HPx := Lib.hid (HP.out.below BX.out)
                      have HLx := Lib.hid (HLO.out.below BX.out)
                      have HBx := Lib.hid (Below.call HB.out BX.out)
                      have ex := keep_cell BX.out CK.out
                      clear BX DX DL
                      go_wp2_with fail
                      go_roundw
                      case rel => exact ⟨k + 1, j, L, vol, had, A1, c1, rfl, num_i (by omega), by omega, HBK.out.skip, HOx.out, HLx.out, HNE.out, HPx.out, HBx.out⟩
                      case measure => simp [intOf]; omega
                    exact AllReadyH.nil
                · obtain ⟨zs, hzs⟩ : ∃ zs, ntL r j L (1 + (k : Int) % 8) x = zs := ⟨_, rfl⟩
                  have hE : ntE r j L (1 + (k : Int) % 8) x = 0 := by rw [HBK.out.nt (by omega), hm]; rfl
                  have HK := Lib.hid (show ∀ b : Int, b = 1 + (k : Int) % 8 → ∀ w, KC.IsL w w.heap.size (.slice A1 L.length c1) L → Calls Try.prog 10 #[lgV r j A1 L.length c1, .int .i64 b, .int .i64 x] w fun e w' => ∃ A' c', e = .returned (.tuple #[lgV r ((j : Int) + 1) A' zs.length c', .int .i64 0]) ∧ KC.Own w' w.heap.size (.slice A' zs.length c') zs ∧ Below w.heap.size w w' from fun b hb w h => by
                    have q := note_ok r j A1 c1 L b x (by rw [hb, hE]) w h
                    rw [hb, hzs] at q
                    rw [hb]
                    exact q)
                  have hst := HBK.out.step (by omega) _ x hm
                  rw [hzs] at hst
                  have HBK2 := Lib.hid hst
                  have HFV := Lib.hid (hst.vol (by omega))
                  have HW := Lib.hid (show IntKind.i64.wrap (vol + x) = vol + x from wrap_fits _ HFV.out)
                  have HZL := Lib.hid (show 0 < zs.length by rw [← hzs]; unfold ntL; simp)
                  clear hE hm hst hzs
                  go_wp2_with fail
                  refine wp_region_held_drew (S := fun w' => w'.cell? ⟨P, 0, none⟩ = some (.int .i64 r) ∧ w'.cell? ⟨P, 1, none⟩ = some (.int .i64 (j : Int)) ∧ w'.cell? ⟨P, 2, none⟩ = some (.slice A1 L.length c1) ∧ w'.cell? ⟨b', off + k, none⟩ = some (.int .i64 x)) (by kernel_rfl) ?_ (fun hHeld => ?_)
                  · exact ⟨g0, g1, g2, e1⟩
                  refine wpAnyH_take (i := 0) (oi := ⟨some 50, _, _, _, _, _⟩) (v := ?_) rfl (by kernel_rfl) (by kernel_rfl) (by kernel_rfl) (fun _ _ _ h => h) (Or.inl ⟨by kernel_rfl, ?_⟩) (by assumption) ?_
                  rotate_left 1
                  · ((intro w hSw; (try dsimp only at hSw); go_simp) <;> (try with_reducible rfl))
                  (try simp only [Act.put, List.setIfInBounds_toArray, List.set_cons_zero, List.set_cons_succ])
                  refine wpAnyH_take (i := 1) (oi := ⟨some 51, _, _, _, _, _⟩) (v := ?_) rfl (by kernel_rfl) (by kernel_rfl) (by kernel_rfl) (fun _ _ _ h => h) (Or.inl ⟨by kernel_rfl, ?_⟩) (by assumption) ?_
                  rotate_left 1
                  · ((intro w hSw; (try dsimp only at hSw); go_simp) <;> (try with_reducible rfl))
                  (try simp only [Act.put, List.setIfInBounds_toArray, List.set_cons_zero, List.set_cons_succ])
                  refine wpAnyH_take (i := 2) (oi := ⟨some 52, _, _, _, _, _⟩) (v := ?_) rfl (by kernel_rfl) (by kernel_rfl) (by kernel_rfl) (fun _ _ _ h => h) (Or.inl ⟨by kernel_rfl, ?_⟩) (by assumption) ?_
                  rotate_left 1
                  · ((intro w hSw; (try dsimp only at hSw); go_simp) <;> (try with_reducible rfl))
                  (try simp only [Act.put, List.setIfInBounds_toArray, List.set_cons_zero, List.set_cons_succ])
                  refine wpAnyH_take (i := 3) (oi := ⟨some 53, _, _, _, _, _⟩) (v := ?_) rfl (by kernel_rfl) (by kernel_rfl) (by kernel_rfl) (fun _ _ _ h => h) (Or.inl ⟨by kernel_rfl, ?_⟩) (by assumption) ?_
                  rotate_left 1
                  · ((intro w hSw; (try dsimp only at hSw); go_simp) <;> (try with_reducible rfl))
                  (try simp only [Act.put, List.setIfInBounds_toArray, List.set_cons_zero, List.set_cons_succ])
                  refine wpAnyH_take (i := 4) (oi := ⟨some 54, _, _, _, _, _⟩) (v := ?_) rfl (by kernel_rfl) (by kernel_rfl) (by kernel_rfl) (fun _ _ _ h => h) (Or.inl ⟨by kernel_rfl, ?_⟩) (by assumption) ?_
                  rotate_left 1
                  · ((intro w hSw; (try dsimp only at hSw); go_simp) <;> (try with_reducible rfl))
                  (try simp only [Act.put, List.setIfInBounds_toArray, List.set_cons_zero, List.set_cons_succ])
                  refine wpAnyH_take (i := 5) (oi := ⟨some 55, _, _, _, _, _⟩) (v := ?_) rfl (by kernel_rfl) (by kernel_rfl) (by kernel_rfl) (fun _ _ _ h => h) (Or.inl ⟨by kernel_rfl, ?_⟩) (by assumption) ?_
                  rotate_left 1
                  · ((intro w hSw; (try dsimp only at hSw); go_simp) <;> (try with_reducible rfl))
                  (try simp only [Act.put, List.setIfInBounds_toArray, List.set_cons_zero, List.set_cons_succ])
                  refine wpAnyH_take (i := 6) (oi := ⟨some 56, _, _, _, _, _⟩) (v := ?_) rfl (by kernel_rfl) (by kernel_rfl) (by kernel_rfl) (fun _ _ _ h => h) (Or.inl ⟨by kernel_rfl, ?_⟩) (by assumption) ?_
                  rotate_left 1
                  · ((intro w hSw; (try dsimp only at hSw); go_simp) <;> (try with_reducible rfl))
                  (try simp only [Act.put, List.setIfInBounds_toArray, List.set_cons_zero, List.set_cons_succ])
                  refine wpAnyH_take (i := 7) (oi := ⟨some 57, _, _, _, _, _⟩) (v := ?_) rfl (by kernel_rfl) (by kernel_rfl) (by kernel_rfl) (fun _ _ _ h => h) (Or.inl ⟨by kernel_rfl, ?_⟩) (by assumption) ?_
                  rotate_left 1
                  · ((intro w hSw; (try dsimp only at hSw); go_simp) <;> (try with_reducible rfl))
                  (try simp only [Act.put, List.setIfInBounds_toArray, List.set_cons_zero, List.set_cons_succ])
                  simp only [HW8.out]
                  clear g0 g1 g2 e1 hHeld
                  have BV := Lib.hid (show Below wr.heap.size wr wr.drew from (Below.refl _ _).drew)
                  generalize wr.drew = v0 at *
                  refine wpAnyH_ready (rs := [8, 12]) (by kernel_rfl) (by simp) ?_
                  refine AllReadyH.cons (o := ⟨some 58, _, _, _, _, _⟩) rfl (fun K hK => ?_) ?_
                  · go_simp
                    refine (HK.out _ rfl _ (HLr.out.then BV.out)).mono ?_
                    rintro e v1 ⟨A4, c4, rfl, ho, hb⟩
                    have QB1 := Lib.hid (Below.call BV.out hb)
                    have OW1 := Lib.hid (ho.mono BV.out.size)
                    clear hb ho BV
                    go_wp2_with fail
                    refine hK.out _ _ ?_ (fun hHeld => ?_)
                    · exact ⟨keep_cell QB1.out HP.out.1, keep_cell QB1.out HP.out.2.1, keep_cell QB1.out HP.out.2.2.1, keep_cell QB1.out CK.out⟩
                    clear hK K
                    (try simp only [Act.put, List.setIfInBounds_toArray, List.set_cons_zero, List.set_cons_succ])
                    refine wpAnyH_take (i := 9) (oi := ⟨some 49, _, _, _, _, _⟩) (v := ?_) rfl (by kernel_rfl) (by kernel_rfl) (by kernel_rfl) (fun _ _ _ h => h) (Or.inl ⟨by kernel_rfl, ?_⟩) (by assumption) ?_
                    rotate_left 1
                    · ((intro w hSw; (try dsimp only at hSw); go_simp) <;> (try with_reducible rfl))
                    (try simp only [Act.put, List.setIfInBounds_toArray, List.set_cons_zero, List.set_cons_succ])
                    refine wpAnyH_take (i := 10) (oi := ⟨some 59, _, _, _, _, _⟩) (v := ?_) rfl (by kernel_rfl) (by kernel_rfl) (by kernel_rfl) (fun _ _ _ h => h) (Or.inl ⟨by kernel_rfl, ?_⟩) (by assumption) ?_
                    rotate_left 1
                    · ((intro w hSw; (try dsimp only at hSw); go_simp) <;> (try with_reducible rfl))
                    (try simp only [Act.put, List.setIfInBounds_toArray, List.set_cons_zero, List.set_cons_succ])
                    refine wpAnyH_take (i := 11) (oi := ⟨some 60, _, _, _, _, _⟩) (v := ?_) rfl (by kernel_rfl) (by kernel_rfl) (by kernel_rfl) (fun _ _ _ h => h) (Or.inl ⟨by kernel_rfl, ?_⟩) (by assumption) ?_
                    rotate_left 1
                    · ((intro w hSw; (try dsimp only at hSw); go_simp) <;> (try with_reducible rfl))
                    (try simp only [Act.put, List.setIfInBounds_toArray, List.set_cons_zero, List.set_cons_succ])
                    clear hHeld
                    refine wpAnyH_ready (rs := [12]) (by kernel_rfl) (by simp) ?_
                    refine AllReadyH.cons (o := ⟨some 11, _, _, _, _, _⟩) rfl (fun K hK => ?_) AllReadyH.nil
                    go_simp
                    have QB2 := Lib.hid (Below.al QB1.out (.cells #[.int .i64 0, .int .i64 0, .slice none 0 0] 24))
                    have QD2 := Lib.hid (Cells3.new v1 24 (.int .i64 0) (.int .i64 0) (.slice none 0 0))
                    have DL := Lib.hid (show wr.heap.size ≤ v1.heap.size from QB1.out.size)
                    have OW2 := Lib.hid (OW1.out.alloc (.cells #[.int .i64 0, .int .i64 0, .slice none 0 0] 24))
                    have NO := Lib.hid (show ∀ k, (Value.slice A4 zs.length c4).ownBlock = some k → k ≠ v1.heap.size from fun k hk => Nat.ne_of_lt (OW1.out.lt k hk).2)
                    clear QB1 OW1
                    generalize v1.alloc (.cells #[.int .i64 0, .int .i64 0, .slice none 0 0] 24) = v2 at *
                    generalize v1.heap.size = D at *
                    refine hK.out _ _ ?_ (fun hHeld => ?_)
                    · exact ⟨keep_cell QB2.out HP.out.1, keep_cell QB2.out HP.out.2.1, keep_cell QB2.out HP.out.2.2.1, keep_cell QB2.out CK.out⟩
                    clear hK K hHeld
                    (try simp only [Act.put, List.setIfInBounds_toArray, List.set_cons_zero, List.set_cons_succ])
                    refine wpAnyH_ready (rs := [13]) (by kernel_rfl) (by simp) ?_
                    refine AllReadyH.cons (o := ⟨none, _, _, _, _, _⟩) rfl (fun K hK => ?_) AllReadyH.nil
                    obtain ⟨s0, s1, s2, y0, y1, y2, sl⟩ := QD2.out
                    go_simp
                    clear s0 s1 s2 y0 y1 y2 sl
                    have BX := Lib.hid (below_set3 QB2.out DL.out (.int .i64 r) (.int .i64 ((j : Int) + 1)) (.slice A4 zs.length c4))
                    have DX := Lib.hid (QD2.out.set (.int .i64 r) (.int .i64 ((j : Int) + 1)) (.slice A4 zs.length c4))
                    have OX := Lib.hid (((Lk.Own.far OW2.out NO.out 0 (.int .i64 r)).far NO.out 1 (.int .i64 ((j : Int) + 1))).far NO.out 2 (.slice A4 zs.length c4))
                    refine hK.out _ _ ?_ (fun hHeld => ?_)
                    · exact ⟨keep_cell BX.out HP.out.1, keep_cell BX.out HP.out.2.1, keep_cell BX.out HP.out.2.2.1, keep_cell BX.out CK.out⟩
                    clear hK K
                    (try simp only [Act.put, List.setIfInBounds_toArray, List.set_cons_zero, List.set_cons_succ])
                    refine wpAnyH_take (i := 14) (oi := ⟨some 12, _, _, _, _, _⟩) (v := ?_) rfl (by kernel_rfl) (by kernel_rfl) (by kernel_rfl) (fun _ _ _ h => h) (Or.inl ⟨by kernel_rfl, ?_⟩) (by assumption) ?_
                    rotate_left 1
                    · ((intro w hSw; (try dsimp only at hSw); go_simp) <;> (try with_reducible rfl))
                    (try simp only [Act.put, List.setIfInBounds_toArray, List.set_cons_zero, List.set_cons_succ])
                    refine wpAnyH_done (by kernel_rfl) ?_ _
                    clear hHeld QB2 QD2 OW2 NO
                    generalize ((v2.setCell ⟨D, 0, none⟩ (.int .i64 r)).setCell ⟨D, 1, none⟩ (.int .i64 ((j : Int) + 1))).setCell ⟨D, 2, none⟩ (.slice A4 zs.length c4) = vx at *
                    have HOx := Lib.hid (HOwn.out.below BX.out)
                    have HPx := Lib.hid (HP.out.below BX.out)
                    have CKx := Lib.hid (keep_cell BX.out CK.out)
                    have HBx := Lib.hid (Below.call HB.out BX.out)
                    have hPD : P ≠ D := Nat.ne_of_lt (Nat.lt_of_lt_of_le HP.out.2.2.2.2.2.2 DL.out)
                    have hPw := HP.out.2.2.2.2.2.2
                    obtain ⟨d0, d1, d2, _⟩ := DX.out
                    have ex := CKx.out
                    clear BX DL
                    go_wp2_with fail
                    refine wp_region_held_drew (S := fun w' => w'.cell? ⟨D, 0, none⟩ = some (.int .i64 r) ∧ w'.cell? ⟨D, 1, none⟩ = some (.int .i64 ((j : Int) + 1)) ∧ w'.cell? ⟨D, 2, none⟩ = some (.slice A4 zs.length c4) ∧ w'.cell? ⟨b', off + k, none⟩ = some (.int .i64 x)) (by kernel_rfl) ?_ (fun hHeld => ?_)
                    · exact ⟨d0, d1, d2, ex⟩
                    refine wpAnyH_take (i := 0) (oi := ⟨some 82, _, _, _, _, _⟩) (v := ?_) rfl (by kernel_rfl) (by kernel_rfl) (by kernel_rfl) (fun _ _ _ h => h) (Or.inl ⟨by kernel_rfl, ?_⟩) (by assumption) ?_
                    rotate_left 1
                    · ((intro w hSw; (try dsimp only at hSw); go_simp) <;> (try with_reducible rfl))
                    (try simp only [Act.put, List.setIfInBounds_toArray, List.set_cons_zero, List.set_cons_succ])
                    refine wpAnyH_take (i := 1) (oi := ⟨some 83, _, _, _, _, _⟩) (v := ?_) rfl (by kernel_rfl) (by kernel_rfl) (by kernel_rfl) (fun _ _ _ h => h) (Or.inl ⟨by kernel_rfl, ?_⟩) (by assumption) ?_
                    rotate_left 1
                    · ((intro w hSw; (try dsimp only at hSw); go_simp) <;> (try with_reducible rfl))
                    (try simp only [Act.put, List.setIfInBounds_toArray, List.set_cons_zero, List.set_cons_succ])
                    refine wpAnyH_take (i := 2) (oi := ⟨some 84, _, _, _, _, _⟩) (v := ?_) rfl (by kernel_rfl) (by kernel_rfl) (by kernel_rfl) (fun _ _ _ h => h) (Or.inl ⟨by kernel_rfl, ?_⟩) (by assumption) ?_
                    rotate_left 1
                    · ((intro w hSw; (try dsimp only at hSw); go_simp) <;> (try with_reducible rfl))
                    (try simp only [Act.put, List.setIfInBounds_toArray, List.set_cons_zero, List.set_cons_succ])
                    refine wpAnyH_take (i := 3) (oi := ⟨some 85, _, _, _, _, _⟩) (v := ?_) rfl (by kernel_rfl) (by kernel_rfl) (by kernel_rfl) (fun _ _ _ h => h) (Or.inl ⟨by kernel_rfl, ?_⟩) (by assumption) ?_
                    rotate_left 1
                    · ((intro w hSw; (try dsimp only at hSw); go_simp) <;> (try with_reducible rfl))
                    (try simp only [Act.put, List.setIfInBounds_toArray, List.set_cons_zero, List.set_cons_succ])
                    refine wpAnyH_take (i := 4) (oi := ⟨some 86, _, _, _, _, _⟩) (v := ?_) rfl (by kernel_rfl) (by kernel_rfl) (by kernel_rfl) (fun _ _ _ h => h) (Or.inl ⟨by kernel_rfl, ?_⟩) (by assumption) ?_
                    rotate_left 1
                    · ((intro w hSw; (try dsimp only at hSw); go_simp) <;> (try with_reducible rfl))
                    (try simp only [Act.put, List.setIfInBounds_toArray, List.set_cons_zero, List.set_cons_succ])
                    refine wpAnyH_take (i := 5) (oi := ⟨some 87, _, _, _, _, _⟩) (v := ?_) rfl (by kernel_rfl) (by kernel_rfl) (by kernel_rfl) (fun _ _ _ h => h) (Or.inl ⟨by kernel_rfl, ?_⟩) (by assumption) ?_
                    rotate_left 1
                    · ((intro w hSw; (try dsimp only at hSw); go_simp) <;> (try with_reducible rfl))
                    (try simp only [Act.put, List.setIfInBounds_toArray, List.set_cons_zero, List.set_cons_succ])
                    refine wpAnyH_take (i := 6) (oi := ⟨some 88, _, _, _, _, _⟩) (v := ?_) rfl (by kernel_rfl) (by kernel_rfl) (by kernel_rfl) (fun _ _ _ h => h) (Or.inl ⟨by kernel_rfl, ?_⟩) (by assumption) ?_
                    rotate_left 1
                    · ((intro w hSw; (try dsimp only at hSw); go_simp) <;> (try with_reducible rfl))
                    (try simp only [Act.put, List.setIfInBounds_toArray, List.set_cons_zero, List.set_cons_succ])
                    simp only [HW.out]
                    clear d0 d1 d2 ex
                    have Bd := (Below.refl vx.heap.size vx).drew
                    have HOy := Lib.hid (HOx.out.below Bd)
                    have HPy := Lib.hid (HPx.out.below Bd)
                    have CKy := Lib.hid (keep_cell Bd CKx.out)
                    have HBy := Lib.hid (Below.call HBx.out Bd)
                    have DXy := Lib.hid (DX.out.below Bd)
                    have OXy := Lib.hid (OX.out.below Bd)
                    clear Bd HOx HPx CKx HBx DX OX hHeld
                    generalize vx.drew = vy at *
                    refine wpAnyH_ready (rs := [7]) (by kernel_rfl) (by simp) ?_
                    refine AllReadyH.cons (o := ⟨none, _, _, _, _, _⟩) rfl (fun K hK => ?_) AllReadyH.nil
                    obtain ⟨s0, s1, s2, y0, y1, y2, sl⟩ := HPy.out
                    go_simp
                    clear s0 s1 s2 y0 y1 y2 sl
                    have HPs := Lib.hid (HPy.out.set (.int .i64 r) (.int .i64 ((j : Int) + 1)) (.slice A4 zs.length c4))
                    have OXs := Lib.hid (((OXy.out.set (a := ⟨P, 0, none⟩) hPw (.int .i64 r)).set (a := ⟨P, 1, none⟩) hPw (.int .i64 ((j : Int) + 1))).set (a := ⟨P, 2, none⟩) hPw (.slice A4 zs.length c4))
                    have HOs := Lib.hid (((HOy.out.set (a := ⟨P, 0, none⟩) (Nat.lt_succ_self P) (.int .i64 r)).set (a := ⟨P, 1, none⟩) (Nat.lt_succ_self P) (.int .i64 ((j : Int) + 1))).set (a := ⟨P, 2, none⟩) (Nat.lt_succ_self P) (.slice A4 zs.length c4))
                    have HBs := Lib.hid (below_set3 HBy.out hwP (.int .i64 r) (.int .i64 ((j : Int) + 1)) (.slice A4 zs.length c4))
                    have DXs := Lib.hid (DXy.out.apart hPD (.int .i64 r) (.int .i64 ((j : Int) + 1)) (.slice A4 zs.length c4))
                    have CKs := Lib.hid (cell_apart3 CKy.out (D := P) (show P ≠ b' by omega) (.int .i64 r) (.int .i64 ((j : Int) + 1)) (.slice A4 zs.length c4))
                    refine hK.out _ _ ?_ (fun hHeld => ?_)
                    · exact ⟨DXs.out.1, DXs.out.2.1, DXs.out.2.2.1, CKs.out⟩
                    clear hK K
                    (try simp only [Act.put, List.setIfInBounds_toArray, List.set_cons_zero, List.set_cons_succ])
                    refine wpAnyH_take (i := 8) (oi := ⟨some 1, _, _, _, _, _⟩) (v := ?_) rfl (by kernel_rfl) (by kernel_rfl) (by kernel_rfl) (fun _ _ _ h => h) (Or.inl ⟨by kernel_rfl, ?_⟩) (by assumption) ?_
                    rotate_left 1
                    · ((intro w hSw; (try dsimp only at hSw); go_simp) <;> (try with_reducible rfl))
                    (try simp only [Act.put, List.setIfInBounds_toArray, List.set_cons_zero, List.set_cons_succ])
                    refine wpAnyH_done (by kernel_rfl) ?_ _
                    clear hHeld HPy OXy HOy HBy DXy CKy DXs CKs
                    generalize ((vy.setCell ⟨P, 0, none⟩ (.int .i64 r)).setCell ⟨P, 1, none⟩ (.int .i64 ((j : Int) + 1))).setCell ⟨P, 2, none⟩ (.slice A4 zs.length c4) = vs at *
                    obtain ⟨g, cc, e, hcc, hbg, hgs⟩ := OXs.out.form HZL.out
                    simp only [Value.slice.injEq] at e
                    obtain ⟨rfl, _, rfl⟩ := e
                    have NE := Lib.hid (show (Value.slice (some ⟨g, 0, none⟩) zs.length c4).ownBlock ≠ u9.ownBlock from fun e => absurd (HOwn.out.lt g e.symm).2 (Nat.not_lt.2 hbg))
                    have HSZ := Lib.hid (show w.heap.size ≤ vs.heap.size from HBs.out.size)
                    have HPsz := Lib.hid (show P + 1 ≤ vs.heap.size from HPs.out.2.2.2.2.2.2)
                    obtain ⟨p0, p1, p2, _⟩ := HPs.out
                    go_wp2_with (at_builtin; go_loud (refine Lk.wpList_app (K := KI) _ rfl _ _ rfl rfl (P + 1) (vs.heap.size + 1) _ _ had [vol + x] rfl rfl (HOs.out.alloc _) (Lk.IsL.lit (K := KI) _ (vol + x) _ HFV.out rfl vs.heap.size rfl) ?c1 ?c2 ?_))
                    case c1 => have := HBK.out.len; simp; omega
                    case c2 => have := HPsz.out; simp; omega
                    intro th2 w3 hown hgrow hat
                    have HB3 := Lib.hid (Lk.Own.grow' ((HOs.out.mono (show w.heap.size ≤ P + 1 by omega)).alloc _) (Below.al HBs.out _) (by have := HSZ.out; simp; omega) hgrow)
                    have HO3 := Lib.hid hown
                    have OX3 := Lib.hid (((OXs.out.mono (show P + 1 ≤ wr.heap.size from hPw)).alloc (.cells #[.int .i64 (vol + x)] 3)).kept hgrow (.inr NE.out))
                    have HP3 := Lib.hid (Cells3.grown (HPs.out.below (Below.al (Below.refl _ _) (.cells #[.int .i64 (vol + x)] 3))) hgrow (fun e => absurd (HOwn.out.lt P e.symm).1 (by omega)))
                    have NE3 := Lib.hid (show (Value.slice (some ⟨g, 0, none⟩) zs.length c4).ownBlock ≠ th2.ownBlock from fun e => by
                      rcases hat with h | h
                      · exact NE.out (e.trans h)
                      · have q := Option.some.inj (e.trans h)
                        simp at q
                        omega)
                    clear hown hgrow hat p0 p1 p2 HOs OXs HPs HBs
                    go_wp2
                    go_roundw
                    case rel => exact ⟨k + 1, j + 1, zs, vol + x, had ++ [vol + x], some ⟨g, 0, none⟩, c4, rfl, num_i (by omega), by omega, HBK2.out, HO3.out, OX3.out, .inr NE3.out, HP3.out, HB3.out⟩
                    case measure => simp [intOf]; omega
                  refine AllReadyH.cons (o := ⟨some 11, _, _, _, _, _⟩) rfl (fun K hK => ?_) ?_
                  · go_simp
                    have QB3 := Lib.hid (Below.al BV.out (.cells #[.int .i64 0, .int .i64 0, .slice none 0 0] 24))
                    have QD3 := Lib.hid (Cells3.new v0 24 (.int .i64 0) (.int .i64 0) (.slice none 0 0))
                    have DL := Lib.hid (show wr.heap.size ≤ v0.heap.size from BV.out.size)
                    clear BV
                    generalize v0.alloc (.cells #[.int .i64 0, .int .i64 0, .slice none 0 0] 24) = v3 at *
                    generalize v0.heap.size = D at *
                    refine hK.out _ _ ?_ (fun hHeld => ?_)
                    · exact ⟨keep_cell QB3.out HP.out.1, keep_cell QB3.out HP.out.2.1, keep_cell QB3.out HP.out.2.2.1, keep_cell QB3.out CK.out⟩
                    clear hK K hHeld
                    (try simp only [Act.put, List.setIfInBounds_toArray, List.set_cons_zero, List.set_cons_succ])
                    refine wpAnyH_ready (rs := [8]) (by kernel_rfl) (by simp) ?_
                    refine AllReadyH.cons (o := ⟨some 58, _, _, _, _, _⟩) rfl (fun K hK => ?_) AllReadyH.nil
                    go_simp
                    refine (HK.out _ rfl _ (HLr.out.then QB3.out)).mono ?_
                    rintro e v4 ⟨A4, c4, rfl, ho, hb⟩
                    have QB4 := Lib.hid (Below.call QB3.out hb)
                    have OW4 := Lib.hid (ho.mono QB3.out.size)
                    have NO := Lib.hid (show ∀ k, (Value.slice A4 zs.length c4).ownBlock = some k → k ≠ D from fun k hk => Nat.ne_of_gt (Nat.lt_of_lt_of_le QD3.out.2.2.2.2.2.2 (ho.lt k hk).1))
                    have QD4 := Lib.hid (QD3.out.below hb)
                    clear hb ho QB3 QD3
                    go_wp2_with fail
                    refine hK.out _ _ ?_ (fun hHeld => ?_)
                    · exact ⟨keep_cell QB4.out HP.out.1, keep_cell QB4.out HP.out.2.1, keep_cell QB4.out HP.out.2.2.1, keep_cell QB4.out CK.out⟩
                    clear hK K
                    (try simp only [Act.put, List.setIfInBounds_toArray, List.set_cons_zero, List.set_cons_succ])
                    refine wpAnyH_take (i := 9) (oi := ⟨some 49, _, _, _, _, _⟩) (v := ?_) rfl (by kernel_rfl) (by kernel_rfl) (by kernel_rfl) (fun _ _ _ h => h) (Or.inl ⟨by kernel_rfl, ?_⟩) (by assumption) ?_
                    rotate_left 1
                    · ((intro w hSw; (try dsimp only at hSw); go_simp) <;> (try with_reducible rfl))
                    (try simp only [Act.put, List.setIfInBounds_toArray, List.set_cons_zero, List.set_cons_succ])
                    refine wpAnyH_take (i := 10) (oi := ⟨some 59, _, _, _, _, _⟩) (v := ?_) rfl (by kernel_rfl) (by kernel_rfl) (by kernel_rfl) (fun _ _ _ h => h) (Or.inl ⟨by kernel_rfl, ?_⟩) (by assumption) ?_
                    rotate_left 1
                    · ((intro w hSw; (try dsimp only at hSw); go_simp) <;> (try with_reducible rfl))
                    (try simp only [Act.put, List.setIfInBounds_toArray, List.set_cons_zero, List.set_cons_succ])
                    refine wpAnyH_take (i := 11) (oi := ⟨some 60, _, _, _, _, _⟩) (v := ?_) rfl (by kernel_rfl) (by kernel_rfl) (by kernel_rfl) (fun _ _ _ h => h) (Or.inl ⟨by kernel_rfl, ?_⟩) (by assumption) ?_
                    rotate_left 1
                    · ((intro w hSw; (try dsimp only at hSw); go_simp) <;> (try with_reducible rfl))
                    (try simp only [Act.put, List.setIfInBounds_toArray, List.set_cons_zero, List.set_cons_succ])
                    clear hHeld
                    refine wpAnyH_ready (rs := [13]) (by kernel_rfl) (by simp) ?_
                    refine AllReadyH.cons (o := ⟨none, _, _, _, _, _⟩) rfl (fun K hK => ?_) AllReadyH.nil
                    obtain ⟨s0, s1, s2, y0, y1, y2, sl⟩ := QD4.out
                    go_simp
                    clear s0 s1 s2 y0 y1 y2 sl
                    have BX := Lib.hid (below_set3 QB4.out DL.out (.int .i64 r) (.int .i64 ((j : Int) + 1)) (.slice A4 zs.length c4))
                    have DX := Lib.hid (QD4.out.set (.int .i64 r) (.int .i64 ((j : Int) + 1)) (.slice A4 zs.length c4))
                    have OX := Lib.hid (((Lk.Own.far OW4.out NO.out 0 (.int .i64 r)).far NO.out 1 (.int .i64 ((j : Int) + 1))).far NO.out 2 (.slice A4 zs.length c4))
                    refine hK.out _ _ ?_ (fun hHeld => ?_)
                    · exact ⟨keep_cell BX.out HP.out.1, keep_cell BX.out HP.out.2.1, keep_cell BX.out HP.out.2.2.1, keep_cell BX.out CK.out⟩
                    clear hK K
                    (try simp only [Act.put, List.setIfInBounds_toArray, List.set_cons_zero, List.set_cons_succ])
                    refine wpAnyH_take (i := 14) (oi := ⟨some 12, _, _, _, _, _⟩) (v := ?_) rfl (by kernel_rfl) (by kernel_rfl) (by kernel_rfl) (fun _ _ _ h => h) (Or.inl ⟨by kernel_rfl, ?_⟩) (by assumption) ?_
                    rotate_left 1
                    · ((intro w hSw; (try dsimp only at hSw); go_simp) <;> (try with_reducible rfl))
                    (try simp only [Act.put, List.setIfInBounds_toArray, List.set_cons_zero, List.set_cons_succ])
                    refine wpAnyH_done (by kernel_rfl) ?_ _
                    clear hHeld QB4 OW4 QD4 NO
                    generalize ((v4.setCell ⟨D, 0, none⟩ (.int .i64 r)).setCell ⟨D, 1, none⟩ (.int .i64 ((j : Int) + 1))).setCell ⟨D, 2, none⟩ (.slice A4 zs.length c4) = vx at *
                    have HOx := Lib.hid (HOwn.out.below BX.out)
                    have HPx := Lib.hid (HP.out.below BX.out)
                    have CKx := Lib.hid (keep_cell BX.out CK.out)
                    have HBx := Lib.hid (Below.call HB.out BX.out)
                    have hPD : P ≠ D := Nat.ne_of_lt (Nat.lt_of_lt_of_le HP.out.2.2.2.2.2.2 DL.out)
                    have hPw := HP.out.2.2.2.2.2.2
                    obtain ⟨d0, d1, d2, _⟩ := DX.out
                    have ex := CKx.out
                    clear BX DL
                    go_wp2_with fail
                    refine wp_region_held_drew (S := fun w' => w'.cell? ⟨D, 0, none⟩ = some (.int .i64 r) ∧ w'.cell? ⟨D, 1, none⟩ = some (.int .i64 ((j : Int) + 1)) ∧ w'.cell? ⟨D, 2, none⟩ = some (.slice A4 zs.length c4) ∧ w'.cell? ⟨b', off + k, none⟩ = some (.int .i64 x)) (by kernel_rfl) ?_ (fun hHeld => ?_)
                    · exact ⟨d0, d1, d2, ex⟩
                    refine wpAnyH_take (i := 0) (oi := ⟨some 82, _, _, _, _, _⟩) (v := ?_) rfl (by kernel_rfl) (by kernel_rfl) (by kernel_rfl) (fun _ _ _ h => h) (Or.inl ⟨by kernel_rfl, ?_⟩) (by assumption) ?_
                    rotate_left 1
                    · ((intro w hSw; (try dsimp only at hSw); go_simp) <;> (try with_reducible rfl))
                    (try simp only [Act.put, List.setIfInBounds_toArray, List.set_cons_zero, List.set_cons_succ])
                    refine wpAnyH_take (i := 1) (oi := ⟨some 83, _, _, _, _, _⟩) (v := ?_) rfl (by kernel_rfl) (by kernel_rfl) (by kernel_rfl) (fun _ _ _ h => h) (Or.inl ⟨by kernel_rfl, ?_⟩) (by assumption) ?_
                    rotate_left 1
                    · ((intro w hSw; (try dsimp only at hSw); go_simp) <;> (try with_reducible rfl))
                    (try simp only [Act.put, List.setIfInBounds_toArray, List.set_cons_zero, List.set_cons_succ])
                    refine wpAnyH_take (i := 2) (oi := ⟨some 84, _, _, _, _, _⟩) (v := ?_) rfl (by kernel_rfl) (by kernel_rfl) (by kernel_rfl) (fun _ _ _ h => h) (Or.inl ⟨by kernel_rfl, ?_⟩) (by assumption) ?_
                    rotate_left 1
                    · ((intro w hSw; (try dsimp only at hSw); go_simp) <;> (try with_reducible rfl))
                    (try simp only [Act.put, List.setIfInBounds_toArray, List.set_cons_zero, List.set_cons_succ])
                    refine wpAnyH_take (i := 3) (oi := ⟨some 85, _, _, _, _, _⟩) (v := ?_) rfl (by kernel_rfl) (by kernel_rfl) (by kernel_rfl) (fun _ _ _ h => h) (Or.inl ⟨by kernel_rfl, ?_⟩) (by assumption) ?_
                    rotate_left 1
                    · ((intro w hSw; (try dsimp only at hSw); go_simp) <;> (try with_reducible rfl))
                    (try simp only [Act.put, List.setIfInBounds_toArray, List.set_cons_zero, List.set_cons_succ])
                    refine wpAnyH_take (i := 4) (oi := ⟨some 86, _, _, _, _, _⟩) (v := ?_) rfl (by kernel_rfl) (by kernel_rfl) (by kernel_rfl) (fun _ _ _ h => h) (Or.inl ⟨by kernel_rfl, ?_⟩) (by assumption) ?_
                    rotate_left 1
                    · ((intro w hSw; (try dsimp only at hSw); go_simp) <;> (try with_reducible rfl))
                    (try simp only [Act.put, List.setIfInBounds_toArray, List.set_cons_zero, List.set_cons_succ])
                    refine wpAnyH_take (i := 5) (oi := ⟨some 87, _, _, _, _, _⟩) (v := ?_) rfl (by kernel_rfl) (by kernel_rfl) (by kernel_rfl) (fun _ _ _ h => h) (Or.inl ⟨by kernel_rfl, ?_⟩) (by assumption) ?_
                    rotate_left 1
                    · ((intro w hSw; (try dsimp only at hSw); go_simp) <;> (try with_reducible rfl))
                    (try simp only [Act.put, List.setIfInBounds_toArray, List.set_cons_zero, List.set_cons_succ])
                    refine wpAnyH_take (i := 6) (oi := ⟨some 88, _, _, _, _, _⟩) (v := ?_) rfl (by kernel_rfl) (by kernel_rfl) (by kernel_rfl) (fun _ _ _ h => h) (Or.inl ⟨by kernel_rfl, ?_⟩) (by assumption) ?_
                    rotate_left 1
                    · ((intro w hSw; (try dsimp only at hSw); go_simp) <;> (try with_reducible rfl))
                    (try simp only [Act.put, List.setIfInBounds_toArray, List.set_cons_zero, List.set_cons_succ])
                    simp only [HW.out]
                    clear d0 d1 d2 ex
                    have Bd := (Below.refl vx.heap.size vx).drew
                    have HOy := Lib.hid (HOx.out.below Bd)
                    have HPy := Lib.hid (HPx.out.below Bd)
                    have CKy := Lib.hid (keep_cell Bd CKx.out)
                    have HBy := Lib.hid (Below.call HBx.out Bd)
                    have DXy := Lib.hid (DX.out.below Bd)
                    have OXy := Lib.hid (OX.out.below Bd)
                    clear Bd HOx HPx CKx HBx DX OX hHeld
                    generalize vx.drew = vy at *
                    refine wpAnyH_ready (rs := [7]) (by kernel_rfl) (by simp) ?_
                    refine AllReadyH.cons (o := ⟨none, _, _, _, _, _⟩) rfl (fun K hK => ?_) AllReadyH.nil
                    obtain ⟨s0, s1, s2, y0, y1, y2, sl⟩ := HPy.out
                    go_simp
                    clear s0 s1 s2 y0 y1 y2 sl
                    have HPs := Lib.hid (HPy.out.set (.int .i64 r) (.int .i64 ((j : Int) + 1)) (.slice A4 zs.length c4))
                    have OXs := Lib.hid (((OXy.out.set (a := ⟨P, 0, none⟩) hPw (.int .i64 r)).set (a := ⟨P, 1, none⟩) hPw (.int .i64 ((j : Int) + 1))).set (a := ⟨P, 2, none⟩) hPw (.slice A4 zs.length c4))
                    have HOs := Lib.hid (((HOy.out.set (a := ⟨P, 0, none⟩) (Nat.lt_succ_self P) (.int .i64 r)).set (a := ⟨P, 1, none⟩) (Nat.lt_succ_self P) (.int .i64 ((j : Int) + 1))).set (a := ⟨P, 2, none⟩) (Nat.lt_succ_self P) (.slice A4 zs.length c4))
                    have HBs := Lib.hid (below_set3 HBy.out hwP (.int .i64 r) (.int .i64 ((j : Int) + 1)) (.slice A4 zs.length c4))
                    have DXs := Lib.hid (DXy.out.apart hPD (.int .i64 r) (.int .i64 ((j : Int) + 1)) (.slice A4 zs.length c4))
                    have CKs := Lib.hid (cell_apart3 CKy.out (D := P) (show P ≠ b' by omega) (.int .i64 r) (.int .i64 ((j : Int) + 1)) (.slice A4 zs.length c4))
                    refine hK.out _ _ ?_ (fun hHeld => ?_)
                    · exact ⟨DXs.out.1, DXs.out.2.1, DXs.out.2.2.1, CKs.out⟩
                    clear hK K
                    (try simp only [Act.put, List.setIfInBounds_toArray, List.set_cons_zero, List.set_cons_succ])
                    refine wpAnyH_take (i := 8) (oi := ⟨some 1, _, _, _, _, _⟩) (v := ?_) rfl (by kernel_rfl) (by kernel_rfl) (by kernel_rfl) (fun _ _ _ h => h) (Or.inl ⟨by kernel_rfl, ?_⟩) (by assumption) ?_
                    rotate_left 1
                    · ((intro w hSw; (try dsimp only at hSw); go_simp) <;> (try with_reducible rfl))
                    (try simp only [Act.put, List.setIfInBounds_toArray, List.set_cons_zero, List.set_cons_succ])
                    refine wpAnyH_done (by kernel_rfl) ?_ _
                    clear hHeld HPy OXy HOy HBy DXy CKy DXs CKs
                    generalize ((vy.setCell ⟨P, 0, none⟩ (.int .i64 r)).setCell ⟨P, 1, none⟩ (.int .i64 ((j : Int) + 1))).setCell ⟨P, 2, none⟩ (.slice A4 zs.length c4) = vs at *
                    obtain ⟨g, cc, e, hcc, hbg, hgs⟩ := OXs.out.form HZL.out
                    simp only [Value.slice.injEq] at e
                    obtain ⟨rfl, _, rfl⟩ := e
                    have NE := Lib.hid (show (Value.slice (some ⟨g, 0, none⟩) zs.length c4).ownBlock ≠ u9.ownBlock from fun e => absurd (HOwn.out.lt g e.symm).2 (Nat.not_lt.2 hbg))
                    have HSZ := Lib.hid (show w.heap.size ≤ vs.heap.size from HBs.out.size)
                    have HPsz := Lib.hid (show P + 1 ≤ vs.heap.size from HPs.out.2.2.2.2.2.2)
                    obtain ⟨p0, p1, p2, _⟩ := HPs.out
                    go_wp2_with (at_builtin; go_loud (refine Lk.wpList_app (K := KI) _ rfl _ _ rfl rfl (P + 1) (vs.heap.size + 1) _ _ had [vol + x] rfl rfl (HOs.out.alloc _) (Lk.IsL.lit (K := KI) _ (vol + x) _ HFV.out rfl vs.heap.size rfl) ?c1 ?c2 ?_))
                    case c1 => have := HBK.out.len; simp; omega
                    case c2 => have := HPsz.out; simp; omega
                    intro th2 w3 hown hgrow hat
                    have HB3 := Lib.hid (Lk.Own.grow' ((HOs.out.mono (show w.heap.size ≤ P + 1 by omega)).alloc _) (Below.al HBs.out _) (by have := HSZ.out; simp; omega) hgrow)
                    have HO3 := Lib.hid hown
                    have OX3 := Lib.hid (((OXs.out.mono (show P + 1 ≤ wr.heap.size from hPw)).alloc (.cells #[.int .i64 (vol + x)] 3)).kept hgrow (.inr NE.out))
                    have HP3 := Lib.hid (Cells3.grown (HPs.out.below (Below.al (Below.refl _ _) (.cells #[.int .i64 (vol + x)] 3))) hgrow (fun e => absurd (HOwn.out.lt P e.symm).1 (by omega)))
                    have NE3 := Lib.hid (show (Value.slice (some ⟨g, 0, none⟩) zs.length c4).ownBlock ≠ th2.ownBlock from fun e => by
                      rcases hat with h | h
                      · exact NE.out (e.trans h)
                      · have q := Option.some.inj (e.trans h)
                        simp at q
                        omega)
                    clear hown hgrow hat p0 p1 p2 HOs OXs HPs HBs
                    go_wp2
                    go_roundw
                    case rel => exact ⟨k + 1, j + 1, zs, vol + x, had ++ [vol + x], some ⟨g, 0, none⟩, c4, rfl, num_i (by omega), by omega, HBK2.out, HO3.out, OX3.out, .inr NE3.out, HP3.out, HB3.out⟩
                    case measure => simp [intOf]; omega
                  exact AllReadyH.nil
              · obtain rfl : k = xs.length := by omega
                have HHI := Lib.hid (HOwn.out.isL (by have := HBK.out.len; omega))
                obtain ⟨A3, c3, rfl, _⟩ := HHI.out.shape
                have HLI := Lib.hid (HLO.out.isL (by have := HBK.out.small; omega))
                have hlen1 : had.length ≤ j + 1 := by have := HBK.out.len; omega
                have hlen2 : j + 1 ≤ had.length := by have := HBK.out.len; omega
                obtain ⟨wv, hwv⟩ : ∃ wv, wv = wr := ⟨_, rfl⟩
                subst hwv
                clear HOwn HLO HNE g0 g1 g2
                go_wp2
                go_loopw [13] (fun ti wz => ∃ m : Nat, ti = .int .i64 m ∧ m ≤ had.length ∧ Below wv.heap.size wv wz) (fun i _ => had.length - (intOf i).toNat)
                case atStart => exact ⟨0, rfl, Nat.zero_le _, Below.refl _ _⟩
                case round =>
                  obtain ⟨m, rfl, hmk, hbz⟩ := hrel
                  have HPz := Lib.hid (HP.out.below hbz)
                  have HHz := Lib.hid (HHI.out.then hbz)
                  have HLz := Lib.hid (HLI.out.then hbz)
                  have HBz := Lib.hid hbz
                  clear hbz
                  obtain ⟨g0, g1, g2, _⟩ := HPz.out
                  by_cases hlt2 : m < had.length
                  · have H18 := Lib.hid (fun w h => at_any r j A1 c1 L vol m hfv w h)
                    by_cases hr : (j : Int) - m ≤ r
                    · obtain ⟨q1, q2⟩ := HBK.out.kept m (by omega) hr
                      rw [q1, q2] at H18
                      clear q1 q2
                      obtain ⟨b2, off2, cap2, e, hcap2, hb2, _, hcell2, _⟩ := KI.cells HHz.out (by omega)
                      simp only [Value.slice.injEq] at e
                      obtain ⟨rfl, _, rfl⟩ := e
                      have CM := Lib.hid (hcell2 m hlt2)
                      clear hcell2
                      generalize had.getD m 0 = y at *
                      go_wp2_with fail
                      refine (H18.out _ HLz.out).mono ?_
                      rintro e w7 ⟨rfl, hb7⟩
                      have HB7 := Lib.hid (Below.call HBz.out hb7)
                      have e7 := keep_cell hb7 CM.out
                      clear hb7 g0 g1 g2
                      go_wp2
                      go_roundw
                      case rel => exact ⟨m + 1, num_i (by omega), by omega, HB7.out⟩
                      case measure => simp [intOf]; omega
                    · obtain ⟨q1, q2⟩ := HBK.out.gone m (by omega) (by omega)
                      rw [q1, q2] at H18
                      clear q1 q2
                      go_wp2_with fail
                      refine (H18.out _ HLz.out).mono ?_
                      rintro e w7 ⟨rfl, hb7⟩
                      have HB7 := Lib.hid (Below.call HBz.out hb7)
                      clear hb7 g0 g1 g2
                      go_wp2
                      go_roundw
                      case rel => exact ⟨m + 1, num_i (by omega), by omega, HB7.out⟩
                      case measure => simp [intOf]; omega
                  · obtain rfl : m = had.length := by omega
                    go_wp2
                    go_ret
                    exact ⟨rt_l _ (by simp; omega), Below.call HB.out HBz.out⟩
          · rw [show newE r = 0 from if_pos ⟨h1, h2⟩] at H15
            generalize newR r = nr at *
            go_enter Try.func5, Try.ntmps5
            go_wp2_with fail
            refine (H15.out _).mono ?_
            rintro e w1 ⟨rfl, hb1⟩
            have HB1 := Lib.hid (Below.al hb1 (.cells #[.int .i64 nr, .int .i64 0, .slice none 0 0] 24))
            clear hb1
            go_wp2_with fail
            refine (HLV.out _).mono ?_
            rintro e w2 ⟨rfl, hb2⟩
            have HB2 := Lib.hid (Below.call HB1.out hb2)
            clear hb2
            go_wp2_with fail
            refine (HLV.out _).mono ?_
            rintro e w3 ⟨rfl, hb3⟩
            have HB3 := Lib.hid (Below.call HB2.out hb3)
            clear hb3
            go_wp2
            go_ret
            exact ⟨rfl, HB3.out⟩
        · rw [show newE r = 0 from if_pos ⟨h1, h2⟩] at H15
          generalize newR r = nr at *
          go_enter Try.func5, Try.ntmps5
          go_wp2_with fail
          refine (H15.out _).mono ?_
          rintro e w1 ⟨rfl, hb1⟩
          have HB1 := Lib.hid (Below.al hb1 (.cells #[.int .i64 nr, .int .i64 0, .slice none 0 0] 24))
          clear hb1
          go_wp2_with fail
          refine (HLV.out _).mono ?_
          rintro e w2 ⟨rfl, hb2⟩
          have HB2 := Lib.hid (Below.call HB1.out hb2)
          clear hb2
          go_wp2_with fail
          refine (HLV.out _).mono ?_
          rintro e w3 ⟨rfl, hb3⟩
          have HB3 := Lib.hid (Below.call HB2.out hb3)
          clear hb3
          go_wp2
          go_ret
          exact ⟨rfl, HB3.out⟩
      · rw [show newE r = 0 from if_pos ⟨h1, h2⟩] at H15
        generalize newR r = nr at *
        go_enter Try.func5, Try.ntmps5
        go_wp2_with fail
        refine (H15.out _).mono ?_
        rintro e w1 ⟨rfl, hb1⟩
        have HB1 := Lib.hid (Below.al hb1 (.cells #[.int .i64 nr, .int .i64 0, .slice none 0 0] 24))
        clear hb1
        go_wp2_with fail
        refine (HLV.out _).mono ?_
        rintro e w2 ⟨rfl, hb2⟩
        have HB2 := Lib.hid (Below.call HB1.out hb2)
        clear hb2
        go_wp2_with fail
        refine (HLV.out _).mono ?_
        rintro e w3 ⟨rfl, hb3⟩
        have HB3 := Lib.hid (Below.call HB2.out hb3)
        clear hb3
        go_wp2
        go_ret
        exact ⟨rfl, HB3.out⟩
    · rw [show newE r = 110 from if_neg (by omega)] at H15
      generalize newR r = nr at *
      go_enter Try.func5, Try.ntmps5
      go_wp2_with fail
      refine (H15.out _).mono ?_
      rintro e w1 ⟨rfl, hb1⟩
      have HB1 := Lib.hid (Below.al hb1 (.cells #[.int .i64 nr, .int .i64 0, .slice none 0 0] 24))
      clear hb1
      go_wp2_with fail
      refine (HLV.out _).mono ?_
      rintro e w2 ⟨rfl, hb2⟩
      have HB2 := Lib.hid (Below.call HB1.out hb2)
      clear hb2
      go_wp2_with fail
      refine (HLV.out _).mono ?_
      rintro e w3 ⟨rfl, hb3⟩
      have HB3 := Lib.hid (Below.call HB2.out hb3)
      clear hb3
      go_wp2
      go_ret
      exact ⟨rfl, HB3.out⟩
  · rw [show newE r = 110 from if_neg (by omega)] at H15
    generalize newR r = nr at *
    go_enter Try.func5, Try.ntmps5
    go_wp2_with fail
    refine (H15.out _).mono ?_
    rintro e w1 ⟨rfl, hb1⟩
    have HB1 := Lib.hid (Below.al hb1 (.cells #[.int .i64 nr, .int .i64 0, .slice none 0 0] 24))
    clear hb1
    go_wp2_with fail
    refine (HLV.out _).mono ?_
    rintro e w2 ⟨rfl, hb2⟩
    have HB2 := Lib.hid (Below.call HB1.out hb2)
    clear hb2
    go_wp2_with fail
    refine (HLV.out _).mono ?_
    rintro e w3 ⟨rfl, hb3⟩
    have HB3 := Lib.hid (Below.call HB2.out hb3)
    clear hb3
    go_wp2
    go_ret
    exact ⟨rfl, HB3.out⟩
end Go.Proofs.Ytdghekhkjkkgfaa
