/- Whatever arms do with a fresh tip: the law's walk. -/
import Derived.Test.YtdghekhkjkkgfaaHH
import Derived.Test.YtdghekhkjkkgfaaKX
namespace Go.Proofs.Ytdghekhkjkkgfaa
open Go.RowKit

/-- The tip as it stands after whatever was done: taken, dropped, by whom; state, arm. -/
def on (t d y s b : Int) : Prop := (t = 0 ∧ d = 0 ∧ y = 0 ∧ s = 1 ∧ b = 0) ∨ (t = 1 ∧ d = 0 ∧ s = 2 ∧ b = y ∧ 1 ≤ b ∧ b ≤ 8) ∨ (t = 1 ∧ d = 1 ∧ s = 3 ∧ b = 0)
theorem on_take {t d y s b a : Int} (h : on t d y s b) (he : tkE s b a = 0) : on (t + 1) d a 2 a ∧ tkV s b a = (2, a) ∧ t = 0 ∧ d = 0 := by
  refine ⟨?_, by unfold tkV; rw [if_pos he], ?_⟩
  all_goals
    unfold tkE ofV armB at he
    unfold on at *
    have hd : ∀ q : Prop, [Decidable q] → decide q = false ↔ ¬ q := fun q _ => decide_eq_false_iff_not
    simp only [hd] at he
    split at he <;> first | omega | (split at he <;> first | omega | (split at he <;> omega))
theorem on_drop {t d y s b a : Int} (h : on t d y s b) (he : dpE s b a = 0) : on 1 (d + 1) y 3 0 ∧ dpV s b a = (3, 0) ∧ t = 1 ∧ d = 0 ∧ y = a := by
  have hv : dpV s b a = (3, 0) := by unfold dpV; rw [if_pos he]
  unfold dpE ofV armB at he
  have hd : ∀ q : Prop, [Decidable q] → decide q = false ↔ ¬ q := fun q _ => decide_eq_false_iff_not
  simp only [hd] at he
  unfold on at *
  refine ⟨?_, hv, ?_⟩
  all_goals
    split at he <;> first | omega | (split at he <;> first | omega | (split at he <;> omega))
theorem on_le {t d y s b : Int} (h : on t d y s b) : 0 ≤ t ∧ t ≤ 1 ∧ 0 ≤ d ∧ d ≤ 1 := by
  unfold on at h
  omega

set_option maxRecDepth 100000 in
set_option maxHeartbeats 8000000 in
theorem tipOnce_walk (v : Value) (xs : List (Bool × Int)) (w : World) (hv : KD.IsL w w.heap.size v xs) : Calls Try.prog 8 #[v] w fun e w' => e = .returned (.bool true) ∧ Below w.heap.size w w' := by
  obtain ⟨A, c, rfl, hcap⟩ := hv.shape
  have HV := Lib.hid hv
  have hl := hv.2.2
  have HL := Lib.hid (fun w => lives_any w)
  clear hv
  go_enter Try.func8, Try.ntmps8
  obtain ⟨w0, hw0⟩ : ∃ w0, w0 = w.alloc (.cells #[.int .i64 1, .int .i64 0] 44) := ⟨_, rfl⟩
  have HB0 := Lib.hid (show Below w.heap.size w w0 by rw [hw0]; exact Below.al (Below.refl _ _) _)
  have HR0 := Lib.hid (show Cells2 w0 w.heap.size (.int .i64 1) (.int .i64 0) by rw [hw0]; exact Cells2.new w _ _ _)
  go_wp2
  rw [← hw0]
  clear hw0
  obtain ⟨G, hG⟩ : ∃ G, w.heap.size = G := ⟨_, rfl⟩
  have HWG := Lib.hid (show w.heap.size ≤ G from Nat.le_of_eq hG)
  rw [hG] at HR0
  simp only [hG]
  go_loopw [4, 5, 6, 7] (fun tt td ty ti wr => ∃ (k : Nat) (t d y s b : Int), tt = .int .i64 t ∧ td = .int .i64 d ∧ ty = .int .i64 y ∧ ti = .int .i64 k ∧ on t d y s b ∧ k ≤ xs.length ∧ Cells2 wr G (.int .i64 s) (.int .i64 b) ∧ Below w.heap.size w wr) (fun _ _ _ i _ => xs.length - (intOf i).toNat)
  case atStart => exact ⟨0, 0, 0, 0, 1, 0, rfl, rfl, rfl, rfl, .inl ⟨rfl, rfl, rfl, rfl, rfl⟩, Nat.zero_le _, HR0.out, HB0.out⟩
  case round =>
    obtain ⟨k, t, d, y, s, b, rfl, rfl, rfl, rfl, ho, hk, hc, hbl⟩ := hrel
    have HB := Lib.hid hbl
    have HR := Lib.hid hc
    have HO := Lib.hid ho
    have hol := on_le ho
    clear hbl hc ho
    by_cases hlt : k < xs.length
    · obtain ⟨b', off, rfl, hb', hbc, hcell⟩ := deed_cells (HV.out.below HB.out) (by omega)
      obtain ⟨e1, e2⟩ := hcell k hlt
      clear hcell
      generalize xs.getD k (false, 0) = q at *
      obtain ⟨dr, a⟩ := q
      dsimp only at *
      have CK := Lib.hid e2
      have NB := Lib.hid (show b' < wr.heap.size from Nat.lt_of_lt_of_le (hG ▸ hb') (hG ▸ HB.out.size))
      cases dr
      · have HK := Lib.hid (fun w => take_any s b a w)
        by_cases he : tkE s b a = 0
        · obtain ⟨hn, hvv, rfl, rfl⟩ := on_take HO.out he
          rw [hvv, he] at HK
          have HN := Lib.hid hn
          clear hn hvv he HO
          go_wp2_with fail
          obtain ⟨g0, g1, _⟩ := HR.out
          refine wp_region_held_drew (S := fun w' => w'.cell? ⟨G, 0, none⟩ = some (.int .i64 s) ∧ w'.cell? ⟨G, 1, none⟩ = some (.int .i64 b) ∧ w'.cell? ⟨b', off + k * 2 + 1, none⟩ = some (.int .i64 a)) (by kernel_rfl) ?_ (fun hHeld => ?_)
          · exact ⟨g0, g1, e2⟩
          refine wpAnyH_take (i := 0) (oi := ⟨some 51, _, _, _, _, _⟩) (v := ?_) rfl (by kernel_rfl) (by kernel_rfl) (by kernel_rfl) (fun _ _ _ h => h) (Or.inl ⟨by kernel_rfl, ?_⟩) (by assumption) ?_
          rotate_left 1
          · ((intro w hSw; (try dsimp only at hSw); go_simp) <;> (try with_reducible rfl))
          (try simp only [Act.put, List.setIfInBounds_toArray, List.set_cons_zero, List.set_cons_succ])
          refine wpAnyH_take (i := 1) (oi := ⟨some 52, _, _, _, _, _⟩) (v := ?_) rfl (by kernel_rfl) (by kernel_rfl) (by kernel_rfl) (fun _ _ _ h => h) (Or.inl ⟨by kernel_rfl, ?_⟩) (by assumption) ?_
          rotate_left 1
          · ((intro w hSw; (try dsimp only at hSw); go_simp) <;> (try with_reducible rfl))
          (try simp only [Act.put, List.setIfInBounds_toArray, List.set_cons_zero, List.set_cons_succ])
          refine wpAnyH_take (i := 2) (oi := ⟨some 53, _, _, _, _, _⟩) (v := ?_) rfl (by kernel_rfl) (by kernel_rfl) (by kernel_rfl) (fun _ _ _ h => h) (Or.inl ⟨by kernel_rfl, ?_⟩) (by assumption) ?_
          rotate_left 1
          · ((intro w hSw; (try dsimp only at hSw); go_simp) <;> (try with_reducible rfl))
          (try simp only [Act.put, List.setIfInBounds_toArray, List.set_cons_zero, List.set_cons_succ])
          refine wpAnyH_take (i := 3) (oi := ⟨some 54, _, _, _, _, _⟩) (v := ?_) rfl (by kernel_rfl) (by kernel_rfl) (by kernel_rfl) (fun _ _ _ h => h) (Or.inl ⟨by kernel_rfl, ?_⟩) (by assumption) ?_
          rotate_left 1
          · ((intro w hSw; (try dsimp only at hSw); go_simp) <;> (try with_reducible rfl))
          (try simp only [Act.put, List.setIfInBounds_toArray, List.set_cons_zero, List.set_cons_succ])
          refine wpAnyH_take (i := 4) (oi := ⟨some 55, _, _, _, _, _⟩) (v := ?_) rfl (by kernel_rfl) (by kernel_rfl) (by kernel_rfl) (fun _ _ _ h => h) (Or.inl ⟨by kernel_rfl, ?_⟩) (by assumption) ?_
          rotate_left 1
          · ((intro w hSw; (try dsimp only at hSw); go_simp) <;> (try with_reducible rfl))
          (try simp only [Act.put, List.setIfInBounds_toArray, List.set_cons_zero, List.set_cons_succ])
          refine wpAnyH_take (i := 5) (oi := ⟨some 56, _, _, _, _, _⟩) (v := ?_) rfl (by kernel_rfl) (by kernel_rfl) (by kernel_rfl) (fun _ _ _ h => h) (Or.inl ⟨by kernel_rfl, ?_⟩) (by assumption) ?_
          rotate_left 1
          · ((intro w hSw; (try dsimp only at hSw); go_simp) <;> (try with_reducible rfl))
          (try simp only [Act.put, List.setIfInBounds_toArray, List.set_cons_zero, List.set_cons_succ])
          clear g0 g1 e2
          have R0 := Lib.hid (HR.out.below (Below.refl _ _).drew)
          have B0 := Lib.hid (Below.call HB.out (Below.refl _ wr).drew)
          have C0_0 := Lib.hid (keep_cell (Below.refl _ wr).drew CK.out)
          have N0_0 := Lib.hid (show b' < wr.drew.heap.size from NB.out)
          generalize wr.drew = v0 at *
          refine wpAnyH_ready (rs := [6, 10]) (by kernel_rfl) (by simp) ?_
          refine AllReadyH.cons (o := ⟨some 57, _, _, _, _, _⟩) rfl (fun K hK => ?_) ?_
          · go_simp
            refine (HK.out _).mono ?_
            rintro e v1 ⟨rfl, hb⟩
            have R1 := Lib.hid (R0.out.below hb)
            have B1 := Lib.hid (Below.call B0.out hb)
            have C0_1 := Lib.hid (keep_cell hb C0_0.out)
            have N0_1 := Lib.hid (Nat.lt_of_lt_of_le N0_0.out hb.size)
            clear hb B0 R0 C0_0 N0_0
            go_wp2_with fail
            refine hK.out _ _ ?_ (fun hHeld => ?_)
            · exact ⟨R1.out.1, R1.out.2.1, C0_1.out⟩
            clear hK K
            (try simp only [Act.put, List.setIfInBounds_toArray, List.set_cons_zero, List.set_cons_succ])
            refine wpAnyH_take (i := 7) (oi := ⟨some 50, _, _, _, _, _⟩) (v := ?_) rfl (by kernel_rfl) (by kernel_rfl) (by kernel_rfl) (fun _ _ _ h => h) (Or.inl ⟨by kernel_rfl, ?_⟩) (by assumption) ?_
            rotate_left 1
            · ((intro w hSw; (try dsimp only at hSw); go_simp) <;> (try with_reducible rfl))
            (try simp only [Act.put, List.setIfInBounds_toArray, List.set_cons_zero, List.set_cons_succ])
            refine wpAnyH_take (i := 8) (oi := ⟨some 58, _, _, _, _, _⟩) (v := ?_) rfl (by kernel_rfl) (by kernel_rfl) (by kernel_rfl) (fun _ _ _ h => h) (Or.inl ⟨by kernel_rfl, ?_⟩) (by assumption) ?_
            rotate_left 1
            · ((intro w hSw; (try dsimp only at hSw); go_simp) <;> (try with_reducible rfl))
            (try simp only [Act.put, List.setIfInBounds_toArray, List.set_cons_zero, List.set_cons_succ])
            refine wpAnyH_take (i := 9) (oi := ⟨some 59, _, _, _, _, _⟩) (v := ?_) rfl (by kernel_rfl) (by kernel_rfl) (by kernel_rfl) (fun _ _ _ h => h) (Or.inl ⟨by kernel_rfl, ?_⟩) (by assumption) ?_
            rotate_left 1
            · ((intro w hSw; (try dsimp only at hSw); go_simp) <;> (try with_reducible rfl))
            (try simp only [Act.put, List.setIfInBounds_toArray, List.set_cons_zero, List.set_cons_succ])
            refine wpAnyH_ready (rs := [10]) (by kernel_rfl) (by simp) ?_
            refine AllReadyH.cons (o := ⟨some 10, _, _, _, _, _⟩) rfl (fun K hK => ?_) AllReadyH.nil
            go_simp
            have hb := Below.al (Below.refl _ v1) (.cells #[.int .i64 0, .int .i64 0] 44)
            have R2 := Lib.hid (R1.out.below hb)
            have B2 := Lib.hid (Below.call B1.out hb)
            have C0_2 := Lib.hid (keep_cell hb C0_1.out)
            have N0_2 := Lib.hid (Nat.lt_of_lt_of_le N0_1.out hb.size)
            have D2 := Lib.hid (Cells2.new v1 44 (.int .i64 0) (.int .i64 0))
            have NE := Lib.hid (show v1.heap.size ≠ _ from Nat.ne_of_gt R1.out.2.2.2.2)
            have NL := Lib.hid (show w.heap.size ≤ v1.heap.size from B1.out.size)
            have NX0 := Lib.hid (show v1.heap.size ≠ b' from Nat.ne_of_gt N0_1.out)
            clear hb R1 B1 C0_1 N0_1
            generalize v1.alloc (.cells #[.int .i64 0, .int .i64 0] 44) = v2 at *
            generalize v1.heap.size = D at *
            refine hK.out _ _ ?_ (fun hHeld => ?_)
            · exact ⟨R2.out.1, R2.out.2.1, C0_2.out⟩
            clear hK K
            (try simp only [Act.put, List.setIfInBounds_toArray, List.set_cons_zero, List.set_cons_succ])
            refine wpAnyH_ready (rs := [11]) (by kernel_rfl) (by simp) ?_
            refine AllReadyH.cons (o := ⟨none, _, _, _, _, _⟩) rfl (fun K hK => ?_) AllReadyH.nil
            obtain ⟨s0, s1, y0, y1, sl⟩ := D2.out
            go_simp
            clear s0 s1 y0 y1 sl
            have RX := Lib.hid (R2.out.apart NE.out (.int .i64 2) (.int .i64 a))
            have DX := Lib.hid (D2.out.set (.int .i64 2) (.int .i64 a))
            have BX := Lib.hid (below_set2 B2.out NL.out (.int .i64 2) (.int .i64 a))
            have CX0 := Lib.hid (cell_apart2 C0_2.out NX0.out (.int .i64 2) (.int .i64 a))
            refine hK.out _ _ ?_ (fun hHeld => ?_)
            · exact ⟨RX.out.1, RX.out.2.1, CX0.out⟩
            clear hK K
            (try simp only [Act.put, List.setIfInBounds_toArray, List.set_cons_zero, List.set_cons_succ])
            refine wpAnyH_take (i := 12) (oi := ⟨some 11, _, _, _, _, _⟩) (v := ?_) rfl (by kernel_rfl) (by kernel_rfl) (by kernel_rfl) (fun _ _ _ h => h) (Or.inl ⟨by kernel_rfl, ?_⟩) (by assumption) ?_
            rotate_left 1
            · ((intro w hSw; (try dsimp only at hSw); go_simp) <;> (try with_reducible rfl))
            (try simp only [Act.put, List.setIfInBounds_toArray, List.set_cons_zero, List.set_cons_succ])
            refine wpAnyH_done (by kernel_rfl) ?_ _
            clear hHeld R2 B2 C0_2 N0_2 D2
            generalize (v2.setCell ⟨D, 0, none⟩ (.int .i64 2)).setCell ⟨D, 1, none⟩ (.int .i64 a) = vx at *
            obtain ⟨d0, d1, _⟩ := DX.out
            have e3 := CX0.out
            have RY := Lib.hid (RX.out.set (.int .i64 2) (.int .i64 a))
            have BY := Lib.hid (below_set2 BX.out HWG.out (.int .i64 2) (.int .i64 a))
            obtain ⟨r0, r1, z0, z1, _⟩ := RX.out
            clear DX CX0 NL CK NB
            go_wp2_with fail
            go_roundw
            case rel => exact ⟨k + 1, 1, 0, a, 2, a, num_i (by omega), rfl, rfl, num_i (by omega), HN.out, by omega, RY.out, BY.out⟩
            case measure => simp [intOf]; omega
          refine AllReadyH.cons (o := ⟨some 10, _, _, _, _, _⟩) rfl (fun K hK => ?_) ?_
          · go_simp
            have hb := Below.al (Below.refl _ v0) (.cells #[.int .i64 0, .int .i64 0] 44)
            have R3 := Lib.hid (R0.out.below hb)
            have B3 := Lib.hid (Below.call B0.out hb)
            have C0_3 := Lib.hid (keep_cell hb C0_0.out)
            have N0_3 := Lib.hid (Nat.lt_of_lt_of_le N0_0.out hb.size)
            have D3 := Lib.hid (Cells2.new v0 44 (.int .i64 0) (.int .i64 0))
            have NE := Lib.hid (show v0.heap.size ≠ _ from Nat.ne_of_gt R0.out.2.2.2.2)
            have NL := Lib.hid (show w.heap.size ≤ v0.heap.size from B0.out.size)
            have NX0 := Lib.hid (show v0.heap.size ≠ b' from Nat.ne_of_gt N0_0.out)
            clear hb B0 R0 C0_0 N0_0
            generalize v0.alloc (.cells #[.int .i64 0, .int .i64 0] 44) = v3 at *
            generalize v0.heap.size = D at *
            refine hK.out _ _ ?_ (fun hHeld => ?_)
            · exact ⟨R3.out.1, R3.out.2.1, C0_3.out⟩
            clear hK K
            (try simp only [Act.put, List.setIfInBounds_toArray, List.set_cons_zero, List.set_cons_succ])
            refine wpAnyH_ready (rs := [6]) (by kernel_rfl) (by simp) ?_
            refine AllReadyH.cons (o := ⟨some 57, _, _, _, _, _⟩) rfl (fun K hK => ?_) AllReadyH.nil
            go_simp
            refine (HK.out _).mono ?_
            rintro e v4 ⟨rfl, hb⟩
            have R4 := Lib.hid (R3.out.below hb)
            have B4 := Lib.hid (Below.call B3.out hb)
            have C0_4 := Lib.hid (keep_cell hb C0_3.out)
            have N0_4 := Lib.hid (Nat.lt_of_lt_of_le N0_3.out hb.size)
            have D4 := Lib.hid (D3.out.below hb)
            clear hb R3 B3 C0_3 N0_3 D3
            go_wp2_with fail
            refine hK.out _ _ ?_ (fun hHeld => ?_)
            · exact ⟨R4.out.1, R4.out.2.1, C0_4.out⟩
            clear hK K
            (try simp only [Act.put, List.setIfInBounds_toArray, List.set_cons_zero, List.set_cons_succ])
            refine wpAnyH_take (i := 7) (oi := ⟨some 50, _, _, _, _, _⟩) (v := ?_) rfl (by kernel_rfl) (by kernel_rfl) (by kernel_rfl) (fun _ _ _ h => h) (Or.inl ⟨by kernel_rfl, ?_⟩) (by assumption) ?_
            rotate_left 1
            · ((intro w hSw; (try dsimp only at hSw); go_simp) <;> (try with_reducible rfl))
            (try simp only [Act.put, List.setIfInBounds_toArray, List.set_cons_zero, List.set_cons_succ])
            refine wpAnyH_take (i := 8) (oi := ⟨some 58, _, _, _, _, _⟩) (v := ?_) rfl (by kernel_rfl) (by kernel_rfl) (by kernel_rfl) (fun _ _ _ h => h) (Or.inl ⟨by kernel_rfl, ?_⟩) (by assumption) ?_
            rotate_left 1
            · ((intro w hSw; (try dsimp only at hSw); go_simp) <;> (try with_reducible rfl))
            (try simp only [Act.put, List.setIfInBounds_toArray, List.set_cons_zero, List.set_cons_succ])
            refine wpAnyH_take (i := 9) (oi := ⟨some 59, _, _, _, _, _⟩) (v := ?_) rfl (by kernel_rfl) (by kernel_rfl) (by kernel_rfl) (fun _ _ _ h => h) (Or.inl ⟨by kernel_rfl, ?_⟩) (by assumption) ?_
            rotate_left 1
            · ((intro w hSw; (try dsimp only at hSw); go_simp) <;> (try with_reducible rfl))
            (try simp only [Act.put, List.setIfInBounds_toArray, List.set_cons_zero, List.set_cons_succ])
            refine wpAnyH_ready (rs := [11]) (by kernel_rfl) (by simp) ?_
            refine AllReadyH.cons (o := ⟨none, _, _, _, _, _⟩) rfl (fun K hK => ?_) AllReadyH.nil
            obtain ⟨s0, s1, y0, y1, sl⟩ := D4.out
            go_simp
            clear s0 s1 y0 y1 sl
            have RX := Lib.hid (R4.out.apart NE.out (.int .i64 2) (.int .i64 a))
            have DX := Lib.hid (D4.out.set (.int .i64 2) (.int .i64 a))
            have BX := Lib.hid (below_set2 B4.out NL.out (.int .i64 2) (.int .i64 a))
            have CX0 := Lib.hid (cell_apart2 C0_4.out NX0.out (.int .i64 2) (.int .i64 a))
            refine hK.out _ _ ?_ (fun hHeld => ?_)
            · exact ⟨RX.out.1, RX.out.2.1, CX0.out⟩
            clear hK K
            (try simp only [Act.put, List.setIfInBounds_toArray, List.set_cons_zero, List.set_cons_succ])
            refine wpAnyH_take (i := 12) (oi := ⟨some 11, _, _, _, _, _⟩) (v := ?_) rfl (by kernel_rfl) (by kernel_rfl) (by kernel_rfl) (fun _ _ _ h => h) (Or.inl ⟨by kernel_rfl, ?_⟩) (by assumption) ?_
            rotate_left 1
            · ((intro w hSw; (try dsimp only at hSw); go_simp) <;> (try with_reducible rfl))
            (try simp only [Act.put, List.setIfInBounds_toArray, List.set_cons_zero, List.set_cons_succ])
            refine wpAnyH_done (by kernel_rfl) ?_ _
            clear hHeld R4 B4 C0_4 N0_4 D4
            generalize (v4.setCell ⟨D, 0, none⟩ (.int .i64 2)).setCell ⟨D, 1, none⟩ (.int .i64 a) = vx at *
            obtain ⟨d0, d1, _⟩ := DX.out
            have e3 := CX0.out
            have RY := Lib.hid (RX.out.set (.int .i64 2) (.int .i64 a))
            have BY := Lib.hid (below_set2 BX.out HWG.out (.int .i64 2) (.int .i64 a))
            obtain ⟨r0, r1, z0, z1, _⟩ := RX.out
            clear DX CX0 NL CK NB
            go_wp2_with fail
            go_roundw
            case rel => exact ⟨k + 1, 1, 0, a, 2, a, num_i (by omega), rfl, rfl, num_i (by omega), HN.out, by omega, RY.out, BY.out⟩
            case measure => simp [intOf]; omega
          exact AllReadyH.nil
        · obtain ⟨p, q, hpq⟩ : ∃ p q, tkV s b a = (p, q) := ⟨_, _, rfl⟩
          obtain ⟨z, hz⟩ : ∃ z, tkE s b a = z := ⟨_, rfl⟩
          rw [hpq, hz] at HK
          rw [hz] at he
          have he2 : (z == 0) = false := by simpa using he
          clear hpq hz
          go_wp2_with fail
          obtain ⟨g0, g1, _⟩ := HR.out
          refine wp_region_held_drew (S := fun w' => w'.cell? ⟨G, 0, none⟩ = some (.int .i64 s) ∧ w'.cell? ⟨G, 1, none⟩ = some (.int .i64 b) ∧ w'.cell? ⟨b', off + k * 2 + 1, none⟩ = some (.int .i64 a)) (by kernel_rfl) ?_ (fun hHeld => ?_)
          · exact ⟨g0, g1, e2⟩
          refine wpAnyH_take (i := 0) (oi := ⟨some 51, _, _, _, _, _⟩) (v := ?_) rfl (by kernel_rfl) (by kernel_rfl) (by kernel_rfl) (fun _ _ _ h => h) (Or.inl ⟨by kernel_rfl, ?_⟩) (by assumption) ?_
          rotate_left 1
          · ((intro w hSw; (try dsimp only at hSw); go_simp) <;> (try with_reducible rfl))
          (try simp only [Act.put, List.setIfInBounds_toArray, List.set_cons_zero, List.set_cons_succ])
          refine wpAnyH_take (i := 1) (oi := ⟨some 52, _, _, _, _, _⟩) (v := ?_) rfl (by kernel_rfl) (by kernel_rfl) (by kernel_rfl) (fun _ _ _ h => h) (Or.inl ⟨by kernel_rfl, ?_⟩) (by assumption) ?_
          rotate_left 1
          · ((intro w hSw; (try dsimp only at hSw); go_simp) <;> (try with_reducible rfl))
          (try simp only [Act.put, List.setIfInBounds_toArray, List.set_cons_zero, List.set_cons_succ])
          refine wpAnyH_take (i := 2) (oi := ⟨some 53, _, _, _, _, _⟩) (v := ?_) rfl (by kernel_rfl) (by kernel_rfl) (by kernel_rfl) (fun _ _ _ h => h) (Or.inl ⟨by kernel_rfl, ?_⟩) (by assumption) ?_
          rotate_left 1
          · ((intro w hSw; (try dsimp only at hSw); go_simp) <;> (try with_reducible rfl))
          (try simp only [Act.put, List.setIfInBounds_toArray, List.set_cons_zero, List.set_cons_succ])
          refine wpAnyH_take (i := 3) (oi := ⟨some 54, _, _, _, _, _⟩) (v := ?_) rfl (by kernel_rfl) (by kernel_rfl) (by kernel_rfl) (fun _ _ _ h => h) (Or.inl ⟨by kernel_rfl, ?_⟩) (by assumption) ?_
          rotate_left 1
          · ((intro w hSw; (try dsimp only at hSw); go_simp) <;> (try with_reducible rfl))
          (try simp only [Act.put, List.setIfInBounds_toArray, List.set_cons_zero, List.set_cons_succ])
          refine wpAnyH_take (i := 4) (oi := ⟨some 55, _, _, _, _, _⟩) (v := ?_) rfl (by kernel_rfl) (by kernel_rfl) (by kernel_rfl) (fun _ _ _ h => h) (Or.inl ⟨by kernel_rfl, ?_⟩) (by assumption) ?_
          rotate_left 1
          · ((intro w hSw; (try dsimp only at hSw); go_simp) <;> (try with_reducible rfl))
          (try simp only [Act.put, List.setIfInBounds_toArray, List.set_cons_zero, List.set_cons_succ])
          refine wpAnyH_take (i := 5) (oi := ⟨some 56, _, _, _, _, _⟩) (v := ?_) rfl (by kernel_rfl) (by kernel_rfl) (by kernel_rfl) (fun _ _ _ h => h) (Or.inl ⟨by kernel_rfl, ?_⟩) (by assumption) ?_
          rotate_left 1
          · ((intro w hSw; (try dsimp only at hSw); go_simp) <;> (try with_reducible rfl))
          (try simp only [Act.put, List.setIfInBounds_toArray, List.set_cons_zero, List.set_cons_succ])
          clear g0 g1 e2
          have R0 := Lib.hid (HR.out.below (Below.refl _ _).drew)
          have B0 := Lib.hid (Below.call HB.out (Below.refl _ wr).drew)
          have C0_0 := Lib.hid (keep_cell (Below.refl _ wr).drew CK.out)
          have N0_0 := Lib.hid (show b' < wr.drew.heap.size from NB.out)
          generalize wr.drew = v0 at *
          refine wpAnyH_ready (rs := [6, 10]) (by kernel_rfl) (by simp) ?_
          refine AllReadyH.cons (o := ⟨some 57, _, _, _, _, _⟩) rfl (fun K hK => ?_) ?_
          · go_simp
            refine (HK.out _).mono ?_
            rintro e v1 ⟨rfl, hb⟩
            have R1 := Lib.hid (R0.out.below hb)
            have B1 := Lib.hid (Below.call B0.out hb)
            have C0_1 := Lib.hid (keep_cell hb C0_0.out)
            have N0_1 := Lib.hid (Nat.lt_of_lt_of_le N0_0.out hb.size)
            clear hb B0 R0 C0_0 N0_0
            go_wp2_with fail
            refine hK.out _ _ ?_ (fun hHeld => ?_)
            · exact ⟨R1.out.1, R1.out.2.1, C0_1.out⟩
            clear hK K
            (try simp only [Act.put, List.setIfInBounds_toArray, List.set_cons_zero, List.set_cons_succ])
            refine wpAnyH_take (i := 7) (oi := ⟨some 50, _, _, _, _, _⟩) (v := ?_) rfl (by kernel_rfl) (by kernel_rfl) (by kernel_rfl) (fun _ _ _ h => h) (Or.inl ⟨by kernel_rfl, ?_⟩) (by assumption) ?_
            rotate_left 1
            · ((intro w hSw; (try dsimp only at hSw); go_simp) <;> (try with_reducible rfl))
            (try simp only [Act.put, List.setIfInBounds_toArray, List.set_cons_zero, List.set_cons_succ])
            refine wpAnyH_take (i := 8) (oi := ⟨some 58, _, _, _, _, _⟩) (v := ?_) rfl (by kernel_rfl) (by kernel_rfl) (by kernel_rfl) (fun _ _ _ h => h) (Or.inl ⟨by kernel_rfl, ?_⟩) (by assumption) ?_
            rotate_left 1
            · ((intro w hSw; (try dsimp only at hSw); go_simp) <;> (try with_reducible rfl))
            (try simp only [Act.put, List.setIfInBounds_toArray, List.set_cons_zero, List.set_cons_succ])
            refine wpAnyH_take (i := 9) (oi := ⟨some 59, _, _, _, _, _⟩) (v := ?_) rfl (by kernel_rfl) (by kernel_rfl) (by kernel_rfl) (fun _ _ _ h => h) (Or.inl ⟨by kernel_rfl, ?_⟩) (by assumption) ?_
            rotate_left 1
            · ((intro w hSw; (try dsimp only at hSw); go_simp) <;> (try with_reducible rfl))
            (try simp only [Act.put, List.setIfInBounds_toArray, List.set_cons_zero, List.set_cons_succ])
            refine wpAnyH_ready (rs := [10]) (by kernel_rfl) (by simp) ?_
            refine AllReadyH.cons (o := ⟨some 10, _, _, _, _, _⟩) rfl (fun K hK => ?_) AllReadyH.nil
            go_simp
            have hb := Below.al (Below.refl _ v1) (.cells #[.int .i64 0, .int .i64 0] 44)
            have R2 := Lib.hid (R1.out.below hb)
            have B2 := Lib.hid (Below.call B1.out hb)
            have C0_2 := Lib.hid (keep_cell hb C0_1.out)
            have N0_2 := Lib.hid (Nat.lt_of_lt_of_le N0_1.out hb.size)
            have D2 := Lib.hid (Cells2.new v1 44 (.int .i64 0) (.int .i64 0))
            have NE := Lib.hid (show v1.heap.size ≠ _ from Nat.ne_of_gt R1.out.2.2.2.2)
            have NL := Lib.hid (show w.heap.size ≤ v1.heap.size from B1.out.size)
            have NX0 := Lib.hid (show v1.heap.size ≠ b' from Nat.ne_of_gt N0_1.out)
            clear hb R1 B1 C0_1 N0_1
            generalize v1.alloc (.cells #[.int .i64 0, .int .i64 0] 44) = v2 at *
            generalize v1.heap.size = D at *
            refine hK.out _ _ ?_ (fun hHeld => ?_)
            · exact ⟨R2.out.1, R2.out.2.1, C0_2.out⟩
            clear hK K
            (try simp only [Act.put, List.setIfInBounds_toArray, List.set_cons_zero, List.set_cons_succ])
            refine wpAnyH_ready (rs := [11]) (by kernel_rfl) (by simp) ?_
            refine AllReadyH.cons (o := ⟨none, _, _, _, _, _⟩) rfl (fun K hK => ?_) AllReadyH.nil
            obtain ⟨s0, s1, y0, y1, sl⟩ := D2.out
            go_simp
            clear s0 s1 y0 y1 sl
            have RX := Lib.hid (R2.out.apart NE.out (.int .i64 p) (.int .i64 q))
            have DX := Lib.hid (D2.out.set (.int .i64 p) (.int .i64 q))
            have BX := Lib.hid (below_set2 B2.out NL.out (.int .i64 p) (.int .i64 q))
            have CX0 := Lib.hid (cell_apart2 C0_2.out NX0.out (.int .i64 p) (.int .i64 q))
            refine hK.out _ _ ?_ (fun hHeld => ?_)
            · exact ⟨RX.out.1, RX.out.2.1, CX0.out⟩
            clear hK K
            (try simp only [Act.put, List.setIfInBounds_toArray, List.set_cons_zero, List.set_cons_succ])
            refine wpAnyH_take (i := 12) (oi := ⟨some 11, _, _, _, _, _⟩) (v := ?_) rfl (by kernel_rfl) (by kernel_rfl) (by kernel_rfl) (fun _ _ _ h => h) (Or.inl ⟨by kernel_rfl, ?_⟩) (by assumption) ?_
            rotate_left 1
            · ((intro w hSw; (try dsimp only at hSw); go_simp) <;> (try with_reducible rfl))
            (try simp only [Act.put, List.setIfInBounds_toArray, List.set_cons_zero, List.set_cons_succ])
            refine wpAnyH_done (by kernel_rfl) ?_ _
            clear hHeld R2 B2 C0_2 N0_2 D2
            generalize (v2.setCell ⟨D, 0, none⟩ (.int .i64 p)).setCell ⟨D, 1, none⟩ (.int .i64 q) = vx at *
            obtain ⟨d0, d1, _⟩ := DX.out
            clear DX CX0 NX0 NL NE CK NB
            go_wp2_with fail
            go_roundw
            case rel => exact ⟨k + 1, t, d, y, s, b, rfl, rfl, rfl, num_i (by omega), HO.out, by omega, RX.out, BX.out⟩
            case measure => simp [intOf]; omega
          refine AllReadyH.cons (o := ⟨some 10, _, _, _, _, _⟩) rfl (fun K hK => ?_) ?_
          · go_simp
            have hb := Below.al (Below.refl _ v0) (.cells #[.int .i64 0, .int .i64 0] 44)
            have R3 := Lib.hid (R0.out.below hb)
            have B3 := Lib.hid (Below.call B0.out hb)
            have C0_3 := Lib.hid (keep_cell hb C0_0.out)
            have N0_3 := Lib.hid (Nat.lt_of_lt_of_le N0_0.out hb.size)
            have D3 := Lib.hid (Cells2.new v0 44 (.int .i64 0) (.int .i64 0))
            have NE := Lib.hid (show v0.heap.size ≠ _ from Nat.ne_of_gt R0.out.2.2.2.2)
            have NL := Lib.hid (show w.heap.size ≤ v0.heap.size from B0.out.size)
            have NX0 := Lib.hid (show v0.heap.size ≠ b' from Nat.ne_of_gt N0_0.out)
            clear hb B0 R0 C0_0 N0_0
            generalize v0.alloc (.cells #[.int .i64 0, .int .i64 0] 44) = v3 at *
            generalize v0.heap.size = D at *
            refine hK.out _ _ ?_ (fun hHeld => ?_)
            · exact ⟨R3.out.1, R3.out.2.1, C0_3.out⟩
            clear hK K
            (try simp only [Act.put, List.setIfInBounds_toArray, List.set_cons_zero, List.set_cons_succ])
            refine wpAnyH_ready (rs := [6]) (by kernel_rfl) (by simp) ?_
            refine AllReadyH.cons (o := ⟨some 57, _, _, _, _, _⟩) rfl (fun K hK => ?_) AllReadyH.nil
            go_simp
            refine (HK.out _).mono ?_
            rintro e v4 ⟨rfl, hb⟩
            have R4 := Lib.hid (R3.out.below hb)
            have B4 := Lib.hid (Below.call B3.out hb)
            have C0_4 := Lib.hid (keep_cell hb C0_3.out)
            have N0_4 := Lib.hid (Nat.lt_of_lt_of_le N0_3.out hb.size)
            have D4 := Lib.hid (D3.out.below hb)
            clear hb R3 B3 C0_3 N0_3 D3
            go_wp2_with fail
            refine hK.out _ _ ?_ (fun hHeld => ?_)
            · exact ⟨R4.out.1, R4.out.2.1, C0_4.out⟩
            clear hK K
            (try simp only [Act.put, List.setIfInBounds_toArray, List.set_cons_zero, List.set_cons_succ])
            refine wpAnyH_take (i := 7) (oi := ⟨some 50, _, _, _, _, _⟩) (v := ?_) rfl (by kernel_rfl) (by kernel_rfl) (by kernel_rfl) (fun _ _ _ h => h) (Or.inl ⟨by kernel_rfl, ?_⟩) (by assumption) ?_
            rotate_left 1
            · ((intro w hSw; (try dsimp only at hSw); go_simp) <;> (try with_reducible rfl))
            (try simp only [Act.put, List.setIfInBounds_toArray, List.set_cons_zero, List.set_cons_succ])
            refine wpAnyH_take (i := 8) (oi := ⟨some 58, _, _, _, _, _⟩) (v := ?_) rfl (by kernel_rfl) (by kernel_rfl) (by kernel_rfl) (fun _ _ _ h => h) (Or.inl ⟨by kernel_rfl, ?_⟩) (by assumption) ?_
            rotate_left 1
            · ((intro w hSw; (try dsimp only at hSw); go_simp) <;> (try with_reducible rfl))
            (try simp only [Act.put, List.setIfInBounds_toArray, List.set_cons_zero, List.set_cons_succ])
            refine wpAnyH_take (i := 9) (oi := ⟨some 59, _, _, _, _, _⟩) (v := ?_) rfl (by kernel_rfl) (by kernel_rfl) (by kernel_rfl) (fun _ _ _ h => h) (Or.inl ⟨by kernel_rfl, ?_⟩) (by assumption) ?_
            rotate_left 1
            · ((intro w hSw; (try dsimp only at hSw); go_simp) <;> (try with_reducible rfl))
            (try simp only [Act.put, List.setIfInBounds_toArray, List.set_cons_zero, List.set_cons_succ])
            refine wpAnyH_ready (rs := [11]) (by kernel_rfl) (by simp) ?_
            refine AllReadyH.cons (o := ⟨none, _, _, _, _, _⟩) rfl (fun K hK => ?_) AllReadyH.nil
            obtain ⟨s0, s1, y0, y1, sl⟩ := D4.out
            go_simp
            clear s0 s1 y0 y1 sl
            have RX := Lib.hid (R4.out.apart NE.out (.int .i64 p) (.int .i64 q))
            have DX := Lib.hid (D4.out.set (.int .i64 p) (.int .i64 q))
            have BX := Lib.hid (below_set2 B4.out NL.out (.int .i64 p) (.int .i64 q))
            have CX0 := Lib.hid (cell_apart2 C0_4.out NX0.out (.int .i64 p) (.int .i64 q))
            refine hK.out _ _ ?_ (fun hHeld => ?_)
            · exact ⟨RX.out.1, RX.out.2.1, CX0.out⟩
            clear hK K
            (try simp only [Act.put, List.setIfInBounds_toArray, List.set_cons_zero, List.set_cons_succ])
            refine wpAnyH_take (i := 12) (oi := ⟨some 11, _, _, _, _, _⟩) (v := ?_) rfl (by kernel_rfl) (by kernel_rfl) (by kernel_rfl) (fun _ _ _ h => h) (Or.inl ⟨by kernel_rfl, ?_⟩) (by assumption) ?_
            rotate_left 1
            · ((intro w hSw; (try dsimp only at hSw); go_simp) <;> (try with_reducible rfl))
            (try simp only [Act.put, List.setIfInBounds_toArray, List.set_cons_zero, List.set_cons_succ])
            refine wpAnyH_done (by kernel_rfl) ?_ _
            clear hHeld R4 B4 C0_4 N0_4 D4
            generalize (v4.setCell ⟨D, 0, none⟩ (.int .i64 p)).setCell ⟨D, 1, none⟩ (.int .i64 q) = vx at *
            obtain ⟨d0, d1, _⟩ := DX.out
            clear DX CX0 NX0 NL NE CK NB
            go_wp2_with fail
            go_roundw
            case rel => exact ⟨k + 1, t, d, y, s, b, rfl, rfl, rfl, num_i (by omega), HO.out, by omega, RX.out, BX.out⟩
            case measure => simp [intOf]; omega
          exact AllReadyH.nil
      · have HK := Lib.hid (fun w => drop_any s b a w)
        by_cases he : dpE s b a = 0
        · obtain ⟨hn, hvv, rfl, rfl, hya⟩ := on_drop HO.out he
          have hya2 : (a != y) = false := by rw [hya]; simp
          clear hya
          rw [hvv, he] at HK
          have HN := Lib.hid hn
          clear hn hvv he HO
          go_wp2_with fail
          obtain ⟨g0, g1, _⟩ := HR.out
          refine wp_region_held_drew (S := fun w' => w'.cell? ⟨G, 0, none⟩ = some (.int .i64 s) ∧ w'.cell? ⟨G, 1, none⟩ = some (.int .i64 b) ∧ w'.cell? ⟨b', off + k * 2 + 1, none⟩ = some (.int .i64 a)) (by kernel_rfl) ?_ (fun hHeld => ?_)
          · exact ⟨g0, g1, e2⟩
          refine wpAnyH_take (i := 0) (oi := ⟨some 25, _, _, _, _, _⟩) (v := ?_) rfl (by kernel_rfl) (by kernel_rfl) (by kernel_rfl) (fun _ _ _ h => h) (Or.inl ⟨by kernel_rfl, ?_⟩) (by assumption) ?_
          rotate_left 1
          · ((intro w hSw; (try dsimp only at hSw); go_simp) <;> (try with_reducible rfl))
          (try simp only [Act.put, List.setIfInBounds_toArray, List.set_cons_zero, List.set_cons_succ])
          refine wpAnyH_take (i := 1) (oi := ⟨some 26, _, _, _, _, _⟩) (v := ?_) rfl (by kernel_rfl) (by kernel_rfl) (by kernel_rfl) (fun _ _ _ h => h) (Or.inl ⟨by kernel_rfl, ?_⟩) (by assumption) ?_
          rotate_left 1
          · ((intro w hSw; (try dsimp only at hSw); go_simp) <;> (try with_reducible rfl))
          (try simp only [Act.put, List.setIfInBounds_toArray, List.set_cons_zero, List.set_cons_succ])
          refine wpAnyH_take (i := 2) (oi := ⟨some 27, _, _, _, _, _⟩) (v := ?_) rfl (by kernel_rfl) (by kernel_rfl) (by kernel_rfl) (fun _ _ _ h => h) (Or.inl ⟨by kernel_rfl, ?_⟩) (by assumption) ?_
          rotate_left 1
          · ((intro w hSw; (try dsimp only at hSw); go_simp) <;> (try with_reducible rfl))
          (try simp only [Act.put, List.setIfInBounds_toArray, List.set_cons_zero, List.set_cons_succ])
          refine wpAnyH_take (i := 3) (oi := ⟨some 28, _, _, _, _, _⟩) (v := ?_) rfl (by kernel_rfl) (by kernel_rfl) (by kernel_rfl) (fun _ _ _ h => h) (Or.inl ⟨by kernel_rfl, ?_⟩) (by assumption) ?_
          rotate_left 1
          · ((intro w hSw; (try dsimp only at hSw); go_simp) <;> (try with_reducible rfl))
          (try simp only [Act.put, List.setIfInBounds_toArray, List.set_cons_zero, List.set_cons_succ])
          refine wpAnyH_take (i := 4) (oi := ⟨some 29, _, _, _, _, _⟩) (v := ?_) rfl (by kernel_rfl) (by kernel_rfl) (by kernel_rfl) (fun _ _ _ h => h) (Or.inl ⟨by kernel_rfl, ?_⟩) (by assumption) ?_
          rotate_left 1
          · ((intro w hSw; (try dsimp only at hSw); go_simp) <;> (try with_reducible rfl))
          (try simp only [Act.put, List.setIfInBounds_toArray, List.set_cons_zero, List.set_cons_succ])
          refine wpAnyH_take (i := 5) (oi := ⟨some 30, _, _, _, _, _⟩) (v := ?_) rfl (by kernel_rfl) (by kernel_rfl) (by kernel_rfl) (fun _ _ _ h => h) (Or.inl ⟨by kernel_rfl, ?_⟩) (by assumption) ?_
          rotate_left 1
          · ((intro w hSw; (try dsimp only at hSw); go_simp) <;> (try with_reducible rfl))
          (try simp only [Act.put, List.setIfInBounds_toArray, List.set_cons_zero, List.set_cons_succ])
          clear g0 g1 e2
          have R0 := Lib.hid (HR.out.below (Below.refl _ _).drew)
          have B0 := Lib.hid (Below.call HB.out (Below.refl _ wr).drew)
          have C0_0 := Lib.hid (keep_cell (Below.refl _ wr).drew CK.out)
          have N0_0 := Lib.hid (show b' < wr.drew.heap.size from NB.out)
          generalize wr.drew = v0 at *
          refine wpAnyH_ready (rs := [6, 10]) (by kernel_rfl) (by simp) ?_
          refine AllReadyH.cons (o := ⟨some 31, _, _, _, _, _⟩) rfl (fun K hK => ?_) ?_
          · go_simp
            refine (HK.out _).mono ?_
            rintro e v1 ⟨rfl, hb⟩
            have R1 := Lib.hid (R0.out.below hb)
            have B1 := Lib.hid (Below.call B0.out hb)
            have C0_1 := Lib.hid (keep_cell hb C0_0.out)
            have N0_1 := Lib.hid (Nat.lt_of_lt_of_le N0_0.out hb.size)
            clear hb B0 R0 C0_0 N0_0
            go_wp2_with fail
            refine hK.out _ _ ?_ (fun hHeld => ?_)
            · exact ⟨R1.out.1, R1.out.2.1, C0_1.out⟩
            clear hK K
            (try simp only [Act.put, List.setIfInBounds_toArray, List.set_cons_zero, List.set_cons_succ])
            refine wpAnyH_take (i := 7) (oi := ⟨some 24, _, _, _, _, _⟩) (v := ?_) rfl (by kernel_rfl) (by kernel_rfl) (by kernel_rfl) (fun _ _ _ h => h) (Or.inl ⟨by kernel_rfl, ?_⟩) (by assumption) ?_
            rotate_left 1
            · ((intro w hSw; (try dsimp only at hSw); go_simp) <;> (try with_reducible rfl))
            (try simp only [Act.put, List.setIfInBounds_toArray, List.set_cons_zero, List.set_cons_succ])
            refine wpAnyH_take (i := 8) (oi := ⟨some 32, _, _, _, _, _⟩) (v := ?_) rfl (by kernel_rfl) (by kernel_rfl) (by kernel_rfl) (fun _ _ _ h => h) (Or.inl ⟨by kernel_rfl, ?_⟩) (by assumption) ?_
            rotate_left 1
            · ((intro w hSw; (try dsimp only at hSw); go_simp) <;> (try with_reducible rfl))
            (try simp only [Act.put, List.setIfInBounds_toArray, List.set_cons_zero, List.set_cons_succ])
            refine wpAnyH_take (i := 9) (oi := ⟨some 33, _, _, _, _, _⟩) (v := ?_) rfl (by kernel_rfl) (by kernel_rfl) (by kernel_rfl) (fun _ _ _ h => h) (Or.inl ⟨by kernel_rfl, ?_⟩) (by assumption) ?_
            rotate_left 1
            · ((intro w hSw; (try dsimp only at hSw); go_simp) <;> (try with_reducible rfl))
            (try simp only [Act.put, List.setIfInBounds_toArray, List.set_cons_zero, List.set_cons_succ])
            refine wpAnyH_ready (rs := [10]) (by kernel_rfl) (by simp) ?_
            refine AllReadyH.cons (o := ⟨some 8, _, _, _, _, _⟩) rfl (fun K hK => ?_) AllReadyH.nil
            go_simp
            have hb := Below.al (Below.refl _ v1) (.cells #[.int .i64 0, .int .i64 0] 44)
            have R2 := Lib.hid (R1.out.below hb)
            have B2 := Lib.hid (Below.call B1.out hb)
            have C0_2 := Lib.hid (keep_cell hb C0_1.out)
            have N0_2 := Lib.hid (Nat.lt_of_lt_of_le N0_1.out hb.size)
            have D2 := Lib.hid (Cells2.new v1 44 (.int .i64 0) (.int .i64 0))
            have NE := Lib.hid (show v1.heap.size ≠ _ from Nat.ne_of_gt R1.out.2.2.2.2)
            have NL := Lib.hid (show w.heap.size ≤ v1.heap.size from B1.out.size)
            have NX0 := Lib.hid (show v1.heap.size ≠ b' from Nat.ne_of_gt N0_1.out)
            clear hb R1 B1 C0_1 N0_1
            generalize v1.alloc (.cells #[.int .i64 0, .int .i64 0] 44) = v2 at *
            generalize v1.heap.size = D at *
            refine hK.out _ _ ?_ (fun hHeld => ?_)
            · exact ⟨R2.out.1, R2.out.2.1, C0_2.out⟩
            clear hK K
            (try simp only [Act.put, List.setIfInBounds_toArray, List.set_cons_zero, List.set_cons_succ])
            refine wpAnyH_ready (rs := [11]) (by kernel_rfl) (by simp) ?_
            refine AllReadyH.cons (o := ⟨none, _, _, _, _, _⟩) rfl (fun K hK => ?_) AllReadyH.nil
            obtain ⟨s0, s1, y0, y1, sl⟩ := D2.out
            go_simp
            clear s0 s1 y0 y1 sl
            have RX := Lib.hid (R2.out.apart NE.out (.int .i64 3) (.int .i64 0))
            have DX := Lib.hid (D2.out.set (.int .i64 3) (.int .i64 0))
            have BX := Lib.hid (below_set2 B2.out NL.out (.int .i64 3) (.int .i64 0))
            have CX0 := Lib.hid (cell_apart2 C0_2.out NX0.out (.int .i64 3) (.int .i64 0))
            refine hK.out _ _ ?_ (fun hHeld => ?_)
            · exact ⟨RX.out.1, RX.out.2.1, CX0.out⟩
            clear hK K
            (try simp only [Act.put, List.setIfInBounds_toArray, List.set_cons_zero, List.set_cons_succ])
            refine wpAnyH_take (i := 12) (oi := ⟨some 9, _, _, _, _, _⟩) (v := ?_) rfl (by kernel_rfl) (by kernel_rfl) (by kernel_rfl) (fun _ _ _ h => h) (Or.inl ⟨by kernel_rfl, ?_⟩) (by assumption) ?_
            rotate_left 1
            · ((intro w hSw; (try dsimp only at hSw); go_simp) <;> (try with_reducible rfl))
            (try simp only [Act.put, List.setIfInBounds_toArray, List.set_cons_zero, List.set_cons_succ])
            refine wpAnyH_done (by kernel_rfl) ?_ _
            clear hHeld R2 B2 C0_2 N0_2 D2
            generalize (v2.setCell ⟨D, 0, none⟩ (.int .i64 3)).setCell ⟨D, 1, none⟩ (.int .i64 0) = vx at *
            obtain ⟨d0, d1, _⟩ := DX.out
            have e3 := CX0.out
            have RY := Lib.hid (RX.out.set (.int .i64 3) (.int .i64 0))
            have BY := Lib.hid (below_set2 BX.out HWG.out (.int .i64 3) (.int .i64 0))
            obtain ⟨r0, r1, z0, z1, _⟩ := RX.out
            clear DX CX0 NL CK NB
            go_wp2_with fail
            go_roundw
            case rel => exact ⟨k + 1, 1, 0 + 1, y, 3, 0, rfl, num_i (by omega), rfl, num_i (by omega), HN.out, by omega, RY.out, BY.out⟩
            case measure => simp [intOf]; omega
          refine AllReadyH.cons (o := ⟨some 8, _, _, _, _, _⟩) rfl (fun K hK => ?_) ?_
          · go_simp
            have hb := Below.al (Below.refl _ v0) (.cells #[.int .i64 0, .int .i64 0] 44)
            have R3 := Lib.hid (R0.out.below hb)
            have B3 := Lib.hid (Below.call B0.out hb)
            have C0_3 := Lib.hid (keep_cell hb C0_0.out)
            have N0_3 := Lib.hid (Nat.lt_of_lt_of_le N0_0.out hb.size)
            have D3 := Lib.hid (Cells2.new v0 44 (.int .i64 0) (.int .i64 0))
            have NE := Lib.hid (show v0.heap.size ≠ _ from Nat.ne_of_gt R0.out.2.2.2.2)
            have NL := Lib.hid (show w.heap.size ≤ v0.heap.size from B0.out.size)
            have NX0 := Lib.hid (show v0.heap.size ≠ b' from Nat.ne_of_gt N0_0.out)
            clear hb B0 R0 C0_0 N0_0
            generalize v0.alloc (.cells #[.int .i64 0, .int .i64 0] 44) = v3 at *
            generalize v0.heap.size = D at *
            refine hK.out _ _ ?_ (fun hHeld => ?_)
            · exact ⟨R3.out.1, R3.out.2.1, C0_3.out⟩
            clear hK K
            (try simp only [Act.put, List.setIfInBounds_toArray, List.set_cons_zero, List.set_cons_succ])
            refine wpAnyH_ready (rs := [6]) (by kernel_rfl) (by simp) ?_
            refine AllReadyH.cons (o := ⟨some 31, _, _, _, _, _⟩) rfl (fun K hK => ?_) AllReadyH.nil
            go_simp
            refine (HK.out _).mono ?_
            rintro e v4 ⟨rfl, hb⟩
            have R4 := Lib.hid (R3.out.below hb)
            have B4 := Lib.hid (Below.call B3.out hb)
            have C0_4 := Lib.hid (keep_cell hb C0_3.out)
            have N0_4 := Lib.hid (Nat.lt_of_lt_of_le N0_3.out hb.size)
            have D4 := Lib.hid (D3.out.below hb)
            clear hb R3 B3 C0_3 N0_3 D3
            go_wp2_with fail
            refine hK.out _ _ ?_ (fun hHeld => ?_)
            · exact ⟨R4.out.1, R4.out.2.1, C0_4.out⟩
            clear hK K
            (try simp only [Act.put, List.setIfInBounds_toArray, List.set_cons_zero, List.set_cons_succ])
            refine wpAnyH_take (i := 7) (oi := ⟨some 24, _, _, _, _, _⟩) (v := ?_) rfl (by kernel_rfl) (by kernel_rfl) (by kernel_rfl) (fun _ _ _ h => h) (Or.inl ⟨by kernel_rfl, ?_⟩) (by assumption) ?_
            rotate_left 1
            · ((intro w hSw; (try dsimp only at hSw); go_simp) <;> (try with_reducible rfl))
            (try simp only [Act.put, List.setIfInBounds_toArray, List.set_cons_zero, List.set_cons_succ])
            refine wpAnyH_take (i := 8) (oi := ⟨some 32, _, _, _, _, _⟩) (v := ?_) rfl (by kernel_rfl) (by kernel_rfl) (by kernel_rfl) (fun _ _ _ h => h) (Or.inl ⟨by kernel_rfl, ?_⟩) (by assumption) ?_
            rotate_left 1
            · ((intro w hSw; (try dsimp only at hSw); go_simp) <;> (try with_reducible rfl))
            (try simp only [Act.put, List.setIfInBounds_toArray, List.set_cons_zero, List.set_cons_succ])
            refine wpAnyH_take (i := 9) (oi := ⟨some 33, _, _, _, _, _⟩) (v := ?_) rfl (by kernel_rfl) (by kernel_rfl) (by kernel_rfl) (fun _ _ _ h => h) (Or.inl ⟨by kernel_rfl, ?_⟩) (by assumption) ?_
            rotate_left 1
            · ((intro w hSw; (try dsimp only at hSw); go_simp) <;> (try with_reducible rfl))
            (try simp only [Act.put, List.setIfInBounds_toArray, List.set_cons_zero, List.set_cons_succ])
            refine wpAnyH_ready (rs := [11]) (by kernel_rfl) (by simp) ?_
            refine AllReadyH.cons (o := ⟨none, _, _, _, _, _⟩) rfl (fun K hK => ?_) AllReadyH.nil
            obtain ⟨s0, s1, y0, y1, sl⟩ := D4.out
            go_simp
            clear s0 s1 y0 y1 sl
            have RX := Lib.hid (R4.out.apart NE.out (.int .i64 3) (.int .i64 0))
            have DX := Lib.hid (D4.out.set (.int .i64 3) (.int .i64 0))
            have BX := Lib.hid (below_set2 B4.out NL.out (.int .i64 3) (.int .i64 0))
            have CX0 := Lib.hid (cell_apart2 C0_4.out NX0.out (.int .i64 3) (.int .i64 0))
            refine hK.out _ _ ?_ (fun hHeld => ?_)
            · exact ⟨RX.out.1, RX.out.2.1, CX0.out⟩
            clear hK K
            (try simp only [Act.put, List.setIfInBounds_toArray, List.set_cons_zero, List.set_cons_succ])
            refine wpAnyH_take (i := 12) (oi := ⟨some 9, _, _, _, _, _⟩) (v := ?_) rfl (by kernel_rfl) (by kernel_rfl) (by kernel_rfl) (fun _ _ _ h => h) (Or.inl ⟨by kernel_rfl, ?_⟩) (by assumption) ?_
            rotate_left 1
            · ((intro w hSw; (try dsimp only at hSw); go_simp) <;> (try with_reducible rfl))
            (try simp only [Act.put, List.setIfInBounds_toArray, List.set_cons_zero, List.set_cons_succ])
            refine wpAnyH_done (by kernel_rfl) ?_ _
            clear hHeld R4 B4 C0_4 N0_4 D4
            generalize (v4.setCell ⟨D, 0, none⟩ (.int .i64 3)).setCell ⟨D, 1, none⟩ (.int .i64 0) = vx at *
            obtain ⟨d0, d1, _⟩ := DX.out
            have e3 := CX0.out
            have RY := Lib.hid (RX.out.set (.int .i64 3) (.int .i64 0))
            have BY := Lib.hid (below_set2 BX.out HWG.out (.int .i64 3) (.int .i64 0))
            obtain ⟨r0, r1, z0, z1, _⟩ := RX.out
            clear DX CX0 NL CK NB
            go_wp2_with fail
            go_roundw
            case rel => exact ⟨k + 1, 1, 0 + 1, y, 3, 0, rfl, num_i (by omega), rfl, num_i (by omega), HN.out, by omega, RY.out, BY.out⟩
            case measure => simp [intOf]; omega
          exact AllReadyH.nil
        · obtain ⟨p, q, hpq⟩ : ∃ p q, dpV s b a = (p, q) := ⟨_, _, rfl⟩
          obtain ⟨z, hz⟩ : ∃ z, dpE s b a = z := ⟨_, rfl⟩
          rw [hpq, hz] at HK
          rw [hz] at he
          have he2 : (z == 0) = false := by simpa using he
          clear hpq hz
          go_wp2_with fail
          obtain ⟨g0, g1, _⟩ := HR.out
          refine wp_region_held_drew (S := fun w' => w'.cell? ⟨G, 0, none⟩ = some (.int .i64 s) ∧ w'.cell? ⟨G, 1, none⟩ = some (.int .i64 b) ∧ w'.cell? ⟨b', off + k * 2 + 1, none⟩ = some (.int .i64 a)) (by kernel_rfl) ?_ (fun hHeld => ?_)
          · exact ⟨g0, g1, e2⟩
          refine wpAnyH_take (i := 0) (oi := ⟨some 25, _, _, _, _, _⟩) (v := ?_) rfl (by kernel_rfl) (by kernel_rfl) (by kernel_rfl) (fun _ _ _ h => h) (Or.inl ⟨by kernel_rfl, ?_⟩) (by assumption) ?_
          rotate_left 1
          · ((intro w hSw; (try dsimp only at hSw); go_simp) <;> (try with_reducible rfl))
          (try simp only [Act.put, List.setIfInBounds_toArray, List.set_cons_zero, List.set_cons_succ])
          refine wpAnyH_take (i := 1) (oi := ⟨some 26, _, _, _, _, _⟩) (v := ?_) rfl (by kernel_rfl) (by kernel_rfl) (by kernel_rfl) (fun _ _ _ h => h) (Or.inl ⟨by kernel_rfl, ?_⟩) (by assumption) ?_
          rotate_left 1
          · ((intro w hSw; (try dsimp only at hSw); go_simp) <;> (try with_reducible rfl))
          (try simp only [Act.put, List.setIfInBounds_toArray, List.set_cons_zero, List.set_cons_succ])
          refine wpAnyH_take (i := 2) (oi := ⟨some 27, _, _, _, _, _⟩) (v := ?_) rfl (by kernel_rfl) (by kernel_rfl) (by kernel_rfl) (fun _ _ _ h => h) (Or.inl ⟨by kernel_rfl, ?_⟩) (by assumption) ?_
          rotate_left 1
          · ((intro w hSw; (try dsimp only at hSw); go_simp) <;> (try with_reducible rfl))
          (try simp only [Act.put, List.setIfInBounds_toArray, List.set_cons_zero, List.set_cons_succ])
          refine wpAnyH_take (i := 3) (oi := ⟨some 28, _, _, _, _, _⟩) (v := ?_) rfl (by kernel_rfl) (by kernel_rfl) (by kernel_rfl) (fun _ _ _ h => h) (Or.inl ⟨by kernel_rfl, ?_⟩) (by assumption) ?_
          rotate_left 1
          · ((intro w hSw; (try dsimp only at hSw); go_simp) <;> (try with_reducible rfl))
          (try simp only [Act.put, List.setIfInBounds_toArray, List.set_cons_zero, List.set_cons_succ])
          refine wpAnyH_take (i := 4) (oi := ⟨some 29, _, _, _, _, _⟩) (v := ?_) rfl (by kernel_rfl) (by kernel_rfl) (by kernel_rfl) (fun _ _ _ h => h) (Or.inl ⟨by kernel_rfl, ?_⟩) (by assumption) ?_
          rotate_left 1
          · ((intro w hSw; (try dsimp only at hSw); go_simp) <;> (try with_reducible rfl))
          (try simp only [Act.put, List.setIfInBounds_toArray, List.set_cons_zero, List.set_cons_succ])
          refine wpAnyH_take (i := 5) (oi := ⟨some 30, _, _, _, _, _⟩) (v := ?_) rfl (by kernel_rfl) (by kernel_rfl) (by kernel_rfl) (fun _ _ _ h => h) (Or.inl ⟨by kernel_rfl, ?_⟩) (by assumption) ?_
          rotate_left 1
          · ((intro w hSw; (try dsimp only at hSw); go_simp) <;> (try with_reducible rfl))
          (try simp only [Act.put, List.setIfInBounds_toArray, List.set_cons_zero, List.set_cons_succ])
          clear g0 g1 e2
          have R0 := Lib.hid (HR.out.below (Below.refl _ _).drew)
          have B0 := Lib.hid (Below.call HB.out (Below.refl _ wr).drew)
          have C0_0 := Lib.hid (keep_cell (Below.refl _ wr).drew CK.out)
          have N0_0 := Lib.hid (show b' < wr.drew.heap.size from NB.out)
          generalize wr.drew = v0 at *
          refine wpAnyH_ready (rs := [6, 10]) (by kernel_rfl) (by simp) ?_
          refine AllReadyH.cons (o := ⟨some 31, _, _, _, _, _⟩) rfl (fun K hK => ?_) ?_
          · go_simp
            refine (HK.out _).mono ?_
            rintro e v1 ⟨rfl, hb⟩
            have R1 := Lib.hid (R0.out.below hb)
            have B1 := Lib.hid (Below.call B0.out hb)
            have C0_1 := Lib.hid (keep_cell hb C0_0.out)
            have N0_1 := Lib.hid (Nat.lt_of_lt_of_le N0_0.out hb.size)
            clear hb B0 R0 C0_0 N0_0
            go_wp2_with fail
            refine hK.out _ _ ?_ (fun hHeld => ?_)
            · exact ⟨R1.out.1, R1.out.2.1, C0_1.out⟩
            clear hK K
            (try simp only [Act.put, List.setIfInBounds_toArray, List.set_cons_zero, List.set_cons_succ])
            refine wpAnyH_take (i := 7) (oi := ⟨some 24, _, _, _, _, _⟩) (v := ?_) rfl (by kernel_rfl) (by kernel_rfl) (by kernel_rfl) (fun _ _ _ h => h) (Or.inl ⟨by kernel_rfl, ?_⟩) (by assumption) ?_
            rotate_left 1
            · ((intro w hSw; (try dsimp only at hSw); go_simp) <;> (try with_reducible rfl))
            (try simp only [Act.put, List.setIfInBounds_toArray, List.set_cons_zero, List.set_cons_succ])
            refine wpAnyH_take (i := 8) (oi := ⟨some 32, _, _, _, _, _⟩) (v := ?_) rfl (by kernel_rfl) (by kernel_rfl) (by kernel_rfl) (fun _ _ _ h => h) (Or.inl ⟨by kernel_rfl, ?_⟩) (by assumption) ?_
            rotate_left 1
            · ((intro w hSw; (try dsimp only at hSw); go_simp) <;> (try with_reducible rfl))
            (try simp only [Act.put, List.setIfInBounds_toArray, List.set_cons_zero, List.set_cons_succ])
            refine wpAnyH_take (i := 9) (oi := ⟨some 33, _, _, _, _, _⟩) (v := ?_) rfl (by kernel_rfl) (by kernel_rfl) (by kernel_rfl) (fun _ _ _ h => h) (Or.inl ⟨by kernel_rfl, ?_⟩) (by assumption) ?_
            rotate_left 1
            · ((intro w hSw; (try dsimp only at hSw); go_simp) <;> (try with_reducible rfl))
            (try simp only [Act.put, List.setIfInBounds_toArray, List.set_cons_zero, List.set_cons_succ])
            refine wpAnyH_ready (rs := [10]) (by kernel_rfl) (by simp) ?_
            refine AllReadyH.cons (o := ⟨some 8, _, _, _, _, _⟩) rfl (fun K hK => ?_) AllReadyH.nil
            go_simp
            have hb := Below.al (Below.refl _ v1) (.cells #[.int .i64 0, .int .i64 0] 44)
            have R2 := Lib.hid (R1.out.below hb)
            have B2 := Lib.hid (Below.call B1.out hb)
            have C0_2 := Lib.hid (keep_cell hb C0_1.out)
            have N0_2 := Lib.hid (Nat.lt_of_lt_of_le N0_1.out hb.size)
            have D2 := Lib.hid (Cells2.new v1 44 (.int .i64 0) (.int .i64 0))
            have NE := Lib.hid (show v1.heap.size ≠ _ from Nat.ne_of_gt R1.out.2.2.2.2)
            have NL := Lib.hid (show w.heap.size ≤ v1.heap.size from B1.out.size)
            have NX0 := Lib.hid (show v1.heap.size ≠ b' from Nat.ne_of_gt N0_1.out)
            clear hb R1 B1 C0_1 N0_1
            generalize v1.alloc (.cells #[.int .i64 0, .int .i64 0] 44) = v2 at *
            generalize v1.heap.size = D at *
            refine hK.out _ _ ?_ (fun hHeld => ?_)
            · exact ⟨R2.out.1, R2.out.2.1, C0_2.out⟩
            clear hK K
            (try simp only [Act.put, List.setIfInBounds_toArray, List.set_cons_zero, List.set_cons_succ])
            refine wpAnyH_ready (rs := [11]) (by kernel_rfl) (by simp) ?_
            refine AllReadyH.cons (o := ⟨none, _, _, _, _, _⟩) rfl (fun K hK => ?_) AllReadyH.nil
            obtain ⟨s0, s1, y0, y1, sl⟩ := D2.out
            go_simp
            clear s0 s1 y0 y1 sl
            have RX := Lib.hid (R2.out.apart NE.out (.int .i64 p) (.int .i64 q))
            have DX := Lib.hid (D2.out.set (.int .i64 p) (.int .i64 q))
            have BX := Lib.hid (below_set2 B2.out NL.out (.int .i64 p) (.int .i64 q))
            have CX0 := Lib.hid (cell_apart2 C0_2.out NX0.out (.int .i64 p) (.int .i64 q))
            refine hK.out _ _ ?_ (fun hHeld => ?_)
            · exact ⟨RX.out.1, RX.out.2.1, CX0.out⟩
            clear hK K
            (try simp only [Act.put, List.setIfInBounds_toArray, List.set_cons_zero, List.set_cons_succ])
            refine wpAnyH_take (i := 12) (oi := ⟨some 9, _, _, _, _, _⟩) (v := ?_) rfl (by kernel_rfl) (by kernel_rfl) (by kernel_rfl) (fun _ _ _ h => h) (Or.inl ⟨by kernel_rfl, ?_⟩) (by assumption) ?_
            rotate_left 1
            · ((intro w hSw; (try dsimp only at hSw); go_simp) <;> (try with_reducible rfl))
            (try simp only [Act.put, List.setIfInBounds_toArray, List.set_cons_zero, List.set_cons_succ])
            refine wpAnyH_done (by kernel_rfl) ?_ _
            clear hHeld R2 B2 C0_2 N0_2 D2
            generalize (v2.setCell ⟨D, 0, none⟩ (.int .i64 p)).setCell ⟨D, 1, none⟩ (.int .i64 q) = vx at *
            obtain ⟨d0, d1, _⟩ := DX.out
            clear DX CX0 NX0 NL NE CK NB
            go_wp2_with fail
            go_roundw
            case rel => exact ⟨k + 1, t, d, y, s, b, rfl, rfl, rfl, num_i (by omega), HO.out, by omega, RX.out, BX.out⟩
            case measure => simp [intOf]; omega
          refine AllReadyH.cons (o := ⟨some 8, _, _, _, _, _⟩) rfl (fun K hK => ?_) ?_
          · go_simp
            have hb := Below.al (Below.refl _ v0) (.cells #[.int .i64 0, .int .i64 0] 44)
            have R3 := Lib.hid (R0.out.below hb)
            have B3 := Lib.hid (Below.call B0.out hb)
            have C0_3 := Lib.hid (keep_cell hb C0_0.out)
            have N0_3 := Lib.hid (Nat.lt_of_lt_of_le N0_0.out hb.size)
            have D3 := Lib.hid (Cells2.new v0 44 (.int .i64 0) (.int .i64 0))
            have NE := Lib.hid (show v0.heap.size ≠ _ from Nat.ne_of_gt R0.out.2.2.2.2)
            have NL := Lib.hid (show w.heap.size ≤ v0.heap.size from B0.out.size)
            have NX0 := Lib.hid (show v0.heap.size ≠ b' from Nat.ne_of_gt N0_0.out)
            clear hb B0 R0 C0_0 N0_0
            generalize v0.alloc (.cells #[.int .i64 0, .int .i64 0] 44) = v3 at *
            generalize v0.heap.size = D at *
            refine hK.out _ _ ?_ (fun hHeld => ?_)
            · exact ⟨R3.out.1, R3.out.2.1, C0_3.out⟩
            clear hK K
            (try simp only [Act.put, List.setIfInBounds_toArray, List.set_cons_zero, List.set_cons_succ])
            refine wpAnyH_ready (rs := [6]) (by kernel_rfl) (by simp) ?_
            refine AllReadyH.cons (o := ⟨some 31, _, _, _, _, _⟩) rfl (fun K hK => ?_) AllReadyH.nil
            go_simp
            refine (HK.out _).mono ?_
            rintro e v4 ⟨rfl, hb⟩
            have R4 := Lib.hid (R3.out.below hb)
            have B4 := Lib.hid (Below.call B3.out hb)
            have C0_4 := Lib.hid (keep_cell hb C0_3.out)
            have N0_4 := Lib.hid (Nat.lt_of_lt_of_le N0_3.out hb.size)
            have D4 := Lib.hid (D3.out.below hb)
            clear hb R3 B3 C0_3 N0_3 D3
            go_wp2_with fail
            refine hK.out _ _ ?_ (fun hHeld => ?_)
            · exact ⟨R4.out.1, R4.out.2.1, C0_4.out⟩
            clear hK K
            (try simp only [Act.put, List.setIfInBounds_toArray, List.set_cons_zero, List.set_cons_succ])
            refine wpAnyH_take (i := 7) (oi := ⟨some 24, _, _, _, _, _⟩) (v := ?_) rfl (by kernel_rfl) (by kernel_rfl) (by kernel_rfl) (fun _ _ _ h => h) (Or.inl ⟨by kernel_rfl, ?_⟩) (by assumption) ?_
            rotate_left 1
            · ((intro w hSw; (try dsimp only at hSw); go_simp) <;> (try with_reducible rfl))
            (try simp only [Act.put, List.setIfInBounds_toArray, List.set_cons_zero, List.set_cons_succ])
            refine wpAnyH_take (i := 8) (oi := ⟨some 32, _, _, _, _, _⟩) (v := ?_) rfl (by kernel_rfl) (by kernel_rfl) (by kernel_rfl) (fun _ _ _ h => h) (Or.inl ⟨by kernel_rfl, ?_⟩) (by assumption) ?_
            rotate_left 1
            · ((intro w hSw; (try dsimp only at hSw); go_simp) <;> (try with_reducible rfl))
            (try simp only [Act.put, List.setIfInBounds_toArray, List.set_cons_zero, List.set_cons_succ])
            refine wpAnyH_take (i := 9) (oi := ⟨some 33, _, _, _, _, _⟩) (v := ?_) rfl (by kernel_rfl) (by kernel_rfl) (by kernel_rfl) (fun _ _ _ h => h) (Or.inl ⟨by kernel_rfl, ?_⟩) (by assumption) ?_
            rotate_left 1
            · ((intro w hSw; (try dsimp only at hSw); go_simp) <;> (try with_reducible rfl))
            (try simp only [Act.put, List.setIfInBounds_toArray, List.set_cons_zero, List.set_cons_succ])
            refine wpAnyH_ready (rs := [11]) (by kernel_rfl) (by simp) ?_
            refine AllReadyH.cons (o := ⟨none, _, _, _, _, _⟩) rfl (fun K hK => ?_) AllReadyH.nil
            obtain ⟨s0, s1, y0, y1, sl⟩ := D4.out
            go_simp
            clear s0 s1 y0 y1 sl
            have RX := Lib.hid (R4.out.apart NE.out (.int .i64 p) (.int .i64 q))
            have DX := Lib.hid (D4.out.set (.int .i64 p) (.int .i64 q))
            have BX := Lib.hid (below_set2 B4.out NL.out (.int .i64 p) (.int .i64 q))
            have CX0 := Lib.hid (cell_apart2 C0_4.out NX0.out (.int .i64 p) (.int .i64 q))
            refine hK.out _ _ ?_ (fun hHeld => ?_)
            · exact ⟨RX.out.1, RX.out.2.1, CX0.out⟩
            clear hK K
            (try simp only [Act.put, List.setIfInBounds_toArray, List.set_cons_zero, List.set_cons_succ])
            refine wpAnyH_take (i := 12) (oi := ⟨some 9, _, _, _, _, _⟩) (v := ?_) rfl (by kernel_rfl) (by kernel_rfl) (by kernel_rfl) (fun _ _ _ h => h) (Or.inl ⟨by kernel_rfl, ?_⟩) (by assumption) ?_
            rotate_left 1
            · ((intro w hSw; (try dsimp only at hSw); go_simp) <;> (try with_reducible rfl))
            (try simp only [Act.put, List.setIfInBounds_toArray, List.set_cons_zero, List.set_cons_succ])
            refine wpAnyH_done (by kernel_rfl) ?_ _
            clear hHeld R4 B4 C0_4 N0_4 D4
            generalize (v4.setCell ⟨D, 0, none⟩ (.int .i64 p)).setCell ⟨D, 1, none⟩ (.int .i64 q) = vx at *
            obtain ⟨d0, d1, _⟩ := DX.out
            clear DX CX0 NX0 NL NE CK NB
            go_wp2_with fail
            go_roundw
            case rel => exact ⟨k + 1, t, d, y, s, b, rfl, rfl, rfl, num_i (by omega), HO.out, by omega, RX.out, BX.out⟩
            case measure => simp [intOf]; omega
          exact AllReadyH.nil
    · obtain rfl : k = xs.length := by omega
      have HQ := Lib.hid (fun w => right_any s b w)
      have ho := HO.out
      rcases ho with ⟨rfl, rfl, rfl, rfl, rfl⟩ | ⟨rfl, rfl, rfl, rfl, hb1, hb8⟩ | ⟨rfl, rfl, rfl, rfl⟩
      · rw [show (!(ofV 1 0 == 0)) = true from rfl] at HQ
        clear HO hol
        go_wp2_with fail
        refine (HL.out _).mono ?_
        rintro e w2 ⟨rfl, hb2⟩
        have HR2 := Lib.hid (HR.out.below hb2)
        have HB2 := Lib.hid (Below.call HB.out hb2)
        clear hb2
        obtain ⟨g0, g1, _⟩ := HR2.out
        go_wp2_with fail
        refine (HQ.out _).mono ?_
        rintro e w3 ⟨rfl, hb3⟩
        have HB3 := Lib.hid (Below.call HB2.out hb3)
        have k0 := keep_cell hb3 g0
        clear hb3 g0 g1
        go_wp2
        go_ret
        exact ⟨rt_b _ (by simp), HB3.out⟩
      · rw [show (!(ofV 2 b == 0)) = true by unfold ofV; rw [if_neg (by omega), if_pos ⟨rfl, hb1, hb8⟩]; rfl] at HQ
        clear HO hol hb1 hb8
        go_wp2_with fail
        refine (HL.out _).mono ?_
        rintro e w2 ⟨rfl, hb2⟩
        have HR2 := Lib.hid (HR.out.below hb2)
        have HB2 := Lib.hid (Below.call HB.out hb2)
        clear hb2
        obtain ⟨g0, g1, _⟩ := HR2.out
        go_wp2_with fail
        refine (HQ.out _).mono ?_
        rintro e w3 ⟨rfl, hb3⟩
        have HB3 := Lib.hid (Below.call HB2.out hb3)
        have k0 := keep_cell hb3 g0
        clear hb3 g0 g1
        go_wp2
        go_ret
        exact ⟨rt_b _ (by simp), HB3.out⟩
      · rw [show (!(ofV 3 0 == 0)) = true from rfl] at HQ
        clear HO hol
        go_wp2_with fail
        refine (HL.out _).mono ?_
        rintro e w2 ⟨rfl, hb2⟩
        have HR2 := Lib.hid (HR.out.below hb2)
        have HB2 := Lib.hid (Below.call HB.out hb2)
        clear hb2
        obtain ⟨g0, g1, _⟩ := HR2.out
        go_wp2_with fail
        refine (HQ.out _).mono ?_
        rintro e w3 ⟨rfl, hb3⟩
        have HB3 := Lib.hid (Below.call HB2.out hb3)
        have k0 := keep_cell hb3 g0
        clear hb3 g0 g1
        go_wp2
        go_ret
        exact ⟨rt_b _ (by simp), HB3.out⟩
end Go.Proofs.Ytdghekhkjkkgfaa
