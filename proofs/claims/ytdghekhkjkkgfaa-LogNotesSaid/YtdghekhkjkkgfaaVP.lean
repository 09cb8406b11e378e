/- Any log with any further change, or why not; it is right again; what is handed in stays: the walk. -/
import Derived.Test.YtdghekhkjkkgfaaVO
import Derived.Deep.CutRange
namespace Go.Proofs.Ytdghekhkjkkgfaa
open Go.RowKit

set_option maxRecDepth 100000 in
set_option maxHeartbeats 4000000 in
theorem logNotes_walk (r l : Int) (A : Option Addr) (c : Nat) (xs : List Ch) (b n y : Int) (w : World) (hv : KC.IsL w w.heap.size (.slice A xs.length c) xs) : Calls Try.prog 3 #[lgV r l A xs.length c, .int .i64 b, .int .i64 n, .int .i64 y] w fun e w' => e = .returned (.bool true) ∧ Below w.heap.size w w' := by
  have H10 := Lib.hid (fun w h => note_all r l A c xs b n w h)
  have H11 := Lib.hid (fun A2 c2 w h => rnote_all r l A2 c2 xs b n w h)
  have H13l := Lib.hid (fun w h => right_any' r l A c xs w h)
  have H14' := Lib.hid (fun A2 c2 w h => rlright_any r l A2 c2 xs w h)
  have HLV := Lib.hid (fun w => lives11_any w)
  have HRT := Lib.hid (fun h => nt_right' (r := r) (l := l) (xs := xs) (b := b) (n := n) h)
  have H12 := Lib.hid (fun (r l : Int) (A A2 : Option Addr) (c c2 : Nat) (xs : List Ch) w h1 h2 => same_any r l A A2 c c2 xs w h1 h2)
  have H15 := Lib.hid (fun w => new_any y w)
  generalize ntR r l xs b n = rR at *
  generalize ntM r l xs b n = rL at *
  generalize ntZ r l xs b n = zs at *
  generalize ntE r l xs b n = z at *
  generalize rgB r l xs = rr at *
  obtain ⟨w0, hw0⟩ : ∃ w0, w0 = w.alloc (.cells #[.int .i64 r, .int .i64 l, .slice A xs.length c] 24) := ⟨_, rfl⟩
  have HB0 := Lib.hid (show Below w.heap.size w w0 by rw [hw0]; exact Below.al (Below.refl _ _) _)
  have HC0 := Lib.hid (show Cells3 w0 w.heap.size (.int .i64 r) (.int .i64 l) (.slice A xs.length c) by rw [hw0]; exact Cells3.new w _ _ _ _)
  have HV0 := Lib.hid (hv.then HB0.out)
  clear hv
  by_cases hbig : 200 < xs.length
  · go_enter Try.func3, Try.ntmps3
    go_wp2_with fail
    rw [← hw0]
    clear hw0
    refine (HLV.out _).mono ?_
    rintro e w1 ⟨rfl, hb1⟩
    have HB1 := Lib.hid (Below.call HB0.out hb1)
    clear hb1
    go_wp2
    go_ret
    exact ⟨rfl, HB1.out⟩
  · go_enter Try.func3, Try.ntmps3
    go_upto_region 3 with fail
    rw [← hw0]
    clear hw0
    obtain ⟨G, hG⟩ : ∃ G, w.heap.size = G := ⟨_, rfl⟩
    rw [hG] at HC0
    simp only [hG]
    have S0 := Lib.hid HC0.out.1
    have S1 := Lib.hid HC0.out.2.1
    have S2 := Lib.hid HC0.out.2.2.1
    obtain ⟨B5, hB5⟩ : ∃ B5, w0.heap.size = B5 := ⟨_, rfl⟩
    have XL := Lib.hid (show KC.IsL w0 B5 (.slice A xs.length c) xs from hB5 ▸ HV0.out)
    have HGB := Lib.hid (show G < B5 from hB5 ▸ HC0.out.2.2.2.2.2.2)
    go_cut [9] from 22 (fun t wx => ∃ (D : Nat) (A2 : Option Addr) (c2 : Nat), t = .pointer (some ⟨D, 0, none⟩) ∧ Hid (Below B5 w0 wx) ∧ Hid (Cells3 wx D (.int .i64 r) (.int .i64 l) (.slice A2 xs.length c2)) ∧ Hid (KC.IsL wx wx.heap.size (.slice A2 xs.length c2) xs))
    case first =>
      refine wp_region_held_drew (S := fun w' => w'.cell? ⟨G, 0, none⟩ = some (.int .i64 r) ∧ w'.cell? ⟨G, 1, none⟩ = some (.int .i64 l) ∧ w'.cell? ⟨G, 2, none⟩ = some (.slice A xs.length c)) (by kernel_rfl) ?_ (fun hHeld => ?_)
      · exact ⟨S0.out, S1.out, S2.out⟩
      refine wpAnyH_take (i := 0) (oi := ⟨some 22, _, _, _, _, _⟩) (v := ?_) rfl (by kernel_rfl) (by kernel_rfl) (by kernel_rfl) (fun _ _ _ h => h) (Or.inl ⟨by kernel_rfl, ?_⟩) (by assumption) ?_
      rotate_left 1
      · ((intro w hSw; (try dsimp only at hSw); go_simp) <;> (try with_reducible rfl))
      (try simp only [Act.put, List.setIfInBounds_toArray, List.set_cons_zero, List.set_cons_succ])
      refine wpAnyH_take (i := 1) (oi := ⟨some 23, _, _, _, _, _⟩) (v := ?_) rfl (by kernel_rfl) (by kernel_rfl) (by kernel_rfl) (fun _ _ _ h => h) (Or.inl ⟨by kernel_rfl, ?_⟩) (by assumption) ?_
      rotate_left 1
      · ((intro w hSw; (try dsimp only at hSw); go_simp) <;> (try with_reducible rfl))
      (try simp only [Act.put, List.setIfInBounds_toArray, List.set_cons_zero, List.set_cons_succ])
      refine wpAnyH_take (i := 2) (oi := ⟨some 24, _, _, _, _, _⟩) (v := ?_) rfl (by kernel_rfl) (by kernel_rfl) (by kernel_rfl) (fun _ _ _ h => h) (Or.inl ⟨by kernel_rfl, ?_⟩) (by assumption) ?_
      rotate_left 1
      · ((intro w hSw; (try dsimp only at hSw); go_simp) <;> (try with_reducible rfl))
      (try simp only [Act.put, List.setIfInBounds_toArray, List.set_cons_zero, List.set_cons_succ])
      refine wpAnyH_take (i := 3) (oi := ⟨some 25, _, _, _, _, _⟩) (v := ?_) rfl (by kernel_rfl) (by kernel_rfl) (by kernel_rfl) (fun _ _ _ h => h) (Or.inl ⟨by kernel_rfl, ?_⟩) (by assumption) ?_
      rotate_left 1
      · ((intro w hSw; (try dsimp only at hSw); go_simp) <;> (try with_reducible rfl))
      (try simp only [Act.put, List.setIfInBounds_toArray, List.set_cons_zero, List.set_cons_succ])
      refine wpAnyH_take (i := 5) (oi := ⟨some 27, _, _, _, _, _⟩) (v := ?_) rfl (by kernel_rfl) (by kernel_rfl) (by kernel_rfl) (fun _ _ _ h => h) (Or.inl ⟨by kernel_rfl, ?_⟩) (by assumption) ?_
      rotate_left 1
      · ((intro w hSw; (try dsimp only at hSw); go_simp) <;> (try with_reducible rfl))
      (try simp only [Act.put, List.setIfInBounds_toArray, List.set_cons_zero, List.set_cons_succ])
      refine wpAnyH_take (i := 6) (oi := ⟨some 28, _, _, _, _, _⟩) (v := ?_) rfl (by kernel_rfl) (by kernel_rfl) (by kernel_rfl) (fun _ _ _ h => h) (Or.inl ⟨by kernel_rfl, ?_⟩) (by assumption) ?_
      rotate_left 1
      · ((intro w hSw; (try dsimp only at hSw); go_simp) <;> (try with_reducible rfl))
      (try simp only [Act.put, List.setIfInBounds_toArray, List.set_cons_zero, List.set_cons_succ])
      have BV := Lib.hid (show Below B5 w0 w0.drew from (Below.refl B5 w0).drew)
      have BVS := Lib.hid (show B5 ≤ w0.drew.heap.size from Nat.le_of_eq hB5.symm)
      generalize w0.drew = v0 at *
      clear hHeld
      refine wpAnyH_ready (rs := [4, 9]) (by kernel_rfl) (by simp) ?_
      refine AllReadyH.cons (o := ⟨some 26, _, _, _, _, _⟩) rfl (fun K hK => ?_) ?_
      · go_simp
        have QB1 := Lib.hid (BV.out.alloc BVS.out (.cells #[] 32))
        have QO1 := Lib.hid (show KC.Own (v0.alloc (.cells #[] 32)) B5 (.slice (some ⟨v0.heap.size, 0, none⟩) 0 0) [] from Lk.Own.made (K := KC) v0 B5 0 #[] BVS.out (by unfold maxLen; omega) (by simp))
        clear BV
        generalize v0.alloc (.cells #[] 32) = v1 at *
        generalize v0.heap.size = QH1 at *
        refine hK.out _ _ ?_ (fun hHeld => ?_)
        · exact ⟨(QB1.out.cell (p := ⟨G, 0, none⟩) HGB.out).trans S0.out, (QB1.out.cell (p := ⟨G, 1, none⟩) HGB.out).trans S1.out, (QB1.out.cell (p := ⟨G, 2, none⟩) HGB.out).trans S2.out⟩
        clear hK K hHeld
        (try simp only [Act.put, List.setIfInBounds_toArray, List.set_cons_zero, List.set_cons_succ])
        refine wpAnyH_ready (rs := [7, 9]) (by kernel_rfl) (by simp) ?_
        refine AllReadyH.cons (o := ⟨some 29, _, _, _, _, _⟩) rfl (fun K hK => ?_) ?_
        · refine Lk.wp_app (K := KC) v1 _ _ rfl rfl B5 B5 _ (.slice A xs.length c) [] xs rfl rfl QO1.out (XL.out.below QB1.out) ?_ (show B5 ≤ v1.heap.size from hB5 ▸ QB1.out.size) ?_
          · simp only [List.length_nil]; omega
          intro va v2 ho hg hat
          obtain ⟨A2, c2, rfl, hc2⟩ := ((show KC.Own v2 B5 va xs from ho).isL (by omega)).shape
          have QB2 := Lib.hid (Lk.Own.grow' QO1.out QB1.out (show B5 ≤ v1.heap.size from hB5 ▸ QB1.out.size) hg)
          have QO2 := Lib.hid (show KC.Own v2 B5 (.slice A2 xs.length c2) xs from ho)
          clear ho hg hat QO1 QB1
          refine hK.out _ _ ?_ (fun hHeld => ?_)
          · exact ⟨(QB2.out.cell (p := ⟨G, 0, none⟩) HGB.out).trans S0.out, (QB2.out.cell (p := ⟨G, 1, none⟩) HGB.out).trans S1.out, (QB2.out.cell (p := ⟨G, 2, none⟩) HGB.out).trans S2.out⟩
          clear hK K
          (try simp only [Act.put, List.setIfInBounds_toArray, List.set_cons_zero, List.set_cons_succ])
          refine wpAnyH_take (i := 8) (oi := ⟨some 30, _, _, _, _, _⟩) (v := ?_) rfl (by kernel_rfl) (by kernel_rfl) (by kernel_rfl) (fun _ _ _ h => h) (Or.inl ⟨by kernel_rfl, ?_⟩) (by assumption) ?_
          rotate_left 1
          · ((intro w hSw; (try dsimp only at hSw); go_simp) <;> (try with_reducible rfl))
          (try simp only [Act.put, List.setIfInBounds_toArray, List.set_cons_zero, List.set_cons_succ])
          clear hHeld
          refine wpAnyH_ready (rs := [9]) (by kernel_rfl) (by simp) ?_
          refine AllReadyH.cons (o := ⟨some 9, _, _, _, _, _⟩) rfl (fun K hK => ?_) AllReadyH.nil
          go_simp
          have QB3 := Lib.hid (QB2.out.alloc (show B5 ≤ v2.heap.size from hB5 ▸ QB2.out.size) (.cells #[.int .i64 0, .int .i64 0, .slice none 0 0] 24))
          have QD3 := Lib.hid (Cells3.new v2 24 (.int .i64 0) (.int .i64 0) (.slice none 0 0))
          have QL3 := Lib.hid (show B5 ≤ v2.heap.size from (show B5 ≤ v2.heap.size from hB5 ▸ QB2.out.size))
          have QO3 := Lib.hid (QO2.out.alloc (.cells #[.int .i64 0, .int .i64 0, .slice none 0 0] 24))
          have NO := Lib.hid (show ∀ k, (Value.slice A2 xs.length c2).ownBlock = some k → k ≠ v2.heap.size from fun k hk => Nat.ne_of_lt (QO2.out.lt k hk).2)
          clear QO2
          clear QB2
          generalize v2.alloc (.cells #[.int .i64 0, .int .i64 0, .slice none 0 0] 24) = v3 at *
          generalize v2.heap.size = QN3 at *
          refine hK.out _ _ ?_ (fun hHeld => ?_)
          · exact ⟨(QB3.out.cell (p := ⟨G, 0, none⟩) HGB.out).trans S0.out, (QB3.out.cell (p := ⟨G, 1, none⟩) HGB.out).trans S1.out, (QB3.out.cell (p := ⟨G, 2, none⟩) HGB.out).trans S2.out⟩
          clear hK K hHeld
          (try simp only [Act.put, List.setIfInBounds_toArray, List.set_cons_zero, List.set_cons_succ])
          refine wpAnyH_ready (rs := [10]) (by kernel_rfl) (by simp) ?_
          refine AllReadyH.cons (o := ⟨none, _, _, _, _, _⟩) rfl (fun K hK => ?_) AllReadyH.nil
          obtain ⟨s0, s1, s2, y0, y1, y2, sl⟩ := QD3.out
          go_simp
          clear s0 s1 s2 y0 y1 y2 sl
          have BX := Lib.hid (below_set3 QB3.out QL3.out (.int .i64 r) (.int .i64 l) (.slice A2 xs.length c2))
          have DX := Lib.hid (QD3.out.set (.int .i64 r) (.int .i64 l) (.slice A2 xs.length c2))
          have OX := Lib.hid (((Lk.Own.far QO3.out (fun k hk => NO.out k hk) 0 (.int .i64 r)).far (fun k hk => NO.out k hk) 1 (.int .i64 l)).far (fun k hk => NO.out k hk) 2 (.slice A2 xs.length c2))
          refine hK.out _ _ ?_ (fun hHeld => ?_)
          · exact ⟨(BX.out.cell (p := ⟨G, 0, none⟩) HGB.out).trans S0.out, (BX.out.cell (p := ⟨G, 1, none⟩) HGB.out).trans S1.out, (BX.out.cell (p := ⟨G, 2, none⟩) HGB.out).trans S2.out⟩
          clear hK K
          (try simp only [Act.put, List.setIfInBounds_toArray, List.set_cons_zero, List.set_cons_succ])
          refine wpAnyH_done (by kernel_rfl) ?_ _
          clear hHeld
          clear QO3 QB3 QD3 NO QL3
          generalize ((v3.setCell ⟨QN3, 0, none⟩ (.int .i64 r)).setCell ⟨QN3, 1, none⟩ (.int .i64 l)).setCell ⟨QN3, 2, none⟩ (.slice A2 xs.length c2) = vz at *
          generalize QN3 = D at *
          go_wp2_with fail
          go_meet
          exact ⟨D, A2, c2, rfl, Lib.hid BX.out, Lib.hid DX.out, Lib.hid (OX.out.isL (by omega))⟩
        refine AllReadyH.cons (o := ⟨some 9, _, _, _, _, _⟩) rfl (fun K hK => ?_) ?_
        · go_simp
          have QB4 := Lib.hid (QB1.out.alloc (show B5 ≤ v1.heap.size from hB5 ▸ QB1.out.size) (.cells #[.int .i64 0, .int .i64 0, .slice none 0 0] 24))
          have QD4 := Lib.hid (Cells3.new v1 24 (.int .i64 0) (.int .i64 0) (.slice none 0 0))
          have QL4 := Lib.hid (show B5 ≤ v1.heap.size from (show B5 ≤ v1.heap.size from hB5 ▸ QB1.out.size))
          have QO4 := Lib.hid (QO1.out.alloc (.cells #[.int .i64 0, .int .i64 0, .slice none 0 0] 24))
          have NE := Lib.hid (show v1.heap.size ≠ QH1 from Nat.ne_of_gt (QO1.out.lt _ rfl).2)
          clear QO1
          clear QB1
          generalize v1.alloc (.cells #[.int .i64 0, .int .i64 0, .slice none 0 0] 24) = v4 at *
          generalize v1.heap.size = QN4 at *
          refine hK.out _ _ ?_ (fun hHeld => ?_)
          · exact ⟨(QB4.out.cell (p := ⟨G, 0, none⟩) HGB.out).trans S0.out, (QB4.out.cell (p := ⟨G, 1, none⟩) HGB.out).trans S1.out, (QB4.out.cell (p := ⟨G, 2, none⟩) HGB.out).trans S2.out⟩
          clear hK K hHeld
          (try simp only [Act.put, List.setIfInBounds_toArray, List.set_cons_zero, List.set_cons_succ])
          refine wpAnyH_ready (rs := [7]) (by kernel_rfl) (by simp) ?_
          refine AllReadyH.cons (o := ⟨some 29, _, _, _, _, _⟩) rfl (fun K hK => ?_) AllReadyH.nil
          refine Lk.wp_app (K := KC) v4 _ _ rfl rfl B5 B5 _ (.slice A xs.length c) [] xs rfl rfl QO4.out (XL.out.below QB4.out) ?_ (show B5 ≤ v4.heap.size from hB5 ▸ QB4.out.size) ?_
          · simp only [List.length_nil]; omega
          intro va v5 ho hg hat
          obtain ⟨A2, c2, rfl, hc2⟩ := ((show KC.Own v5 B5 va xs from ho).isL (by omega)).shape
          have QB5 := Lib.hid (Lk.Own.grow' QO4.out QB4.out (show B5 ≤ v4.heap.size from hB5 ▸ QB4.out.size) hg)
          have QO5 := Lib.hid (show KC.Own v5 B5 (.slice A2 xs.length c2) xs from ho)
          have QD5 := Lib.hid (Cells3.grown QD4.out hg (show some QN4 ≠ some QH1 from fun e => NE.out (Option.some.inj e)))
          have NO := Lib.hid (show ∀ k, (Value.slice A2 xs.length c2).ownBlock = some k → k ≠ QN4 from fun k hk e => by
            subst e
            rcases hat with h | h
            · exact NE.out (Option.some.inj (hk.symm.trans h))
            · exact absurd (Option.some.inj (hk.symm.trans h)) (Nat.ne_of_lt QD4.out.2.2.2.2.2.2))
          clear QD4
          clear ho hg hat QO4 QB4
          refine hK.out _ _ ?_ (fun hHeld => ?_)
          · exact ⟨(QB5.out.cell (p := ⟨G, 0, none⟩) HGB.out).trans S0.out, (QB5.out.cell (p := ⟨G, 1, none⟩) HGB.out).trans S1.out, (QB5.out.cell (p := ⟨G, 2, none⟩) HGB.out).trans S2.out⟩
          clear hK K
          (try simp only [Act.put, List.setIfInBounds_toArray, List.set_cons_zero, List.set_cons_succ])
          refine wpAnyH_take (i := 8) (oi := ⟨some 30, _, _, _, _, _⟩) (v := ?_) rfl (by kernel_rfl) (by kernel_rfl) (by kernel_rfl) (fun _ _ _ h => h) (Or.inl ⟨by kernel_rfl, ?_⟩) (by assumption) ?_
          rotate_left 1
          · ((intro w hSw; (try dsimp only at hSw); go_simp) <;> (try with_reducible rfl))
          (try simp only [Act.put, List.setIfInBounds_toArray, List.set_cons_zero, List.set_cons_succ])
          clear hHeld
          refine wpAnyH_ready (rs := [10]) (by kernel_rfl) (by simp) ?_
          refine AllReadyH.cons (o := ⟨none, _, _, _, _, _⟩) rfl (fun K hK => ?_) AllReadyH.nil
          obtain ⟨s0, s1, s2, y0, y1, y2, sl⟩ := QD5.out
          go_simp
          clear s0 s1 s2 y0 y1 y2 sl
          have BX := Lib.hid (below_set3 QB5.out QL4.out (.int .i64 r) (.int .i64 l) (.slice A2 xs.length c2))
          have DX := Lib.hid (QD5.out.set (.int .i64 r) (.int .i64 l) (.slice A2 xs.length c2))
          have OX := Lib.hid (((Lk.Own.far QO5.out (fun k hk => NO.out k hk) 0 (.int .i64 r)).far (fun k hk => NO.out k hk) 1 (.int .i64 l)).far (fun k hk => NO.out k hk) 2 (.slice A2 xs.length c2))
          refine hK.out _ _ ?_ (fun hHeld => ?_)
          · exact ⟨(BX.out.cell (p := ⟨G, 0, none⟩) HGB.out).trans S0.out, (BX.out.cell (p := ⟨G, 1, none⟩) HGB.out).trans S1.out, (BX.out.cell (p := ⟨G, 2, none⟩) HGB.out).trans S2.out⟩
          clear hK K
          (try simp only [Act.put, List.setIfInBounds_toArray, List.set_cons_zero, List.set_cons_succ])
          refine wpAnyH_done (by kernel_rfl) ?_ _
          clear hHeld
          clear QO5 QB5 QD5 NO QL4
          generalize ((v5.setCell ⟨QN4, 0, none⟩ (.int .i64 r)).setCell ⟨QN4, 1, none⟩ (.int .i64 l)).setCell ⟨QN4, 2, none⟩ (.slice A2 xs.length c2) = vz at *
          generalize QN4 = D at *
          go_wp2_with fail
          go_meet
          exact ⟨D, A2, c2, rfl, Lib.hid BX.out, Lib.hid DX.out, Lib.hid (OX.out.isL (by omega))⟩
        exact AllReadyH.nil
      refine AllReadyH.cons (o := ⟨some 9, _, _, _, _, _⟩) rfl (fun K hK => ?_) ?_
      · go_simp
        have QB6 := Lib.hid (BV.out.alloc BVS.out (.cells #[.int .i64 0, .int .i64 0, .slice none 0 0] 24))
        have QD6 := Lib.hid (Cells3.new v0 24 (.int .i64 0) (.int .i64 0) (.slice none 0 0))
        have QL6 := Lib.hid (show B5 ≤ v0.heap.size from BVS.out)
        clear BV
        generalize v0.alloc (.cells #[.int .i64 0, .int .i64 0, .slice none 0 0] 24) = v6 at *
        generalize v0.heap.size = QN6 at *
        refine hK.out _ _ ?_ (fun hHeld => ?_)
        · exact ⟨(QB6.out.cell (p := ⟨G, 0, none⟩) HGB.out).trans S0.out, (QB6.out.cell (p := ⟨G, 1, none⟩) HGB.out).trans S1.out, (QB6.out.cell (p := ⟨G, 2, none⟩) HGB.out).trans S2.out⟩
        clear hK K hHeld
        (try simp only [Act.put, List.setIfInBounds_toArray, List.set_cons_zero, List.set_cons_succ])
        refine wpAnyH_ready (rs := [4]) (by kernel_rfl) (by simp) ?_
        refine AllReadyH.cons (o := ⟨some 26, _, _, _, _, _⟩) rfl (fun K hK => ?_) AllReadyH.nil
        go_simp
        have QB7 := Lib.hid (QB6.out.alloc (show B5 ≤ v6.heap.size from hB5 ▸ QB6.out.size) (.cells #[] 32))
        have QO7 := Lib.hid (show KC.Own (v6.alloc (.cells #[] 32)) B5 (.slice (some ⟨v6.heap.size, 0, none⟩) 0 0) [] from Lk.Own.made (K := KC) v6 B5 0 #[] (show B5 ≤ v6.heap.size from hB5 ▸ QB6.out.size) (by unfold maxLen; omega) (by simp))
        have QD7 := Lib.hid (QD6.out.below (Below.al (Below.refl _ v6) (.cells #[] 32)))
        have NE := Lib.hid (show QN6 ≠ v6.heap.size from Nat.ne_of_lt QD6.out.2.2.2.2.2.2)
        clear QD6
        clear QB6
        generalize v6.alloc (.cells #[] 32) = v7 at *
        generalize v6.heap.size = QH7 at *
        refine hK.out _ _ ?_ (fun hHeld => ?_)
        · exact ⟨(QB7.out.cell (p := ⟨G, 0, none⟩) HGB.out).trans S0.out, (QB7.out.cell (p := ⟨G, 1, none⟩) HGB.out).trans S1.out, (QB7.out.cell (p := ⟨G, 2, none⟩) HGB.out).trans S2.out⟩
        clear hK K hHeld
        (try simp only [Act.put, List.setIfInBounds_toArray, List.set_cons_zero, List.set_cons_succ])
        refine wpAnyH_ready (rs := [7]) (by kernel_rfl) (by simp) ?_
        refine AllReadyH.cons (o := ⟨some 29, _, _, _, _, _⟩) rfl (fun K hK => ?_) AllReadyH.nil
        refine Lk.wp_app (K := KC) v7 _ _ rfl rfl B5 B5 _ (.slice A xs.length c) [] xs rfl rfl QO7.out (XL.out.below QB7.out) ?_ (show B5 ≤ v7.heap.size from hB5 ▸ QB7.out.size) ?_
        · simp only [List.length_nil]; omega
        intro va v8 ho hg hat
        obtain ⟨A2, c2, rfl, hc2⟩ := ((show KC.Own v8 B5 va xs from ho).isL (by omega)).shape
        have QB8 := Lib.hid (Lk.Own.grow' QO7.out QB7.out (show B5 ≤ v7.heap.size from hB5 ▸ QB7.out.size) hg)
        have QO8 := Lib.hid (show KC.Own v8 B5 (.slice A2 xs.length c2) xs from ho)
        have QD8 := Lib.hid (Cells3.grown QD7.out hg (show some QN6 ≠ some QH7 from fun e => NE.out (Option.some.inj e)))
        have NO := Lib.hid (show ∀ k, (Value.slice A2 xs.length c2).ownBlock = some k → k ≠ QN6 from fun k hk e => by
          subst e
          rcases hat with h | h
          · exact NE.out (Option.some.inj (hk.symm.trans h))
          · exact absurd (Option.some.inj (hk.symm.trans h)) (Nat.ne_of_lt QD7.out.2.2.2.2.2.2))
        clear QD7
        clear ho hg hat QO7 QB7
        refine hK.out _ _ ?_ (fun hHeld => ?_)
        · exact ⟨(QB8.out.cell (p := ⟨G, 0, none⟩) HGB.out).trans S0.out, (QB8.out.cell (p := ⟨G, 1, none⟩) HGB.out).trans S1.out, (QB8.out.cell (p := ⟨G, 2, none⟩) HGB.out).trans S2.out⟩
        clear hK K
        (try simp only [Act.put, List.setIfInBounds_toArray, List.set_cons_zero, List.set_cons_succ])
        refine wpAnyH_take (i := 8) (oi := ⟨some 30, _, _, _, _, _⟩) (v := ?_) rfl (by kernel_rfl) (by kernel_rfl) (by kernel_rfl) (fun _ _ _ h => h) (Or.inl ⟨by kernel_rfl, ?_⟩) (by assumption) ?_
        rotate_left 1
        · ((intro w hSw; (try dsimp only at hSw); go_simp) <;> (try with_reducible rfl))
        (try simp only [Act.put, List.setIfInBounds_toArray, List.set_cons_zero, List.set_cons_succ])
        clear hHeld
        refine wpAnyH_ready (rs := [10]) (by kernel_rfl) (by simp) ?_
        refine AllReadyH.cons (o := ⟨none, _, _, _, _, _⟩) rfl (fun K hK => ?_) AllReadyH.nil
        obtain ⟨s0, s1, s2, y0, y1, y2, sl⟩ := QD8.out
        go_simp
        clear s0 s1 s2 y0 y1 y2 sl
        have BX := Lib.hid (below_set3 QB8.out QL6.out (.int .i64 r) (.int .i64 l) (.slice A2 xs.length c2))
        have DX := Lib.hid (QD8.out.set (.int .i64 r) (.int .i64 l) (.slice A2 xs.length c2))
        have OX := Lib.hid (((Lk.Own.far QO8.out (fun k hk => NO.out k hk) 0 (.int .i64 r)).far (fun k hk => NO.out k hk) 1 (.int .i64 l)).far (fun k hk => NO.out k hk) 2 (.slice A2 xs.length c2))
        refine hK.out _ _ ?_ (fun hHeld => ?_)
        · exact ⟨(BX.out.cell (p := ⟨G, 0, none⟩) HGB.out).trans S0.out, (BX.out.cell (p := ⟨G, 1, none⟩) HGB.out).trans S1.out, (BX.out.cell (p := ⟨G, 2, none⟩) HGB.out).trans S2.out⟩
        clear hK K
        (try simp only [Act.put, List.setIfInBounds_toArray, List.set_cons_zero, List.set_cons_succ])
        refine wpAnyH_done (by kernel_rfl) ?_ _
        clear hHeld
        clear QO8 QB8 QD8 NO QL6
        generalize ((v8.setCell ⟨QN6, 0, none⟩ (.int .i64 r)).setCell ⟨QN6, 1, none⟩ (.int .i64 l)).setCell ⟨QN6, 2, none⟩ (.slice A2 xs.length c2) = vz at *
        generalize QN6 = D at *
        go_wp2_with fail
        go_meet
        exact ⟨D, A2, c2, rfl, Lib.hid BX.out, Lib.hid DX.out, Lib.hid (OX.out.isL (by omega))⟩
      exact AllReadyH.nil
    case rest =>
      obtain ⟨W1, hW1⟩ : ∃ W1, W1 = wc := ⟨_, rfl⟩
      subst hW1
      obtain ⟨D, A2, c2, rfl, hbz, hdz, hxg⟩ := hcut
      clear S0 S1 S2 XL HGB
      subst hB5
      have HBc := Lib.hid (Below.call HB0.out hbz.out)
      have HGc := Lib.hid (HC0.out.below hbz.out)
      have HXl := Lib.hid (HV0.out.then hbz.out)
      have HDc := Lib.hid hdz.out
      have HXg := Lib.hid hxg.out
      clear hbz hdz hxg HC0 HV0 HB0
      have hDw : D < W1.heap.size := HDc.out.2.2.2.2.2.2
      have hGw : G < W1.heap.size := HGc.out.2.2.2.2.2.2
      obtain ⟨g0, g1, g2, _⟩ := HGc.out
      go_wp2_with fail
      refine (H10.out _ HXl.out).mono ?_
      rintro e w4 ⟨A4, c4, rfl, ho4, hb4⟩
      clear g0 g1 g2
      obtain ⟨v4, hv4⟩ : ∃ v4, v4 = w4.alloc (.cells #[.int .i64 rR, .int .i64 rL, .slice A4 zs.length c4] 24) := ⟨_, rfl⟩
      have hbv := Below.al hb4 (.cells #[.int .i64 rR, .int .i64 rL, .slice A4 zs.length c4] 24)
      rw [← hv4] at hbv
      have HB4 := Lib.hid hbv
      have HP4 := Lib.hid (show Cells3 v4 w4.heap.size (.int .i64 rR) (.int .i64 rL) (.slice A4 zs.length c4) by rw [hv4]; exact Cells3.new w4 _ _ _ _)
      have HO4 := Lib.hid (show KC.Own v4 W1.heap.size (.slice A4 zs.length c4) zs by rw [hv4]; exact ho4.alloc _)
      have HNP := Lib.hid (show ∀ k, (Value.slice A4 zs.length c4).ownBlock = some k → k ≠ w4.heap.size from fun k hk => Nat.ne_of_lt (ho4.lt k hk).2)
      have HPB := Lib.hid (show W1.heap.size ≤ w4.heap.size from hb4.size)
      have HG4 := Lib.hid (HGc.out.below hbv)
      have HD4 := Lib.hid (HDc.out.below hbv)
      have HX4 := Lib.hid (HXg.out.then hbv)
      have HL4 := Lib.hid (HXl.out.then hbv)
      clear ho4 hb4 hbv
      obtain ⟨g0, g1, g2, _⟩ := HG4.out
      obtain ⟨d0, d1, d2, _⟩ := HD4.out
      rw [hv4] at g0 g1 g2 d0 d1 d2
      go_wp2_with fail
      rw [← hv4]
      clear hv4
      obtain ⟨P, hP⟩ : ∃ P, w4.heap.size = P := ⟨_, rfl⟩
      rw [hP] at HP4 HNP HPB
      simp only [hP]
      refine (H11.out _ _ _ HX4.out).mono ?_
      rintro e w5 ⟨A5, c5, rfl, ho5, hb5⟩
      clear g0 g1 g2 d0 d1 d2
      obtain ⟨v5, hv5⟩ : ∃ v5, v5 = w5.alloc (.cells #[.int .i64 rR, .int .i64 rL, .slice A5 zs.length c5] 24) := ⟨_, rfl⟩
      have hbv := Below.al hb5 (.cells #[.int .i64 rR, .int .i64 rL, .slice A5 zs.length c5] 24)
      rw [← hv5] at hbv
      have HB5 := Lib.hid (Below.call HB4.out hbv)
      have HQ5 := Lib.hid (show Cells3 v5 w5.heap.size (.int .i64 rR) (.int .i64 rL) (.slice A5 zs.length c5) by rw [hv5]; exact Cells3.new w5 _ _ _ _)
      have HZb := Lib.hid (show KC.IsL v5 v5.heap.size (.slice A5 zs.length c5) zs by rw [hv5]; exact ho5.then (Below.al (Below.refl _ _) _))
      have HP5 := Lib.hid (HP4.out.below hbv)
      have HG5 := Lib.hid (HG4.out.below hbv)
      have HD5 := Lib.hid (HD4.out.below hbv)
      have HO5 := Lib.hid (HO4.out.below hbv)
      have HZa := Lib.hid (HO5.out.isL HZb.out.2.2)
      have HXg5 := Lib.hid (HX4.out.then hbv)
      have HXl5 := Lib.hid (HL4.out.then hbv)
      clear ho5 hb5 hbv HG4 HD4 HP4 HO4 HX4 HL4 HB4
      obtain ⟨g0, g1, g2, _⟩ := HG5.out
      obtain ⟨d0, d1, d2, _⟩ := HD5.out
      obtain ⟨p0, p1, p2, _⟩ := HP5.out
      obtain ⟨q0, q1, q2, _⟩ := HQ5.out
      go_upto_region 6 with fail
      rw [← hv5]
      clear hv5
      obtain ⟨Q, hQ⟩ : ∃ Q, w5.heap.size = Q := ⟨_, rfl⟩
      rw [hQ] at q0 q1 q2
      simp only [hQ]
      clear HQ5
      go_cut [79] from 45 to 78 (fun t wx => t = .bool false ∧ Below v5.heap.size v5 wx)
      case first =>
        have H12a := Lib.hid (H12.out rR rL A4 A5 c4 c5 zs)
        have H12b := Lib.hid (H12.out r l A A2 c c2 xs)
        have H14 := Lib.hid (H14'.out A2 c2)
        have H13a' := Lib.hid (fun w h => right_any' rR rL A4 c4 zs w h)
        have HXg := HXg5
        have HXl := HXl5
        clear H10 H11 H12 H14' H15
        by_cases hz : z = 0
        · have hz2 : (z == 0) = true := by simpa using hz
          have hz3 : decide (z = 0) = true := decide_eq_true hz
          have H13a := Lib.hid (show ∀ w, KC.IsL w w.heap.size (.slice A4 zs.length c4) zs → Calls Try.prog 13 #[lgV rR rL A4 zs.length c4] w fun e w' => e = .returned (.bool true) ∧ Below w.heap.size w w' from fun w h => HRT.out hz ▸ H13a'.out w h)
          clear H13a' hz
          go_region_held3 (fun w' => w'.cell? ⟨G, 0, none⟩ = some (.int .i64 r) ∧ w'.cell? ⟨G, 1, none⟩ = some (.int .i64 l) ∧ w'.cell? ⟨G, 2, none⟩ = some (.slice A xs.length c) ∧ w'.cell? ⟨D, 0, none⟩ = some (.int .i64 r) ∧ w'.cell? ⟨D, 1, none⟩ = some (.int .i64 l) ∧ w'.cell? ⟨D, 2, none⟩ = some (.slice A2 xs.length c2) ∧ w'.cell? ⟨P, 0, none⟩ = some (.int .i64 rR) ∧ w'.cell? ⟨P, 1, none⟩ = some (.int .i64 rL) ∧ w'.cell? ⟨P, 2, none⟩ = some (.slice A4 zs.length c4) ∧ w'.cell? ⟨Q, 0, none⟩ = some (.int .i64 rR) ∧ w'.cell? ⟨Q, 1, none⟩ = some (.int .i64 rL) ∧ w'.cell? ⟨Q, 2, none⟩ = some (.slice A5 zs.length c5) ∧ Below v5.heap.size v5 w')
            (first | exact ⟨g0, g1, g2, d0, d1, d2, p0, p1, p2, q0, q1, q2, (Below.refl _ _).drew⟩ | assumption | go_keep | (go_split_ands; exact ⟨keep_cell hbc (by assumption), keep_cell hbc (by assumption), keep_cell hbc (by assumption), keep_cell hbc (by assumption), keep_cell hbc (by assumption), keep_cell hbc (by assumption), keep_cell hbc (by assumption), keep_cell hbc (by assumption), keep_cell hbc (by assumption), keep_cell hbc (by assumption), keep_cell hbc (by assumption), keep_cell hbc (by assumption), Below.call (by assumption) hbc⟩))
            (first
              | (go_at_call 9; ((with_reducible refine (HLV.out _).mono ?_); rintro e w9 ⟨rfl, hbc⟩))
              | (go_at_call 12; ((with_reducible refine (H12a.out _ (HZa.out.then (by go_split_ands; assumption)) (HZb.out.then (by go_split_ands; assumption))).mono ?_); rintro e w9 ⟨rfl, hbc⟩))
              | (go_at_call 12; ((with_reducible refine (H12b.out _ (HXl.out.then (by go_split_ands; assumption)) (HXg.out.then (by go_split_ands; assumption))).mono ?_); rintro e w9 ⟨rfl, hbc⟩))
              | (go_at_call 13; ((with_reducible refine (H13l.out _ (HXl.out.then (by go_split_ands; assumption))).mono ?_); rintro e w9 ⟨rfl, hbc⟩))
              | (go_at_call 13; ((with_reducible refine (H13a.out _ (HZa.out.then (by go_split_ands; assumption))).mono ?_); rintro e w9 ⟨rfl, hbc⟩))
              | (go_at_call 14; ((with_reducible refine (H14.out _ (HXg.out.then (by go_split_ands; assumption))).mono ?_); rintro e w9 ⟨rfl, hbc⟩)))
          all_goals
            go_wp2_with fail
            go_meet
            exact ⟨rfl, by go_split_ands; assumption⟩
        · have hz2 : (z == 0) = false := by simpa using hz
          clear H13a' hz
          refine wp_region_held_drew (S := fun w' => w'.cell? ⟨G, 0, none⟩ = some (.int .i64 r) ∧ w'.cell? ⟨G, 1, none⟩ = some (.int .i64 l) ∧ w'.cell? ⟨G, 2, none⟩ = some (.slice A xs.length c) ∧ w'.cell? ⟨D, 0, none⟩ = some (.int .i64 r) ∧ w'.cell? ⟨D, 1, none⟩ = some (.int .i64 l) ∧ w'.cell? ⟨D, 2, none⟩ = some (.slice A2 xs.length c2) ∧ w'.cell? ⟨P, 0, none⟩ = some (.int .i64 rR) ∧ w'.cell? ⟨P, 1, none⟩ = some (.int .i64 rL) ∧ w'.cell? ⟨P, 2, none⟩ = some (.slice A4 zs.length c4) ∧ w'.cell? ⟨Q, 0, none⟩ = some (.int .i64 rR) ∧ w'.cell? ⟨Q, 1, none⟩ = some (.int .i64 rL) ∧ w'.cell? ⟨Q, 2, none⟩ = some (.slice A5 zs.length c5) ∧ Below v5.heap.size v5 w') (by kernel_rfl) ?_ (fun hHeld => ?_)
          · exact ⟨g0, g1, g2, d0, d1, d2, p0, p1, p2, q0, q1, q2, (Below.refl _ _).drew⟩
          clear g0 g1 g2 d0 d1 d2 p0 p1 p2 q0 q1 q2
          refine wpAnyH_ready (rs := [0]) (by kernel_rfl) (by simp) ?_
          refine AllReadyH.cons (o := ⟨some 45, _, _, _, _, _⟩) rfl (fun K hK => ?_) AllReadyH.nil
          go_simp
          refine (HLV.out _).mono ?_
          rintro e w9 ⟨rfl, hbc⟩
          go_wp2_with fail
          refine hK.out _ _ ?_ (fun hHeld2 => ?_)
          · exact ⟨keep_cell hbc (hHeld.1), keep_cell hbc (hHeld.2.1), keep_cell hbc (hHeld.2.2.1), keep_cell hbc (hHeld.2.2.2.1), keep_cell hbc (hHeld.2.2.2.2.1), keep_cell hbc (hHeld.2.2.2.2.2.1), keep_cell hbc (hHeld.2.2.2.2.2.2.1), keep_cell hbc (hHeld.2.2.2.2.2.2.2.1), keep_cell hbc (hHeld.2.2.2.2.2.2.2.2.1), keep_cell hbc (hHeld.2.2.2.2.2.2.2.2.2.1), keep_cell hbc (hHeld.2.2.2.2.2.2.2.2.2.2.1), keep_cell hbc (hHeld.2.2.2.2.2.2.2.2.2.2.2.1), Below.call (hHeld.2.2.2.2.2.2.2.2.2.2.2.2) hbc⟩
          clear hK K hbc hHeld
          have hHeld := hHeld2
          clear hHeld2
          (try simp only [Act.put, List.setIfInBounds_toArray, List.set_cons_zero, List.set_cons_succ])
          refine wpAnyH_take (i := 1) (oi := ⟨some 46, _, _, _, _, _⟩) (v := ?_) rfl (by kernel_rfl) (by kernel_rfl) (by kernel_rfl) (fun _ _ _ h => h) (Or.inl ⟨by kernel_rfl, ?_⟩) (by assumption) ?_
          rotate_left 1
          · ((intro w hSw; (try dsimp only at hSw); go_simp) <;> (try with_reducible rfl))
          (try simp only [Act.put, List.setIfInBounds_toArray, List.set_cons_zero, List.set_cons_succ])
          refine wpAnyH_take (i := 2) (oi := ⟨some 47, _, _, _, _, _⟩) (v := ?_) rfl (by kernel_rfl) (by kernel_rfl) (by kernel_rfl) (fun _ _ _ h => h) (Or.inl ⟨by kernel_rfl, ?_⟩) (by assumption) ?_
          rotate_left 1
          · ((intro w hSw; (try dsimp only at hSw); go_simp) <;> (try with_reducible rfl))
          (try simp only [Act.put, List.setIfInBounds_toArray, List.set_cons_zero, List.set_cons_succ])
          refine wpAnyH_take (i := 3) (oi := ⟨some 48, _, _, _, _, _⟩) (v := ?_) rfl (by kernel_rfl) (by kernel_rfl) (by kernel_rfl) (fun _ _ _ h => h) (Or.inl ⟨by kernel_rfl, ?_⟩) (by assumption) ?_
          rotate_left 1
          · ((intro w hSw; (try dsimp only at hSw); go_simp) <;> (try with_reducible rfl))
          (try simp only [Act.put, List.setIfInBounds_toArray, List.set_cons_zero, List.set_cons_succ])
          refine wpAnyH_take (i := 4) (oi := ⟨some 49, _, _, _, _, _⟩) (v := ?_) rfl (by kernel_rfl) (by kernel_rfl) (by kernel_rfl) (fun _ _ _ h => h) (Or.inl ⟨by kernel_rfl, ?_⟩) (by assumption) ?_
          rotate_left 1
          · ((intro w hSw; (try dsimp only at hSw); go_simp) <;> (try with_reducible rfl))
          (try simp only [Act.put, List.setIfInBounds_toArray, List.set_cons_zero, List.set_cons_succ])
          refine wpAnyH_ready (rs := [5]) (by kernel_rfl) (by simp) ?_
          refine AllReadyH.cons (o := ⟨some 50, _, _, _, _, _⟩) rfl (fun K hK => ?_) AllReadyH.nil
          go_simp
          refine (H12a.out _ (HZa.out.then (hHeld.2.2.2.2.2.2.2.2.2.2.2.2)) (HZb.out.then (hHeld.2.2.2.2.2.2.2.2.2.2.2.2))).mono ?_
          rintro e w9 ⟨rfl, hbc⟩
          go_wp2_with fail
          refine hK.out _ _ ?_ (fun hHeld2 => ?_)
          · exact ⟨keep_cell hbc (hHeld.1), keep_cell hbc (hHeld.2.1), keep_cell hbc (hHeld.2.2.1), keep_cell hbc (hHeld.2.2.2.1), keep_cell hbc (hHeld.2.2.2.2.1), keep_cell hbc (hHeld.2.2.2.2.2.1), keep_cell hbc (hHeld.2.2.2.2.2.2.1), keep_cell hbc (hHeld.2.2.2.2.2.2.2.1), keep_cell hbc (hHeld.2.2.2.2.2.2.2.2.1), keep_cell hbc (hHeld.2.2.2.2.2.2.2.2.2.1), keep_cell hbc (hHeld.2.2.2.2.2.2.2.2.2.2.1), keep_cell hbc (hHeld.2.2.2.2.2.2.2.2.2.2.2.1), Below.call (hHeld.2.2.2.2.2.2.2.2.2.2.2.2) hbc⟩
          clear hK K hbc hHeld
          have hHeld := hHeld2
          clear hHeld2
          (try simp only [Act.put, List.setIfInBounds_toArray, List.set_cons_zero, List.set_cons_succ])
          refine wpAnyH_take (i := 6) (oi := ⟨some 51, _, _, _, _, _⟩) (v := ?_) rfl (by kernel_rfl) (by kernel_rfl) (by kernel_rfl) (fun _ _ _ h => h) (Or.inl ⟨by kernel_rfl, ?_⟩) (by assumption) ?_
          rotate_left 1
          · ((intro w hSw; (try dsimp only at hSw); go_simp) <;> (try with_reducible rfl))
          (try simp only [Act.put, List.setIfInBounds_toArray, List.set_cons_zero, List.set_cons_succ])
          refine wpAnyH_take (i := 7) (oi := ⟨some 52, _, _, _, _, _⟩) (v := ?_) rfl (by kernel_rfl) (by kernel_rfl) (by kernel_rfl) (fun _ _ _ h => h) (Or.inl ⟨by kernel_rfl, ?_⟩) (by assumption) ?_
          rotate_left 1
          · ((intro w hSw; (try dsimp only at hSw); go_simp) <;> (try with_reducible rfl))
          (try simp only [Act.put, List.setIfInBounds_toArray, List.set_cons_zero, List.set_cons_succ])
          refine wpAnyH_take (i := 8) (oi := ⟨some 53, _, _, _, _, _⟩) (v := ?_) rfl (by kernel_rfl) (by kernel_rfl) (by kernel_rfl) (fun _ _ _ h => h) (Or.inl ⟨by kernel_rfl, ?_⟩) (by assumption) ?_
          rotate_left 1
          · ((intro w hSw; (try dsimp only at hSw); go_simp) <;> (try with_reducible rfl))
          (try simp only [Act.put, List.setIfInBounds_toArray, List.set_cons_zero, List.set_cons_succ])
          refine wpAnyH_take (i := 9) (oi := ⟨some 54, _, _, _, _, _⟩) (v := ?_) rfl (by kernel_rfl) (by kernel_rfl) (by kernel_rfl) (fun _ _ _ h => h) (Or.inl ⟨by kernel_rfl, ?_⟩) (by assumption) ?_
          rotate_left 1
          · ((intro w hSw; (try dsimp only at hSw); go_simp) <;> (try with_reducible rfl))
          (try simp only [Act.put, List.setIfInBounds_toArray, List.set_cons_zero, List.set_cons_succ])
          refine wpAnyH_take (i := 10) (oi := ⟨some 55, _, _, _, _, _⟩) (v := ?_) rfl (by kernel_rfl) (by kernel_rfl) (by kernel_rfl) (fun _ _ _ h => h) (Or.inl ⟨by kernel_rfl, ?_⟩) (by assumption) ?_
          rotate_left 1
          · ((intro w hSw; (try dsimp only at hSw); go_simp) <;> (try with_reducible rfl))
          (try simp only [Act.put, List.setIfInBounds_toArray, List.set_cons_zero, List.set_cons_succ])
          refine wpAnyH_take (i := 11) (oi := ⟨some 56, _, _, _, _, _⟩) (v := ?_) rfl (by kernel_rfl) (by kernel_rfl) (by kernel_rfl) (fun _ _ _ h => h) (Or.inl ⟨by kernel_rfl, ?_⟩) (by assumption) ?_
          rotate_left 1
          · ((intro w hSw; (try dsimp only at hSw); go_simp) <;> (try with_reducible rfl))
          (try simp only [Act.put, List.setIfInBounds_toArray, List.set_cons_zero, List.set_cons_succ])
          refine wpAnyH_take (i := 12) (oi := ⟨some 57, _, _, _, _, _⟩) (v := ?_) rfl (by kernel_rfl) (by kernel_rfl) (by kernel_rfl) (fun _ _ _ h => h) (Or.inl ⟨by kernel_rfl, ?_⟩) (by assumption) ?_
          rotate_left 1
          · ((intro w hSw; (try dsimp only at hSw); go_simp) <;> (try with_reducible rfl))
          (try simp only [Act.put, List.setIfInBounds_toArray, List.set_cons_zero, List.set_cons_succ])
          refine wpAnyH_take (i := 13) (oi := ⟨some 58, _, _, _, _, _⟩) (v := ?_) rfl (by kernel_rfl) (by kernel_rfl) (by kernel_rfl) (fun _ _ _ h => h) (Or.inl ⟨by kernel_rfl, ?_⟩) (by assumption) ?_
          rotate_left 1
          · ((intro w hSw; (try dsimp only at hSw); go_simp) <;> (try with_reducible rfl))
          (try simp only [Act.put, List.setIfInBounds_toArray, List.set_cons_zero, List.set_cons_succ])
          refine wpAnyH_take (i := 14) (oi := ⟨some 59, _, _, _, _, _⟩) (v := ?_) rfl (by kernel_rfl) (by kernel_rfl) (by kernel_rfl) (fun _ _ _ h => h) (Or.inl ⟨by kernel_rfl, ?_⟩) (by assumption) ?_
          rotate_left 1
          · ((intro w hSw; (try dsimp only at hSw); go_simp) <;> (try with_reducible rfl))
          (try simp only [Act.put, List.setIfInBounds_toArray, List.set_cons_zero, List.set_cons_succ])
          refine wpAnyH_take (i := 16) (oi := ⟨some 61, _, _, _, _, _⟩) (v := ?_) rfl (by kernel_rfl) (by kernel_rfl) (by kernel_rfl) (fun _ _ _ h => h) (Or.inl ⟨by kernel_rfl, ?_⟩) (by assumption) ?_
          rotate_left 1
          · ((intro w hSw; (try dsimp only at hSw); go_simp) <;> (try with_reducible rfl))
          (try simp only [Act.put, List.setIfInBounds_toArray, List.set_cons_zero, List.set_cons_succ])
          refine wpAnyH_ready (rs := [15]) (by kernel_rfl) (by simp) ?_
          refine AllReadyH.cons (o := ⟨some 60, _, _, _, _, _⟩) rfl (fun K hK => ?_) AllReadyH.nil
          go_simp
          refine (H13l.out _ (HXl.out.then (hHeld.2.2.2.2.2.2.2.2.2.2.2.2))).mono ?_
          rintro e w9 ⟨rfl, hbc⟩
          go_wp2_with fail
          refine hK.out _ _ ?_ (fun hHeld2 => ?_)
          · exact ⟨keep_cell hbc (hHeld.1), keep_cell hbc (hHeld.2.1), keep_cell hbc (hHeld.2.2.1), keep_cell hbc (hHeld.2.2.2.1), keep_cell hbc (hHeld.2.2.2.2.1), keep_cell hbc (hHeld.2.2.2.2.2.1), keep_cell hbc (hHeld.2.2.2.2.2.2.1), keep_cell hbc (hHeld.2.2.2.2.2.2.2.1), keep_cell hbc (hHeld.2.2.2.2.2.2.2.2.1), keep_cell hbc (hHeld.2.2.2.2.2.2.2.2.2.1), keep_cell hbc (hHeld.2.2.2.2.2.2.2.2.2.2.1), keep_cell hbc (hHeld.2.2.2.2.2.2.2.2.2.2.2.1), Below.call (hHeld.2.2.2.2.2.2.2.2.2.2.2.2) hbc⟩
          clear hK K hbc hHeld
          have hHeld := hHeld2
          clear hHeld2
          (try simp only [Act.put, List.setIfInBounds_toArray, List.set_cons_zero, List.set_cons_succ])
          refine wpAnyH_ready (rs := [17]) (by kernel_rfl) (by simp) ?_
          refine AllReadyH.cons (o := ⟨some 62, _, _, _, _, _⟩) rfl (fun K hK => ?_) AllReadyH.nil
          go_simp
          refine (H14.out _ (HXg.out.then (hHeld.2.2.2.2.2.2.2.2.2.2.2.2))).mono ?_
          rintro e w9 ⟨rfl, hbc⟩
          go_wp2_with fail
          refine hK.out _ _ ?_ (fun hHeld2 => ?_)
          · exact ⟨keep_cell hbc (hHeld.1), keep_cell hbc (hHeld.2.1), keep_cell hbc (hHeld.2.2.1), keep_cell hbc (hHeld.2.2.2.1), keep_cell hbc (hHeld.2.2.2.2.1), keep_cell hbc (hHeld.2.2.2.2.2.1), keep_cell hbc (hHeld.2.2.2.2.2.2.1), keep_cell hbc (hHeld.2.2.2.2.2.2.2.1), keep_cell hbc (hHeld.2.2.2.2.2.2.2.2.1), keep_cell hbc (hHeld.2.2.2.2.2.2.2.2.2.1), keep_cell hbc (hHeld.2.2.2.2.2.2.2.2.2.2.1), keep_cell hbc (hHeld.2.2.2.2.2.2.2.2.2.2.2.1), Below.call (hHeld.2.2.2.2.2.2.2.2.2.2.2.2) hbc⟩
          clear hK K hbc hHeld
          have hHeld := hHeld2
          clear hHeld2
          (try simp only [Act.put, List.setIfInBounds_toArray, List.set_cons_zero, List.set_cons_succ])
          refine wpAnyH_take (i := 18) (oi := ⟨some 63, _, _, _, _, _⟩) (v := ?_) rfl (by kernel_rfl) (by kernel_rfl) (by kernel_rfl) (fun _ _ _ h => h) (Or.inl ⟨by kernel_rfl, ?_⟩) (by assumption) ?_
          rotate_left 1
          · ((intro w hSw; (try dsimp only at hSw); go_simp) <;> (try with_reducible rfl))
          (try simp only [Act.put, List.setIfInBounds_toArray, List.set_cons_zero, List.set_cons_succ])
          refine wpAnyH_take (i := 19) (oi := ⟨some 64, _, _, _, _, _⟩) (v := ?_) rfl (by kernel_rfl) (by kernel_rfl) (by kernel_rfl) (fun _ _ _ h => h) (Or.inl ⟨by kernel_rfl, ?_⟩) (by assumption) ?_
          rotate_left 1
          · ((intro w hSw; (try dsimp only at hSw); go_simp) <;> (try with_reducible rfl))
          (try simp only [Act.put, List.setIfInBounds_toArray, List.set_cons_zero, List.set_cons_succ])
          refine wpAnyH_take (i := 20) (oi := ⟨some 65, _, _, _, _, _⟩) (v := ?_) rfl (by kernel_rfl) (by kernel_rfl) (by kernel_rfl) (fun _ _ _ h => h) (Or.inl ⟨by kernel_rfl, ?_⟩) (by assumption) ?_
          rotate_left 1
          · ((intro w hSw; (try dsimp only at hSw); go_simp) <;> (try with_reducible rfl))
          (try simp only [Act.put, List.setIfInBounds_toArray, List.set_cons_zero, List.set_cons_succ])
          refine wpAnyH_take (i := 21) (oi := ⟨some 66, _, _, _, _, _⟩) (v := ?_) rfl (by kernel_rfl) (by kernel_rfl) (by kernel_rfl) (fun _ _ _ h => h) (Or.inl ⟨by kernel_rfl, ?_⟩) (by assumption) ?_
          rotate_left 1
          · ((intro w hSw; (try dsimp only at hSw); go_simp) <;> (try with_reducible rfl))
          (try simp only [Act.put, List.setIfInBounds_toArray, List.set_cons_zero, List.set_cons_succ])
          refine wpAnyH_take (i := 22) (oi := ⟨some 67, _, _, _, _, _⟩) (v := ?_) rfl (by kernel_rfl) (by kernel_rfl) (by kernel_rfl) (fun _ _ _ h => h) (Or.inl ⟨by kernel_rfl, ?_⟩) (by assumption) ?_
          rotate_left 1
          · ((intro w hSw; (try dsimp only at hSw); go_simp) <;> (try with_reducible rfl))
          (try simp only [Act.put, List.setIfInBounds_toArray, List.set_cons_zero, List.set_cons_succ])
          refine wpAnyH_ready (rs := [23]) (by kernel_rfl) (by simp) ?_
          refine AllReadyH.cons (o := ⟨some 68, _, _, _, _, _⟩) rfl (fun K hK => ?_) AllReadyH.nil
          go_simp
          refine (H12b.out _ (HXl.out.then (hHeld.2.2.2.2.2.2.2.2.2.2.2.2)) (HXg.out.then (hHeld.2.2.2.2.2.2.2.2.2.2.2.2))).mono ?_
          rintro e w9 ⟨rfl, hbc⟩
          go_wp2_with fail
          refine hK.out _ _ ?_ (fun hHeld2 => ?_)
          · exact ⟨keep_cell hbc (hHeld.1), keep_cell hbc (hHeld.2.1), keep_cell hbc (hHeld.2.2.1), keep_cell hbc (hHeld.2.2.2.1), keep_cell hbc (hHeld.2.2.2.2.1), keep_cell hbc (hHeld.2.2.2.2.2.1), keep_cell hbc (hHeld.2.2.2.2.2.2.1), keep_cell hbc (hHeld.2.2.2.2.2.2.2.1), keep_cell hbc (hHeld.2.2.2.2.2.2.2.2.1), keep_cell hbc (hHeld.2.2.2.2.2.2.2.2.2.1), keep_cell hbc (hHeld.2.2.2.2.2.2.2.2.2.2.1), keep_cell hbc (hHeld.2.2.2.2.2.2.2.2.2.2.2.1), Below.call (hHeld.2.2.2.2.2.2.2.2.2.2.2.2) hbc⟩
          clear hK K hbc hHeld
          have hHeld := hHeld2
          clear hHeld2
          (try simp only [Act.put, List.setIfInBounds_toArray, List.set_cons_zero, List.set_cons_succ])
          refine wpAnyH_take (i := 24) (oi := ⟨some 69, _, _, _, _, _⟩) (v := ?_) rfl (by kernel_rfl) (by kernel_rfl) (by kernel_rfl) (fun _ _ _ h => h) (Or.inl ⟨by kernel_rfl, ?_⟩) (by assumption) ?_
          rotate_left 1
          · ((intro w hSw; (try dsimp only at hSw); go_simp) <;> (try with_reducible rfl))
          (try simp only [Act.put, List.setIfInBounds_toArray, List.set_cons_zero, List.set_cons_succ])
          refine wpAnyH_take (i := 25) (oi := ⟨some 70, _, _, _, _, _⟩) (v := ?_) rfl (by kernel_rfl) (by kernel_rfl) (by kernel_rfl) (fun _ _ _ h => h) (Or.inl ⟨by kernel_rfl, ?_⟩) (by assumption) ?_
          rotate_left 1
          · ((intro w hSw; (try dsimp only at hSw); go_simp) <;> (try with_reducible rfl))
          (try simp only [Act.put, List.setIfInBounds_toArray, List.set_cons_zero, List.set_cons_succ])
          refine wpAnyH_take (i := 26) (oi := ⟨some 71, _, _, _, _, _⟩) (v := ?_) rfl (by kernel_rfl) (by kernel_rfl) (by kernel_rfl) (fun _ _ _ h => h) (Or.inl ⟨by kernel_rfl, ?_⟩) (by assumption) ?_
          rotate_left 1
          · ((intro w hSw; (try dsimp only at hSw); go_simp) <;> (try with_reducible rfl))
          (try simp only [Act.put, List.setIfInBounds_toArray, List.set_cons_zero, List.set_cons_succ])
          refine wpAnyH_take (i := 27) (oi := ⟨some 72, _, _, _, _, _⟩) (v := ?_) rfl (by kernel_rfl) (by kernel_rfl) (by kernel_rfl) (fun _ _ _ h => h) (Or.inl ⟨by kernel_rfl, ?_⟩) (by assumption) ?_
          rotate_left 1
          · ((intro w hSw; (try dsimp only at hSw); go_simp) <;> (try with_reducible rfl))
          (try simp only [Act.put, List.setIfInBounds_toArray, List.set_cons_zero, List.set_cons_succ])
          refine wpAnyH_take (i := 28) (oi := ⟨some 73, _, _, _, _, _⟩) (v := ?_) rfl (by kernel_rfl) (by kernel_rfl) (by kernel_rfl) (fun _ _ _ h => h) (Or.inl ⟨by kernel_rfl, ?_⟩) (by assumption) ?_
          rotate_left 1
          · ((intro w hSw; (try dsimp only at hSw); go_simp) <;> (try with_reducible rfl))
          (try simp only [Act.put, List.setIfInBounds_toArray, List.set_cons_zero, List.set_cons_succ])
          (try simp only [hz2])
          refine wpAnyH_take (i := 29) (oi := ⟨some 74, _, _, _, _, _⟩) (v := ?_) rfl (by kernel_rfl) (by kernel_rfl) (by kernel_rfl) (fun _ _ _ h => h) (Or.inl ⟨by kernel_rfl, ?_⟩) (by assumption) ?_
          rotate_left 1
          · ((intro w hSw; (try dsimp only at hSw); go_simp) <;> (try with_reducible rfl))
          (try simp only [Act.put, List.setIfInBounds_toArray, List.set_cons_zero, List.set_cons_succ])
          refine wpAnyH_take (i := 30) (oi := ⟨some 75, _, _, _, _, _⟩) (v := undef) rfl (by kernel_rfl) (by kernel_rfl) (by kernel_rfl) (fun _ _ _ h => h) (Or.inr ⟨by kernel_rfl, rfl⟩) (by assumption) ?_
          (try simp only [Act.put, List.setIfInBounds_toArray, List.set_cons_zero, List.set_cons_succ])
          refine wpAnyH_ready (rs := [31]) (by kernel_rfl) (by simp) ?_
          refine AllReadyH.cons (o := ⟨some 76, _, _, _, _, _⟩) rfl (fun K hK => ?_) AllReadyH.nil
          go_simp
          refine hK.out _ _ ?_ (fun hHeld2 => ?_)
          · exact hHeld
          clear hK K hHeld
          have hHeld := hHeld2
          clear hHeld2
          (try simp only [Act.put, List.setIfInBounds_toArray, List.set_cons_zero, List.set_cons_succ])
          refine wpAnyH_take (i := 32) (oi := ⟨some 77, _, _, _, _, _⟩) (v := undef) rfl (by kernel_rfl) (by kernel_rfl) (by kernel_rfl) (fun _ _ _ h => h) (Or.inr ⟨by kernel_rfl, rfl⟩) (by assumption) ?_
          (try simp only [Act.put, List.setIfInBounds_toArray, List.set_cons_zero, List.set_cons_succ])
          refine wpAnyH_take (i := 33) (oi := ⟨some 78, _, _, _, _, _⟩) (v := ?_) rfl (by kernel_rfl) (by kernel_rfl) (by kernel_rfl) (fun _ _ _ h => h) (Or.inl ⟨by kernel_rfl, ?_⟩) (by assumption) ?_
          rotate_left 1
          · ((intro w hSw; (try dsimp only at hSw); go_simp) <;> (try with_reducible rfl))
          (try simp only [Act.put, List.setIfInBounds_toArray, List.set_cons_zero, List.set_cons_succ])
          refine wpAnyH_take (i := 34) (oi := ⟨some 79, _, _, _, _, _⟩) (v := ?_) rfl (by kernel_rfl) (by kernel_rfl) (by kernel_rfl) (fun _ _ _ h => h) (Or.inl ⟨by kernel_rfl, ?_⟩) (by assumption) ?_
          rotate_left 1
          · ((intro w hSw; (try dsimp only at hSw); go_simp) <;> (try with_reducible rfl))
          (try simp only [Act.put, List.setIfInBounds_toArray, List.set_cons_zero, List.set_cons_succ])
          refine wpAnyH_done (by kernel_rfl) ?_ _
          go_wp2_with fail
          go_meet
          exact ⟨rfl, hHeld.2.2.2.2.2.2.2.2.2.2.2.2⟩
      case rest =>
        obtain ⟨rfl, hbx⟩ := hcut
        have hzl := HZb.out.2.2
        clear g0 g1 g2 d0 d1 d2 p0 p1 p2 q0 q1 q2
        have HB6 := Lib.hid (Below.call HB5.out hbx)
        have HP6 := Lib.hid (HP5.out.below hbx)
        have HO6 := Lib.hid (HO5.out.below hbx)
        clear hbx HG5 HD5 HP5 HO5 HZa HZb HXg5 HXl5 HB5
        obtain ⟨p0, p1, p2, _⟩ := HP6.out
        go_wp2
        go_loopw [14] (fun i wr => ∃ (k : Nat) (ys : List Ch), i = .int .i64 k ∧ k ≤ zs.length ∧ ys.length = zs.length ∧ KC.Own wr W1.heap.size (.slice A4 zs.length c4) ys ∧ Cells3 wr P (.int .i64 rR) (.int .i64 rL) (.slice A4 zs.length c4) ∧ Below W1.heap.size W1 wr) (fun i _ => zs.length - (intOf i).toNat)
        case atStart => exact ⟨0, zs, rfl, Nat.zero_le _, rfl, HO6.out, HP6.out, HB6.out⟩
        case round =>
          obtain ⟨k, ys, rfl, hk, hyl, hown, hcp, hbl⟩ := hrel
          have HB := Lib.hid hbl
          have HO := Lib.hid hown
          have HCP := Lib.hid hcp
          clear hbl hown hcp p0 p1 p2 HB6 HO6 HP6
          obtain ⟨p0, p1, p2, _⟩ := HCP.out
          by_cases hlt : k < zs.length
          · obtain ⟨g, cc, e, hcc, hBg, hgw⟩ := HO.out.form (by omega)
            simp only [Value.slice.injEq] at e
            obtain ⟨rfl, hlz, rfl⟩ := e
            clear hlz
            have hgP : g ≠ P := HNP.out g rfl
            have HI := Lib.hid (show KC.IsL wr wr.heap.size (.slice (some ⟨g, 0, none⟩) ys.length c4) ys by
              rw [hyl]
              exact HO.out.isL (by omega))
            obtain ⟨b', off, e, hb', hbc, hcell⟩ := ch_cells HI.out (by omega)
            simp only [Option.some.injEq, Addr.mk.injEq, and_true] at e
            obtain ⟨rfl, rfl⟩ := e
            obtain ⟨e1, e2, e3⟩ := hcell k (by omega)
            simp only [Nat.zero_add] at e3
            have ef : wr.frozen? ⟨g, k * 3 + 2, none⟩ = false := World.ownsRow.frozenAt (by have q := HO.out.1; rw [hyl] at q; exact q) _
            have HN := Lib.hid (fun x hx => own_setN HO.out hyl k (by omega) x hx)
            clear hcell e1 e2 HI
            generalize (ys.getD k ch0) = q at *
            obtain ⟨qa, qb, qn⟩ := q
            dsimp only at *
            have HCP2 := Lib.hid (fun u => HCP.out.off (D := g) (o := k * 3 + 2) hgP u)
            go_wp2
            go_roundw
            case rel => exact ⟨k + 1, _, num_i (by omega), by omega, by rw [List.length_set]; exact hyl, HN.out _ (by unfold fits wrap64; omega), HCP2.out _, HB.out.setCell (p := ⟨g, k * 3 + 2, none⟩) hBg _⟩
            case measure => simp [intOf]; omega
          · have HG9 := Lib.hid (HGc.out.below HB.out)
            have HD9 := Lib.hid (HDc.out.below HB.out)
            have HL9 := Lib.hid (HXl.out.then HB.out)
            have HX9 := Lib.hid (HXg.out.then HB.out)
            clear HO HCP
            have H12b := Lib.hid (H12.out r l A A2 c c2 xs)
            by_cases hr1 : 1 ≤ y
            · by_cases hr2 : y ≤ 64
              · rw [show newR y = y from if_pos ⟨hr1, hr2⟩, show newE y = 0 from if_pos ⟨hr1, hr2⟩] at H15
                have H12c := Lib.hid (show ∀ w, Calls Try.prog 12 #[lgV y 0 none 0 0, lgV y 0 none 0 0] w fun e w' => e = .returned (.bool true) ∧ Below w.heap.size w w' from fun w => H12.out y 0 none none 0 0 [] w (Lk.IsL.nil _ _ _ _) (Lk.IsL.nil _ _ _ _))
                go_wp2_with fail
                refine (H15.out _).mono ?_
                rintro e w7 ⟨rfl, hb7⟩
                obtain ⟨v7, hv7⟩ : ∃ v7, v7 = w7.alloc (.cells #[.int .i64 (y), .int .i64 0, .slice none 0 0] 24) := ⟨_, rfl⟩
                have hbv := Below.al hb7 (.cells #[.int .i64 (y), .int .i64 0, .slice none 0 0] 24)
                rw [← hv7] at hbv
                have HG10 := Lib.hid (HG9.out.below hbv)
                have HD10 := Lib.hid (HD9.out.below hbv)
                have HL10 := Lib.hid (HL9.out.then hbv)
                have HX10 := Lib.hid (HX9.out.then hbv)
                have HB10 := Lib.hid (Below.call HBc.out (Below.call HB.out hbv))
                have HN7 := Lib.hid (show Cells3 v7 w7.heap.size (.int .i64 (y)) (.int .i64 0) (.slice none 0 0) by rw [hv7]; exact Cells3.new w7 _ _ _ _)
                clear hb7 hbv HG9 HD9 HL9 HX9
                go_wp2_with fail
                rw [← hv7]
                clear hv7
                refine (H12c.out _).mono ?_
                rintro e w8 ⟨rfl, hb8⟩
                have HG11 := Lib.hid (HG10.out.below hb8)
                have HD11 := Lib.hid (HD10.out.below hb8)
                have HL11 := Lib.hid (HL10.out.then hb8)
                have HX11 := Lib.hid (HX10.out.then hb8)
                have HB11 := Lib.hid (Below.call HB10.out hb8)
                clear hb8 HG10 HD10 HL10 HX10 HB10 p0 p1 p2
                obtain ⟨g0, g1, g2, _⟩ := HG11.out
                obtain ⟨d0, d1, d2, _⟩ := HD11.out
                go_wp2_with fail
                refine (H12b.out _ HL11.out HX11.out).mono ?_
                rintro e w10 ⟨rfl, hb10⟩
                have HB12 := Lib.hid (Below.call HB11.out hb10)
                clear hb10
                go_wp2
                go_ret
                exact ⟨rt_l _ (by simp), HB12.out⟩
              · rw [show newR y = 0 from if_neg (by omega), show newE y = 110 from if_neg (by omega)] at H15
                have H12c := Lib.hid (show ∀ w, Calls Try.prog 12 #[lgV 0 0 none 0 0, lgV 0 0 none 0 0] w fun e w' => e = .returned (.bool true) ∧ Below w.heap.size w w' from fun w => H12.out 0 0 none none 0 0 [] w (Lk.IsL.nil _ _ _ _) (Lk.IsL.nil _ _ _ _))
                go_wp2_with fail
                refine (H15.out _).mono ?_
                rintro e w7 ⟨rfl, hb7⟩
                obtain ⟨v7, hv7⟩ : ∃ v7, v7 = w7.alloc (.cells #[.int .i64 (0), .int .i64 0, .slice none 0 0] 24) := ⟨_, rfl⟩
                have hbv := Below.al hb7 (.cells #[.int .i64 (0), .int .i64 0, .slice none 0 0] 24)
                rw [← hv7] at hbv
                have HG10 := Lib.hid (HG9.out.below hbv)
                have HD10 := Lib.hid (HD9.out.below hbv)
                have HL10 := Lib.hid (HL9.out.then hbv)
                have HX10 := Lib.hid (HX9.out.then hbv)
                have HB10 := Lib.hid (Below.call HBc.out (Below.call HB.out hbv))
                have HN7 := Lib.hid (show Cells3 v7 w7.heap.size (.int .i64 (0)) (.int .i64 0) (.slice none 0 0) by rw [hv7]; exact Cells3.new w7 _ _ _ _)
                clear hb7 hbv HG9 HD9 HL9 HX9
                go_wp2_with fail
                rw [← hv7]
                clear hv7
                refine (H12c.out _).mono ?_
                rintro e w8 ⟨rfl, hb8⟩
                have HG11 := Lib.hid (HG10.out.below hb8)
                have HD11 := Lib.hid (HD10.out.below hb8)
                have HL11 := Lib.hid (HL10.out.then hb8)
                have HX11 := Lib.hid (HX10.out.then hb8)
                have HB11 := Lib.hid (Below.call HB10.out hb8)
                clear hb8 HG10 HD10 HL10 HX10 HB10 p0 p1 p2
                obtain ⟨g0, g1, g2, _⟩ := HG11.out
                obtain ⟨d0, d1, d2, _⟩ := HD11.out
                go_wp2_with fail
                refine (H12b.out _ HL11.out HX11.out).mono ?_
                rintro e w10 ⟨rfl, hb10⟩
                have HB12 := Lib.hid (Below.call HB11.out hb10)
                clear hb10
                go_wp2
                go_ret
                exact ⟨rt_l _ (by simp), HB12.out⟩
            · rw [show newR y = 0 from if_neg (by omega), show newE y = 110 from if_neg (by omega)] at H15
              have H12c := Lib.hid (show ∀ w, Calls Try.prog 12 #[lgV 0 0 none 0 0, lgV 0 0 none 0 0] w fun e w' => e = .returned (.bool true) ∧ Below w.heap.size w w' from fun w => H12.out 0 0 none none 0 0 [] w (Lk.IsL.nil _ _ _ _) (Lk.IsL.nil _ _ _ _))
              go_wp2_with fail
              refine (H15.out _).mono ?_
              rintro e w7 ⟨rfl, hb7⟩
              obtain ⟨v7, hv7⟩ : ∃ v7, v7 = w7.alloc (.cells #[.int .i64 (0), .int .i64 0, .slice none 0 0] 24) := ⟨_, rfl⟩
              have hbv := Below.al hb7 (.cells #[.int .i64 (0), .int .i64 0, .slice none 0 0] 24)
              rw [← hv7] at hbv
              have HG10 := Lib.hid (HG9.out.below hbv)
              have HD10 := Lib.hid (HD9.out.below hbv)
              have HL10 := Lib.hid (HL9.out.then hbv)
              have HX10 := Lib.hid (HX9.out.then hbv)
              have HB10 := Lib.hid (Below.call HBc.out (Below.call HB.out hbv))
              have HN7 := Lib.hid (show Cells3 v7 w7.heap.size (.int .i64 (0)) (.int .i64 0) (.slice none 0 0) by rw [hv7]; exact Cells3.new w7 _ _ _ _)
              clear hb7 hbv HG9 HD9 HL9 HX9
              go_wp2_with fail
              rw [← hv7]
              clear hv7
              refine (H12c.out _).mono ?_
              rintro e w8 ⟨rfl, hb8⟩
              have HG11 := Lib.hid (HG10.out.below hb8)
              have HD11 := Lib.hid (HD10.out.below hb8)
              have HL11 := Lib.hid (HL10.out.then hb8)
              have HX11 := Lib.hid (HX10.out.then hb8)
              have HB11 := Lib.hid (Below.call HB10.out hb8)
              clear hb8 HG10 HD10 HL10 HX10 HB10 p0 p1 p2
              obtain ⟨g0, g1, g2, _⟩ := HG11.out
              obtain ⟨d0, d1, d2, _⟩ := HD11.out
              go_wp2_with fail
              refine (H12b.out _ HL11.out HX11.out).mono ?_
              rintro e w10 ⟨rfl, hb10⟩
              have HB12 := Lib.hid (Below.call HB11.out hb10)
              clear hb10
              go_wp2
              go_ret
              exact ⟨rt_l _ (by simp), HB12.out⟩
end Go.Proofs.Ytdghekhkjkkgfaa
