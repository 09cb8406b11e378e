/- CellRuns: the walk. -/
import Derived.Test.YtlgpnjbhmoomfaaGJ
import Derived.Test.YtlgpnjbhmoomfaaKJ
import Derived.Deep.Cut
namespace Go.Proofs.Ytlgpnjbhmoomfaa
open Go.RowKit

/-- The statement's loop stands behind some changes. -/
def Runs (W : World) (G B : Nat) (a : Int) (wr : World) (s m : Int) : Prop :=
  wr.cell? ⟨G, 0, none⟩ = some (.int .i64 a) ∧ wr.cell? ⟨G, 1, none⟩ = some (.int .i64 s) ∧ wr.cell? ⟨G, 2, none⟩ = some (.int .i64 m) ∧
  wr.frozen? ⟨G, 0, none⟩ = false ∧ wr.frozen? ⟨G, 1, none⟩ = false ∧ wr.frozen? ⟨G, 2, none⟩ = false ∧ (Ce.mk a s m).Right ∧ Below B W wr ∧ G < wr.heap.size

theorem Runs.below {W V V' : World} {G B : Nat} {a s m : Int} (h : Runs W G B a V s m) (hB : B ≤ V.heap.size) (hb : Below V.heap.size V V') : Runs W G B a V' s m := by
  obtain ⟨h0, h1, h2, z0, z1, z2, hr, hl, hs⟩ := h
  refine ⟨keep_cell hb h0, keep_cell hb h1, keep_cell hb h2, ?_, ?_, ?_, hr, hl.trans (hb.mono hB), Nat.lt_of_lt_of_le hs hb.size⟩
  · rw [hb.frozen (p := ⟨G, 0, none⟩) hs]; exact z0
  · rw [hb.frozen (p := ⟨G, 1, none⟩) hs]; exact z1
  · rw [hb.frozen (p := ⟨G, 2, none⟩) hs]; exact z2
/-- Three cells of an own block. -/
def Cell3 (V : World) (D : Nat) (x y z : Int) : Prop :=
  V.cell? ⟨D, 0, none⟩ = some (.int .i64 x) ∧ V.cell? ⟨D, 1, none⟩ = some (.int .i64 y) ∧ V.cell? ⟨D, 2, none⟩ = some (.int .i64 z) ∧
  V.frozen? ⟨D, 0, none⟩ = false ∧ V.frozen? ⟨D, 1, none⟩ = false ∧ V.frozen? ⟨D, 2, none⟩ = false ∧ D < V.heap.size
theorem Cell3.new (V : World) (x y z : Int) : Cell3 (V.alloc (.cells #[.int .i64 x, .int .i64 y, .int .i64 z] 62)) V.heap.size x y z := by
  refine ⟨?_, ?_, ?_, ?_, ?_, ?_, ?_⟩ <;> simp
theorem Cell3.below {V V' : World} {D : Nat} {x y z : Int} (h : Cell3 V D x y z) (hb : Below V.heap.size V V') : Cell3 V' D x y z := by
  obtain ⟨h0, h1, h2, z0, z1, z2, hs⟩ := h
  refine ⟨keep_cell hb h0, keep_cell hb h1, keep_cell hb h2, ?_, ?_, ?_, Nat.lt_of_lt_of_le hs hb.size⟩
  · rw [hb.frozen (p := ⟨D, 0, none⟩) hs]; exact z0
  · rw [hb.frozen (p := ⟨D, 1, none⟩) hs]; exact z1
  · rw [hb.frozen (p := ⟨D, 2, none⟩) hs]; exact z2
abbrev set3 (V : World) (D : Nat) (p q r : Int) : World := ((V.setCell ⟨D, 0, none⟩ (.int .i64 p)).setCell ⟨D, 1, none⟩ (.int .i64 q)).setCell ⟨D, 2, none⟩ (.int .i64 r)
theorem Cell3.set {V : World} {D : Nat} {x y z : Int} (h : Cell3 V D x y z) (p q r : Int) : Cell3 (set3 V D p q r) D p q r := by
  obtain ⟨h0, h1, h2, z0, z1, z2, hs⟩ := h
  refine ⟨st_other (st_other (st_same h0) (ad_ne (by omega))) (ad_ne (by omega)), st_other (st_same (st_other h1 (ad_ne (by omega)))) (ad_ne (by omega)), st_same (st_other (st_other h2 (ad_ne (by omega))) (ad_ne (by omega))), st_fz (st_fz (st_fz z0)), st_fz (st_fz (st_fz z1)), st_fz (st_fz (st_fz z2)), ?_⟩
  simpa using hs
theorem Runs.set {W V : World} {G B D : Nat} {a s m : Int} (h : Runs W G B a V s m) (hne : D ≠ G) (hB : B ≤ D) (p q r : Int) : Runs W G B a (set3 V D p q r) s m := by
  obtain ⟨h0, h1, h2, z0, z1, z2, hr, hl, hs⟩ := h
  refine ⟨st_other (st_other (st_other h0 (ad_ne (by omega))) (ad_ne (by omega))) (ad_ne (by omega)), st_other (st_other (st_other h1 (ad_ne (by omega))) (ad_ne (by omega))) (ad_ne (by omega)), st_other (st_other (st_other h2 (ad_ne (by omega))) (ad_ne (by omega))) (ad_ne (by omega)), st_fz (st_fz (st_fz z0)), st_fz (st_fz (st_fz z1)), st_fz (st_fz (st_fz z2)), hr, ((hl.setCell hB _).setCell hB _).setCell hB _, ?_⟩
  simpa using hs
theorem Runs.put {W V : World} {G B : Nat} {a s m : Int} (h : Runs W G B a V s m) (hB : B ≤ G) (s' m' : Int) (hr' : (Ce.mk a s' m').Right) : Runs W G B a (set3 V G a s' m') s' m' := by
  obtain ⟨h0, h1, h2, z0, z1, z2, hr, hl, hs⟩ := h
  refine ⟨st_other (st_other (st_same h0) (ad_ne (by omega))) (ad_ne (by omega)), st_other (st_same (st_other h1 (ad_ne (by omega)))) (ad_ne (by omega)), st_same (st_other (st_other h2 (ad_ne (by omega))) (ad_ne (by omega))), st_fz (st_fz (st_fz z0)), st_fz (st_fz (st_fz z1)), st_fz (st_fz (st_fz z2)), hr', ((hl.setCell hB _).setCell hB _).setCell hB _, ?_⟩
  simpa using hs
set_option maxRecDepth 100000 in
set_option maxHeartbeats 8000000 in
theorem cellRuns_walk (a b : Int) (v : Value) (xs : List Int) (w : World) (hv : KI.IsL w w.heap.size v xs) : Calls Try.prog 10 #[.int .i64 a, .int .i64 b, v] w fun e w' => e = .returned (.bool true) ∧ Below w.heap.size w w' := by
  have h1 := Lib.hid (fun w => new_any a b w)
  have h3 := Lib.hid (fun w => lives10 w)
  by_cases hr : (Ce.mk a b 0).Right
  · have e2 : newV a b = ⟨a, b, 0⟩ := if_pos hr
    have e3 : newE a b = 0 := if_pos hr
    rw [e2, e3] at h1
    have HV := Lib.hid hv
    have HRR := Lib.hid hr
    obtain ⟨⟨A, cap, rfl, _, _⟩, _, hlen⟩ := hv
    clear e2 e3 hr
    go_enter Try.func10, Try.ntmps10
    go_wp2_with fail
    refine (h1.out _).mono ?_
    rintro e w1 ⟨rfl, hb1⟩
    have HB1 := Lib.hid hb1
    have hs1 := hb1.size
    clear hb1
    go_wp2_with fail
    refine (h3.out _).mono ?_
    rintro e w2 ⟨rfl, hb2⟩
    have HR0 := Lib.hid (show Runs w w1.heap.size w.heap.size a w2 b 0 from ⟨keep_cell hb2 (by simp), keep_cell hb2 (by simp), keep_cell hb2 (by simp), by rw [hb2.frozen (p := ⟨w1.heap.size, 0, none⟩) (by simp)]; simp, by rw [hb2.frozen (p := ⟨w1.heap.size, 1, none⟩) (by simp)]; simp, by rw [hb2.frozen (p := ⟨w1.heap.size, 2, none⟩) (by simp)]; simp, HRR.out, Below.call HB1.out (Below.call (Below.al (Below.refl _ _) _) hb2), by have := hb2.size; simp at this; omega⟩)
    clear hb2
    obtain ⟨G, hG⟩ : ∃ G, G = w1.heap.size := ⟨_, rfl⟩
    have hwG : w.heap.size ≤ G := by omega
    rw [← hG] at HR0
    go_wp2_with fail
    rw [← hG]
    clear hG hs1 HB1 HRR h1 h3
    go_loopw [9, 10, 11] (fun s m i wr => ∃ (k : Nat) (s' m' : Int), k ≤ xs.length ∧ m' ≤ k ∧ s = .int .i64 s' ∧ m = .int .i64 m' ∧ i = .int .i64 k ∧ Runs w G w.heap.size a wr s' m') (fun _ _ i _ => xs.length - (intOf i).toNat)
    case atStart => exact ⟨0, b, 0, Nat.zero_le _, by omega, rfl, rfl, rfl, HR0.out⟩
    case round =>
      obtain ⟨k, s, m, hk, hm, rfl, rfl, rfl, hrun⟩ := hrel
      have HR := Lib.hid hrun
      clear hrun
      by_cases hlt : k < xs.length
      · have HVr := Lib.hid (HV.out.below HR.out.2.2.2.2.2.2.2.1)
        obtain ⟨b', off, cap', hv', _, hb', _, hcell, hfit⟩ := KI.cells HVr.out (by omega)
        obtain ⟨rfl, rfl⟩ : A = some ⟨b', off, none⟩ ∧ cap' = cap := by cases hv'; exact ⟨rfl, rfl⟩
        have ck := hcell k hlt
        have fk := hfit k hlt
        clear hv' hcell hfit
        obtain ⟨x, hx⟩ : ∃ x, x = xs.getD k 0 := ⟨_, rfl⟩
        rw [← hx] at ck fk
        clear hx
        obtain ⟨g0, g1, g2, z0, z1, z2, hri, hbl, hgs⟩ := HR.out
        have hri' := hri
        unfold Ce.Right at hri'
        dsimp only at hri'
        have HF := Lib.hid (show (Ce.mk a s m).Fit from ⟨by unfold fits; dsimp only; omega, by unfold fits; dsimp only; omega, by unfold fits; dsimp only; omega⟩)
        have HK := Lib.hid (fun w => change_any ⟨a, s, m⟩ x HF.out fk w)
        by_cases he : chE ⟨a, s, m⟩ x = 0
        · obtain ⟨_, _, c3, c4, c5, c6⟩ := chE_ok he
          rw [he, c6] at HK
          dsimp only at c3 c4 c5 HK
          have HI := Lib.hid hri
          clear c6 he hri hbl HVr
          unfold fits at fk
          go_wp2_with fail
          have CK := Lib.hid ck
          have NB := Lib.hid (show b' < wr.heap.size from Nat.lt_of_lt_of_le hb' HR.out.2.2.2.2.2.2.2.1.size)
          have NBG := Lib.hid (show G ≠ b' by omega)
          refine wp_region_held_drew (S := fun w' => w'.cell? ⟨G, 0, none⟩ = some (.int .i64 a) ∧ w'.cell? ⟨G, 1, none⟩ = some (.int .i64 s) ∧ w'.cell? ⟨G, 2, none⟩ = some (.int .i64 m) ∧ w'.cell? ⟨b', off + k, none⟩ = some (.int .i64 x)) (by kernel_rfl) ?_ (fun hHeld => ?_)
          · exact ⟨g0, g1, g2, ck⟩
          refine wpAnyH_take (i := 0) (oi := ⟨some 35, _, _, _, _, _⟩) (v := ?_) rfl (by kernel_rfl) (by kernel_rfl) (by kernel_rfl) (fun _ _ _ h => h) (Or.inl ⟨by kernel_rfl, ?_⟩) (by assumption) ?_
          rotate_left 1
          · ((intro w hSw; (try dsimp only at hSw); go_simp) <;> (try with_reducible rfl))
          (try simp only [Act.put, List.setIfInBounds_toArray, List.set_cons_zero, List.set_cons_succ])
          refine wpAnyH_take (i := 1) (oi := ⟨some 36, _, _, _, _, _⟩) (v := ?_) rfl (by kernel_rfl) (by kernel_rfl) (by kernel_rfl) (fun _ _ _ h => h) (Or.inl ⟨by kernel_rfl, ?_⟩) (by assumption) ?_
          rotate_left 1
          · ((intro w hSw; (try dsimp only at hSw); go_simp) <;> (try with_reducible rfl))
          (try simp only [Act.put, List.setIfInBounds_toArray, List.set_cons_zero, List.set_cons_succ])
          refine wpAnyH_take (i := 2) (oi := ⟨some 37, _, _, _, _, _⟩) (v := ?_) rfl (by kernel_rfl) (by kernel_rfl) (by kernel_rfl) (fun _ _ _ h => h) (Or.inl ⟨by kernel_rfl, ?_⟩) (by assumption) ?_
          rotate_left 1
          · ((intro w hSw; (try dsimp only at hSw); go_simp) <;> (try with_reducible rfl))
          (try simp only [Act.put, List.setIfInBounds_toArray, List.set_cons_zero, List.set_cons_succ])
          refine wpAnyH_take (i := 3) (oi := ⟨some 38, _, _, _, _, _⟩) (v := ?_) rfl (by kernel_rfl) (by kernel_rfl) (by kernel_rfl) (fun _ _ _ h => h) (Or.inl ⟨by kernel_rfl, ?_⟩) (by assumption) ?_
          rotate_left 1
          · ((intro w hSw; (try dsimp only at hSw); go_simp) <;> (try with_reducible rfl))
          (try simp only [Act.put, List.setIfInBounds_toArray, List.set_cons_zero, List.set_cons_succ])
          refine wpAnyH_take (i := 4) (oi := ⟨some 39, _, _, _, _, _⟩) (v := ?_) rfl (by kernel_rfl) (by kernel_rfl) (by kernel_rfl) (fun _ _ _ h => h) (Or.inl ⟨by kernel_rfl, ?_⟩) (by assumption) ?_
          rotate_left 1
          · ((intro w hSw; (try dsimp only at hSw); go_simp) <;> (try with_reducible rfl))
          (try simp only [Act.put, List.setIfInBounds_toArray, List.set_cons_zero, List.set_cons_succ])
          clear g0 g1 g2 z0 z1 z2 ck
          have R0 := Lib.hid (HR.out.below (HR.out.2.2.2.2.2.2.2.1.size) (Below.refl _ _).drew)
          have C0 := Lib.hid (show wr.drew.cell? ⟨b', off + k, none⟩ = some (.int .i64 x) from CK.out)
          have N0 := Lib.hid (show b' < wr.drew.heap.size from NB.out)
          generalize wr.drew = v0 at *
          refine wpAnyH_ready (rs := [5, 9]) (by kernel_rfl) (by simp) ?_
          refine AllReadyH.cons (o := ⟨some 40, _, _, _, _, _⟩) rfl (fun K hK => ?_) ?_
          · go_simp
            refine (HK.out _).mono ?_
            rintro e v1 ⟨rfl, hb⟩
            have R1 := Lib.hid (R0.out.below (R0.out.2.2.2.2.2.2.2.1.size) hb)
            have C1 := Lib.hid (keep_cell hb C0.out)
            have N1 := Lib.hid (Nat.lt_of_lt_of_le N0.out hb.size)
            clear hb R0 C0 N0
            go_wp2_with fail
            refine hK.out _ _ ?_ (fun hHeld => ?_)
            · exact ⟨R1.out.1, R1.out.2.1, R1.out.2.2.1, C1.out⟩
            clear hK K
            (try simp only [Act.put, List.setIfInBounds_toArray, List.set_cons_zero, List.set_cons_succ])
            refine wpAnyH_take (i := 6) (oi := ⟨some 34, _, _, _, _, _⟩) (v := ?_) rfl (by kernel_rfl) (by kernel_rfl) (by kernel_rfl) (fun _ _ _ h => h) (Or.inl ⟨by kernel_rfl, ?_⟩) (by assumption) ?_
            rotate_left 1
            · ((intro w hSw; (try dsimp only at hSw); go_simp) <;> (try with_reducible rfl))
            (try simp only [Act.put, List.setIfInBounds_toArray, List.set_cons_zero, List.set_cons_succ])
            refine wpAnyH_take (i := 7) (oi := ⟨some 41, _, _, _, _, _⟩) (v := ?_) rfl (by kernel_rfl) (by kernel_rfl) (by kernel_rfl) (fun _ _ _ h => h) (Or.inl ⟨by kernel_rfl, ?_⟩) (by assumption) ?_
            rotate_left 1
            · ((intro w hSw; (try dsimp only at hSw); go_simp) <;> (try with_reducible rfl))
            (try simp only [Act.put, List.setIfInBounds_toArray, List.set_cons_zero, List.set_cons_succ])
            refine wpAnyH_take (i := 8) (oi := ⟨some 42, _, _, _, _, _⟩) (v := ?_) rfl (by kernel_rfl) (by kernel_rfl) (by kernel_rfl) (fun _ _ _ h => h) (Or.inl ⟨by kernel_rfl, ?_⟩) (by assumption) ?_
            rotate_left 1
            · ((intro w hSw; (try dsimp only at hSw); go_simp) <;> (try with_reducible rfl))
            (try simp only [Act.put, List.setIfInBounds_toArray, List.set_cons_zero, List.set_cons_succ])
            refine wpAnyH_ready (rs := [9]) (by kernel_rfl) (by simp) ?_
            refine AllReadyH.cons (o := ⟨some 12, _, _, _, _, _⟩) rfl (fun K hK => ?_) AllReadyH.nil
            go_simp
            have hb := Below.al (Below.refl _ v1) (.cells #[.int .i64 0, .int .i64 0, .int .i64 0] 62)
            have R2 := Lib.hid (R1.out.below (R1.out.2.2.2.2.2.2.2.1.size) hb)
            have C2 := Lib.hid (keep_cell hb C1.out)
            have N2 := Lib.hid (Nat.lt_of_lt_of_le N1.out hb.size)
            have D2 := Lib.hid (Cell3.new v1 0 0 0)
            have NE := Lib.hid (show v1.heap.size ≠ G from Nat.ne_of_gt R1.out.2.2.2.2.2.2.2.2)
            have NL := Lib.hid (show w.heap.size ≤ v1.heap.size from R1.out.2.2.2.2.2.2.2.1.size)
            have NX := Lib.hid (show v1.heap.size ≠ b' from Nat.ne_of_gt N1.out)
            clear hb R1 C1 N1
            generalize v1.alloc (.cells #[.int .i64 0, .int .i64 0, .int .i64 0] 62) = v2 at *
            generalize v1.heap.size = D at *
            refine hK.out _ _ ?_ (fun hHeld => ?_)
            · exact ⟨R2.out.1, R2.out.2.1, R2.out.2.2.1, C2.out⟩
            clear hK K
            (try simp only [Act.put, List.setIfInBounds_toArray, List.set_cons_zero, List.set_cons_succ])
            refine wpAnyH_ready (rs := [10]) (by kernel_rfl) (by simp) ?_
            refine AllReadyH.cons (o := ⟨none, _, _, _, _, _⟩) rfl (fun K hK => ?_) AllReadyH.nil
            obtain ⟨s0, s1, s2, y0, y1, y2, _⟩ := D2.out
            go_simp
            clear s0 s1 s2 y0 y1 y2
            have RX := Lib.hid (show Runs w G w.heap.size a (((v2.setCell ⟨D, 0, none⟩ (.int .i64 a)).setCell ⟨D, 1, none⟩ (.int .i64 (s + x))).setCell ⟨D, 2, none⟩ (.int .i64 (m + 1))) s m from R2.out.set NE.out NL.out a (s + x) (m + 1))
            have DX := Lib.hid (show Cell3 (((v2.setCell ⟨D, 0, none⟩ (.int .i64 a)).setCell ⟨D, 1, none⟩ (.int .i64 (s + x))).setCell ⟨D, 2, none⟩ (.int .i64 (m + 1))) D a (s + x) (m + 1) from D2.out.set a (s + x) (m + 1))
            have CX := Lib.hid (show (((v2.setCell ⟨D, 0, none⟩ (.int .i64 a)).setCell ⟨D, 1, none⟩ (.int .i64 (s + x))).setCell ⟨D, 2, none⟩ (.int .i64 (m + 1))).cell? ⟨b', off + k, none⟩ = some (.int .i64 x) from st_other (st_other (st_other C2.out (ad_ne (.inl NX.out))) (ad_ne (.inl NX.out))) (ad_ne (.inl NX.out)))
            refine hK.out _ _ ?_ (fun hHeld => ?_)
            · exact ⟨RX.out.1, RX.out.2.1, RX.out.2.2.1, CX.out⟩
            clear hK K
            (try simp only [Act.put, List.setIfInBounds_toArray, List.set_cons_zero, List.set_cons_succ])
            refine wpAnyH_take (i := 11) (oi := ⟨some 13, _, _, _, _, _⟩) (v := ?_) rfl (by kernel_rfl) (by kernel_rfl) (by kernel_rfl) (fun _ _ _ h => h) (Or.inl ⟨by kernel_rfl, ?_⟩) (by assumption) ?_
            rotate_left 1
            · ((intro w hSw; (try dsimp only at hSw); go_simp) <;> (try with_reducible rfl))
            (try simp only [Act.put, List.setIfInBounds_toArray, List.set_cons_zero, List.set_cons_succ])
            refine wpAnyH_done (by kernel_rfl) ?_ _
            clear hHeld R2 C2 N2 D2
            generalize (((v2.setCell ⟨D, 0, none⟩ (.int .i64 a)).setCell ⟨D, 1, none⟩ (.int .i64 (s + x))).setCell ⟨D, 2, none⟩ (.int .i64 (m + 1))) = vx at *
            have CK2 := CX.out
            obtain ⟨t0, t1, t2, x0, x1, x2, _⟩ := RX.out
            obtain ⟨d0, d1, d2, _⟩ := DX.out
            have NG := NBG.out
            go_wp2_with fail
            have RY := Lib.hid (RX.out.put hwG (s + x) (m + 1) (by have := HI.out; unfold Ce.Right at *; dsimp only at *; omega))
            go_roundw
            case rel => exact ⟨k + 1, s + x, m + 1, by omega, by omega, rfl, rfl, num_i (by omega), RY.out⟩
            case measure => simp [intOf]; omega
          refine AllReadyH.cons (o := ⟨some 12, _, _, _, _, _⟩) rfl (fun K hK => ?_) ?_
          · go_simp
            have hb := Below.al (Below.refl _ v0) (.cells #[.int .i64 0, .int .i64 0, .int .i64 0] 62)
            have R3 := Lib.hid (R0.out.below (R0.out.2.2.2.2.2.2.2.1.size) hb)
            have C3 := Lib.hid (keep_cell hb C0.out)
            have N3 := Lib.hid (Nat.lt_of_lt_of_le N0.out hb.size)
            have D3 := Lib.hid (Cell3.new v0 0 0 0)
            have NE := Lib.hid (show v0.heap.size ≠ G from Nat.ne_of_gt R0.out.2.2.2.2.2.2.2.2)
            have NL := Lib.hid (show w.heap.size ≤ v0.heap.size from R0.out.2.2.2.2.2.2.2.1.size)
            have NX := Lib.hid (show v0.heap.size ≠ b' from Nat.ne_of_gt N0.out)
            clear hb R0 C0 N0
            generalize v0.alloc (.cells #[.int .i64 0, .int .i64 0, .int .i64 0] 62) = v3 at *
            generalize v0.heap.size = D at *
            refine hK.out _ _ ?_ (fun hHeld => ?_)
            · exact ⟨R3.out.1, R3.out.2.1, R3.out.2.2.1, C3.out⟩
            clear hK K
            (try simp only [Act.put, List.setIfInBounds_toArray, List.set_cons_zero, List.set_cons_succ])
            refine wpAnyH_ready (rs := [5]) (by kernel_rfl) (by simp) ?_
            refine AllReadyH.cons (o := ⟨some 40, _, _, _, _, _⟩) rfl (fun K hK => ?_) AllReadyH.nil
            go_simp
            refine (HK.out _).mono ?_
            rintro e v4 ⟨rfl, hb⟩
            have R4 := Lib.hid (R3.out.below (R3.out.2.2.2.2.2.2.2.1.size) hb)
            have C4 := Lib.hid (keep_cell hb C3.out)
            have N4 := Lib.hid (Nat.lt_of_lt_of_le N3.out hb.size)
            have D4 := Lib.hid (D3.out.below hb)
            clear hb R3 C3 N3 D3
            go_wp2_with fail
            refine hK.out _ _ ?_ (fun hHeld => ?_)
            · exact ⟨R4.out.1, R4.out.2.1, R4.out.2.2.1, C4.out⟩
            clear hK K
            (try simp only [Act.put, List.setIfInBounds_toArray, List.set_cons_zero, List.set_cons_succ])
            refine wpAnyH_take (i := 6) (oi := ⟨some 34, _, _, _, _, _⟩) (v := ?_) rfl (by kernel_rfl) (by kernel_rfl) (by kernel_rfl) (fun _ _ _ h => h) (Or.inl ⟨by kernel_rfl, ?_⟩) (by assumption) ?_
            rotate_left 1
            · ((intro w hSw; (try dsimp only at hSw); go_simp) <;> (try with_reducible rfl))
            (try simp only [Act.put, List.setIfInBounds_toArray, List.set_cons_zero, List.set_cons_succ])
            refine wpAnyH_take (i := 7) (oi := ⟨some 41, _, _, _, _, _⟩) (v := ?_) rfl (by kernel_rfl) (by kernel_rfl) (by kernel_rfl) (fun _ _ _ h => h) (Or.inl ⟨by kernel_rfl, ?_⟩) (by assumption) ?_
            rotate_left 1
            · ((intro w hSw; (try dsimp only at hSw); go_simp) <;> (try with_reducible rfl))
            (try simp only [Act.put, List.setIfInBounds_toArray, List.set_cons_zero, List.set_cons_succ])
            refine wpAnyH_take (i := 8) (oi := ⟨some 42, _, _, _, _, _⟩) (v := ?_) rfl (by kernel_rfl) (by kernel_rfl) (by kernel_rfl) (fun _ _ _ h => h) (Or.inl ⟨by kernel_rfl, ?_⟩) (by assumption) ?_
            rotate_left 1
            · ((intro w hSw; (try dsimp only at hSw); go_simp) <;> (try with_reducible rfl))
            (try simp only [Act.put, List.setIfInBounds_toArray, List.set_cons_zero, List.set_cons_succ])
            refine wpAnyH_ready (rs := [10]) (by kernel_rfl) (by simp) ?_
            refine AllReadyH.cons (o := ⟨none, _, _, _, _, _⟩) rfl (fun K hK => ?_) AllReadyH.nil
            obtain ⟨s0, s1, s2, y0, y1, y2, _⟩ := D4.out
            go_simp
            clear s0 s1 s2 y0 y1 y2
            have RX := Lib.hid (show Runs w G w.heap.size a (((v4.setCell ⟨D, 0, none⟩ (.int .i64 a)).setCell ⟨D, 1, none⟩ (.int .i64 (s + x))).setCell ⟨D, 2, none⟩ (.int .i64 (m + 1))) s m from R4.out.set NE.out NL.out a (s + x) (m + 1))
            have DX := Lib.hid (show Cell3 (((v4.setCell ⟨D, 0, none⟩ (.int .i64 a)).setCell ⟨D, 1, none⟩ (.int .i64 (s + x))).setCell ⟨D, 2, none⟩ (.int .i64 (m + 1))) D a (s + x) (m + 1) from D4.out.set a (s + x) (m + 1))
            have CX := Lib.hid (show (((v4.setCell ⟨D, 0, none⟩ (.int .i64 a)).setCell ⟨D, 1, none⟩ (.int .i64 (s + x))).setCell ⟨D, 2, none⟩ (.int .i64 (m + 1))).cell? ⟨b', off + k, none⟩ = some (.int .i64 x) from st_other (st_other (st_other C4.out (ad_ne (.inl NX.out))) (ad_ne (.inl NX.out))) (ad_ne (.inl NX.out)))
            refine hK.out _ _ ?_ (fun hHeld => ?_)
            · exact ⟨RX.out.1, RX.out.2.1, RX.out.2.2.1, CX.out⟩
            clear hK K
            (try simp only [Act.put, List.setIfInBounds_toArray, List.set_cons_zero, List.set_cons_succ])
            refine wpAnyH_take (i := 11) (oi := ⟨some 13, _, _, _, _, _⟩) (v := ?_) rfl (by kernel_rfl) (by kernel_rfl) (by kernel_rfl) (fun _ _ _ h => h) (Or.inl ⟨by kernel_rfl, ?_⟩) (by assumption) ?_
            rotate_left 1
            · ((intro w hSw; (try dsimp only at hSw); go_simp) <;> (try with_reducible rfl))
            (try simp only [Act.put, List.setIfInBounds_toArray, List.set_cons_zero, List.set_cons_succ])
            refine wpAnyH_done (by kernel_rfl) ?_ _
            clear hHeld R4 C4 N4 D4
            generalize (((v4.setCell ⟨D, 0, none⟩ (.int .i64 a)).setCell ⟨D, 1, none⟩ (.int .i64 (s + x))).setCell ⟨D, 2, none⟩ (.int .i64 (m + 1))) = vx at *
            have CK2 := CX.out
            obtain ⟨t0, t1, t2, x0, x1, x2, _⟩ := RX.out
            obtain ⟨d0, d1, d2, _⟩ := DX.out
            have NG := NBG.out
            go_wp2_with fail
            have RY := Lib.hid (RX.out.put hwG (s + x) (m + 1) (by have := HI.out; unfold Ce.Right at *; dsimp only at *; omega))
            go_roundw
            case rel => exact ⟨k + 1, s + x, m + 1, by omega, by omega, rfl, rfl, num_i (by omega), RY.out⟩
            case measure => simp [intOf]; omega
          exact AllReadyH.nil
        · have c6 := chV_no (x := ⟨a, s, m⟩) (n := x) rfl he
          have q1 : (chE ⟨a, s, m⟩ x != 0) = true := by rw [bne_iff_ne]; exact he
          rw [show nought = ⟨0, 0, 0⟩ from rfl] at c6
          rw [c6] at HK
          generalize chE ⟨a, s, m⟩ x = z at *
          clear c6 he hri hbl HVr
          unfold fits at fk
          go_wp2_with fail
          have CK := Lib.hid ck
          have NB := Lib.hid (show b' < wr.heap.size from Nat.lt_of_lt_of_le hb' HR.out.2.2.2.2.2.2.2.1.size)
          have NBG := Lib.hid (show G ≠ b' by omega)
          refine wp_region_held_drew (S := fun w' => w'.cell? ⟨G, 0, none⟩ = some (.int .i64 a) ∧ w'.cell? ⟨G, 1, none⟩ = some (.int .i64 s) ∧ w'.cell? ⟨G, 2, none⟩ = some (.int .i64 m) ∧ w'.cell? ⟨b', off + k, none⟩ = some (.int .i64 x)) (by kernel_rfl) ?_ (fun hHeld => ?_)
          · exact ⟨g0, g1, g2, ck⟩
          refine wpAnyH_take (i := 0) (oi := ⟨some 35, _, _, _, _, _⟩) (v := ?_) rfl (by kernel_rfl) (by kernel_rfl) (by kernel_rfl) (fun _ _ _ h => h) (Or.inl ⟨by kernel_rfl, ?_⟩) (by assumption) ?_
          rotate_left 1
          · ((intro w hSw; (try dsimp only at hSw); go_simp) <;> (try with_reducible rfl))
          (try simp only [Act.put, List.setIfInBounds_toArray, List.set_cons_zero, List.set_cons_succ])
          refine wpAnyH_take (i := 1) (oi := ⟨some 36, _, _, _, _, _⟩) (v := ?_) rfl (by kernel_rfl) (by kernel_rfl) (by kernel_rfl) (fun _ _ _ h => h) (Or.inl ⟨by kernel_rfl, ?_⟩) (by assumption) ?_
          rotate_left 1
          · ((intro w hSw; (try dsimp only at hSw); go_simp) <;> (try with_reducible rfl))
          (try simp only [Act.put, List.setIfInBounds_toArray, List.set_cons_zero, List.set_cons_succ])
          refine wpAnyH_take (i := 2) (oi := ⟨some 37, _, _, _, _, _⟩) (v := ?_) rfl (by kernel_rfl) (by kernel_rfl) (by kernel_rfl) (fun _ _ _ h => h) (Or.inl ⟨by kernel_rfl, ?_⟩) (by assumption) ?_
          rotate_left 1
          · ((intro w hSw; (try dsimp only at hSw); go_simp) <;> (try with_reducible rfl))
          (try simp only [Act.put, List.setIfInBounds_toArray, List.set_cons_zero, List.set_cons_succ])
          refine wpAnyH_take (i := 3) (oi := ⟨some 38, _, _, _, _, _⟩) (v := ?_) rfl (by kernel_rfl) (by kernel_rfl) (by kernel_rfl) (fun _ _ _ h => h) (Or.inl ⟨by kernel_rfl, ?_⟩) (by assumption) ?_
          rotate_left 1
          · ((intro w hSw; (try dsimp only at hSw); go_simp) <;> (try with_reducible rfl))
          (try simp only [Act.put, List.setIfInBounds_toArray, List.set_cons_zero, List.set_cons_succ])
          refine wpAnyH_take (i := 4) (oi := ⟨some 39, _, _, _, _, _⟩) (v := ?_) rfl (by kernel_rfl) (by kernel_rfl) (by kernel_rfl) (fun _ _ _ h => h) (Or.inl ⟨by kernel_rfl, ?_⟩) (by assumption) ?_
          rotate_left 1
          · ((intro w hSw; (try dsimp only at hSw); go_simp) <;> (try with_reducible rfl))
          (try simp only [Act.put, List.setIfInBounds_toArray, List.set_cons_zero, List.set_cons_succ])
          clear g0 g1 g2 z0 z1 z2 ck
          have R0 := Lib.hid (HR.out.below (HR.out.2.2.2.2.2.2.2.1.size) (Below.refl _ _).drew)
          have C0 := Lib.hid (show wr.drew.cell? ⟨b', off + k, none⟩ = some (.int .i64 x) from CK.out)
          have N0 := Lib.hid (show b' < wr.drew.heap.size from NB.out)
          generalize wr.drew = v0 at *
          refine wpAnyH_ready (rs := [5, 9]) (by kernel_rfl) (by simp) ?_
          refine AllReadyH.cons (o := ⟨some 40, _, _, _, _, _⟩) rfl (fun K hK => ?_) ?_
          · go_simp
            refine (HK.out _).mono ?_
            rintro e v1 ⟨rfl, hb⟩
            have R1 := Lib.hid (R0.out.below (R0.out.2.2.2.2.2.2.2.1.size) hb)
            have C1 := Lib.hid (keep_cell hb C0.out)
            have N1 := Lib.hid (Nat.lt_of_lt_of_le N0.out hb.size)
            clear hb R0 C0 N0
            go_wp2_with fail
            refine hK.out _ _ ?_ (fun hHeld => ?_)
            · exact ⟨R1.out.1, R1.out.2.1, R1.out.2.2.1, C1.out⟩
            clear hK K
            (try simp only [Act.put, List.setIfInBounds_toArray, List.set_cons_zero, List.set_cons_succ])
            refine wpAnyH_take (i := 6) (oi := ⟨some 34, _, _, _, _, _⟩) (v := ?_) rfl (by kernel_rfl) (by kernel_rfl) (by kernel_rfl) (fun _ _ _ h => h) (Or.inl ⟨by kernel_rfl, ?_⟩) (by assumption) ?_
            rotate_left 1
            · ((intro w hSw; (try dsimp only at hSw); go_simp) <;> (try with_reducible rfl))
            (try simp only [Act.put, List.setIfInBounds_toArray, List.set_cons_zero, List.set_cons_succ])
            refine wpAnyH_take (i := 7) (oi := ⟨some 41, _, _, _, _, _⟩) (v := ?_) rfl (by kernel_rfl) (by kernel_rfl) (by kernel_rfl) (fun _ _ _ h => h) (Or.inl ⟨by kernel_rfl, ?_⟩) (by assumption) ?_
            rotate_left 1
            · ((intro w hSw; (try dsimp only at hSw); go_simp) <;> (try with_reducible rfl))
            (try simp only [Act.put, List.setIfInBounds_toArray, List.set_cons_zero, List.set_cons_succ])
            refine wpAnyH_take (i := 8) (oi := ⟨some 42, _, _, _, _, _⟩) (v := ?_) rfl (by kernel_rfl) (by kernel_rfl) (by kernel_rfl) (fun _ _ _ h => h) (Or.inl ⟨by kernel_rfl, ?_⟩) (by assumption) ?_
            rotate_left 1
            · ((intro w hSw; (try dsimp only at hSw); go_simp) <;> (try with_reducible rfl))
            (try simp only [Act.put, List.setIfInBounds_toArray, List.set_cons_zero, List.set_cons_succ])
            refine wpAnyH_ready (rs := [9]) (by kernel_rfl) (by simp) ?_
            refine AllReadyH.cons (o := ⟨some 12, _, _, _, _, _⟩) rfl (fun K hK => ?_) AllReadyH.nil
            go_simp
            have hb := Below.al (Below.refl _ v1) (.cells #[.int .i64 0, .int .i64 0, .int .i64 0] 62)
            have R2 := Lib.hid (R1.out.below (R1.out.2.2.2.2.2.2.2.1.size) hb)
            have C2 := Lib.hid (keep_cell hb C1.out)
            have N2 := Lib.hid (Nat.lt_of_lt_of_le N1.out hb.size)
            have D2 := Lib.hid (Cell3.new v1 0 0 0)
            have NE := Lib.hid (show v1.heap.size ≠ G from Nat.ne_of_gt R1.out.2.2.2.2.2.2.2.2)
            have NL := Lib.hid (show w.heap.size ≤ v1.heap.size from R1.out.2.2.2.2.2.2.2.1.size)
            have NX := Lib.hid (show v1.heap.size ≠ b' from Nat.ne_of_gt N1.out)
            clear hb R1 C1 N1
            generalize v1.alloc (.cells #[.int .i64 0, .int .i64 0, .int .i64 0] 62) = v2 at *
            generalize v1.heap.size = D at *
            refine hK.out _ _ ?_ (fun hHeld => ?_)
            · exact ⟨R2.out.1, R2.out.2.1, R2.out.2.2.1, C2.out⟩
            clear hK K
            (try simp only [Act.put, List.setIfInBounds_toArray, List.set_cons_zero, List.set_cons_succ])
            refine wpAnyH_ready (rs := [10]) (by kernel_rfl) (by simp) ?_
            refine AllReadyH.cons (o := ⟨none, _, _, _, _, _⟩) rfl (fun K hK => ?_) AllReadyH.nil
            obtain ⟨s0, s1, s2, y0, y1, y2, _⟩ := D2.out
            go_simp
            clear s0 s1 s2 y0 y1 y2
            have RX := Lib.hid (show Runs w G w.heap.size a (((v2.setCell ⟨D, 0, none⟩ (.int .i64 0)).setCell ⟨D, 1, none⟩ (.int .i64 0)).setCell ⟨D, 2, none⟩ (.int .i64 0)) s m from R2.out.set NE.out NL.out 0 0 0)
            have DX := Lib.hid (show Cell3 (((v2.setCell ⟨D, 0, none⟩ (.int .i64 0)).setCell ⟨D, 1, none⟩ (.int .i64 0)).setCell ⟨D, 2, none⟩ (.int .i64 0)) D 0 0 0 from D2.out.set 0 0 0)
            have CX := Lib.hid (show (((v2.setCell ⟨D, 0, none⟩ (.int .i64 0)).setCell ⟨D, 1, none⟩ (.int .i64 0)).setCell ⟨D, 2, none⟩ (.int .i64 0)).cell? ⟨b', off + k, none⟩ = some (.int .i64 x) from st_other (st_other (st_other C2.out (ad_ne (.inl NX.out))) (ad_ne (.inl NX.out))) (ad_ne (.inl NX.out)))
            refine hK.out _ _ ?_ (fun hHeld => ?_)
            · exact ⟨RX.out.1, RX.out.2.1, RX.out.2.2.1, CX.out⟩
            clear hK K
            (try simp only [Act.put, List.setIfInBounds_toArray, List.set_cons_zero, List.set_cons_succ])
            refine wpAnyH_take (i := 11) (oi := ⟨some 13, _, _, _, _, _⟩) (v := ?_) rfl (by kernel_rfl) (by kernel_rfl) (by kernel_rfl) (fun _ _ _ h => h) (Or.inl ⟨by kernel_rfl, ?_⟩) (by assumption) ?_
            rotate_left 1
            · ((intro w hSw; (try dsimp only at hSw); go_simp) <;> (try with_reducible rfl))
            (try simp only [Act.put, List.setIfInBounds_toArray, List.set_cons_zero, List.set_cons_succ])
            refine wpAnyH_done (by kernel_rfl) ?_ _
            clear hHeld R2 C2 N2 D2
            generalize (((v2.setCell ⟨D, 0, none⟩ (.int .i64 0)).setCell ⟨D, 1, none⟩ (.int .i64 0)).setCell ⟨D, 2, none⟩ (.int .i64 0)) = vx at *
            obtain ⟨d0, d1, d2, _⟩ := DX.out
            go_wp2_with fail
            go_roundw
            case rel => exact ⟨k + 1, s, m, by omega, by omega, rfl, rfl, num_i (by omega), RX.out⟩
            case measure => simp [intOf]; omega
          refine AllReadyH.cons (o := ⟨some 12, _, _, _, _, _⟩) rfl (fun K hK => ?_) ?_
          · go_simp
            have hb := Below.al (Below.refl _ v0) (.cells #[.int .i64 0, .int .i64 0, .int .i64 0] 62)
            have R3 := Lib.hid (R0.out.below (R0.out.2.2.2.2.2.2.2.1.size) hb)
            have C3 := Lib.hid (keep_cell hb C0.out)
            have N3 := Lib.hid (Nat.lt_of_lt_of_le N0.out hb.size)
            have D3 := Lib.hid (Cell3.new v0 0 0 0)
            have NE := Lib.hid (show v0.heap.size ≠ G from Nat.ne_of_gt R0.out.2.2.2.2.2.2.2.2)
            have NL := Lib.hid (show w.heap.size ≤ v0.heap.size from R0.out.2.2.2.2.2.2.2.1.size)
            have NX := Lib.hid (show v0.heap.size ≠ b' from Nat.ne_of_gt N0.out)
            clear hb R0 C0 N0
            generalize v0.alloc (.cells #[.int .i64 0, .int .i64 0, .int .i64 0] 62) = v3 at *
            generalize v0.heap.size = D at *
            refine hK.out _ _ ?_ (fun hHeld => ?_)
            · exact ⟨R3.out.1, R3.out.2.1, R3.out.2.2.1, C3.out⟩
            clear hK K
            (try simp only [Act.put, List.setIfInBounds_toArray, List.set_cons_zero, List.set_cons_succ])
            refine wpAnyH_ready (rs := [5]) (by kernel_rfl) (by simp) ?_
            refine AllReadyH.cons (o := ⟨some 40, _, _, _, _, _⟩) rfl (fun K hK => ?_) AllReadyH.nil
            go_simp
            refine (HK.out _).mono ?_
            rintro e v4 ⟨rfl, hb⟩
            have R4 := Lib.hid (R3.out.below (R3.out.2.2.2.2.2.2.2.1.size) hb)
            have C4 := Lib.hid (keep_cell hb C3.out)
            have N4 := Lib.hid (Nat.lt_of_lt_of_le N3.out hb.size)
            have D4 := Lib.hid (D3.out.below hb)
            clear hb R3 C3 N3 D3
            go_wp2_with fail
            refine hK.out _ _ ?_ (fun hHeld => ?_)
            · exact ⟨R4.out.1, R4.out.2.1, R4.out.2.2.1, C4.out⟩
            clear hK K
            (try simp only [Act.put, List.setIfInBounds_toArray, List.set_cons_zero, List.set_cons_succ])
            refine wpAnyH_take (i := 6) (oi := ⟨some 34, _, _, _, _, _⟩) (v := ?_) rfl (by kernel_rfl) (by kernel_rfl) (by kernel_rfl) (fun _ _ _ h => h) (Or.inl ⟨by kernel_rfl, ?_⟩) (by assumption) ?_
            rotate_left 1
            · ((intro w hSw; (try dsimp only at hSw); go_simp) <;> (try with_reducible rfl))
            (try simp only [Act.put, List.setIfInBounds_toArray, List.set_cons_zero, List.set_cons_succ])
            refine wpAnyH_take (i := 7) (oi := ⟨some 41, _, _, _, _, _⟩) (v := ?_) rfl (by kernel_rfl) (by kernel_rfl) (by kernel_rfl) (fun _ _ _ h => h) (Or.inl ⟨by kernel_rfl, ?_⟩) (by assumption) ?_
            rotate_left 1
            · ((intro w hSw; (try dsimp only at hSw); go_simp) <;> (try with_reducible rfl))
            (try simp only [Act.put, List.setIfInBounds_toArray, List.set_cons_zero, List.set_cons_succ])
            refine wpAnyH_take (i := 8) (oi := ⟨some 42, _, _, _, _, _⟩) (v := ?_) rfl (by kernel_rfl) (by kernel_rfl) (by kernel_rfl) (fun _ _ _ h => h) (Or.inl ⟨by kernel_rfl, ?_⟩) (by assumption) ?_
            rotate_left 1
            · ((intro w hSw; (try dsimp only at hSw); go_simp) <;> (try with_reducible rfl))
            (try simp only [Act.put, List.setIfInBounds_toArray, List.set_cons_zero, List.set_cons_succ])
            refine wpAnyH_ready (rs := [10]) (by kernel_rfl) (by simp) ?_
            refine AllReadyH.cons (o := ⟨none, _, _, _, _, _⟩) rfl (fun K hK => ?_) AllReadyH.nil
            obtain ⟨s0, s1, s2, y0, y1, y2, _⟩ := D4.out
            go_simp
            clear s0 s1 s2 y0 y1 y2
            have RX := Lib.hid (show Runs w G w.heap.size a (((v4.setCell ⟨D, 0, none⟩ (.int .i64 0)).setCell ⟨D, 1, none⟩ (.int .i64 0)).setCell ⟨D, 2, none⟩ (.int .i64 0)) s m from R4.out.set NE.out NL.out 0 0 0)
            have DX := Lib.hid (show Cell3 (((v4.setCell ⟨D, 0, none⟩ (.int .i64 0)).setCell ⟨D, 1, none⟩ (.int .i64 0)).setCell ⟨D, 2, none⟩ (.int .i64 0)) D 0 0 0 from D4.out.set 0 0 0)
            have CX := Lib.hid (show (((v4.setCell ⟨D, 0, none⟩ (.int .i64 0)).setCell ⟨D, 1, none⟩ (.int .i64 0)).setCell ⟨D, 2, none⟩ (.int .i64 0)).cell? ⟨b', off + k, none⟩ = some (.int .i64 x) from st_other (st_other (st_other C4.out (ad_ne (.inl NX.out))) (ad_ne (.inl NX.out))) (ad_ne (.inl NX.out)))
            refine hK.out _ _ ?_ (fun hHeld => ?_)
            · exact ⟨RX.out.1, RX.out.2.1, RX.out.2.2.1, CX.out⟩
            clear hK K
            (try simp only [Act.put, List.setIfInBounds_toArray, List.set_cons_zero, List.set_cons_succ])
            refine wpAnyH_take (i := 11) (oi := ⟨some 13, _, _, _, _, _⟩) (v := ?_) rfl (by kernel_rfl) (by kernel_rfl) (by kernel_rfl) (fun _ _ _ h => h) (Or.inl ⟨by kernel_rfl, ?_⟩) (by assumption) ?_
            rotate_left 1
            · ((intro w hSw; (try dsimp only at hSw); go_simp) <;> (try with_reducible rfl))
            (try simp only [Act.put, List.setIfInBounds_toArray, List.set_cons_zero, List.set_cons_succ])
            refine wpAnyH_done (by kernel_rfl) ?_ _
            clear hHeld R4 C4 N4 D4
            generalize (((v4.setCell ⟨D, 0, none⟩ (.int .i64 0)).setCell ⟨D, 1, none⟩ (.int .i64 0)).setCell ⟨D, 2, none⟩ (.int .i64 0)) = vx at *
            obtain ⟨d0, d1, d2, _⟩ := DX.out
            go_wp2_with fail
            go_roundw
            case rel => exact ⟨k + 1, s, m, by omega, by omega, rfl, rfl, num_i (by omega), RX.out⟩
            case measure => simp [intOf]; omega
          exact AllReadyH.nil
      · obtain rfl : k = xs.length := by omega
        obtain ⟨g0, g1, g2, z0, z1, z2, hri, hbl, hgs⟩ := HR.out
        have HI := Lib.hid (fun w => right_t hri w)
        have HBL := Lib.hid hbl
        clear hri hbl
        go_wp2_with fail
        refine (HI.out _).mono ?_
        rintro e w9 ⟨rfl, hb9⟩
        have HB9 := Lib.hid (Below.call HBL.out hb9)
        clear hb9
        go_wp2
        go_ret
        exact ⟨ret_b (by simp), HB9.out⟩
  · have e2 : newV a b = ⟨0, 0, 0⟩ := if_neg hr
    have e3 : newE a b = 100 := if_neg hr
    rw [e2, e3] at h1
    clear e2 e3 hr
    obtain ⟨⟨A, cap, rfl, _, _⟩, _, _⟩ := hv
    go_enter Try.func10, Try.ntmps10
    go_wp2_with fail
    refine (h1.out _).mono ?_
    rintro e w1 ⟨rfl, hb1⟩
    have HB1 := Lib.hid hb1
    clear hb1
    go_wp2_with fail
    refine (h3.out _).mono ?_
    rintro e w2 ⟨rfl, hb2⟩
    have HB2 := Lib.hid (Below.call HB1.out (Below.call (Below.al (Below.refl _ _) _) hb2))
    clear hb2
    go_wp2_with fail
    refine (h3.out _).mono ?_
    rintro e w3 ⟨rfl, hb3⟩
    have HB3 := Lib.hid (Below.call HB2.out hb3)
    clear hb3
    go_wp2
    go_ret
    exact ⟨rfl, HB3.out⟩
end Go.Proofs.Ytlgpnjbhmoomfaa
