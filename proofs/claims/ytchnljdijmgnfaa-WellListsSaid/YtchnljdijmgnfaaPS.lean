/- Spans put together: the reference's Join, one after the other. -/
import Derived.Test.YtchnljdijmgnfaaPR
import Derived.Test.YtchnljdijmgnfaaPH
namespace Go.Proofs.Ytchnljdijmgnfaa
open Go.RowKit
instance (y x : Int × Int) : Decidable (tch y x) := inferInstanceAs (Decidable (_ ∧ _))
theorem Cell2.set2 {w : World} {B : Nat} {x : Int × Int} (h : Cell2 w B x) (y : Int × Int) : Cell2 ((w.setCell ⟨B, 0, none⟩ (.int .i64 y.1)).setCell ⟨B, 1, none⟩ (.int .i64 y.2)) B y := by
  have a := h.set0 y.1
  exact ⟨(World.cell?_setCell_other _ _ _ _ (by simp)).trans a.c0, World.cell?_setCell_same _ _ _ a.c1, by simpa using a.f0, by simpa using a.f1⟩
theorem keep_cell {w w1 : World} {a : Addr} {v : Value} (hb : Below w.heap.size w w1) (h : w.cell? a = some v) : w1.cell? a = some v := (hb.cell (World.block_lt_of_cell? w a h)).trans h
theorem own_empty {W : World} {S : Nat} (hS : S ≤ W.heap.size) : Own (W.alloc (.cells #[] 23)) S (.slice (some ⟨W.heap.size, 0, none⟩) 0 0) [] := Own.made W S 0 #[] hS (by unfold maxLen; omega) rfl
/-- An empty slice and a slice of one pair, made in whichever order. -/
structure Made (X W : World) (H : Nat) : Prop where
  own : Own W X.heap.size (.slice (some ⟨H, 0, none⟩) 0 0) []
  below : Below X.heap.size X W
  size : X.heap.size ≤ W.heap.size
theorem made_A (X : World) : Made X (X.alloc (.cells #[] 23)).drew X.heap.size :=
  ⟨own_empty (W := X) (Nat.le_refl _), ((Below.refl _ X).alloc (Nat.le_refl _) _).drew, by simp⟩
theorem made_B (X : World) (x : Int × Int) : Made X ((X.alloc (.cells #[] 23)).alloc (.cells #[.int .i64 x.1, .int .i64 x.2] 23)).drew X.heap.size :=
  ⟨(own_empty (W := X) (Nat.le_refl _)).alloc _, (((Below.refl _ X).alloc (Nat.le_refl _) _).alloc (by simp) _).drew, by simp; omega⟩
theorem made_C (X : World) (x : Int × Int) : Made X ((X.alloc (.cells #[.int .i64 x.1, .int .i64 x.2] 23)).alloc (.cells #[] 23)).drew (X.heap.size + 1) := by
  have h := own_empty (W := X.alloc (.cells #[.int .i64 x.1, .int .i64 x.2] 23)) (S := X.heap.size) (by simp)
  rw [show (X.alloc (.cells #[.int .i64 x.1, .int .i64 x.2] 23)).heap.size = X.heap.size + 1 by simp] at h
  exact ⟨h, (((Below.refl _ X).alloc (Nat.le_refl _) _).alloc (by simp) _).drew, by simp; omega⟩
theorem IsL.one {W : World} {H : Nat} {x : Int × Int} (hx : fits x.1 ∧ fits x.2) (h : W.heap[H]? = some (Obj.cells #[.int .i64 x.1, .int .i64 x.2] 23)) : IsL W (H + 1) (.slice (some ⟨H, 0, none⟩) 1 1) [x] := by
  refine ⟨⟨_, 1, rfl, by simp, fun _ => ⟨H, 0, rfl, by omega, fun i hi => ?_⟩⟩, fun y hy => by simp at hy; rw [hy]; exact hx, by simp⟩
  have : i = 0 := by simpa using hi
  subst this
  rw [cell_of_row _ H _ _ _ (0, 0) h, cell_of_row _ H _ _ _ (0, 0) h]
  exact ⟨rfl, rfl⟩
theorem one_A {W2 : World} {x : Int × Int} : (W2.alloc (.cells #[.int .i64 x.1, .int .i64 x.2] 23)).heap[W2.heap.size]? = some (Obj.cells #[.int .i64 x.1, .int .i64 x.2] 23) := heap_alloc_new W2 _
theorem one_B {X W2 : World} {x : Int × Int} (hg : ((X.alloc (.cells #[] 23)).alloc (.cells #[.int .i64 x.1, .int .i64 x.2] 23)).drew.grownBy W2 (some X.heap.size)) : W2.heap[X.heap.size + 1]? = some (Obj.cells #[.int .i64 x.1, .int .i64 x.2] 23) := by
  rw [hg.block (X.heap.size + 1) (by simp) (by simp)]
  have h := heap_alloc_new (X.alloc (.cells #[] 23)) (.cells #[.int .i64 x.1, .int .i64 x.2] 23)
  rw [show (X.alloc (.cells #[] 23)).heap.size = X.heap.size + 1 by simp] at h
  exact h
theorem one_C {X W2 : World} {x : Int × Int} (hg : ((X.alloc (.cells #[.int .i64 x.1, .int .i64 x.2] 23)).alloc (.cells #[] 23)).drew.grownBy W2 (some (X.heap.size + 1))) : W2.heap[X.heap.size]? = some (Obj.cells #[.int .i64 x.1, .int .i64 x.2] 23) := by
  rw [hg.block X.heap.size (by simp; omega) (by simp)]
  show ((X.alloc (.cells #[.int .i64 x.1, .int .i64 x.2] 23)).alloc (.cells #[] 23)).heap[X.heap.size]? = _
  rw [Below.heap_alloc _ _ _ (by simp)]
  exact heap_alloc_new X _
theorem keepX {w w1 : World} {X base : Nat} {v a b : Value} {xs : List (Int × Int)} (h : Own w base v xs) (hg : w.grownBy w1 v.ownBlock) (hX : X < base) (hc : w.cell? ⟨X, 0, none⟩ = some a ∧ w.cell? ⟨X, 1, none⟩ = some b) : w1.cell? ⟨X, 0, none⟩ = some a ∧ w1.cell? ⟨X, 1, none⟩ = some b :=
  ⟨hg.cell hc.1 (h.ne_lt hX), hg.cell hc.2 (h.ne_lt hX)⟩
def MidJ (X base : Nat) (wo : World) (x : Int × Int) (u : Value) (l : List (Int × Int)) (wc : World) : Prop := Cell2 wc X x ∧ Own wc base u l ∧ Below base wo wc

set_option maxRecDepth 100000 in
set_option maxHeartbeats 4000000 in
theorem rjoin_any (v : Value) (xs : List (Int × Int)) (w : World) (h : IsL w w.heap.size v xs) (hl : xs.length ≤ 1000) : Calls Try.prog 22 #[v] w (Joined w xs) := by
  obtain ⟨⟨A, cap, rfl, hcap, hA⟩, hfit, hlen⟩ := h
  have HA := Lib.hid hA
  have HF := Lib.hid hfit
  have i1 : (xs.length : Int) ≤ 1000 := by omega
  clear hA hfit
  go_enter Try.func22, Try.ntmps22
  go_wp2
  go_loopw [3, 4] (fun t i wr => ∃ (k : Nat) (o : List (Int × Int)), k ≤ xs.length ∧ i = .int .i64 (k : Int) ∧ JoinR (xs.take k) o ∧ Own wr w.heap.size t o ∧ Below w.heap.size w wr) (fun _ i _ => xs.length - (intOf i).toNat)
  case atStart => exact ⟨0, [], Nat.zero_le _, rfl, by rw [List.take_zero]; exact JoinR.nil, Own.nil _ _, Below.refl _ _⟩
  case round =>
    obtain ⟨k, o, hk, rfl, hj, hown, hbel⟩ := hrel
    have HJ := Lib.hid hj
    have HO := Lib.hid hown
    have HB := Lib.hid hbel
    have hol : o.length ≤ 1000 := by have := hj.len; rw [List.length_take] at this; omega
    obtain ⟨wo, hwo⟩ : ∃ wo, wo = wr := ⟨_, rfl⟩
    subst hwo
    by_cases hlt : k < xs.length
    · obtain ⟨b, off, rfl, hbB, hcells⟩ := HA.out (by omega)
      have hx1 : wo.cell? ⟨b, off + k * 2, none⟩ = some (.int .i64 (xs.getD k (0, 0)).1) := (hbel.cell (p := ⟨b, off + k * 2, none⟩) hbB).trans (hcells k hlt).1
      have hx2 : wo.cell? ⟨b, off + k * 2 + 1, none⟩ = some (.int .i64 (xs.getD k (0, 0)).2) := (hbel.cell (p := ⟨b, off + k * 2 + 1, none⟩) hbB).trans (hcells k hlt).2
      have HFX := Lib.hid (getD_fits HF.out k)
      have HTK := Lib.hid (take_getD xs k hlt)
      clear hcells hown hj hbel
      generalize xs.getD k (0, 0) = x0 at *
      have C0 := Lib.hid (cell2_new wo x0)
      have O0 := Lib.hid (HO.out.alloc (.cells #[.int .i64 x0.1, .int .i64 x0.2] 23))
      by_cases he : x0.2 < x0.1
      · have HSK := Lib.hid (HJ.out.skip he)
        have hd : decide (x0.2 < x0.1) = true := by simpa using he
        clear he
        go_wp2
        go_roundw
        case rel => exact ⟨k + 1, o, by omega, num_i (by omega), by rw [HTK.out]; exact HSK.out, O0.out, HB.out.alloc HB.out.size _⟩
        case measure => simp [intOf]; omega
      · have HST := Lib.hid (RInv.start o (x := x0) (by omega) HFX.out)
        have hd : decide (x0.2 < x0.1) = false := by simpa using he
        obtain ⟨⟨Ao, capo, rfl, hcapo, hAo⟩, hfo, _⟩ := HO.out.isL (by omega)
        have HAO := Lib.hid hAo
        have HFO := Lib.hid hfo
        have i2 : (o.length : Int) ≤ 1000 := by omega
        clear he hAo hfo
        go_wp2
        go_loopw [6, 7] (fun t q wr => ∃ (j : Nat) (l : List (Int × Int)) (x : Int × Int), j ≤ o.length ∧ q = .int .i64 (j : Int) ∧ RInv o x0 j x l ∧ Own wr wo.heap.size t l ∧ Cell2 wr wo.heap.size x ∧ t.ownBlock ≠ some wo.heap.size ∧ Below wo.heap.size wo wr) (fun _ q _ => o.length - (intOf q).toNat)
        case atStart => exact ⟨0, [], x0, Nat.zero_le _, rfl, HST.out, Own.nil _ _, C0.out, by simp [Value.ownBlock], (Below.refl _ _).alloc (Nat.le_refl _) _⟩
        case round =>
          clear HST hx1 hx2 hd C0 O0
          obtain ⟨j, l, x, hjo, rfl, hri, hown, hcell, hne, hbel⟩ := hrel
          have HRI := Lib.hid hri
          have HOL := Lib.hid hown
          have HC := Lib.hid hcell
          have HNE := Lib.hid hne
          have HBL := Lib.hid hbel
          obtain ⟨wi, hwi⟩ : ∃ wi, wi = wr := ⟨_, rfl⟩
          subst hwi
          by_cases hjlt : j < o.length
          · obtain ⟨b2, off2, rfl, hbB2, hcells2⟩ := HAO.out (by omega)
            have hy1 : wi.cell? ⟨b2, off2 + j * 2, none⟩ = some (.int .i64 (o.getD j (0, 0)).1) := (hbel.cell (p := ⟨b2, off2 + j * 2, none⟩) hbB2).trans (hcells2 j hjlt).1
            have hy2 : wi.cell? ⟨b2, off2 + j * 2 + 1, none⟩ = some (.int .i64 (o.getD j (0, 0)).2) := (hbel.cell (p := ⟨b2, off2 + j * 2 + 1, none⟩) hbB2).trans (hcells2 j hjlt).2
            have HFY := Lib.hid (getD_fits HFO.out j)
            have HCY := Lib.hid (hcells2 j hjlt)
            have HYN := Lib.hid (norm_ne HJ.out.norm j hjlt)
            have HGR := Lib.hid (hri.grow HJ.out.norm hjlt (getD_fits HFO.out j))
            have HKP := Lib.hid (hri.keep HJ.out.norm hjlt (getD_fits HFO.out j))
            clear hcells2 hri hown hne hbel
            generalize o.getD j (0, 0) = y at *
            have hc0 := hcell.c0
            have hc1 := hcell.c1
            have HTI := Lib.hid (tch_iff HYN.out HRI.out.ne)
            clear hcell
            go_wp2
            go_cut [51] from 30 to 50 (fun t wc => t = .bool (decide (tch y x)) ∧ MidJ wo.heap.size wo.heap.size wo x u6 l wc)
            case first =>
              cases hm : meetsB y x
              · cases hm1 : besideB y x
                · cases hm2 : besideB x y
                  · have HM := Lib.hid (show ∀ W, Calls Try.prog 15 #[.agg #[.int .i64 y.1, .int .i64 y.2], .agg #[.int .i64 x.1, .int .i64 x.2]] W fun e w' => e = .returned (.bool false) ∧ Below W.heap.size W w' from fun W => hm ▸ rmeets_any y x W)
                    have HM1 := Lib.hid (show ∀ W, Calls Try.prog 42 #[.agg #[.int .i64 y.1, .int .i64 y.2], .agg #[.int .i64 x.1, .int .i64 x.2]] W fun e w' => e = .returned (.bool false) ∧ Below W.heap.size W w' from fun W => hm1 ▸ beside_any y x HFY.out.2 HRI.out.xfit.1 W)
                    have HM2 := Lib.hid (show ∀ W, Calls Try.prog 42 #[.agg #[.int .i64 x.1, .int .i64 x.2], .agg #[.int .i64 y.1, .int .i64 y.2]] W fun e w' => e = .returned (.bool false) ∧ Below W.heap.size W w' from fun W => hm2 ▸ beside_any x y HRI.out.xfit.2 HFY.out.1 W)
                    have hdt : decide (tch y x) = false := decide_eq_false (fun t => by have := HTI.out.2 t; simp [hm, hm1, hm2] at this)
                    clear hm hm1 hm2
                    refine wp_region_held_drew (S := fun w' => w'.cell? ⟨b2, off2 + j * 2, none⟩ = some (.int .i64 y.1) ∧ w'.cell? ⟨b2, off2 + j * 2 + 1, none⟩ = some (.int .i64 y.2) ∧ w'.cell? ⟨wo.heap.size, 0, none⟩ = some (.int .i64 x.1) ∧ w'.cell? ⟨wo.heap.size, 1, none⟩ = some (.int .i64 x.2) ∧ Below wi.heap.size wi w') (by kernel_rfl) ?_ (fun hHeld => ?_)
                    · exact ⟨hy1, hy2, hc0, hc1, (Below.refl _ _).drew⟩
                    refine wpAnyH_take (i := 0) (oi := ⟨some 30, _, _, _, _, _⟩) (v := ?_) rfl (by kernel_rfl) (by kernel_rfl) (by kernel_rfl) (fun _ _ _ h => h) (Or.inl ⟨by kernel_rfl, ?_⟩) (by assumption) ?_
                    rotate_left 1
                    · ((intro w hSw; (try dsimp only at hSw); go_simp) <;> (try with_reducible rfl))
                    (try simp only [Act.put, List.setIfInBounds_toArray, List.set_cons_zero, List.set_cons_succ])
                    refine wpAnyH_take (i := 1) (oi := ⟨some 31, _, _, _, _, _⟩) (v := ?_) rfl (by kernel_rfl) (by kernel_rfl) (by kernel_rfl) (fun _ _ _ h => h) (Or.inl ⟨by kernel_rfl, ?_⟩) (by assumption) ?_
                    rotate_left 1
                    · ((intro w hSw; (try dsimp only at hSw); go_simp) <;> (try with_reducible rfl))
                    (try simp only [Act.put, List.setIfInBounds_toArray, List.set_cons_zero, List.set_cons_succ])
                    refine wpAnyH_take (i := 2) (oi := ⟨some 32, _, _, _, _, _⟩) (v := ?_) rfl (by kernel_rfl) (by kernel_rfl) (by kernel_rfl) (fun _ _ _ h => h) (Or.inl ⟨by kernel_rfl, ?_⟩) (by assumption) ?_
                    rotate_left 1
                    · ((intro w hSw; (try dsimp only at hSw); go_simp) <;> (try with_reducible rfl))
                    (try simp only [Act.put, List.setIfInBounds_toArray, List.set_cons_zero, List.set_cons_succ])
                    refine wpAnyH_take (i := 3) (oi := ⟨some 33, _, _, _, _, _⟩) (v := ?_) rfl (by kernel_rfl) (by kernel_rfl) (by kernel_rfl) (fun _ _ _ h => h) (Or.inl ⟨by kernel_rfl, ?_⟩) (by assumption) ?_
                    rotate_left 1
                    · ((intro w hSw; (try dsimp only at hSw); go_simp) <;> (try with_reducible rfl))
                    (try simp only [Act.put, List.setIfInBounds_toArray, List.set_cons_zero, List.set_cons_succ])
                    refine wpAnyH_take (i := 4) (oi := ⟨some 34, _, _, _, _, _⟩) (v := ?_) rfl (by kernel_rfl) (by kernel_rfl) (by kernel_rfl) (fun _ _ _ h => h) (Or.inl ⟨by kernel_rfl, ?_⟩) (by assumption) ?_
                    rotate_left 1
                    · ((intro w hSw; (try dsimp only at hSw); go_simp) <;> (try with_reducible rfl))
                    (try simp only [Act.put, List.setIfInBounds_toArray, List.set_cons_zero, List.set_cons_succ])
                    refine wpAnyH_ready (rs := [5]) (by kernel_rfl) (by simp) ?_
                    refine AllReadyH.cons (o := ⟨some 35, _, _, _, _, _⟩) rfl (fun K hK => ?_) AllReadyH.nil
                    go_simp
                    (refine (HM.out _).mono ?_; rintro e w1 ⟨rfl, hb⟩)
                    go_wp2_with fail
                    refine hK.out _ _ ?_ (fun hHeld => ?_)
                    · exact ⟨keep_cell hb hHeld.1, keep_cell hb hHeld.2.1, keep_cell hb hHeld.2.2.1, keep_cell hb hHeld.2.2.2.1, Below.call hHeld.2.2.2.2 hb⟩
                    clear hK K
                    (try simp only [Act.put, List.setIfInBounds_toArray, List.set_cons_zero, List.set_cons_succ])
                    refine wpAnyH_take (i := 6) (oi := ⟨some 36, _, _, _, _, _⟩) (v := ?_) rfl (by kernel_rfl) (by kernel_rfl) (by kernel_rfl) (fun _ _ _ h => h) (Or.inl ⟨by kernel_rfl, ?_⟩) (by assumption) ?_
                    rotate_left 1
                    · ((intro w hSw; (try dsimp only at hSw); go_simp) <;> (try with_reducible rfl))
                    (try simp only [Act.put, List.setIfInBounds_toArray, List.set_cons_zero, List.set_cons_succ])
                    refine wpAnyH_take (i := 7) (oi := ⟨some 37, _, _, _, _, _⟩) (v := ?_) rfl (by kernel_rfl) (by kernel_rfl) (by kernel_rfl) (fun _ _ _ h => h) (Or.inl ⟨by kernel_rfl, ?_⟩) (by assumption) ?_
                    rotate_left 1
                    · ((intro w hSw; (try dsimp only at hSw); go_simp) <;> (try with_reducible rfl))
                    (try simp only [Act.put, List.setIfInBounds_toArray, List.set_cons_zero, List.set_cons_succ])
                    refine wpAnyH_take (i := 8) (oi := ⟨some 38, _, _, _, _, _⟩) (v := ?_) rfl (by kernel_rfl) (by kernel_rfl) (by kernel_rfl) (fun _ _ _ h => h) (Or.inl ⟨by kernel_rfl, ?_⟩) (by assumption) ?_
                    rotate_left 1
                    · ((intro w hSw; (try dsimp only at hSw); go_simp) <;> (try with_reducible rfl))
                    (try simp only [Act.put, List.setIfInBounds_toArray, List.set_cons_zero, List.set_cons_succ])
                    refine wpAnyH_take (i := 9) (oi := ⟨some 39, _, _, _, _, _⟩) (v := ?_) rfl (by kernel_rfl) (by kernel_rfl) (by kernel_rfl) (fun _ _ _ h => h) (Or.inl ⟨by kernel_rfl, ?_⟩) (by assumption) ?_
                    rotate_left 1
                    · ((intro w hSw; (try dsimp only at hSw); go_simp) <;> (try with_reducible rfl))
                    (try simp only [Act.put, List.setIfInBounds_toArray, List.set_cons_zero, List.set_cons_succ])
                    refine wpAnyH_take (i := 10) (oi := ⟨some 40, _, _, _, _, _⟩) (v := ?_) rfl (by kernel_rfl) (by kernel_rfl) (by kernel_rfl) (fun _ _ _ h => h) (Or.inl ⟨by kernel_rfl, ?_⟩) (by assumption) ?_
                    rotate_left 1
                    · ((intro w hSw; (try dsimp only at hSw); go_simp) <;> (try with_reducible rfl))
                    (try simp only [Act.put, List.setIfInBounds_toArray, List.set_cons_zero, List.set_cons_succ])
                    refine wpAnyH_take (i := 11) (oi := ⟨some 41, _, _, _, _, _⟩) (v := ?_) rfl (by kernel_rfl) (by kernel_rfl) (by kernel_rfl) (fun _ _ _ h => h) (Or.inl ⟨by kernel_rfl, ?_⟩) (by assumption) ?_
                    rotate_left 1
                    · ((intro w hSw; (try dsimp only at hSw); go_simp) <;> (try with_reducible rfl))
                    (try simp only [Act.put, List.setIfInBounds_toArray, List.set_cons_zero, List.set_cons_succ])
                    refine wpAnyH_ready (rs := [12]) (by kernel_rfl) (by simp) ?_
                    refine AllReadyH.cons (o := ⟨some 42, _, _, _, _, _⟩) rfl (fun K hK => ?_) AllReadyH.nil
                    go_simp
                    (refine (HM1.out _).mono ?_; rintro e w1 ⟨rfl, hb⟩)
                    go_wp2_with fail
                    refine hK.out _ _ ?_ (fun hHeld => ?_)
                    · exact ⟨keep_cell hb hHeld.1, keep_cell hb hHeld.2.1, keep_cell hb hHeld.2.2.1, keep_cell hb hHeld.2.2.2.1, Below.call hHeld.2.2.2.2 hb⟩
                    clear hK K
                    (try simp only [Act.put, List.setIfInBounds_toArray, List.set_cons_zero, List.set_cons_succ])
                    refine wpAnyH_take (i := 13) (oi := ⟨some 43, _, _, _, _, _⟩) (v := ?_) rfl (by kernel_rfl) (by kernel_rfl) (by kernel_rfl) (fun _ _ _ h => h) (Or.inl ⟨by kernel_rfl, ?_⟩) (by assumption) ?_
                    rotate_left 1
                    · ((intro w hSw; (try dsimp only at hSw); go_simp) <;> (try with_reducible rfl))
                    (try simp only [Act.put, List.setIfInBounds_toArray, List.set_cons_zero, List.set_cons_succ])
                    refine wpAnyH_take (i := 14) (oi := ⟨some 44, _, _, _, _, _⟩) (v := ?_) rfl (by kernel_rfl) (by kernel_rfl) (by kernel_rfl) (fun _ _ _ h => h) (Or.inl ⟨by kernel_rfl, ?_⟩) (by assumption) ?_
                    rotate_left 1
                    · ((intro w hSw; (try dsimp only at hSw); go_simp) <;> (try with_reducible rfl))
                    (try simp only [Act.put, List.setIfInBounds_toArray, List.set_cons_zero, List.set_cons_succ])
                    refine wpAnyH_take (i := 15) (oi := ⟨some 45, _, _, _, _, _⟩) (v := ?_) rfl (by kernel_rfl) (by kernel_rfl) (by kernel_rfl) (fun _ _ _ h => h) (Or.inl ⟨by kernel_rfl, ?_⟩) (by assumption) ?_
                    rotate_left 1
                    · ((intro w hSw; (try dsimp only at hSw); go_simp) <;> (try with_reducible rfl))
                    (try simp only [Act.put, List.setIfInBounds_toArray, List.set_cons_zero, List.set_cons_succ])
                    refine wpAnyH_take (i := 16) (oi := ⟨some 46, _, _, _, _, _⟩) (v := ?_) rfl (by kernel_rfl) (by kernel_rfl) (by kernel_rfl) (fun _ _ _ h => h) (Or.inl ⟨by kernel_rfl, ?_⟩) (by assumption) ?_
                    rotate_left 1
                    · ((intro w hSw; (try dsimp only at hSw); go_simp) <;> (try with_reducible rfl))
                    (try simp only [Act.put, List.setIfInBounds_toArray, List.set_cons_zero, List.set_cons_succ])
                    refine wpAnyH_take (i := 17) (oi := ⟨some 47, _, _, _, _, _⟩) (v := ?_) rfl (by kernel_rfl) (by kernel_rfl) (by kernel_rfl) (fun _ _ _ h => h) (Or.inl ⟨by kernel_rfl, ?_⟩) (by assumption) ?_
                    rotate_left 1
                    · ((intro w hSw; (try dsimp only at hSw); go_simp) <;> (try with_reducible rfl))
                    (try simp only [Act.put, List.setIfInBounds_toArray, List.set_cons_zero, List.set_cons_succ])
                    refine wpAnyH_take (i := 18) (oi := ⟨some 48, _, _, _, _, _⟩) (v := ?_) rfl (by kernel_rfl) (by kernel_rfl) (by kernel_rfl) (fun _ _ _ h => h) (Or.inl ⟨by kernel_rfl, ?_⟩) (by assumption) ?_
                    rotate_left 1
                    · ((intro w hSw; (try dsimp only at hSw); go_simp) <;> (try with_reducible rfl))
                    (try simp only [Act.put, List.setIfInBounds_toArray, List.set_cons_zero, List.set_cons_succ])
                    refine wpAnyH_take (i := 19) (oi := ⟨some 49, _, _, _, _, _⟩) (v := ?_) rfl (by kernel_rfl) (by kernel_rfl) (by kernel_rfl) (fun _ _ _ h => h) (Or.inl ⟨by kernel_rfl, ?_⟩) (by assumption) ?_
                    rotate_left 1
                    · ((intro w hSw; (try dsimp only at hSw); go_simp) <;> (try with_reducible rfl))
                    (try simp only [Act.put, List.setIfInBounds_toArray, List.set_cons_zero, List.set_cons_succ])
                    refine wpAnyH_ready (rs := [20]) (by kernel_rfl) (by simp) ?_
                    refine AllReadyH.cons (o := ⟨some 50, _, _, _, _, _⟩) rfl (fun K hK => ?_) AllReadyH.nil
                    go_simp
                    (refine (HM2.out _).mono ?_; rintro e w1 ⟨rfl, hb⟩)
                    go_wp2_with fail
                    refine hK.out _ _ ?_ (fun hHeld => ?_)
                    · exact ⟨keep_cell hb hHeld.1, keep_cell hb hHeld.2.1, keep_cell hb hHeld.2.2.1, keep_cell hb hHeld.2.2.2.1, Below.call hHeld.2.2.2.2 hb⟩
                    clear hK K
                    (try simp only [Act.put, List.setIfInBounds_toArray, List.set_cons_zero, List.set_cons_succ])
                    refine wpAnyH_take (i := 21) (oi := ⟨some 51, _, _, _, _, _⟩) (v := ?_) rfl (by kernel_rfl) (by kernel_rfl) (by kernel_rfl) (fun _ _ _ h => h) (Or.inl ⟨by kernel_rfl, ?_⟩) (by assumption) ?_
                    rotate_left 1
                    · ((intro w hSw; (try dsimp only at hSw); go_simp) <;> (try with_reducible rfl))
                    (try simp only [Act.put, List.setIfInBounds_toArray, List.set_cons_zero, List.set_cons_succ])
                    refine wpAnyH_done (by kernel_rfl) ?_ _
                    have HBB := Lib.hid hHeld.2.2.2.2
                    go_wp2_with fail
                    go_meet
                    exact ⟨by rw [hdt], HC.out.below HBB.out, HOL.out.below HBB.out, HBL.out.trans (HBB.out.mono HBL.out.size)⟩
                  · have HM := Lib.hid (show ∀ W, Calls Try.prog 15 #[.agg #[.int .i64 y.1, .int .i64 y.2], .agg #[.int .i64 x.1, .int .i64 x.2]] W fun e w' => e = .returned (.bool false) ∧ Below W.heap.size W w' from fun W => hm ▸ rmeets_any y x W)
                    have HM1 := Lib.hid (show ∀ W, Calls Try.prog 42 #[.agg #[.int .i64 y.1, .int .i64 y.2], .agg #[.int .i64 x.1, .int .i64 x.2]] W fun e w' => e = .returned (.bool false) ∧ Below W.heap.size W w' from fun W => hm1 ▸ beside_any y x HFY.out.2 HRI.out.xfit.1 W)
                    have HM2 := Lib.hid (show ∀ W, Calls Try.prog 42 #[.agg #[.int .i64 x.1, .int .i64 x.2], .agg #[.int .i64 y.1, .int .i64 y.2]] W fun e w' => e = .returned (.bool true) ∧ Below W.heap.size W w' from fun W => hm2 ▸ beside_any x y HRI.out.xfit.2 HFY.out.1 W)
                    have hdt : decide (tch y x) = true := decide_eq_true (HTI.out.1 (.inr (.inr hm2)))
                    clear hm hm1 hm2
                    refine wp_region_held_drew (S := fun w' => w'.cell? ⟨b2, off2 + j * 2, none⟩ = some (.int .i64 y.1) ∧ w'.cell? ⟨b2, off2 + j * 2 + 1, none⟩ = some (.int .i64 y.2) ∧ w'.cell? ⟨wo.heap.size, 0, none⟩ = some (.int .i64 x.1) ∧ w'.cell? ⟨wo.heap.size, 1, none⟩ = some (.int .i64 x.2) ∧ Below wi.heap.size wi w') (by kernel_rfl) ?_ (fun hHeld => ?_)
                    · exact ⟨hy1, hy2, hc0, hc1, (Below.refl _ _).drew⟩
                    refine wpAnyH_take (i := 0) (oi := ⟨some 30, _, _, _, _, _⟩) (v := ?_) rfl (by kernel_rfl) (by kernel_rfl) (by kernel_rfl) (fun _ _ _ h => h) (Or.inl ⟨by kernel_rfl, ?_⟩) (by assumption) ?_
                    rotate_left 1
                    · ((intro w hSw; (try dsimp only at hSw); go_simp) <;> (try with_reducible rfl))
                    (try simp only [Act.put, List.setIfInBounds_toArray, List.set_cons_zero, List.set_cons_succ])
                    refine wpAnyH_take (i := 1) (oi := ⟨some 31, _, _, _, _, _⟩) (v := ?_) rfl (by kernel_rfl) (by kernel_rfl) (by kernel_rfl) (fun _ _ _ h => h) (Or.inl ⟨by kernel_rfl, ?_⟩) (by assumption) ?_
                    rotate_left 1
                    · ((intro w hSw; (try dsimp only at hSw); go_simp) <;> (try with_reducible rfl))
                    (try simp only [Act.put, List.setIfInBounds_toArray, List.set_cons_zero, List.set_cons_succ])
                    refine wpAnyH_take (i := 2) (oi := ⟨some 32, _, _, _, _, _⟩) (v := ?_) rfl (by kernel_rfl) (by kernel_rfl) (by kernel_rfl) (fun _ _ _ h => h) (Or.inl ⟨by kernel_rfl, ?_⟩) (by assumption) ?_
                    rotate_left 1
                    · ((intro w hSw; (try dsimp only at hSw); go_simp) <;> (try with_reducible rfl))
                    (try simp only [Act.put, List.setIfInBounds_toArray, List.set_cons_zero, List.set_cons_succ])
                    refine wpAnyH_take (i := 3) (oi := ⟨some 33, _, _, _, _, _⟩) (v := ?_) rfl (by kernel_rfl) (by kernel_rfl) (by kernel_rfl) (fun _ _ _ h => h) (Or.inl ⟨by kernel_rfl, ?_⟩) (by assumption) ?_
                    rotate_left 1
                    · ((intro w hSw; (try dsimp only at hSw); go_simp) <;> (try with_reducible rfl))
                    (try simp only [Act.put, List.setIfInBounds_toArray, List.set_cons_zero, List.set_cons_succ])
                    refine wpAnyH_take (i := 4) (oi := ⟨some 34, _, _, _, _, _⟩) (v := ?_) rfl (by kernel_rfl) (by kernel_rfl) (by kernel_rfl) (fun _ _ _ h => h) (Or.inl ⟨by kernel_rfl, ?_⟩) (by assumption) ?_
                    rotate_left 1
                    · ((intro w hSw; (try dsimp only at hSw); go_simp) <;> (try with_reducible rfl))
                    (try simp only [Act.put, List.setIfInBounds_toArray, List.set_cons_zero, List.set_cons_succ])
                    refine wpAnyH_ready (rs := [5]) (by kernel_rfl) (by simp) ?_
                    refine AllReadyH.cons (o := ⟨some 35, _, _, _, _, _⟩) rfl (fun K hK => ?_) AllReadyH.nil
                    go_simp
                    (refine (HM.out _).mono ?_; rintro e w1 ⟨rfl, hb⟩)
                    go_wp2_with fail
                    refine hK.out _ _ ?_ (fun hHeld => ?_)
                    · exact ⟨keep_cell hb hHeld.1, keep_cell hb hHeld.2.1, keep_cell hb hHeld.2.2.1, keep_cell hb hHeld.2.2.2.1, Below.call hHeld.2.2.2.2 hb⟩
                    clear hK K
                    (try simp only [Act.put, List.setIfInBounds_toArray, List.set_cons_zero, List.set_cons_succ])
                    refine wpAnyH_take (i := 6) (oi := ⟨some 36, _, _, _, _, _⟩) (v := ?_) rfl (by kernel_rfl) (by kernel_rfl) (by kernel_rfl) (fun _ _ _ h => h) (Or.inl ⟨by kernel_rfl, ?_⟩) (by assumption) ?_
                    rotate_left 1
                    · ((intro w hSw; (try dsimp only at hSw); go_simp) <;> (try with_reducible rfl))
                    (try simp only [Act.put, List.setIfInBounds_toArray, List.set_cons_zero, List.set_cons_succ])
                    refine wpAnyH_take (i := 7) (oi := ⟨some 37, _, _, _, _, _⟩) (v := ?_) rfl (by kernel_rfl) (by kernel_rfl) (by kernel_rfl) (fun _ _ _ h => h) (Or.inl ⟨by kernel_rfl, ?_⟩) (by assumption) ?_
                    rotate_left 1
                    · ((intro w hSw; (try dsimp only at hSw); go_simp) <;> (try with_reducible rfl))
                    (try simp only [Act.put, List.setIfInBounds_toArray, List.set_cons_zero, List.set_cons_succ])
                    refine wpAnyH_take (i := 8) (oi := ⟨some 38, _, _, _, _, _⟩) (v := ?_) rfl (by kernel_rfl) (by kernel_rfl) (by kernel_rfl) (fun _ _ _ h => h) (Or.inl ⟨by kernel_rfl, ?_⟩) (by assumption) ?_
                    rotate_left 1
                    · ((intro w hSw; (try dsimp only at hSw); go_simp) <;> (try with_reducible rfl))
                    (try simp only [Act.put, List.setIfInBounds_toArray, List.set_cons_zero, List.set_cons_succ])
                    refine wpAnyH_take (i := 9) (oi := ⟨some 39, _, _, _, _, _⟩) (v := ?_) rfl (by kernel_rfl) (by kernel_rfl) (by kernel_rfl) (fun _ _ _ h => h) (Or.inl ⟨by kernel_rfl, ?_⟩) (by assumption) ?_
                    rotate_left 1
                    · ((intro w hSw; (try dsimp only at hSw); go_simp) <;> (try with_reducible rfl))
                    (try simp only [Act.put, List.setIfInBounds_toArray, List.set_cons_zero, List.set_cons_succ])
                    refine wpAnyH_take (i := 10) (oi := ⟨some 40, _, _, _, _, _⟩) (v := ?_) rfl (by kernel_rfl) (by kernel_rfl) (by kernel_rfl) (fun _ _ _ h => h) (Or.inl ⟨by kernel_rfl, ?_⟩) (by assumption) ?_
                    rotate_left 1
                    · ((intro w hSw; (try dsimp only at hSw); go_simp) <;> (try with_reducible rfl))
                    (try simp only [Act.put, List.setIfInBounds_toArray, List.set_cons_zero, List.set_cons_succ])
                    refine wpAnyH_take (i := 11) (oi := ⟨some 41, _, _, _, _, _⟩) (v := ?_) rfl (by kernel_rfl) (by kernel_rfl) (by kernel_rfl) (fun _ _ _ h => h) (Or.inl ⟨by kernel_rfl, ?_⟩) (by assumption) ?_
                    rotate_left 1
                    · ((intro w hSw; (try dsimp only at hSw); go_simp) <;> (try with_reducible rfl))
                    (try simp only [Act.put, List.setIfInBounds_toArray, List.set_cons_zero, List.set_cons_succ])
                    refine wpAnyH_ready (rs := [12]) (by kernel_rfl) (by simp) ?_
                    refine AllReadyH.cons (o := ⟨some 42, _, _, _, _, _⟩) rfl (fun K hK => ?_) AllReadyH.nil
                    go_simp
                    (refine (HM1.out _).mono ?_; rintro e w1 ⟨rfl, hb⟩)
                    go_wp2_with fail
                    refine hK.out _ _ ?_ (fun hHeld => ?_)
                    · exact ⟨keep_cell hb hHeld.1, keep_cell hb hHeld.2.1, keep_cell hb hHeld.2.2.1, keep_cell hb hHeld.2.2.2.1, Below.call hHeld.2.2.2.2 hb⟩
                    clear hK K
                    (try simp only [Act.put, List.setIfInBounds_toArray, List.set_cons_zero, List.set_cons_succ])
                    refine wpAnyH_take (i := 13) (oi := ⟨some 43, _, _, _, _, _⟩) (v := ?_) rfl (by kernel_rfl) (by kernel_rfl) (by kernel_rfl) (fun _ _ _ h => h) (Or.inl ⟨by kernel_rfl, ?_⟩) (by assumption) ?_
                    rotate_left 1
                    · ((intro w hSw; (try dsimp only at hSw); go_simp) <;> (try with_reducible rfl))
                    (try simp only [Act.put, List.setIfInBounds_toArray, List.set_cons_zero, List.set_cons_succ])
                    refine wpAnyH_take (i := 14) (oi := ⟨some 44, _, _, _, _, _⟩) (v := ?_) rfl (by kernel_rfl) (by kernel_rfl) (by kernel_rfl) (fun _ _ _ h => h) (Or.inl ⟨by kernel_rfl, ?_⟩) (by assumption) ?_
                    rotate_left 1
                    · ((intro w hSw; (try dsimp only at hSw); go_simp) <;> (try with_reducible rfl))
                    (try simp only [Act.put, List.setIfInBounds_toArray, List.set_cons_zero, List.set_cons_succ])
                    refine wpAnyH_take (i := 15) (oi := ⟨some 45, _, _, _, _, _⟩) (v := ?_) rfl (by kernel_rfl) (by kernel_rfl) (by kernel_rfl) (fun _ _ _ h => h) (Or.inl ⟨by kernel_rfl, ?_⟩) (by assumption) ?_
                    rotate_left 1
                    · ((intro w hSw; (try dsimp only at hSw); go_simp) <;> (try with_reducible rfl))
                    (try simp only [Act.put, List.setIfInBounds_toArray, List.set_cons_zero, List.set_cons_succ])
                    refine wpAnyH_take (i := 16) (oi := ⟨some 46, _, _, _, _, _⟩) (v := ?_) rfl (by kernel_rfl) (by kernel_rfl) (by kernel_rfl) (fun _ _ _ h => h) (Or.inl ⟨by kernel_rfl, ?_⟩) (by assumption) ?_
                    rotate_left 1
                    · ((intro w hSw; (try dsimp only at hSw); go_simp) <;> (try with_reducible rfl))
                    (try simp only [Act.put, List.setIfInBounds_toArray, List.set_cons_zero, List.set_cons_succ])
                    refine wpAnyH_take (i := 17) (oi := ⟨some 47, _, _, _, _, _⟩) (v := ?_) rfl (by kernel_rfl) (by kernel_rfl) (by kernel_rfl) (fun _ _ _ h => h) (Or.inl ⟨by kernel_rfl, ?_⟩) (by assumption) ?_
                    rotate_left 1
                    · ((intro w hSw; (try dsimp only at hSw); go_simp) <;> (try with_reducible rfl))
                    (try simp only [Act.put, List.setIfInBounds_toArray, List.set_cons_zero, List.set_cons_succ])
                    refine wpAnyH_take (i := 18) (oi := ⟨some 48, _, _, _, _, _⟩) (v := ?_) rfl (by kernel_rfl) (by kernel_rfl) (by kernel_rfl) (fun _ _ _ h => h) (Or.inl ⟨by kernel_rfl, ?_⟩) (by assumption) ?_
                    rotate_left 1
                    · ((intro w hSw; (try dsimp only at hSw); go_simp) <;> (try with_reducible rfl))
                    (try simp only [Act.put, List.setIfInBounds_toArray, List.set_cons_zero, List.set_cons_succ])
                    refine wpAnyH_take (i := 19) (oi := ⟨some 49, _, _, _, _, _⟩) (v := ?_) rfl (by kernel_rfl) (by kernel_rfl) (by kernel_rfl) (fun _ _ _ h => h) (Or.inl ⟨by kernel_rfl, ?_⟩) (by assumption) ?_
                    rotate_left 1
                    · ((intro w hSw; (try dsimp only at hSw); go_simp) <;> (try with_reducible rfl))
                    (try simp only [Act.put, List.setIfInBounds_toArray, List.set_cons_zero, List.set_cons_succ])
                    refine wpAnyH_ready (rs := [20]) (by kernel_rfl) (by simp) ?_
                    refine AllReadyH.cons (o := ⟨some 50, _, _, _, _, _⟩) rfl (fun K hK => ?_) AllReadyH.nil
                    go_simp
                    (refine (HM2.out _).mono ?_; rintro e w1 ⟨rfl, hb⟩)
                    go_wp2_with fail
                    refine hK.out _ _ ?_ (fun hHeld => ?_)
                    · exact ⟨keep_cell hb hHeld.1, keep_cell hb hHeld.2.1, keep_cell hb hHeld.2.2.1, keep_cell hb hHeld.2.2.2.1, Below.call hHeld.2.2.2.2 hb⟩
                    clear hK K
                    (try simp only [Act.put, List.setIfInBounds_toArray, List.set_cons_zero, List.set_cons_succ])
                    refine wpAnyH_take (i := 21) (oi := ⟨some 51, _, _, _, _, _⟩) (v := ?_) rfl (by kernel_rfl) (by kernel_rfl) (by kernel_rfl) (fun _ _ _ h => h) (Or.inl ⟨by kernel_rfl, ?_⟩) (by assumption) ?_
                    rotate_left 1
                    · ((intro w hSw; (try dsimp only at hSw); go_simp) <;> (try with_reducible rfl))
                    (try simp only [Act.put, List.setIfInBounds_toArray, List.set_cons_zero, List.set_cons_succ])
                    refine wpAnyH_done (by kernel_rfl) ?_ _
                    have HBB := Lib.hid hHeld.2.2.2.2
                    go_wp2_with fail
                    go_meet
                    exact ⟨by rw [hdt], HC.out.below HBB.out, HOL.out.below HBB.out, HBL.out.trans (HBB.out.mono HBL.out.size)⟩
                · have HM := Lib.hid (show ∀ W, Calls Try.prog 15 #[.agg #[.int .i64 y.1, .int .i64 y.2], .agg #[.int .i64 x.1, .int .i64 x.2]] W fun e w' => e = .returned (.bool false) ∧ Below W.heap.size W w' from fun W => hm ▸ rmeets_any y x W)
                  have HM1 := Lib.hid (show ∀ W, Calls Try.prog 42 #[.agg #[.int .i64 y.1, .int .i64 y.2], .agg #[.int .i64 x.1, .int .i64 x.2]] W fun e w' => e = .returned (.bool true) ∧ Below W.heap.size W w' from fun W => hm1 ▸ beside_any y x HFY.out.2 HRI.out.xfit.1 W)
                  have hdt : decide (tch y x) = true := decide_eq_true (HTI.out.1 (.inr (.inl hm1)))
                  clear hm hm1
                  refine wp_region_held_drew (S := fun w' => w'.cell? ⟨b2, off2 + j * 2, none⟩ = some (.int .i64 y.1) ∧ w'.cell? ⟨b2, off2 + j * 2 + 1, none⟩ = some (.int .i64 y.2) ∧ w'.cell? ⟨wo.heap.size, 0, none⟩ = some (.int .i64 x.1) ∧ w'.cell? ⟨wo.heap.size, 1, none⟩ = some (.int .i64 x.2) ∧ Below wi.heap.size wi w') (by kernel_rfl) ?_ (fun hHeld => ?_)
                  · exact ⟨hy1, hy2, hc0, hc1, (Below.refl _ _).drew⟩
                  refine wpAnyH_take (i := 0) (oi := ⟨some 30, _, _, _, _, _⟩) (v := ?_) rfl (by kernel_rfl) (by kernel_rfl) (by kernel_rfl) (fun _ _ _ h => h) (Or.inl ⟨by kernel_rfl, ?_⟩) (by assumption) ?_
                  rotate_left 1
                  · ((intro w hSw; (try dsimp only at hSw); go_simp) <;> (try with_reducible rfl))
                  (try simp only [Act.put, List.setIfInBounds_toArray, List.set_cons_zero, List.set_cons_succ])
                  refine wpAnyH_take (i := 1) (oi := ⟨some 31, _, _, _, _, _⟩) (v := ?_) rfl (by kernel_rfl) (by kernel_rfl) (by kernel_rfl) (fun _ _ _ h => h) (Or.inl ⟨by kernel_rfl, ?_⟩) (by assumption) ?_
                  rotate_left 1
                  · ((intro w hSw; (try dsimp only at hSw); go_simp) <;> (try with_reducible rfl))
                  (try simp only [Act.put, List.setIfInBounds_toArray, List.set_cons_zero, List.set_cons_succ])
                  refine wpAnyH_take (i := 2) (oi := ⟨some 32, _, _, _, _, _⟩) (v := ?_) rfl (by kernel_rfl) (by kernel_rfl) (by kernel_rfl) (fun _ _ _ h => h) (Or.inl ⟨by kernel_rfl, ?_⟩) (by assumption) ?_
                  rotate_left 1
                  · ((intro w hSw; (try dsimp only at hSw); go_simp) <;> (try with_reducible rfl))
                  (try simp only [Act.put, List.setIfInBounds_toArray, List.set_cons_zero, List.set_cons_succ])
                  refine wpAnyH_take (i := 3) (oi := ⟨some 33, _, _, _, _, _⟩) (v := ?_) rfl (by kernel_rfl) (by kernel_rfl) (by kernel_rfl) (fun _ _ _ h => h) (Or.inl ⟨by kernel_rfl, ?_⟩) (by assumption) ?_
                  rotate_left 1
                  · ((intro w hSw; (try dsimp only at hSw); go_simp) <;> (try with_reducible rfl))
                  (try simp only [Act.put, List.setIfInBounds_toArray, List.set_cons_zero, List.set_cons_succ])
                  refine wpAnyH_take (i := 4) (oi := ⟨some 34, _, _, _, _, _⟩) (v := ?_) rfl (by kernel_rfl) (by kernel_rfl) (by kernel_rfl) (fun _ _ _ h => h) (Or.inl ⟨by kernel_rfl, ?_⟩) (by assumption) ?_
                  rotate_left 1
                  · ((intro w hSw; (try dsimp only at hSw); go_simp) <;> (try with_reducible rfl))
                  (try simp only [Act.put, List.setIfInBounds_toArray, List.set_cons_zero, List.set_cons_succ])
                  refine wpAnyH_ready (rs := [5]) (by kernel_rfl) (by simp) ?_
                  refine AllReadyH.cons (o := ⟨some 35, _, _, _, _, _⟩) rfl (fun K hK => ?_) AllReadyH.nil
                  go_simp
                  (refine (HM.out _).mono ?_; rintro e w1 ⟨rfl, hb⟩)
                  go_wp2_with fail
                  refine hK.out _ _ ?_ (fun hHeld => ?_)
                  · exact ⟨keep_cell hb hHeld.1, keep_cell hb hHeld.2.1, keep_cell hb hHeld.2.2.1, keep_cell hb hHeld.2.2.2.1, Below.call hHeld.2.2.2.2 hb⟩
                  clear hK K
                  (try simp only [Act.put, List.setIfInBounds_toArray, List.set_cons_zero, List.set_cons_succ])
                  refine wpAnyH_take (i := 6) (oi := ⟨some 36, _, _, _, _, _⟩) (v := ?_) rfl (by kernel_rfl) (by kernel_rfl) (by kernel_rfl) (fun _ _ _ h => h) (Or.inl ⟨by kernel_rfl, ?_⟩) (by assumption) ?_
                  rotate_left 1
                  · ((intro w hSw; (try dsimp only at hSw); go_simp) <;> (try with_reducible rfl))
                  (try simp only [Act.put, List.setIfInBounds_toArray, List.set_cons_zero, List.set_cons_succ])
                  refine wpAnyH_take (i := 7) (oi := ⟨some 37, _, _, _, _, _⟩) (v := ?_) rfl (by kernel_rfl) (by kernel_rfl) (by kernel_rfl) (fun _ _ _ h => h) (Or.inl ⟨by kernel_rfl, ?_⟩) (by assumption) ?_
                  rotate_left 1
                  · ((intro w hSw; (try dsimp only at hSw); go_simp) <;> (try with_reducible rfl))
                  (try simp only [Act.put, List.setIfInBounds_toArray, List.set_cons_zero, List.set_cons_succ])
                  refine wpAnyH_take (i := 8) (oi := ⟨some 38, _, _, _, _, _⟩) (v := ?_) rfl (by kernel_rfl) (by kernel_rfl) (by kernel_rfl) (fun _ _ _ h => h) (Or.inl ⟨by kernel_rfl, ?_⟩) (by assumption) ?_
                  rotate_left 1
                  · ((intro w hSw; (try dsimp only at hSw); go_simp) <;> (try with_reducible rfl))
                  (try simp only [Act.put, List.setIfInBounds_toArray, List.set_cons_zero, List.set_cons_succ])
                  refine wpAnyH_take (i := 9) (oi := ⟨some 39, _, _, _, _, _⟩) (v := ?_) rfl (by kernel_rfl) (by kernel_rfl) (by kernel_rfl) (fun _ _ _ h => h) (Or.inl ⟨by kernel_rfl, ?_⟩) (by assumption) ?_
                  rotate_left 1
                  · ((intro w hSw; (try dsimp only at hSw); go_simp) <;> (try with_reducible rfl))
                  (try simp only [Act.put, List.setIfInBounds_toArray, List.set_cons_zero, List.set_cons_succ])
                  refine wpAnyH_take (i := 10) (oi := ⟨some 40, _, _, _, _, _⟩) (v := ?_) rfl (by kernel_rfl) (by kernel_rfl) (by kernel_rfl) (fun _ _ _ h => h) (Or.inl ⟨by kernel_rfl, ?_⟩) (by assumption) ?_
                  rotate_left 1
                  · ((intro w hSw; (try dsimp only at hSw); go_simp) <;> (try with_reducible rfl))
                  (try simp only [Act.put, List.setIfInBounds_toArray, List.set_cons_zero, List.set_cons_succ])
                  refine wpAnyH_take (i := 11) (oi := ⟨some 41, _, _, _, _, _⟩) (v := ?_) rfl (by kernel_rfl) (by kernel_rfl) (by kernel_rfl) (fun _ _ _ h => h) (Or.inl ⟨by kernel_rfl, ?_⟩) (by assumption) ?_
                  rotate_left 1
                  · ((intro w hSw; (try dsimp only at hSw); go_simp) <;> (try with_reducible rfl))
                  (try simp only [Act.put, List.setIfInBounds_toArray, List.set_cons_zero, List.set_cons_succ])
                  refine wpAnyH_ready (rs := [12]) (by kernel_rfl) (by simp) ?_
                  refine AllReadyH.cons (o := ⟨some 42, _, _, _, _, _⟩) rfl (fun K hK => ?_) AllReadyH.nil
                  go_simp
                  (refine (HM1.out _).mono ?_; rintro e w1 ⟨rfl, hb⟩)
                  go_wp2_with fail
                  refine hK.out _ _ ?_ (fun hHeld => ?_)
                  · exact ⟨keep_cell hb hHeld.1, keep_cell hb hHeld.2.1, keep_cell hb hHeld.2.2.1, keep_cell hb hHeld.2.2.2.1, Below.call hHeld.2.2.2.2 hb⟩
                  clear hK K
                  (try simp only [Act.put, List.setIfInBounds_toArray, List.set_cons_zero, List.set_cons_succ])
                  refine wpAnyH_take (i := 13) (oi := ⟨some 43, _, _, _, _, _⟩) (v := ?_) rfl (by kernel_rfl) (by kernel_rfl) (by kernel_rfl) (fun _ _ _ h => h) (Or.inl ⟨by kernel_rfl, ?_⟩) (by assumption) ?_
                  rotate_left 1
                  · ((intro w hSw; (try dsimp only at hSw); go_simp) <;> (try with_reducible rfl))
                  (try simp only [Act.put, List.setIfInBounds_toArray, List.set_cons_zero, List.set_cons_succ])
                  refine wpAnyH_take (i := 14) (oi := ⟨some 44, _, _, _, _, _⟩) (v := ?_) rfl (by kernel_rfl) (by kernel_rfl) (by kernel_rfl) (fun _ _ _ h => h) (Or.inl ⟨by kernel_rfl, ?_⟩) (by assumption) ?_
                  rotate_left 1
                  · ((intro w hSw; (try dsimp only at hSw); go_simp) <;> (try with_reducible rfl))
                  (try simp only [Act.put, List.setIfInBounds_toArray, List.set_cons_zero, List.set_cons_succ])
                  refine wpAnyH_take (i := 15) (oi := ⟨some 45, _, _, _, _, _⟩) (v := undef) rfl (by kernel_rfl) (by kernel_rfl) (by kernel_rfl) (fun _ _ _ h => h) (Or.inr ⟨by kernel_rfl, rfl⟩) (by assumption) ?_
                  (try simp only [Act.put, List.setIfInBounds_toArray, List.set_cons_zero, List.set_cons_succ])
                  refine wpAnyH_take (i := 16) (oi := ⟨some 46, _, _, _, _, _⟩) (v := undef) rfl (by kernel_rfl) (by kernel_rfl) (by kernel_rfl) (fun _ _ _ h => h) (Or.inr ⟨by kernel_rfl, rfl⟩) (by assumption) ?_
                  (try simp only [Act.put, List.setIfInBounds_toArray, List.set_cons_zero, List.set_cons_succ])
                  refine wpAnyH_take (i := 17) (oi := ⟨some 47, _, _, _, _, _⟩) (v := undef) rfl (by kernel_rfl) (by kernel_rfl) (by kernel_rfl) (fun _ _ _ h => h) (Or.inr ⟨by kernel_rfl, rfl⟩) (by assumption) ?_
                  (try simp only [Act.put, List.setIfInBounds_toArray, List.set_cons_zero, List.set_cons_succ])
                  refine wpAnyH_take (i := 18) (oi := ⟨some 48, _, _, _, _, _⟩) (v := undef) rfl (by kernel_rfl) (by kernel_rfl) (by kernel_rfl) (fun _ _ _ h => h) (Or.inr ⟨by kernel_rfl, rfl⟩) (by assumption) ?_
                  (try simp only [Act.put, List.setIfInBounds_toArray, List.set_cons_zero, List.set_cons_succ])
                  refine wpAnyH_take (i := 19) (oi := ⟨some 49, _, _, _, _, _⟩) (v := undef) rfl (by kernel_rfl) (by kernel_rfl) (by kernel_rfl) (fun _ _ _ h => h) (Or.inr ⟨by kernel_rfl, rfl⟩) (by assumption) ?_
                  (try simp only [Act.put, List.setIfInBounds_toArray, List.set_cons_zero, List.set_cons_succ])
                  refine wpAnyH_take (i := 20) (oi := ⟨some 50, _, _, _, _, _⟩) (v := undef) rfl (by kernel_rfl) (by kernel_rfl) (by kernel_rfl) (fun _ _ _ h => h) (Or.inr ⟨by kernel_rfl, rfl⟩) (by assumption) ?_
                  (try simp only [Act.put, List.setIfInBounds_toArray, List.set_cons_zero, List.set_cons_succ])
                  refine wpAnyH_take (i := 21) (oi := ⟨some 51, _, _, _, _, _⟩) (v := ?_) rfl (by kernel_rfl) (by kernel_rfl) (by kernel_rfl) (fun _ _ _ h => h) (Or.inl ⟨by kernel_rfl, ?_⟩) (by assumption) ?_
                  rotate_left 1
                  · ((intro w hSw; (try dsimp only at hSw); go_simp) <;> (try with_reducible rfl))
                  (try simp only [Act.put, List.setIfInBounds_toArray, List.set_cons_zero, List.set_cons_succ])
                  refine wpAnyH_done (by kernel_rfl) ?_ _
                  have HBB := Lib.hid hHeld.2.2.2.2
                  go_wp2_with fail
                  go_meet
                  exact ⟨by rw [hdt], HC.out.below HBB.out, HOL.out.below HBB.out, HBL.out.trans (HBB.out.mono HBL.out.size)⟩
              · have HM := Lib.hid (show ∀ W, Calls Try.prog 15 #[.agg #[.int .i64 y.1, .int .i64 y.2], .agg #[.int .i64 x.1, .int .i64 x.2]] W fun e w' => e = .returned (.bool true) ∧ Below W.heap.size W w' from fun W => hm ▸ rmeets_any y x W)
                have hdt : decide (tch y x) = true := decide_eq_true (HTI.out.1 (.inl hm))
                clear hm
                refine wp_region_held_drew (S := fun w' => w'.cell? ⟨b2, off2 + j * 2, none⟩ = some (.int .i64 y.1) ∧ w'.cell? ⟨b2, off2 + j * 2 + 1, none⟩ = some (.int .i64 y.2) ∧ w'.cell? ⟨wo.heap.size, 0, none⟩ = some (.int .i64 x.1) ∧ w'.cell? ⟨wo.heap.size, 1, none⟩ = some (.int .i64 x.2) ∧ Below wi.heap.size wi w') (by kernel_rfl) ?_ (fun hHeld => ?_)
                · exact ⟨hy1, hy2, hc0, hc1, (Below.refl _ _).drew⟩
                refine wpAnyH_take (i := 0) (oi := ⟨some 30, _, _, _, _, _⟩) (v := ?_) rfl (by kernel_rfl) (by kernel_rfl) (by kernel_rfl) (fun _ _ _ h => h) (Or.inl ⟨by kernel_rfl, ?_⟩) (by assumption) ?_
                rotate_left 1
                · ((intro w hSw; (try dsimp only at hSw); go_simp) <;> (try with_reducible rfl))
                (try simp only [Act.put, List.setIfInBounds_toArray, List.set_cons_zero, List.set_cons_succ])
                refine wpAnyH_take (i := 1) (oi := ⟨some 31, _, _, _, _, _⟩) (v := ?_) rfl (by kernel_rfl) (by kernel_rfl) (by kernel_rfl) (fun _ _ _ h => h) (Or.inl ⟨by kernel_rfl, ?_⟩) (by assumption) ?_
                rotate_left 1
                · ((intro w hSw; (try dsimp only at hSw); go_simp) <;> (try with_reducible rfl))
                (try simp only [Act.put, List.setIfInBounds_toArray, List.set_cons_zero, List.set_cons_succ])
                refine wpAnyH_take (i := 2) (oi := ⟨some 32, _, _, _, _, _⟩) (v := ?_) rfl (by kernel_rfl) (by kernel_rfl) (by kernel_rfl) (fun _ _ _ h => h) (Or.inl ⟨by kernel_rfl, ?_⟩) (by assumption) ?_
                rotate_left 1
                · ((intro w hSw; (try dsimp only at hSw); go_simp) <;> (try with_reducible rfl))
                (try simp only [Act.put, List.setIfInBounds_toArray, List.set_cons_zero, List.set_cons_succ])
                refine wpAnyH_take (i := 3) (oi := ⟨some 33, _, _, _, _, _⟩) (v := ?_) rfl (by kernel_rfl) (by kernel_rfl) (by kernel_rfl) (fun _ _ _ h => h) (Or.inl ⟨by kernel_rfl, ?_⟩) (by assumption) ?_
                rotate_left 1
                · ((intro w hSw; (try dsimp only at hSw); go_simp) <;> (try with_reducible rfl))
                (try simp only [Act.put, List.setIfInBounds_toArray, List.set_cons_zero, List.set_cons_succ])
                refine wpAnyH_take (i := 4) (oi := ⟨some 34, _, _, _, _, _⟩) (v := ?_) rfl (by kernel_rfl) (by kernel_rfl) (by kernel_rfl) (fun _ _ _ h => h) (Or.inl ⟨by kernel_rfl, ?_⟩) (by assumption) ?_
                rotate_left 1
                · ((intro w hSw; (try dsimp only at hSw); go_simp) <;> (try with_reducible rfl))
                (try simp only [Act.put, List.setIfInBounds_toArray, List.set_cons_zero, List.set_cons_succ])
                refine wpAnyH_ready (rs := [5]) (by kernel_rfl) (by simp) ?_
                refine AllReadyH.cons (o := ⟨some 35, _, _, _, _, _⟩) rfl (fun K hK => ?_) AllReadyH.nil
                go_simp
                (refine (HM.out _).mono ?_; rintro e w1 ⟨rfl, hb⟩)
                go_wp2_with fail
                refine hK.out _ _ ?_ (fun hHeld => ?_)
                · exact ⟨keep_cell hb hHeld.1, keep_cell hb hHeld.2.1, keep_cell hb hHeld.2.2.1, keep_cell hb hHeld.2.2.2.1, Below.call hHeld.2.2.2.2 hb⟩
                clear hK K
                (try simp only [Act.put, List.setIfInBounds_toArray, List.set_cons_zero, List.set_cons_succ])
                refine wpAnyH_take (i := 6) (oi := ⟨some 36, _, _, _, _, _⟩) (v := ?_) rfl (by kernel_rfl) (by kernel_rfl) (by kernel_rfl) (fun _ _ _ h => h) (Or.inl ⟨by kernel_rfl, ?_⟩) (by assumption) ?_
                rotate_left 1
                · ((intro w hSw; (try dsimp only at hSw); go_simp) <;> (try with_reducible rfl))
                (try simp only [Act.put, List.setIfInBounds_toArray, List.set_cons_zero, List.set_cons_succ])
                refine wpAnyH_take (i := 7) (oi := ⟨some 37, _, _, _, _, _⟩) (v := undef) rfl (by kernel_rfl) (by kernel_rfl) (by kernel_rfl) (fun _ _ _ h => h) (Or.inr ⟨by kernel_rfl, rfl⟩) (by assumption) ?_
                (try simp only [Act.put, List.setIfInBounds_toArray, List.set_cons_zero, List.set_cons_succ])
                refine wpAnyH_take (i := 8) (oi := ⟨some 38, _, _, _, _, _⟩) (v := undef) rfl (by kernel_rfl) (by kernel_rfl) (by kernel_rfl) (fun _ _ _ h => h) (Or.inr ⟨by kernel_rfl, rfl⟩) (by assumption) ?_
                (try simp only [Act.put, List.setIfInBounds_toArray, List.set_cons_zero, List.set_cons_succ])
                refine wpAnyH_take (i := 9) (oi := ⟨some 39, _, _, _, _, _⟩) (v := undef) rfl (by kernel_rfl) (by kernel_rfl) (by kernel_rfl) (fun _ _ _ h => h) (Or.inr ⟨by kernel_rfl, rfl⟩) (by assumption) ?_
                (try simp only [Act.put, List.setIfInBounds_toArray, List.set_cons_zero, List.set_cons_succ])
                refine wpAnyH_take (i := 10) (oi := ⟨some 40, _, _, _, _, _⟩) (v := undef) rfl (by kernel_rfl) (by kernel_rfl) (by kernel_rfl) (fun _ _ _ h => h) (Or.inr ⟨by kernel_rfl, rfl⟩) (by assumption) ?_
                (try simp only [Act.put, List.setIfInBounds_toArray, List.set_cons_zero, List.set_cons_succ])
                refine wpAnyH_take (i := 11) (oi := ⟨some 41, _, _, _, _, _⟩) (v := undef) rfl (by kernel_rfl) (by kernel_rfl) (by kernel_rfl) (fun _ _ _ h => h) (Or.inr ⟨by kernel_rfl, rfl⟩) (by assumption) ?_
                (try simp only [Act.put, List.setIfInBounds_toArray, List.set_cons_zero, List.set_cons_succ])
                refine wpAnyH_take (i := 12) (oi := ⟨some 42, _, _, _, _, _⟩) (v := undef) rfl (by kernel_rfl) (by kernel_rfl) (by kernel_rfl) (fun _ _ _ h => h) (Or.inr ⟨by kernel_rfl, rfl⟩) (by assumption) ?_
                (try simp only [Act.put, List.setIfInBounds_toArray, List.set_cons_zero, List.set_cons_succ])
                refine wpAnyH_take (i := 13) (oi := ⟨some 43, _, _, _, _, _⟩) (v := ?_) rfl (by kernel_rfl) (by kernel_rfl) (by kernel_rfl) (fun _ _ _ h => h) (Or.inl ⟨by kernel_rfl, ?_⟩) (by assumption) ?_
                rotate_left 1
                · ((intro w hSw; (try dsimp only at hSw); go_simp) <;> (try with_reducible rfl))
                (try simp only [Act.put, List.setIfInBounds_toArray, List.set_cons_zero, List.set_cons_succ])
                refine wpAnyH_take (i := 14) (oi := ⟨some 44, _, _, _, _, _⟩) (v := ?_) rfl (by kernel_rfl) (by kernel_rfl) (by kernel_rfl) (fun _ _ _ h => h) (Or.inl ⟨by kernel_rfl, ?_⟩) (by assumption) ?_
                rotate_left 1
                · ((intro w hSw; (try dsimp only at hSw); go_simp) <;> (try with_reducible rfl))
                (try simp only [Act.put, List.setIfInBounds_toArray, List.set_cons_zero, List.set_cons_succ])
                refine wpAnyH_take (i := 15) (oi := ⟨some 45, _, _, _, _, _⟩) (v := undef) rfl (by kernel_rfl) (by kernel_rfl) (by kernel_rfl) (fun _ _ _ h => h) (Or.inr ⟨by kernel_rfl, rfl⟩) (by assumption) ?_
                (try simp only [Act.put, List.setIfInBounds_toArray, List.set_cons_zero, List.set_cons_succ])
                refine wpAnyH_take (i := 16) (oi := ⟨some 46, _, _, _, _, _⟩) (v := undef) rfl (by kernel_rfl) (by kernel_rfl) (by kernel_rfl) (fun _ _ _ h => h) (Or.inr ⟨by kernel_rfl, rfl⟩) (by assumption) ?_
                (try simp only [Act.put, List.setIfInBounds_toArray, List.set_cons_zero, List.set_cons_succ])
                refine wpAnyH_take (i := 17) (oi := ⟨some 47, _, _, _, _, _⟩) (v := undef) rfl (by kernel_rfl) (by kernel_rfl) (by kernel_rfl) (fun _ _ _ h => h) (Or.inr ⟨by kernel_rfl, rfl⟩) (by assumption) ?_
                (try simp only [Act.put, List.setIfInBounds_toArray, List.set_cons_zero, List.set_cons_succ])
                refine wpAnyH_take (i := 18) (oi := ⟨some 48, _, _, _, _, _⟩) (v := undef) rfl (by kernel_rfl) (by kernel_rfl) (by kernel_rfl) (fun _ _ _ h => h) (Or.inr ⟨by kernel_rfl, rfl⟩) (by assumption) ?_
                (try simp only [Act.put, List.setIfInBounds_toArray, List.set_cons_zero, List.set_cons_succ])
                refine wpAnyH_take (i := 19) (oi := ⟨some 49, _, _, _, _, _⟩) (v := undef) rfl (by kernel_rfl) (by kernel_rfl) (by kernel_rfl) (fun _ _ _ h => h) (Or.inr ⟨by kernel_rfl, rfl⟩) (by assumption) ?_
                (try simp only [Act.put, List.setIfInBounds_toArray, List.set_cons_zero, List.set_cons_succ])
                refine wpAnyH_take (i := 20) (oi := ⟨some 50, _, _, _, _, _⟩) (v := undef) rfl (by kernel_rfl) (by kernel_rfl) (by kernel_rfl) (fun _ _ _ h => h) (Or.inr ⟨by kernel_rfl, rfl⟩) (by assumption) ?_
                (try simp only [Act.put, List.setIfInBounds_toArray, List.set_cons_zero, List.set_cons_succ])
                refine wpAnyH_take (i := 21) (oi := ⟨some 51, _, _, _, _, _⟩) (v := ?_) rfl (by kernel_rfl) (by kernel_rfl) (by kernel_rfl) (fun _ _ _ h => h) (Or.inl ⟨by kernel_rfl, ?_⟩) (by assumption) ?_
                rotate_left 1
                · ((intro w hSw; (try dsimp only at hSw); go_simp) <;> (try with_reducible rfl))
                (try simp only [Act.put, List.setIfInBounds_toArray, List.set_cons_zero, List.set_cons_succ])
                refine wpAnyH_done (by kernel_rfl) ?_ _
                have HBB := Lib.hid hHeld.2.2.2.2
                go_wp2_with fail
                go_meet
                exact ⟨by rw [hdt], HC.out.below HBB.out, HOL.out.below HBB.out, HBL.out.trans (HBB.out.mono HBL.out.size)⟩
            case rest =>
              clear hy1 hy2 hc0 hc1
              obtain ⟨rfl, hc2, ho2, hb2⟩ := hcut
              have C2 := Lib.hid hc2
              have O2 := Lib.hid ho2
              have B2 := Lib.hid hb2
              have hy1 : wc.cell? ⟨b2, off2 + j * 2, none⟩ = some (.int .i64 y.1) := (hb2.cell (p := ⟨b2, off2 + j * 2, none⟩) hbB2).trans HCY.out.1
              have hy2 : wc.cell? ⟨b2, off2 + j * 2 + 1, none⟩ = some (.int .i64 y.2) := (hb2.cell (p := ⟨b2, off2 + j * 2 + 1, none⟩) hbB2).trans HCY.out.2
              have hc0 := hc2.c0
              have hc1 := hc2.c1
              have hf0 := hc2.f0
              have hf1 := hc2.f1
              have hXl := hc2.lt
              clear hc2 ho2 hb2
              obtain ⟨w2, hw2⟩ : ∃ w2, w2 = wc := ⟨_, rfl⟩
              subst hw2
              by_cases ht : tch y x
              · rw [show decide (tch y x) = true from decide_eq_true ht]
                have HR := Lib.hid (HGR.out ht)
                clear ht
                go_wp2
                go_region_with (go_at_call 13; refine (rhull_any y x _).mono ?_; rintro e w1 ⟨rfl, hb1⟩; have C3 := (show Cell2 w2.drew wo.heap.size x from C2.out.drew).below hb1; have O3 := Lib.hid ((show Own w2.drew wo.heap.size u6 l from O2.out.drew).below hb1); have B3 := Lib.hid (B2.out.drew.trans (hb1.mono B2.out.size)); have q0 := C3.c0; have q1 := C3.c1; have q2 := C3.f0; have q3 := C3.f1; have C4 := Lib.hid C3; clear hb1 C3)
                all_goals
                  go_wp2
                  go_roundw
                  case rel => exact ⟨j + 1, l, hullV y x, by omega, num_i (by omega), HR.out, (O3.out.kept (grown_set (World.grownBy.refl _ _)) (.inr HNE.out)).kept (grown_set (World.grownBy.refl _ _)) (.inr HNE.out), C4.out.set2 (hullV y x), HNE.out, (B3.out.setCell (Nat.le_refl _) _).setCell (Nat.le_refl _) _⟩
                  case measure => simp [intOf]; omega
              · rw [show decide (tch y x) = false from decide_eq_false ht]
                have HR := Lib.hid (HKP.out ht)
                clear ht
                go_wp2_with (at_builtin; refine wpList_app _ rfl _ _ rfl wo.heap.size (w2.heap.size + 1) _ _ l [(y.1, y.2)] rfl rfl (O2.out.alloc _) (IsL.litH w2 w2.heap.size y.1 y.2 HFY.out.1 HFY.out.2 rfl) ?c1 ?c2 ?_)
                case c1 => have := HRI.out.len; simp; omega
                case c2 => have := B2.out.size; simp; omega
                intro v4 w4 hown4 hg4 hv4
                have O4 := Lib.hid hown4
                have C4 := Lib.hid ((C2.out.alloc (.cells #[.int .i64 y.1, .int .i64 y.2] 23)).grown hg4 HNE.out.symm)
                have B4 := Lib.hid ((O2.out.alloc (.cells #[.int .i64 y.1, .int .i64 y.2] 23)).grow' (B2.out.alloc B2.out.size _) (by have := B2.out.size; simp; omega) hg4)
                have N4 := Lib.hid (show v4.ownBlock ≠ some wo.heap.size from fun e => by
                  rcases hv4 with h | h
                  · exact HNE.out (h.symm.trans e)
                  · rw [e] at h
                    have := Option.some.inj h
                    (try simp at this)
                    omega)
                clear hown4 hg4 hv4
                go_wp2
                go_roundw
                case rel => exact ⟨j + 1, l ++ [y], x, by omega, num_i (by omega), HR.out, O4.out, C4.out, N4.out, B4.out⟩
                case measure => simp [intOf]; omega
          · obtain rfl : j = o.length := by omega
            have c0 := hcell.c0
            have c1 := hcell.c1
            have HXL := Lib.hid hcell.lt
            have HFX2 := Lib.hid hri.xfit
            have hll : l.length ≤ 1000 := by have := hri.len; omega
            have i3 : (l.length : Int) ≤ 1000 := by omega
            obtain ⟨⟨Al, capl, rfl, hcapl, hAl⟩, hfl, _⟩ := hown.isL (by omega)
            have HAL := Lib.hid hAl
            have HFL := Lib.hid hfl
            have HDN := Lib.hid (fun (k' : Nat) (h1 : k' ≤ l.length) (h2 : ∀ i, i < k' → (l.getD i (0, 0)).1 < x.1) (h3 : k' < l.length → ¬ (l.getD k' (0, 0)).1 < x.1) => hri.done k' h1 h2 h3 HJ.out)
            clear hown hri hcell hne hbel hAl hfl
            go_wp2
            go_loopw [8] (fun q wr => ∃ (k' d : Nat), k' ≤ l.length ∧ q = .int .i64 (k' : Int) ∧ (∀ i, i < k' → (l.getD i (0, 0)).1 < x.1) ∧ wr = wi.drewN d) (fun q _ => l.length - (intOf q).toNat)
            case atStart => exact ⟨0, 0, Nat.zero_le _, rfl, fun i hi => absurd hi (by omega), rfl⟩
            case round =>
              obtain ⟨k', d, hk', rfl, hlow, rfl⟩ := hrel
              have HLW := Lib.hid hlow
              clear hlow
              by_cases hk2 : k' < l.length
              · obtain ⟨b3, off3, rfl, hbB3, hcells3⟩ := HAL.out (by omega)
                have hy1 := (hcells3 k' hk2).1
                have hd0 : decide (k' < l.length) = true := by simpa using hk2
                have HC3 := Lib.hid hcells3
                have HLN := Lib.hid (fun (h : (l.getD k' (0, 0)).1 < x.1) (i : Nat) (hi : i < k' + 1) => show (l.getD i (0, 0)).1 < x.1 by
                  rcases Nat.lt_or_ge i k' with h2 | h2
                  · exact HLW.out i h2
                  · obtain rfl : i = k' := by omega
                    exact h)
                have HDN2 := Lib.hid (fun h => HDN.out k' hk' HLW.out (fun _ => h))
                clear hcells3
                generalize l.getD k' (0, 0) = y at *
                by_cases hyx : y.1 < x.1
                · have hd1 : decide (y.1 < x.1) = true := by simpa using hyx
                  have HLN2 := Lib.hid (HLN.out hyx)
                  clear hyx
                  go_wp2
                  go_quiet (fail)
                  go_wp2
                  go_roundw
                  case rel => exact ⟨k' + 1, d + nq, by omega, num_i (by omega), HLN2.out, rfl⟩
                  case measure => simp [intOf]; omega
                · have hd1 : decide (y.1 < x.1) = false := by simpa using hyx
                  have HDN3 := Lib.hid (HDN2.out (by omega))
                  clear hyx
                  go_wp2
                  go_quiet (fail)
                  go_wp2
                  obtain ⟨wq, hwq⟩ : ∃ wq, wq = (wi.drewN d).drewN nq := ⟨_, rfl⟩
                  rw [← hwq]
                  have e0 : wq.cell? ⟨wo.heap.size, 0, none⟩ = some (.int .i64 x.1) := by rw [hwq]; exact c0
                  have e1 : wq.cell? ⟨wo.heap.size, 1, none⟩ = some (.int .i64 x.2) := by rw [hwq]; exact c1
                  have HBQ := Lib.hid (show Below wo.heap.size wo wq by rw [hwq]; exact below_drewN (below_drewN HBL.out _) _)
                  have HXB := Lib.hid (show wo.heap.size < wq.heap.size by rw [hwq]; exact HXL.out)

                  have HTQ := Lib.hid (show IsL wq wq.heap.size (.slice (some ⟨b3, off3, none⟩) k' capl) (l.take k') by rw [hwq]; exact ((IsL.takeLit (cap := capl) hbB3 HC3.out HFL.out k' hk' (by omega) (by omega)).drewN d).drewN nq)
                  have HDQ := Lib.hid (show IsL wq wq.heap.size (.slice (some ⟨b3, off3 + k' * 2, none⟩) (l.length - k') (capl - k')) (l.drop k') by rw [hwq]; exact ((IsL.dropIf (cap := capl) hbB3 HC3.out HFL.out k' hk' hcapl (by omega) ⟨b3, off3 + k' * 2, none⟩ (fun _ => rfl)).drewN d).drewN nq)
                  have j1 : (0 : Int) ≤ (k' : Int) := by omega
                  have j2 : (k' : Int) ≤ (l.length : Int) := by omega
                  have j3 : (k' : Int) ≤ (capl : Int) := by omega
                  have j4 : ¬ capl = k' := by omega
                  have HLL := Lib.hid (show (l.take k').length = k' ∧ (l.drop k').length = l.length - k' ∧ l.length ≤ 1000 ∧ k' < l.length from ⟨by rw [List.length_take]; omega, List.length_drop, hll, hk2⟩)
                  clear hwq c0 c1 hy1 hk2

                  have mA := Lib.hid (made_A wq)
                  have mB := Lib.hid (made_B wq x)
                  have mC := Lib.hid (made_C wq x)
                  go_region_held3 (fun w' => w'.cell? ⟨wo.heap.size, 0, none⟩ = some (.int .i64 x.1) ∧ w'.cell? ⟨wo.heap.size, 1, none⟩ = some (.int .i64 x.2)) (first | exact ⟨e0, e1⟩ | go_keep | exact hkx3 (by assumption) | exact hkx2 (by assumption) | exact hkx2 (by go_keep) | exact hkx (by assumption) | exact hkx (by go_keep))
                    (first
                      | (refine step_app (by rfl) (.tmp 81) (.tmp 84) (by rfl) wq.heap.size _ _ _ [] (l.take k') (by rfl) (by rfl) mA.out.own (HTQ.out.below mA.out.below) (by have := HLL.out; simp <;> omega) mA.out.size ?_; intro v1 W2 hown1 hg1; have hb1 := Own.grow' mA.out.own mA.out.below mA.out.size hg1; have hs1 := Nat.le_trans mA.out.size hg1.size; have hkx := keepX (a := .int .i64 x.1) (b := .int .i64 x.2) mA.out.own hg1 HXB.out)
                      | (refine step_app (by rfl) (.tmp 81) (.tmp 84) (by rfl) wq.heap.size _ _ _ [] (l.take k') (by rfl) (by rfl) mB.out.own (HTQ.out.below mB.out.below) (by have := HLL.out; simp <;> omega) mB.out.size ?_; intro v1 W2 hown1 hg1; have hb1 := Own.grow' mB.out.own mB.out.below mB.out.size hg1; have hs1 := Nat.le_trans mB.out.size hg1.size; have hkx := keepX (a := .int .i64 x.1) (b := .int .i64 x.2) mB.out.own hg1 HXB.out)
                      | (refine step_app (by rfl) (.tmp 81) (.tmp 84) (by rfl) wq.heap.size _ _ _ [] (l.take k') (by rfl) (by rfl) mC.out.own (HTQ.out.below mC.out.below) (by have := HLL.out; simp <;> omega) mC.out.size ?_; intro v1 W2 hown1 hg1; have hb1 := Own.grow' mC.out.own mC.out.below mC.out.size hg1; have hs1 := Nat.le_trans mC.out.size hg1.size; have hkx := keepX (a := .int .i64 x.1) (b := .int .i64 x.2) mC.out.own hg1 HXB.out)
                      | (refine step_app (by rfl) (.tmp 85) (.tmp 87) (by rfl) wq.heap.size _ v1 _ _ [x] (by rfl) (by rfl) (hown1.alloc (.cells #[.int .i64 x.1, .int .i64 x.2] 23)) (IsL.one HFX2.out one_A) (by have := HLL.out; simp <;> omega) (show wq.heap.size ≤ (W2.alloc (.cells #[.int .i64 x.1, .int .i64 x.2] 23)).heap.size from Nat.le_trans hs1 (by simp)) ?_; intro v2 W4 hown2 hg2; have hb2 := Own.grow' (hown1.alloc (.cells #[.int .i64 x.1, .int .i64 x.2] 23)) (hb1.alloc hs1 (.cells #[.int .i64 x.1, .int .i64 x.2] 23)) (show wq.heap.size ≤ (W2.alloc (.cells #[.int .i64 x.1, .int .i64 x.2] 23)).heap.size from Nat.le_trans hs1 (by simp)) hg2; have hs2 := hb2.size; have hkx2 := keepX (a := .int .i64 x.1) (b := .int .i64 x.2) (hown1.alloc (.cells #[.int .i64 x.1, .int .i64 x.2] 23)) hg2 HXB.out)
                      | (refine step_app (by rfl) (.tmp 85) (.tmp 87) (by rfl) wq.heap.size _ v1 _ _ [x] (by rfl) (by rfl) hown1 (IsL.one HFX2.out (one_B hg1)) (by have := HLL.out; simp <;> omega) hs1 ?_; intro v2 W4 hown2 hg2; have hb2 := Own.grow' hown1 hb1 hs1 hg2; have hs2 := hb2.size; have hkx2 := keepX (a := .int .i64 x.1) (b := .int .i64 x.2) hown1 hg2 HXB.out)
                      | (refine step_app (by rfl) (.tmp 85) (.tmp 87) (by rfl) wq.heap.size _ v1 _ _ [x] (by rfl) (by rfl) hown1 (IsL.one HFX2.out (one_C hg1)) (by have := HLL.out; simp <;> omega) hs1 ?_; intro v2 W4 hown2 hg2; have hb2 := Own.grow' hown1 hb1 hs1 hg2; have hs2 := hb2.size; have hkx2 := keepX (a := .int .i64 x.1) (b := .int .i64 x.2) hown1 hg2 HXB.out)
                      | (refine step_app (by rfl) (.tmp 88) (.tmp 91) (by rfl) wq.heap.size _ v2 _ _ (l.drop k') (by rfl) (by rfl) hown2 (HDQ.out.below hb2) (by have := HLL.out; simp <;> omega) hs2 ?_; intro v3 W5 hown3 hg3; have hb3 := Own.grow' hown2 hb2 hs2 hg3; have hkx3 := keepX (a := .int .i64 x.1) (b := .int .i64 x.2) hown2 hg3 HXB.out))
                  all_goals
                    have O5 := Lib.hid (hown3.mono (show w.heap.size ≤ wq.heap.size from Nat.le_trans HB.out.size HBQ.out.size))
                    have B5 := Lib.hid (Below.call (Below.call HB.out HBQ.out) hb3)
                    clear hown1 hown2 hown3 hb1 hb2 hb3 hg1 hg2 hg3
                    go_wp2
                    go_roundw
                    case rel => exact ⟨k + 1, _, by omega, num_i (by omega), by rw [HTK.out]; exact HDN3.out.1, by simpa using O5.out, B5.out⟩
                    case measure => simp [intOf]; omega
              · obtain rfl : k' = l.length := by omega
                have HDN3 := Lib.hid (HDN.out l.length (Nat.le_refl _) HLW.out (fun h => absurd h (Nat.lt_irrefl _)))
                rw [List.take_length, List.drop_length, List.append_nil] at HDN3
                have HISL := Lib.hid (show IsL wi wi.heap.size (.slice Al l.length capl) l from ⟨⟨Al, capl, rfl, hcapl, HAL.out⟩, HFL.out, by omega⟩)
                have j1 : (0 : Int) ≤ (l.length : Int) := by omega
                have j3 : (l.length : Int) ≤ (capl : Int) := by omega
                rcases Al with _ | ad
                · have hl0 : l = [] := by
                    rcases Nat.eq_zero_or_pos l.length with h | h
                    · exact List.eq_nil_of_length_eq_zero h
                    · obtain ⟨_, _, e, _⟩ := HAL.out h
                      cases e
                  subst hl0
                  go_wp2
                  go_quiet (fail)
                  go_wp2
                  obtain ⟨wq, hwq⟩ : ∃ wq, wq = (wi.drewN d).drewN nq := ⟨_, rfl⟩
                  rw [← hwq]
                  have e0 : wq.cell? ⟨wo.heap.size, 0, none⟩ = some (.int .i64 x.1) := by rw [hwq]; exact c0
                  have e1 : wq.cell? ⟨wo.heap.size, 1, none⟩ = some (.int .i64 x.2) := by rw [hwq]; exact c1
                  have HBQ := Lib.hid (show Below wo.heap.size wo wq by rw [hwq]; exact below_drewN (below_drewN HBL.out _) _)
                  have HXB := Lib.hid (show wo.heap.size < wq.heap.size by rw [hwq]; exact HXL.out)

                  have HLL := Lib.hid (show (0 : Nat) ≤ 1000 from by omega)
                  clear hwq c0 c1
                  have mA := Lib.hid (made_A wq)
                  have mB := Lib.hid (made_B wq x)
                  have mC := Lib.hid (made_C wq x)
                  go_region_held3 (fun w' => w'.cell? ⟨wo.heap.size, 0, none⟩ = some (.int .i64 x.1) ∧ w'.cell? ⟨wo.heap.size, 1, none⟩ = some (.int .i64 x.2)) (first | exact ⟨e0, e1⟩ | go_keep | exact hkx3 (by assumption) | exact hkx2 (by assumption) | exact hkx2 (by go_keep) | exact hkx (by assumption) | exact hkx (by go_keep))
                    (first
                      | (refine step_app (by rfl) (.tmp 81) (.tmp 84) (by rfl) wq.heap.size _ _ _ [] ([] : List (Int × Int)) (by rfl) (by rfl) mA.out.own ((IsL.nil wq wq.heap.size _ _).below mA.out.below) (by have := HLL.out; simp <;> omega) mA.out.size ?_; intro v1 W2 hown1 hg1; have hb1 := Own.grow' mA.out.own mA.out.below mA.out.size hg1; have hs1 := Nat.le_trans mA.out.size hg1.size; have hkx := keepX (a := .int .i64 x.1) (b := .int .i64 x.2) mA.out.own hg1 HXB.out)
                      | (refine step_app (by rfl) (.tmp 81) (.tmp 84) (by rfl) wq.heap.size _ _ _ [] ([] : List (Int × Int)) (by rfl) (by rfl) mB.out.own ((IsL.nil wq wq.heap.size _ _).below mB.out.below) (by have := HLL.out; simp <;> omega) mB.out.size ?_; intro v1 W2 hown1 hg1; have hb1 := Own.grow' mB.out.own mB.out.below mB.out.size hg1; have hs1 := Nat.le_trans mB.out.size hg1.size; have hkx := keepX (a := .int .i64 x.1) (b := .int .i64 x.2) mB.out.own hg1 HXB.out)
                      | (refine step_app (by rfl) (.tmp 81) (.tmp 84) (by rfl) wq.heap.size _ _ _ [] ([] : List (Int × Int)) (by rfl) (by rfl) mC.out.own ((IsL.nil wq wq.heap.size _ _).below mC.out.below) (by have := HLL.out; simp <;> omega) mC.out.size ?_; intro v1 W2 hown1 hg1; have hb1 := Own.grow' mC.out.own mC.out.below mC.out.size hg1; have hs1 := Nat.le_trans mC.out.size hg1.size; have hkx := keepX (a := .int .i64 x.1) (b := .int .i64 x.2) mC.out.own hg1 HXB.out)
                      | (refine step_app (by rfl) (.tmp 85) (.tmp 87) (by rfl) wq.heap.size _ v1 _ _ [x] (by rfl) (by rfl) (hown1.alloc (.cells #[.int .i64 x.1, .int .i64 x.2] 23)) (IsL.one HFX2.out one_A) (by have := HLL.out; simp <;> omega) (show wq.heap.size ≤ (W2.alloc (.cells #[.int .i64 x.1, .int .i64 x.2] 23)).heap.size from Nat.le_trans hs1 (by simp)) ?_; intro v2 W4 hown2 hg2; have hb2 := Own.grow' (hown1.alloc (.cells #[.int .i64 x.1, .int .i64 x.2] 23)) (hb1.alloc hs1 (.cells #[.int .i64 x.1, .int .i64 x.2] 23)) (show wq.heap.size ≤ (W2.alloc (.cells #[.int .i64 x.1, .int .i64 x.2] 23)).heap.size from Nat.le_trans hs1 (by simp)) hg2; have hs2 := hb2.size; have hkx2 := keepX (a := .int .i64 x.1) (b := .int .i64 x.2) (hown1.alloc (.cells #[.int .i64 x.1, .int .i64 x.2] 23)) hg2 HXB.out)
                      | (refine step_app (by rfl) (.tmp 85) (.tmp 87) (by rfl) wq.heap.size _ v1 _ _ [x] (by rfl) (by rfl) hown1 (IsL.one HFX2.out (one_B hg1)) (by have := HLL.out; simp <;> omega) hs1 ?_; intro v2 W4 hown2 hg2; have hb2 := Own.grow' hown1 hb1 hs1 hg2; have hs2 := hb2.size; have hkx2 := keepX (a := .int .i64 x.1) (b := .int .i64 x.2) hown1 hg2 HXB.out)
                      | (refine step_app (by rfl) (.tmp 85) (.tmp 87) (by rfl) wq.heap.size _ v1 _ _ [x] (by rfl) (by rfl) hown1 (IsL.one HFX2.out (one_C hg1)) (by have := HLL.out; simp <;> omega) hs1 ?_; intro v2 W4 hown2 hg2; have hb2 := Own.grow' hown1 hb1 hs1 hg2; have hs2 := hb2.size; have hkx2 := keepX (a := .int .i64 x.1) (b := .int .i64 x.2) hown1 hg2 HXB.out)
                      | (refine step_app (by rfl) (.tmp 88) (.tmp 91) (by rfl) wq.heap.size _ v2 _ _ ([] : List (Int × Int)) (by rfl) (by rfl) hown2 ((IsL.nil wq wq.heap.size _ _).below hb2) (by have := HLL.out; simp <;> omega) hs2 ?_; intro v3 W5 hown3 hg3; have hb3 := Own.grow' hown2 hb2 hs2 hg3; have hkx3 := keepX (a := .int .i64 x.1) (b := .int .i64 x.2) hown2 hg3 HXB.out))
                  all_goals
                    have O5 := Lib.hid (hown3.mono (show w.heap.size ≤ wq.heap.size from Nat.le_trans HB.out.size HBQ.out.size))
                    have B5 := Lib.hid (Below.call (Below.call HB.out HBQ.out) hb3)
                    clear hown1 hown2 hown3 hb1 hb2 hb3 hg1 hg2 hg3
                    go_wp2
                    go_roundw
                    case rel => exact ⟨k + 1, [] ++ [x], by omega, num_i (by omega), by rw [HTK.out]; exact HDN3.out.1, by simpa using O5.out, B5.out⟩
                    case measure => simp [intOf]; omega
                · have hd0 : decide (l.length < l.length) = false := by simp
                  by_cases hcl : capl = l.length
                  · subst hcl
                    go_wp2
                    go_quiet (fail)
                    go_wp2
                    obtain ⟨wq, hwq⟩ : ∃ wq, wq = (wi.drewN d).drewN nq := ⟨_, rfl⟩
                    rw [← hwq]
                    have e0 : wq.cell? ⟨wo.heap.size, 0, none⟩ = some (.int .i64 x.1) := by rw [hwq]; exact c0
                    have e1 : wq.cell? ⟨wo.heap.size, 1, none⟩ = some (.int .i64 x.2) := by rw [hwq]; exact c1
                    have HBQ := Lib.hid (show Below wo.heap.size wo wq by rw [hwq]; exact below_drewN (below_drewN HBL.out _) _)
                    have HXB := Lib.hid (show wo.heap.size < wq.heap.size by rw [hwq]; exact HXL.out)

                    have HTQ := Lib.hid (show IsL wq wq.heap.size (.slice (some ad) l.length l.length) l by rw [hwq]; exact HISL.out)
                    have HLL := Lib.hid (show l.length ≤ 1000 from hll)
                    clear hwq c0 c1
                    have mA := Lib.hid (made_A wq)
                    have mB := Lib.hid (made_B wq x)
                    have mC := Lib.hid (made_C wq x)
                    go_region_held3 (fun w' => w'.cell? ⟨wo.heap.size, 0, none⟩ = some (.int .i64 x.1) ∧ w'.cell? ⟨wo.heap.size, 1, none⟩ = some (.int .i64 x.2)) (first | exact ⟨e0, e1⟩ | go_keep | exact hkx3 (by assumption) | exact hkx2 (by assumption) | exact hkx2 (by go_keep) | exact hkx (by assumption) | exact hkx (by go_keep))
                      (first
                        | (refine step_app (by rfl) (.tmp 81) (.tmp 84) (by rfl) wq.heap.size _ _ _ [] (l) (by rfl) (by rfl) mA.out.own (HTQ.out.below mA.out.below) (by have := HLL.out; simp <;> omega) mA.out.size ?_; intro v1 W2 hown1 hg1; have hb1 := Own.grow' mA.out.own mA.out.below mA.out.size hg1; have hs1 := Nat.le_trans mA.out.size hg1.size; have hkx := keepX (a := .int .i64 x.1) (b := .int .i64 x.2) mA.out.own hg1 HXB.out)
                        | (refine step_app (by rfl) (.tmp 81) (.tmp 84) (by rfl) wq.heap.size _ _ _ [] (l) (by rfl) (by rfl) mB.out.own (HTQ.out.below mB.out.below) (by have := HLL.out; simp <;> omega) mB.out.size ?_; intro v1 W2 hown1 hg1; have hb1 := Own.grow' mB.out.own mB.out.below mB.out.size hg1; have hs1 := Nat.le_trans mB.out.size hg1.size; have hkx := keepX (a := .int .i64 x.1) (b := .int .i64 x.2) mB.out.own hg1 HXB.out)
                        | (refine step_app (by rfl) (.tmp 81) (.tmp 84) (by rfl) wq.heap.size _ _ _ [] (l) (by rfl) (by rfl) mC.out.own (HTQ.out.below mC.out.below) (by have := HLL.out; simp <;> omega) mC.out.size ?_; intro v1 W2 hown1 hg1; have hb1 := Own.grow' mC.out.own mC.out.below mC.out.size hg1; have hs1 := Nat.le_trans mC.out.size hg1.size; have hkx := keepX (a := .int .i64 x.1) (b := .int .i64 x.2) mC.out.own hg1 HXB.out)
                        | (refine step_app (by rfl) (.tmp 85) (.tmp 87) (by rfl) wq.heap.size _ v1 _ _ [x] (by rfl) (by rfl) (hown1.alloc (.cells #[.int .i64 x.1, .int .i64 x.2] 23)) (IsL.one HFX2.out one_A) (by have := HLL.out; simp <;> omega) (show wq.heap.size ≤ (W2.alloc (.cells #[.int .i64 x.1, .int .i64 x.2] 23)).heap.size from Nat.le_trans hs1 (by simp)) ?_; intro v2 W4 hown2 hg2; have hb2 := Own.grow' (hown1.alloc (.cells #[.int .i64 x.1, .int .i64 x.2] 23)) (hb1.alloc hs1 (.cells #[.int .i64 x.1, .int .i64 x.2] 23)) (show wq.heap.size ≤ (W2.alloc (.cells #[.int .i64 x.1, .int .i64 x.2] 23)).heap.size from Nat.le_trans hs1 (by simp)) hg2; have hs2 := hb2.size; have hkx2 := keepX (a := .int .i64 x.1) (b := .int .i64 x.2) (hown1.alloc (.cells #[.int .i64 x.1, .int .i64 x.2] 23)) hg2 HXB.out)
                        | (refine step_app (by rfl) (.tmp 85) (.tmp 87) (by rfl) wq.heap.size _ v1 _ _ [x] (by rfl) (by rfl) hown1 (IsL.one HFX2.out (one_B hg1)) (by have := HLL.out; simp <;> omega) hs1 ?_; intro v2 W4 hown2 hg2; have hb2 := Own.grow' hown1 hb1 hs1 hg2; have hs2 := hb2.size; have hkx2 := keepX (a := .int .i64 x.1) (b := .int .i64 x.2) hown1 hg2 HXB.out)
                        | (refine step_app (by rfl) (.tmp 85) (.tmp 87) (by rfl) wq.heap.size _ v1 _ _ [x] (by rfl) (by rfl) hown1 (IsL.one HFX2.out (one_C hg1)) (by have := HLL.out; simp <;> omega) hs1 ?_; intro v2 W4 hown2 hg2; have hb2 := Own.grow' hown1 hb1 hs1 hg2; have hs2 := hb2.size; have hkx2 := keepX (a := .int .i64 x.1) (b := .int .i64 x.2) hown1 hg2 HXB.out)
                        | (refine step_app (by rfl) (.tmp 88) (.tmp 91) (by rfl) wq.heap.size _ v2 _ _ ([] : List (Int × Int)) (by rfl) (by rfl) hown2 ((IsL.nil wq wq.heap.size _ _).below hb2) (by have := HLL.out; simp <;> omega) hs2 ?_; intro v3 W5 hown3 hg3; have hb3 := Own.grow' hown2 hb2 hs2 hg3; have hkx3 := keepX (a := .int .i64 x.1) (b := .int .i64 x.2) hown2 hg3 HXB.out))
                    all_goals
                      have O5 := Lib.hid (hown3.mono (show w.heap.size ≤ wq.heap.size from Nat.le_trans HB.out.size HBQ.out.size))
                      have B5 := Lib.hid (Below.call (Below.call HB.out HBQ.out) hb3)
                      clear hown1 hown2 hown3 hb1 hb2 hb3 hg1 hg2 hg3
                      go_wp2
                      go_roundw
                      case rel => exact ⟨k + 1, l ++ [x], by omega, num_i (by omega), by rw [HTK.out]; exact HDN3.out.1, by simpa using O5.out, B5.out⟩
                      case measure => simp [intOf]; omega
                  · skip
                    go_wp2
                    go_quiet (fail)
                    go_wp2
                    obtain ⟨wq, hwq⟩ : ∃ wq, wq = (wi.drewN d).drewN nq := ⟨_, rfl⟩
                    rw [← hwq]
                    have e0 : wq.cell? ⟨wo.heap.size, 0, none⟩ = some (.int .i64 x.1) := by rw [hwq]; exact c0
                    have e1 : wq.cell? ⟨wo.heap.size, 1, none⟩ = some (.int .i64 x.2) := by rw [hwq]; exact c1
                    have HBQ := Lib.hid (show Below wo.heap.size wo wq by rw [hwq]; exact below_drewN (below_drewN HBL.out _) _)
                    have HXB := Lib.hid (show wo.heap.size < wq.heap.size by rw [hwq]; exact HXL.out)

                    have HTQ := Lib.hid (show IsL wq wq.heap.size (.slice (some ad) l.length capl) l by rw [hwq]; exact HISL.out)
                    have HLL := Lib.hid (show l.length ≤ 1000 from hll)
                    clear hwq c0 c1
                    have mA := Lib.hid (made_A wq)
                    have mB := Lib.hid (made_B wq x)
                    have mC := Lib.hid (made_C wq x)
                    go_region_held3 (fun w' => w'.cell? ⟨wo.heap.size, 0, none⟩ = some (.int .i64 x.1) ∧ w'.cell? ⟨wo.heap.size, 1, none⟩ = some (.int .i64 x.2)) (first | exact ⟨e0, e1⟩ | go_keep | exact hkx3 (by assumption) | exact hkx2 (by assumption) | exact hkx2 (by go_keep) | exact hkx (by assumption) | exact hkx (by go_keep))
                      (first
                        | (refine step_app (by rfl) (.tmp 81) (.tmp 84) (by rfl) wq.heap.size _ _ _ [] (l) (by rfl) (by rfl) mA.out.own (HTQ.out.below mA.out.below) (by have := HLL.out; simp <;> omega) mA.out.size ?_; intro v1 W2 hown1 hg1; have hb1 := Own.grow' mA.out.own mA.out.below mA.out.size hg1; have hs1 := Nat.le_trans mA.out.size hg1.size; have hkx := keepX (a := .int .i64 x.1) (b := .int .i64 x.2) mA.out.own hg1 HXB.out)
                        | (refine step_app (by rfl) (.tmp 81) (.tmp 84) (by rfl) wq.heap.size _ _ _ [] (l) (by rfl) (by rfl) mB.out.own (HTQ.out.below mB.out.below) (by have := HLL.out; simp <;> omega) mB.out.size ?_; intro v1 W2 hown1 hg1; have hb1 := Own.grow' mB.out.own mB.out.below mB.out.size hg1; have hs1 := Nat.le_trans mB.out.size hg1.size; have hkx := keepX (a := .int .i64 x.1) (b := .int .i64 x.2) mB.out.own hg1 HXB.out)
                        | (refine step_app (by rfl) (.tmp 81) (.tmp 84) (by rfl) wq.heap.size _ _ _ [] (l) (by rfl) (by rfl) mC.out.own (HTQ.out.below mC.out.below) (by have := HLL.out; simp <;> omega) mC.out.size ?_; intro v1 W2 hown1 hg1; have hb1 := Own.grow' mC.out.own mC.out.below mC.out.size hg1; have hs1 := Nat.le_trans mC.out.size hg1.size; have hkx := keepX (a := .int .i64 x.1) (b := .int .i64 x.2) mC.out.own hg1 HXB.out)
                        | (refine step_app (by rfl) (.tmp 85) (.tmp 87) (by rfl) wq.heap.size _ v1 _ _ [x] (by rfl) (by rfl) (hown1.alloc (.cells #[.int .i64 x.1, .int .i64 x.2] 23)) (IsL.one HFX2.out one_A) (by have := HLL.out; simp <;> omega) (show wq.heap.size ≤ (W2.alloc (.cells #[.int .i64 x.1, .int .i64 x.2] 23)).heap.size from Nat.le_trans hs1 (by simp)) ?_; intro v2 W4 hown2 hg2; have hb2 := Own.grow' (hown1.alloc (.cells #[.int .i64 x.1, .int .i64 x.2] 23)) (hb1.alloc hs1 (.cells #[.int .i64 x.1, .int .i64 x.2] 23)) (show wq.heap.size ≤ (W2.alloc (.cells #[.int .i64 x.1, .int .i64 x.2] 23)).heap.size from Nat.le_trans hs1 (by simp)) hg2; have hs2 := hb2.size; have hkx2 := keepX (a := .int .i64 x.1) (b := .int .i64 x.2) (hown1.alloc (.cells #[.int .i64 x.1, .int .i64 x.2] 23)) hg2 HXB.out)
                        | (refine step_app (by rfl) (.tmp 85) (.tmp 87) (by rfl) wq.heap.size _ v1 _ _ [x] (by rfl) (by rfl) hown1 (IsL.one HFX2.out (one_B hg1)) (by have := HLL.out; simp <;> omega) hs1 ?_; intro v2 W4 hown2 hg2; have hb2 := Own.grow' hown1 hb1 hs1 hg2; have hs2 := hb2.size; have hkx2 := keepX (a := .int .i64 x.1) (b := .int .i64 x.2) hown1 hg2 HXB.out)
                        | (refine step_app (by rfl) (.tmp 85) (.tmp 87) (by rfl) wq.heap.size _ v1 _ _ [x] (by rfl) (by rfl) hown1 (IsL.one HFX2.out (one_C hg1)) (by have := HLL.out; simp <;> omega) hs1 ?_; intro v2 W4 hown2 hg2; have hb2 := Own.grow' hown1 hb1 hs1 hg2; have hs2 := hb2.size; have hkx2 := keepX (a := .int .i64 x.1) (b := .int .i64 x.2) hown1 hg2 HXB.out)
                        | (refine step_app (by rfl) (.tmp 88) (.tmp 91) (by rfl) wq.heap.size _ v2 _ _ ([] : List (Int × Int)) (by rfl) (by rfl) hown2 ((IsL.nil wq wq.heap.size _ _).below hb2) (by have := HLL.out; simp <;> omega) hs2 ?_; intro v3 W5 hown3 hg3; have hb3 := Own.grow' hown2 hb2 hs2 hg3; have hkx3 := keepX (a := .int .i64 x.1) (b := .int .i64 x.2) hown2 hg3 HXB.out))
                    all_goals
                      have O5 := Lib.hid (hown3.mono (show w.heap.size ≤ wq.heap.size from Nat.le_trans HB.out.size HBQ.out.size))
                      have B5 := Lib.hid (Below.call (Below.call HB.out HBQ.out) hb3)
                      clear hown1 hown2 hown3 hb1 hb2 hb3 hg1 hg2 hg3
                      go_wp2
                      go_roundw
                      case rel => exact ⟨k + 1, l ++ [x], by omega, num_i (by omega), by rw [HTK.out]; exact HDN3.out.1, by simpa using O5.out, B5.out⟩
                      case measure => simp [intOf]; omega
    · obtain rfl : k = xs.length := by omega
      have HD := Lib.hid (show JoinR xs o by have := hj; rw [List.take_length] at this; exact this)
      clear hj hown hbel
      go_wp2
      go_ret
      exact ⟨_, o, rfl, HD.out, HO.out.isL (by omega), HB.out, fun q hq => (HO.out.lt q hq).1⟩
end Go.Proofs.Ytchnljdijmgnfaa
