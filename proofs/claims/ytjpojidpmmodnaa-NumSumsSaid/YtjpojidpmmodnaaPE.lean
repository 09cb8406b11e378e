/- The law on the sum of any numbers, in any order. -/
import Derived.Test.YtjpojidpmmodnaaPD
import Derived.Test.YtjpojidpmmodnaaNH
namespace Go.Proofs.Ytjpojidpmmodnaa
open Go.RowKit

theorem sumL_rev (l : List Int) : sumL l.reverse = sumL l := by
  induction l with
  | nil => rfl
  | cons x r ih => rw [List.reverse_cons, sumL_snoc, sumL_cons, ih]; omega
theorem drop_getD (l : List Int) (j : Nat) (h : j < l.length) : l.drop j = l.getD j 0 :: l.drop (j + 1) := by
  rw [List.drop_eq_getElem_cons h, List.getD_eq_getElem?_getD, List.getElem?_eq_getElem h]
  rfl
set_option maxHeartbeats 2000000 in
theorem numSums_walk (v : Value) (xs : List Int) {w : World} (h : IsL w w.heap.size v xs) : Calls Try.prog 4 #[v] w fun e w' => e = .returned (.bool true) ∧ Below w.heap.size w w' := by
  have HV := Lib.hid h
  obtain ⟨⟨A, cap, rfl, hcap, hA⟩, hfit, hlen⟩ := h
  by_cases h1000 : xs.length ≤ 1000
  · obtain ⟨B, hB⟩ : ∃ B, B = w.heap.size := ⟨_, rfl⟩
    rw [← hB] at hA ⊢
    have HA := Lib.hid hA
    have HF := Lib.hid hfit
    have HB := Lib.hid hB
    have HBw := Lib.hid (Nat.le_of_eq hB)
    clear hA hfit hB
    go_enter Try.func4, Try.ntmps4
    go_wp2
    go_loopw [3, 4] (fun t i wr => ∃ m : Nat, m ≤ xs.length ∧ i = .int .i64 ((m : Int) - 1) ∧ Own wr B t (xs.drop m).reverse ∧ Below B w wr) (fun _ i _ => (intOf i + 1).toNat)
    case atStart => exact ⟨xs.length, Nat.le_refl _, num_i (by omega), by simp; exact Own.nil _ _, Below.refl _ _⟩
    case round =>
      obtain ⟨m, hm, rfl, how, hbel⟩ := hrel
      have HO := Lib.hid how
      have HL := Lib.hid hbel
      have hszw : B ≤ wr.heap.size := Nat.le_trans HBw.out hbel.size
      have HSZ := Lib.hid hszw
      by_cases hlt : 0 < m
      · obtain ⟨j, rfl⟩ : ∃ j, m = j + 1 := ⟨m - 1, by omega⟩
        obtain ⟨b, off, rfl, hbB, hcell⟩ := HA.out (by omega)
        have hx := hcell j (by omega)
        rw [← hbel.cell (p := ⟨b, off + j, none⟩) hbB] at hx
        have hfx := getD_fits HF.out j
        have HDR := Lib.hid (drop_getD xs j (by omega))
        generalize xs.getD j 0 = x at *
        have HFX := Lib.hid hfx
        have hjl : j < xs.length := by omega
        clear how hbel hszw hfx hcell
        rw [show (((j + 1 : Nat) : Int) - 1) = (j : Int) by omega]
        go_wp2_with (at_builtin; refine wpList_app _ rfl _ _ rfl B (wr.heap.size + 1) _ _ (xs.drop (j + 1)).reverse [x] rfl rfl (HO.out.alloc _) (IsL.lit wr x HFX.out) ?c1 ?c2 ?_)
        case c1 => simp; omega
        case c2 => have := HSZ.out; simp; omega
        intro d' w1 hown' hgrow hat
        have hb1 := Own.grow (HO.out.alloc (.cells #[.int .i64 x] 3)) (HL.out.alloc HSZ.out _) (by have := HSZ.out; simp; omega) hgrow
        have H1 := Lib.hid hown'
        have H4 := Lib.hid hb1
        clear hown' hb1 hgrow hat
        go_wp2
        go_roundw
        case rel => exact ⟨j, by omega, num_i (by omega), by rw [HDR.out, List.reverse_cons]; exact H1.out, H4.out⟩
        case measure => simp [intOf]
      · obtain rfl : m = 0 := by omega
        rw [List.drop_zero] at how
        have hit := how.isL (by simp; omega)
        have HIT := Lib.hid hit
        have hvw := (HV.out.below (HB.out ▸ hbel)).more (show w.heap.size ≤ wr.heap.size from hbel.size)
        have HVW := Lib.hid hvw
        clear how hbel hszw hit hvw
        go_wp2_with fail
        refine (sum_any _ xs _ HVW.out).mono ?_
        rintro e w1 ⟨rfl, hb1⟩
        have HB1 := Lib.hid (HL.out.trans (hb1.mono HSZ.out))
        have HIT1 := Lib.hid ((HIT.out.below hb1).more hb1.size)
        have HVW1 := Lib.hid ((HVW.out.below hb1).more hb1.size)
        have HS1 := Lib.hid (Nat.le_trans HSZ.out hb1.size)
        clear hb1 HIT HVW
        go_wp2_with fail
        refine (sum_any _ xs.reverse _ HIT1.out).mono ?_
        rintro e w2 ⟨rfl, hb2⟩
        have HB2 := Lib.hid (HB1.out.trans (hb2.mono HS1.out))
        have HVW2 := Lib.hid ((HVW1.out.below hb2).more hb2.size)
        have HS2 := Lib.hid (Nat.le_trans HS1.out hb2.size)
        clear hb2 HIT1 HVW1
        rw [sumL_rev]
        go_wp2_with fail
        refine (rsum_any _ xs _ HVW2.out (by omega)).mono ?_
        rintro e w3 ⟨rfl, hb3⟩
        have HB3 := Lib.hid (HB2.out.trans (hb3.mono HS2.out))
        have HS3 := Lib.hid (Nat.le_trans HS2.out hb3.size)
        clear hb3
        go_wp2_with fail
        refine (lives3 _).mono ?_
        rintro e w4 ⟨rfl, hb4⟩
        have HB4 := Lib.hid (HB3.out.trans (hb4.mono HS3.out))
        clear hb4
        go_wp2
        go_ret
        exact ⟨ret_b (by simp), HB4.out⟩
  · clear hA hfit
    go_enter Try.func4, Try.ntmps4
    go_wp2_with fail
    refine (lives3 _).mono ?_
    rintro e w4 ⟨rfl, hb4⟩
    have HB4 := Lib.hid hb4
    clear hb4
    go_wp2
    go_ret
    exact ⟨rfl, HB4.out⟩
end Go.Proofs.Ytjpojidpmmodnaa
