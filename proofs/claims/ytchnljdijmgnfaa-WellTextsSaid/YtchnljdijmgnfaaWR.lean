/- The law on texts. -/
import Derived.Test.YtchnljdijmgnfaaWN
import Derived.Test.YtchnljdijmgnfaaWP
import Derived.Test.YtchnljdijmgnfaaWQ
import Derived.Test.YtchnljdijmgnfaaQS
namespace Go.Proofs.Ytchnljdijmgnfaa
open Go.RowKit
set_option maxRecDepth 100000 in
set_option maxHeartbeats 4000000 in
theorem wellTexts_walk (v : Value) (xs : List (Int × Int)) (w : World) (h : IsL w w.heap.size v xs) : Calls Try.prog 8 #[v] w fun e w' => e = .returned (.bool true) ∧ Below w.heap.size w w' := by
  have HH := Lib.hid h
  obtain ⟨⟨A, cap, rfl, hcap, hA⟩, hfit, hlen⟩ := h
  have HA := Lib.hid hA
  clear hA hfit
  by_cases hbig : xs.length ≤ 500
  · have hd : decide ((500 : Int) < (xs.length : Int)) = false := by (rw [decide_eq_false_iff_not]; omega)
    have hl5 : (xs.length : Int) ≤ 500 := by omega
    have HT1 := Lib.hid (wtext_any (.slice A xs.length cap) xs w HH.out (by omega))
    go_enter Try.func8, Try.ntmps8
    go_wp2_with fail
    refine HT1.out.mono ?_
    rintro e w1 ⟨rfl, hb1⟩
    have HB1 := Lib.hid hb1
    clear hb1
    go_wp2_with fail
    refine (lives6_any _).mono ?_
    rintro e w2 ⟨rfl, hb2⟩
    have HB2 := Lib.hid (Below.call HB1.out hb2)
    clear hb2
    have HT2 := Lib.hid (rtexts_any (.slice A xs.length cap) xs w2 (HH.out.then HB2.out) (by omega))
    go_wp2_with fail
    refine HT2.out.mono ?_
    rintro e w3 ⟨rfl, hb3⟩
    have HB3 := Lib.hid (Below.call HB2.out hb3)
    clear hb3
    have hsame : (textL xs == textL xs) = true := beq_self_eq_true _
    obtain ⟨T, hT⟩ : ∃ T, T = textL xs := ⟨_, rfl⟩
    rw [← hT] at hsame ⊢
    have HT := Lib.hid hT
    clear hT
    go_wp2
    go_loopw [4] (fun i wr => ∃ k : Nat, k ≤ xs.length ∧ i = .int .i64 (k : Int) ∧ (∀ j, j < k → rightB (xs.getD j (0, 0)) = true) ∧ Below w.heap.size w wr) (fun i _ => xs.length - (intOf i).toNat)
    case atStart => exact ⟨0, Nat.zero_le _, rfl, (fun j hj => absurd hj (Nat.not_lt_zero j)), HB3.out⟩
    case round =>
      obtain ⟨k, hk, rfl, hri, hb⟩ := hrel
      have HRI := Lib.hid hri
      have HB := Lib.hid hb
      clear hri hb
      by_cases hlt : k < xs.length
      · obtain ⟨b, off, rfl, hbb, hcell⟩ := HA.out (by omega)
        have hx1 := (HB.out.cell (p := ⟨b, off + k * 2, none⟩) hbb).trans (hcell k hlt).1
        have hx2 := (HB.out.cell (p := ⟨b, off + k * 2 + 1, none⟩) hbb).trans (hcell k hlt).2
        clear hcell
        have HR := Lib.hid (rright_any (xs.getD k (0, 0)))
        cases hr : rightB (xs.getD k (0, 0))
        · rw [hr] at HR
          have HE := Lib.hid (show T = [] by rw [HT.out, textL, all_not xs k hlt hr]; rfl)
          have hemp : (T == []) = true := by rw [HE.out]; rfl
          clear hr
          generalize xs.getD k (0, 0) = x at *
          go_wp2_with fail
          refine (HR.out _).mono ?_
          rintro e w4 ⟨rfl, hb4⟩
          have HB4 := Lib.hid (Below.call HB.out hb4)
          clear hb4
          have HE2 := HE.out
          subst HE2
          go_wp2
          go_ret
          exact ⟨ret_b rfl, HB4.out⟩
        · rw [hr] at HR
          have HRS : Hid (∀ j, j < k + 1 → rightB (xs.getD j (0, 0)) = true) := Lib.hid (fun j hj => by
            rcases Nat.lt_or_ge j k with q | q
            · exact HRI.out j q
            · obtain rfl : j = k := by omega
              exact hr)
          clear hr
          generalize xs.getD k (0, 0) = x at *
          go_wp2_with fail
          refine (HR.out _).mono ?_
          rintro e w4 ⟨rfl, hb4⟩
          have HB4 := Lib.hid (Below.call HB.out hb4)
          clear hb4
          go_wp2
          go_roundw
          case rel => exact ⟨k + 1, by omega, num_i (by omega), HRS.out, HB4.out⟩
          case measure => simp [intOf]; omega
      · obtain rfl : k = xs.length := by omega
        have hall : xs.all rightB = true := by
          rw [List.all_eq_true]
          intro x hx
          obtain ⟨j, hj, rfl⟩ := List.mem_iff_getElem.1 hx
          have := HRI.out j hj
          rw [show xs.getD j (0, 0) = xs[j] from by simp [List.getD_eq_getElem?_getD, hj]] at this
          exact this
        have HV := Lib.hid (listV_text xs hall)
        have htl : T.length ≤ 4611686018427387904 := by
          rw [HT.out, textL, if_pos hall]
          have := joinN_len xs xs.length
          omega
        have HL := Lib.hid (list_any ⟨T.toArray⟩ T ⟨rfl⟩ htl)
        rw [HT.out, HV.out, ← HT.out] at HL
        clear hall htl
        by_cases hle : xs.length ≤ 384
        · rw [if_pos hle] at HL
          go_wp2_with fail
          refine (HL.out _).mono ?_
          rintro e w4 ⟨v4, rfl, hown, hb4⟩
          have HS4 := Lib.hid (hown.isL (by omega))
          have HB4 := Lib.hid (Below.call HB.out hb4)
          clear hown hb4
          have HSM := Lib.hid (psame_self (.slice A xs.length cap) v4 xs w4 (HH.out.then HB4.out) HS4.out)
          have hd4 : decide ((384 : Int) < (xs.length : Int)) = false := by (rw [decide_eq_false_iff_not]; omega)
          have hl4 : (xs.length : Int) ≤ 384 := by omega
          simp only
          go_wp2_with fail
          refine HSM.out.mono ?_
          rintro e w5 ⟨rfl, hb5⟩
          have HB5 := Lib.hid (Below.call HB4.out hb5)
          clear hb5
          go_wp2
          go_ret
          exact ⟨ret_b rfl, HB5.out⟩
        · rw [if_neg hle] at HL
          go_wp2_with fail
          refine (HL.out _).mono ?_
          rintro e w4 ⟨v4, rfl, hown, hb4⟩
          obtain ⟨⟨A4, cap4, rfl, _, _⟩, _, _⟩ := hown.isL (by simp)
          have HB4 := Lib.hid (Below.call HB.out hb4)
          clear hown hb4
          have hd4 : decide ((384 : Int) < (xs.length : Int)) = true := by (rw [decide_eq_true_eq]; omega)
          have hl4 : (385 : Int) ≤ (xs.length : Int) := by omega
          simp only
          go_wp2
          go_ret
          exact ⟨ret_b rfl, HB4.out⟩
  · have hd : decide ((500 : Int) < (xs.length : Int)) = true := by (rw [decide_eq_true_eq]; omega)
    have hl5 : (501 : Int) ≤ (xs.length : Int) := by omega
    go_enter Try.func8, Try.ntmps8
    go_wp2_with fail
    refine (lives6_any _).mono ?_
    rintro e w2 ⟨rfl, hb2⟩
    have HB2 := Lib.hid hb2
    clear hb2
    go_wp2
    go_ret
    exact ⟨ret_b rfl, HB2.out⟩
end Go.Proofs.Ytchnljdijmgnfaa
