/- The reference's text of places. -/
import Derived.Test.YtchnljdijmgnfaaWI
import Derived.Test.YtchnljdijmgnfaaWJ
namespace Go.Proofs.Ytchnljdijmgnfaa
open Go.RowKit
set_option maxRecDepth 100000 in
set_option maxHeartbeats 4000000 in
theorem rtexts_any (v : Value) (xs : List (Int × Int)) (w : World) (h : IsL w w.heap.size v xs) (hl : xs.length ≤ 1000000) : Calls Try.prog 37 #[v] w fun e w' => e = .returned (.string ⟨(textL xs).toArray⟩) ∧ Below w.heap.size w w' := by
  obtain ⟨⟨A, cap, rfl, hcap, hA⟩, hfit, hlen⟩ := h
  have HA := Lib.hid hA
  have HFIT := Lib.hid hfit
  clear hA hfit
  go_enter Try.func37, Try.ntmps37
  go_wp2
  go_loopw [3, 4] (fun s i wr => ∃ k : Nat, k ≤ xs.length ∧ i = .int .i64 (k : Int) ∧ s = .string ⟨(joinN xs k).toArray⟩ ∧ (∀ j, j < k → rightB (xs.getD j (0, 0)) = true) ∧ Below w.heap.size w wr) (fun _ i _ => xs.length - (intOf i).toNat)
  case atStart => exact ⟨0, Nat.zero_le _, rfl, rfl, (fun j hj => absurd hj (Nat.not_lt_zero j)), Below.refl _ w⟩
  case round =>
    obtain ⟨k, hk, rfl, rfl, hri, hb⟩ := hrel
    have HRI := Lib.hid hri
    have HB := Lib.hid hb
    have HJ := Lib.hid (joinN_len xs k)
    clear hri hb
    by_cases hlt : k < xs.length
    · obtain ⟨b, off, rfl, hbb, hcell⟩ := HA.out (by omega)
      have hx1 := (HB.out.cell (p := ⟨b, off + k * 2, none⟩) hbb).trans (hcell k hlt).1
      have hx2 := (HB.out.cell (p := ⟨b, off + k * 2 + 1, none⟩) hbb).trans (hcell k hlt).2
      have HC1 := Lib.hid (hcell k hlt).1
      have HC2 := Lib.hid (hcell k hlt).2
      have HBB := Lib.hid hbb
      clear hcell
      cases hr : rightB (xs.getD k (0, 0))
      · have HR := Lib.hid (rright_any (xs.getD k (0, 0)))
        rw [hr] at HR
        have HT := Lib.hid (show textL xs = [] by rw [textL, all_not xs k hlt hr]; rfl)
        clear hr
        generalize xs.getD k (0, 0) = x at *
        go_wp2_with fail
        refine (HR.out _).mono ?_
        rintro e w1 ⟨rfl, hb1⟩
        have HB1 := Lib.hid (Below.call HB.out hb1)
        clear hb1
        go_wp2
        go_ret
        exact ⟨by rw [HT.out]; rfl, HB1.out⟩
      · have HR := Lib.hid (rright_any (xs.getD k (0, 0)))
        have HN := Lib.hid (rname_any (xs.getD k (0, 0)))
        have HL := Lib.hid (nameL_len (xs.getD k (0, 0)))
        have hjs : joinN xs (k + 1) = (if k = 0 then [] else joinN xs k ++ [44]) ++ nameL (xs.getD k (0, 0)) := rfl
        have HJS := Lib.hid hjs
        have HRS : Hid (∀ j, j < k + 1 → rightB (xs.getD j (0, 0)) = true) := Lib.hid (fun j hj => by
          rcases Nat.lt_or_ge j k with q | q
          · exact HRI.out j q
          · obtain rfl : j = k := by omega
            exact hr)
        rw [hr] at HR
        clear hr hjs
        generalize xs.getD k (0, 0) = x at *
        have hn23 : (nameL x).length ≤ 23 := HL.out
        generalize nameL x = y at *
        go_wp2_with fail
        refine (HR.out _).mono ?_
        rintro e w1 ⟨rfl, hb1⟩
        have HB1 := Lib.hid (Below.call HB.out hb1)
        have q0 := (HB1.out.cell (p := ⟨b, off + k * 2, none⟩) HBB.out).trans HC1.out
        have q1 := (HB1.out.cell (p := ⟨b, off + k * 2 + 1, none⟩) HBB.out).trans HC2.out
        clear hb1 hx1 hx2
        by_cases hk0 : k = 0
        · subst hk0
          simp only [Nat.zero_mul, Nat.add_zero] at q0 q1
          have hj0 : (joinN xs 0).length ≤ 24000000 := by have := HJ.out; omega
          go_wp2_with fail
          refine (HN.out _).mono ?_
          rintro e w2 ⟨rfl, hb2⟩
          have HB2 := Lib.hid (Below.call HB1.out hb2)
          clear hb2
          go_wp2
          go_roundw
          case rel => exact ⟨1, by omega, num_i (by simp), congrArg Value.string (by rw [HJS.out, cat_text]; simp [joinN]), HRS.out, HB2.out⟩
          case measure => simp [intOf]; omega
        · have hk1 : (0 : Int) < (k : Int) := by omega
          have hsz : (joinN xs k).length ≤ 24000000 := by have := HJ.out; omega
          generalize joinN xs k = z at *
          go_wp2_with fail
          refine (HN.out _).mono ?_
          rintro e w2 ⟨rfl, hb2⟩
          have HB2 := Lib.hid (Below.call HB1.out hb2)
          clear hb2
          go_wp2
          go_roundw
          case rel => exact ⟨k + 1, by omega, num_i (by omega), congrArg Value.string (by rw [HJS.out, if_neg hk0, ← cat_text (z ++ [44]), ← cat_text z [44]]), HRS.out, HB2.out⟩
          case measure => simp [intOf]; omega
    · obtain rfl : k = xs.length := by omega
      have HT := Lib.hid (show textL xs = joinN xs xs.length by
        rw [textL, if_pos]
        rw [List.all_eq_true]
        intro x hx
        obtain ⟨j, hj, rfl⟩ := List.mem_iff_getElem.1 hx
        have := HRI.out j hj
        rw [show xs.getD j (0, 0) = xs[j] from by simp [List.getD_eq_getElem?_getD, hj]] at this
        exact this)
      go_wp2
      go_ret
      exact ⟨by rw [HT.out]; rfl, HB.out⟩
end Go.Proofs.Ytchnljdijmgnfaa
