/- In how many of some spans a number is. -/
import Derived.Test.YtchnljdijmgnfaaLS
namespace Go.Proofs.Ytchnljdijmgnfaa
open Go.RowKit
def inV (xs : List (Int × Int)) (n : Int) : Nat := xs.countP (fun x => hasB x n)
theorem inV_snoc (xs : List (Int × Int)) (k : Nat) (h : k < xs.length) (n : Int) : inV (xs.take (k + 1)) n = inV (xs.take k) n + (if hasB (xs.getD k (0, 0)) n = true then 1 else 0) := by
  rw [take_getD xs k h, inV, inV, List.countP_append, List.countP_singleton]
set_option maxHeartbeats 1000000 in
theorem in_any (v : Value) (xs : List (Int × Int)) (n : Int) (w : World) (h : IsL w w.heap.size v xs) : Calls Try.prog 23 #[v, .int .i64 n] w fun e w' => e = .returned (.int .i64 (inV xs n)) ∧ Below w.heap.size w w' := by
  have hw0 := h
  obtain ⟨⟨A, cap, rfl, hcap, hA⟩, hfit, hlen⟩ := h
  have HA := Lib.hid hA
  clear hA hfit
  have H0 := Lib.hid hw0
  clear hw0
  go_enter Try.func23, Try.ntmps23
  go_wp2
  go_loopw [5, 6] (fun c i wr => ∃ k m : Nat, k ≤ xs.length ∧ m ≤ k ∧ m = inV (xs.take k) n ∧ i = .int .i64 (k : Int) ∧ c = .int .i64 (m : Int) ∧ Below w.heap.size w wr) (fun _ i _ => xs.length - (intOf i).toNat)
  case atStart => exact ⟨0, 0, Nat.zero_le _, Nat.zero_le _, rfl, rfl, rfl, Below.refl _ _⟩
  case round =>
    obtain ⟨k, m, hk, hm, hmv, rfl, rfl, hbr⟩ := hrel
    have HMV := Lib.hid hmv
    have HBR := Lib.hid hbr
    have hsz := hbr.size
    clear hmv hbr
    by_cases hlt : k < xs.length
    · obtain ⟨b, off, rfl, hb, hcell⟩ := HA.out (by omega)
      have hx1 := (HBR.out.cell (p := ⟨b, off + k * 2, none⟩) hb).trans (hcell k hlt).1
      have hx2 := (HBR.out.cell (p := ⟨b, off + k * 2 + 1, none⟩) hb).trans (hcell k hlt).2
      have HS := Lib.hid (inV_snoc xs k hlt n)
      clear hcell
      generalize xs.getD k (0, 0) = x at *
      cases hh : hasB x n
      · go_wp2_with fail
        refine (has_any x n _).mono ?_
        rintro e w1 ⟨rfl, hb1⟩
        have HB1 := Lib.hid (Below.call HBR.out hb1)
        clear hb1
        rw [hh]
        go_wp2
        go_roundw
        case rel => exact ⟨k + 1, m, by omega, by omega, by rw [HS.out, if_neg (by simp [hh])]; exact HMV.out, num_i (by omega), rfl, HB1.out⟩
        case measure => simp [intOf]; omega
      · go_wp2_with fail
        refine (has_any x n _).mono ?_
        rintro e w1 ⟨rfl, hb1⟩
        have HB1 := Lib.hid (Below.call HBR.out hb1)
        clear hb1
        rw [hh]
        go_wp2
        go_roundw
        case rel => exact ⟨k + 1, m + 1, by omega, by omega, by rw [HS.out, if_pos hh]; exact congrArg (· + 1) HMV.out, num_i (by omega), num_i (by omega), HB1.out⟩
        case measure => simp [intOf]; omega
    · obtain rfl : k = xs.length := by omega
      go_wp2
      go_ret
      have e := HMV.out
      rw [List.take_length] at e
      exact ⟨ret_i (by rw [e]), HBR.out⟩
end Go.Proofs.Ytchnljdijmgnfaa
