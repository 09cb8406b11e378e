/- A list is the same as itself, wherever it lies. -/
import Derived.Test.YtchnljdijmgnfaaLS
namespace Go.Proofs.Ytchnljdijmgnfaa
open Go.RowKit
set_option maxHeartbeats 1000000 in
theorem same_self (v u : Value) (xs : List (Int × Int)) (w : World) (h : IsL w w.heap.size v xs) (hy : IsL w w.heap.size u xs) : Calls Try.prog 21 #[v, u] w fun e w' => e = .returned (.bool true) ∧ Below w.heap.size w w' := by
  obtain ⟨⟨A, cap, rfl, hcap, hA⟩, hfit, hlen⟩ := h
  obtain ⟨⟨A2, cap2, rfl, hcap2, hA2⟩, hfit2, hlen2⟩ := hy
  have HA := Lib.hid hA
  have HA2 := Lib.hid hA2
  clear hA hfit hA2 hfit2
  go_enter Try.func21, Try.ntmps21
  go_wp2
  go_loopw [5] (fun i wr => ∃ k d : Nat, k ≤ xs.length ∧ i = .int .i64 (k : Int) ∧ wr = w.drewN d) (fun i _ => xs.length - (intOf i).toNat)
  case atStart => exact ⟨0, 0, Nat.zero_le _, rfl, rfl⟩
  case round =>
    obtain ⟨k, d, hk, rfl, hw⟩ := hrel
    have HW := Lib.hid hw
    by_cases hlt : k < xs.length
    · obtain ⟨b, off, rfl, hb, hcell⟩ := HA.out (by omega)
      obtain ⟨b2, off2, rfl, hb2, hcell2⟩ := HA2.out (by omega)
      have hx1 : wr.cell? ⟨b, off + k * 2, none⟩ = some (.int .i64 (xs.getD k (0, 0)).1) := by rw [hw]; exact (hcell k hlt).1
      have hx2 : wr.cell? ⟨b, off + k * 2 + 1, none⟩ = some (.int .i64 (xs.getD k (0, 0)).2) := by rw [hw]; exact (hcell k hlt).2
      have hy1 : wr.cell? ⟨b2, off2 + k * 2, none⟩ = some (.int .i64 (xs.getD k (0, 0)).1) := by rw [hw]; exact (hcell2 k hlt).1
      have hy2 : wr.cell? ⟨b2, off2 + k * 2 + 1, none⟩ = some (.int .i64 (xs.getD k (0, 0)).2) := by rw [hw]; exact (hcell2 k hlt).2
      clear hcell hcell2 hw
      generalize xs.getD k (0, 0) = x at *
      go_wp2
      go_quiet (fail)
      go_wp2
      go_roundw
      case rel => exact ⟨k + 1, _, by omega, num_i (by omega), by rw [HW.out]; exact World.drewN_drewN _ _ _⟩
      case measure => simp [intOf]; omega
    · obtain rfl : k = xs.length := by omega
      clear hw
      go_wp2
      go_ret
      exact ⟨rfl, by rw [HW.out]; exact below_drewN (Below.refl _ _) d⟩
set_option maxHeartbeats 1000000 in
theorem psame_self (v u : Value) (xs : List (Int × Int)) (w : World) (h : IsL w w.heap.size v xs) (hy : IsL w w.heap.size u xs) : Calls Try.prog 35 #[v, u] w fun e w' => e = .returned (.bool true) ∧ Below w.heap.size w w' := by
  obtain ⟨⟨A, cap, rfl, hcap, hA⟩, hfit, hlen⟩ := h
  obtain ⟨⟨A2, cap2, rfl, hcap2, hA2⟩, hfit2, hlen2⟩ := hy
  have HA := Lib.hid hA
  have HA2 := Lib.hid hA2
  clear hA hfit hA2 hfit2
  go_enter Try.func35, Try.ntmps35
  go_wp2
  go_loopw [5] (fun i wr => ∃ k d : Nat, k ≤ xs.length ∧ i = .int .i64 (k : Int) ∧ wr = w.drewN d) (fun i _ => xs.length - (intOf i).toNat)
  case atStart => exact ⟨0, 0, Nat.zero_le _, rfl, rfl⟩
  case round =>
    obtain ⟨k, d, hk, rfl, hw⟩ := hrel
    have HW := Lib.hid hw
    by_cases hlt : k < xs.length
    · obtain ⟨b, off, rfl, hb, hcell⟩ := HA.out (by omega)
      obtain ⟨b2, off2, rfl, hb2, hcell2⟩ := HA2.out (by omega)
      have hx1 : wr.cell? ⟨b, off + k * 2, none⟩ = some (.int .i64 (xs.getD k (0, 0)).1) := by rw [hw]; exact (hcell k hlt).1
      have hx2 : wr.cell? ⟨b, off + k * 2 + 1, none⟩ = some (.int .i64 (xs.getD k (0, 0)).2) := by rw [hw]; exact (hcell k hlt).2
      have hy1 : wr.cell? ⟨b2, off2 + k * 2, none⟩ = some (.int .i64 (xs.getD k (0, 0)).1) := by rw [hw]; exact (hcell2 k hlt).1
      have hy2 : wr.cell? ⟨b2, off2 + k * 2 + 1, none⟩ = some (.int .i64 (xs.getD k (0, 0)).2) := by rw [hw]; exact (hcell2 k hlt).2
      clear hcell hcell2 hw
      generalize xs.getD k (0, 0) = x at *
      go_wp2
      go_quiet (fail)
      go_wp2
      go_roundw
      case rel => exact ⟨k + 1, _, by omega, num_i (by omega), by rw [HW.out]; exact World.drewN_drewN _ _ _⟩
      case measure => simp [intOf]; omega
    · obtain rfl : k = xs.length := by omega
      clear hw
      go_wp2
      go_ret
      exact ⟨rfl, by rw [HW.out]; exact below_drewN (Below.refl _ _) d⟩
end Go.Proofs.Ytchnljdijmgnfaa
