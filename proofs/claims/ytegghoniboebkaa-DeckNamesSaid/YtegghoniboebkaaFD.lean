/- Lists of floats in memory; no-numbers, bits and the two infinities as the program and the reference have them. -/
import Derived.Test.YtegghoniboebkaaLK
import Derived.Test.YtegghoniboebkaaFC
namespace Go.Proofs.Ytegghoniboebkaa
open Go.RowKit

/-- Lists of floats. -/
noncomputable def KF : Lk Try.prog Nat where
  S := 22
  E := 28
  n := 1
  zero := .float .f64 0
  bytes := 8
  cells x := [.float .f64 x]
  dflt := 0
  ok x := x < 18446744073709551616
  und := Try.underlying22
  info := by kernel_rfl
  zs := rfl
  pos := by decide
  small := by decide
  len _ := rfl
  one x u hu := by rw [List.mem_singleton] at hu; subst hu; rfl
/-- A list of floats that is not empty, as cells. -/
theorem KF.cells {w : World} {B : Nat} {v : Value} {xs : List Nat} (h : KF.IsL w B v xs) (h0 : 0 < xs.length) : ∃ b off cap, v = .slice (some ⟨b, off, none⟩) xs.length cap ∧ xs.length ≤ cap ∧ b < B ∧ xs.length ≤ 9223372036854775807 ∧
    (∀ i, i < xs.length → w.cell? ⟨b, off + i, none⟩ = some (.float .f64 (xs.getD i 0))) ∧ (∀ i, i < xs.length → xs.getD i 0 < 18446744073709551616) := by
  obtain ⟨⟨A, cap, rfl, hc, hA⟩, hf, hl⟩ := h
  obtain ⟨b, off, rfl, hb, hcell⟩ := hA h0
  refine ⟨b, off, cap, rfl, hc, hb, hl, fun i hi => ?_, fun i hi => hf _ (getD_mem' xs i 0 hi)⟩
  have := hcell i hi 0 (.float .f64 (xs.getD i 0)) rfl
  simpa [KF] using this

theorem run_bits (b : Nat) (w : World) : (callFunc 42 #[.float .f64 b]).run Try.prog w = .ok (.value (.int .u64 b)) w := by
  rw [run_callFunc_extern Try.func42 (by kernel_rfl) (by kernel_rfl) (by kernel_rfl) (e := Extern.MathFloatBits.float64bits) (by kernel_rfl)]
  rfl
theorem run_frombits (b : Int) (w : World) : (callFunc 58 #[.int .u64 b]).run Try.prog w = .ok (.value (.float .f64 b.toNat)) w := by
  rw [run_callFunc_extern Try.func58 (by kernel_rfl) (by kernel_rfl) (by kernel_rfl) (e := Extern.MathFloatBits.float64frombits) (by kernel_rfl)]
  rfl
theorem bits_any (b : Nat) (w : World) : Calls Try.prog 13 #[.float .f64 b] w fun e w' => e = .returned (.int .u64 b) ∧ w = w' := by
  have hb := fun b => run_bits b
  go_enter Try.func13, Try.ntmps13
  go_wp2
  go_ret
  exact ⟨rfl, rfl⟩
set_option maxHeartbeats 400000 in
theorem inf_any (n : Int) (w : World) : Calls Try.prog 39 #[.int .i64 n] w fun e w' => e = .returned (.float .f64 (if 0 ≤ n then 9218868437227405312 else 18442240474082181120)) ∧ w = w' := by
  have hc := fun b => run_frombits b
  go_enter Try.func39, Try.ntmps39
  go_wp2
  all_goals
    go_ret
    refine ⟨ret_f ?_, rfl⟩
  · rfl
  · rfl
/-- The class of a float's bits. -/
def cls (b : Nat) : Int :=
  if b / 4503599627370496 % 2048 = 2047 then (if b % 4503599627370496 = 0 then 2 else 1)
  else if b / 4503599627370496 % 2048 = 0 then (if b % 4503599627370496 = 0 then 3 else 4) else 5
theorem cls_nan (b : Nat) : (cls b = 1) ↔ nan b := by
  unfold cls nan
  (repeat' split) <;> omega
set_option maxHeartbeats 400000 in
theorem rclass_any (b : Nat) (w : World) : Calls Try.prog 59 #[.int .u64 b] w fun e w' => e = .returned (.int .i64 (cls b)) ∧ w = w' := by
  go_enter Try.func59, Try.ntmps59
  go_wp2
  all_goals
    go_ret
    refine ⟨ret_i ?_, rfl⟩
    simp only [beq_iff_eq, beq_eq_false_iff_ne, bne_iff_ne, bne_eq_false_iff_eq] at *
    unfold cls
    (repeat' split) <;> omega
set_option maxHeartbeats 400000 in
theorem rnone_any (b : Nat) (w : World) : Calls Try.prog 41 #[.float .f64 b] w fun e w' => e = .returned (.bool (nanb b)) ∧ w = w' := by
  go_enter Try.func41, Try.ntmps41
  go_wp2_with fail
  refine (bits_any _ _).mono ?_
  rintro e w' ⟨rfl, rfl⟩
  go_wp2_with fail
  refine (rclass_any _ _).mono ?_
  rintro e w' ⟨rfl, rfl⟩
  go_wp2_with fail
  go_ret
  refine ⟨ret_b ?_, rfl⟩
  rw [Bool.eq_iff_iff, beq_iff_eq]
  unfold nanb
  rw [decide_eq_true_eq]
  exact cls_nan b
set_option maxHeartbeats 400000 in
theorem isNone_any (b : Nat) (w : World) : Calls Try.prog 40 #[.float .f64 b] w fun e w' => e = .returned (.bool (nanb b)) ∧ w = w' := by
  have hs := self_eq b
  go_enter Try.func40, Try.ntmps40
  go_wp2
  go_ret
  exact ⟨rfl, rfl⟩
end Go.Proofs.Ytegghoniboebkaa
