/- Lists of floats in memory; no-numbers, bits and the two infinities as the program and the reference have them. -/
import Derived.Test.YtlgpnjbhmoomfaaLK
import Derived.Test.YtlgpnjbhmoomfaaFC
namespace Go.Proofs.Ytlgpnjbhmoomfaa
open Go.RowKit

/-- Lists of floats. -/
noncomputable def KF : Lk Try.prog Nat where
  S := 22
  E := 34
  n := 1
  zero := .float .f64 0
  bytes := 8
  cells x := [.float .f64 x]
  dflt := 0
  ok x := x < 18446744073709551616
  und := Try.underlying22
  info := by kernel_rfl
  zs := rfl
  pos := by decide
  small := by decide
  len _ := rfl
  one x u hu := by rw [List.mem_singleton] at hu; subst hu; rfl
/-- A list of floats that is not empty, as cells. -/
theorem KF.cells {w : World} {B : Nat} {v : Value} {xs : List Nat} (h : KF.IsL w B v xs) (h0 : 0 < xs.length) : ∃ b off cap, v = .slice (some ⟨b, off, none⟩) xs.length cap ∧ xs.length ≤ cap ∧ b < B ∧ xs.length ≤ 9223372036854775807 ∧
    (∀ i, i < xs.length → w.cell? ⟨b, off + i, none⟩ = some (.float .f64 (xs.getD i 0))) ∧ (∀ i, i < xs.length → xs.getD i 0 < 18446744073709551616) := by
  obtain ⟨⟨A, cap, rfl, hc, hA⟩, hf, hl⟩ := h
  obtain ⟨b, off, rfl, hb, hcell⟩ := hA h0
  refine ⟨b, off, cap, rfl, hc, hb, hl, fun i hi => ?_, fun i hi => hf _ (getD_mem' xs i 0 hi)⟩
  have := hcell i hi 0 (.float .f64 (xs.getD i 0)) rfl
  simpa [KF] using this

theorem run_bits (b : Nat) (w : World) : (callFunc 54 #[.float .f64 b]).run Try.prog w = .ok (.value (.int .u64 b)) w := by
  rw [run_callFunc_extern Try.func54 (by kernel_rfl) (by kernel_rfl) (by kernel_rfl) (e := Extern.MathFloatBits.float64bits) (by kernel_rfl)]
  rfl
theorem bits_any (b : Nat) (w : World) : Calls Try.prog 17 #[.float .f64 b] w fun e w' => e = .returned (.int .u64 b) ∧ w = w' := by
  have hb := fun b => run_bits b
  go_enter Try.func17, Try.ntmps17
  go_wp2
  go_ret
  exact ⟨rfl, rfl⟩
/-- The class of a float's bits. -/
def cls (b : Nat) : Int :=
  if b / 4503599627370496 % 2048 = 2047 then (if b % 4503599627370496 = 0 then 2 else 1)
  else if b / 4503599627370496 % 2048 = 0 then (if b % 4503599627370496 = 0 then 3 else 4) else 5
theorem cls_nan (b : Nat) : (cls b = 1) ↔ nan b := by
  unfold cls nan
  (repeat' split) <;> omega
set_option maxHeartbeats 400000 in
theorem rclass_any (b : Nat) (w : World) : Calls Try.prog 92 #[.int .u64 b] w fun e w' => e = .returned (.int .i64 (cls b)) ∧ w = w' := by
  go_enter Try.func92, Try.ntmps92
  go_wp2
  all_goals
    go_ret
    refine ⟨ret_i ?_, rfl⟩
    simp only [beq_iff_eq, beq_eq_false_iff_ne, bne_iff_ne, bne_eq_false_iff_eq] at *
    unfold cls
    (repeat' split) <;> omega
set_option maxHeartbeats 400000 in
theorem rnone_any (b : Nat) (w : World) : Calls Try.prog 89 #[.float .f64 b] w fun e w' => e = .returned (.bool (nanb b)) ∧ w = w' := by
  go_enter Try.func89, Try.ntmps89
  go_wp2_with fail
  refine (bits_any _ _).mono ?_
  rintro e w' ⟨rfl, rfl⟩
  go_wp2_with fail
  refine (rclass_any _ _).mono ?_
  rintro e w' ⟨rfl, rfl⟩
  go_wp2_with fail
  go_ret
  refine ⟨ret_b ?_, rfl⟩
  rw [Bool.eq_iff_iff, beq_iff_eq]
  unfold nanb
  rw [decide_eq_true_eq]
  exact cls_nan b
set_option maxHeartbeats 400000 in
theorem isNone_any (b : Nat) (w : World) : Calls Try.prog 87 #[.float .f64 b] w fun e w' => e = .returned (.bool (nanb b)) ∧ w = w' := by
  have hs := self_eq b
  go_enter Try.func87, Try.ntmps87
  go_wp2
  go_ret
  exact ⟨rfl, rfl⟩
end Go.Proofs.Ytlgpnjbhmoomfaa
