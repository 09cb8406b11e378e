/- A volume in microlitres by the reference: digit by binary digit. -/
import Derived.Test.YtdnifilmckialaaDoorWNa
namespace Go.Proofs.YtdnifilmckialaaDoor
open Go.RowKit

theorem num_u {a b : Int} (h : a = b) : Value.int .u64 a = .int .u64 b := by rw [h]
theorem digit_step (a : Nat) : 2 * (a / 1000) + 2 * (a % 1000) / 1000 = 2 * a / 1000 ∧ 2 * (a % 1000) % 1000 = 2 * a % 1000 := by omega
theorem wrap_in (x : Nat) (h : x < 18446744073709551616) : IntKind.u64.wrap (x : Int) = (x : Int) := by
  rw [IntKind.wrap_u64]
  omega
theorem step_num (q r : Nat) (hq : q < 18014398509481984) (hr : r < 1000) :
    IntKind.u64.wrap (IntKind.u64.wrap (2 * (q : Int)) + IntKind.u64.wrap ((IntKind.u64.wrap (2 * (r : Int))).tdiv 1000)) = ((2 * q + 2 * r / 1000 : Nat) : Int) ∧ (IntKind.u64.wrap (2 * (r : Int))).tmod 1000 = ((2 * r % 1000 : Nat) : Int) := by
  have e1 : IntKind.u64.wrap (2 * (r : Int)) = ((2 * r : Nat) : Int) := by
    have := wrap_in (2 * r) (by omega)
    rw [← this]
    congr 1
  have e2 : IntKind.u64.wrap (2 * (q : Int)) = ((2 * q : Nat) : Int) := by
    have := wrap_in (2 * q) (by omega)
    rw [← this]
    congr 1
  have e3 : ((2 * r : Nat) : Int).tdiv 1000 = ((2 * r / 1000 : Nat) : Int) := rfl
  have e4 : ((2 * r : Nat) : Int).tmod 1000 = ((2 * r % 1000 : Nat) : Int) := rfl
  rw [e1, e2, e3, e4, wrap_in _ (by omega)]
  refine ⟨?_, rfl⟩
  have := wrap_in (2 * q + 2 * r / 1000) (by omega)
  rw [← this]
  congr 1
theorem pow_step (S j : Nat) : S * 2 ^ (j + 1) = 2 * (S * 2 ^ j) := by rw [Nat.pow_succ, Nat.mul_comm (2 ^ j) 2, Nat.mul_left_comm]
theorem pow_lt (S j : Nat) (h0 : 1 ≤ S) (h : S * 2 ^ j / 1000 < 9007199254740992) : j < 63 := by
  apply Nat.lt_of_not_le
  intro hh
  have h1 := pow_mono hh
  have h2 := Nat.mul_le_mul h0 h1
  omega

theorem mic_fin (n : Int) (S j q r M : Nat) (hS : n.natAbs = S) (h0 : 1 ≤ S) (h : S ≤ 9007199254740992) (hq : S * 2 ^ j / 1000 = q) (q1 : 9007199254740992 ≤ q) (q2 : q < 18014398509481984)
    (hN : (if q % 2 = 1 ∧ (0 < r ∨ M % 2 = 1) then M + 1 else M) = rne (S * 2 ^ (j - 1)) 1000) (x : Int) (hx : x = if n < 0 then -((if q % 2 = 1 ∧ (0 < r ∨ M % 2 = 1) then M + 1 else M : Nat) : Int) else ((if q % 2 = 1 ∧ (0 < r ∨ M % 2 = 1) then M + 1 else M : Nat) : Int)) :
    mk x (-(j : Int) + 1) = micB n j := by
  have e := mk_word n S j h0 h (by rw [hq]; exact q1) (by rw [hq]; exact q2)
  unfold micB
  rw [hS, ← e, hx, hN, show -(j : Int) + 1 = 1 - j by omega]
set_option maxHeartbeats 2000000 in
set_option maxRecDepth 100000 in
theorem rmicro_mid (n : Int) (S : Nat) (hS : n.natAbs = S) (h0 : 1 ≤ S) (h : S ≤ 9007199254740992) (w : World) :
    Calls Tryd.prog 34 #[.int .i64 n] w fun e w' => ∃ t d : Nat, 9007199254740992 ≤ S * 2 ^ t / 1000 ∧ S * 2 ^ t / 1000 < 18014398509481984 ∧ e = .returned (.int .u64 (micB n t)) ∧ w' = w.drewN d := by
  have HS := Lib.hid hS
  have b1 : -9007199254740992 ≤ n := by omega
  have b2 : n ≤ 9007199254740992 := by omega
  have z : ((S : Int) == 0) = false := by rw [beq_eq_false_iff_ne]; omega
  have hsz : ∀ w : World, Calls Tryd.prog 43 #[.int .i64 n] w fun e w' => e = .returned (.int .u64 S) ∧ w = w' := fun w => by
    have := size_any n (by omega) (by omega) w
    rw [hS] at this
    exact this
  have SZ := Lib.hid hsz
  clear hS hsz
  go_enter Tryd.func34, Tryd.ntmps34
  go_wp2_with (go_at_call 43; refine (SZ.out _).mono ?_; rintro e w' ⟨rfl, rfl⟩)
  rename_i hx _ _
  have HXX := Lib.hid hx
  have B1 := Lib.hid b1
  have B2 := Lib.hid b2
  have HH := Lib.hid h
  clear hx b1 b2 h
  go_loop [4, 5, 6] (fun q r e => ∃ j : Nat, j ≤ 63 ∧ q = .int .u64 (S * 2 ^ j / 1000 : Nat) ∧ r = .int .u64 (S * 2 ^ j % 1000 : Nat) ∧ e = .int .i64 (-(j : Int)) ∧ S * 2 ^ j / 1000 < 18014398509481984) (fun _ _ e => 64 - (-(intOf e)).toNat)
  case atStart => exact ⟨0, by omega, by simp, by simp, by simp, by rw [Nat.pow_zero]; have := HH.out; omega⟩
  case round =>
    obtain ⟨j, hj, rfl, rfl, rfl, hlt⟩ := hrel
    have hst := digit_step (S * 2 ^ j)
    rw [← pow_step] at hst
    have hj2 : S * 2 ^ j / 1000 < 9007199254740992 → j < 63 := pow_lt S j h0
    have hj1 : 9007199254740992 ≤ S * 2 ^ j / 1000 → 1 ≤ j := fun hh => by
      rcases Nat.eq_zero_or_pos j with rfl | hp
      · rw [Nat.pow_zero] at hh; have := HH.out; omega
      · exact hp
    have HST := Lib.hid hst
    have HJ2 := Lib.hid hj2
    have HJ1 := Lib.hid hj1
    have hr := Nat.mod_lt (S * 2 ^ j) (show 0 < 1000 by decide)
    obtain ⟨q, hq⟩ : ∃ q, S * 2 ^ j / 1000 = q := ⟨_, rfl⟩
    obtain ⟨r, hrr⟩ : ∃ r, S * 2 ^ j % 1000 = r := ⟨_, rfl⟩
    rw [hq] at hlt ⊢
    rw [hrr] at hr ⊢
    have HQ := Lib.hid hq
    have HR := Lib.hid hrr
    clear hst hj2 hj1 hq hrr
    by_cases c : q < 9007199254740992
    · have dc : decide ((q : Int) < 9007199254740992) = true := decide_eq_true (by omega)
      have C := Lib.hid c
      have HLT := Lib.hid hlt
      have HRR := Lib.hid hr
      clear c hlt hr
      go_wp2
      go_round
      case rel =>
        obtain ⟨s1, s2⟩ := step_num q r HLT.out HRR.out
        have e1 := HST.out
        rw [HQ.out, HR.out] at e1
        have e2 := HJ2.out (by rw [HQ.out]; exact C.out)
        exact ⟨j + 1, by omega, num_u (by rw [← e1.1]; exact s1), num_u (by rw [← e1.2]; exact s2), num_i (by omega), by rw [← e1.1]; have := C.out; have := HRR.out; omega⟩
      case measure =>
        have e2 := HJ2.out (by rw [HQ.out]; exact C.out)
        simp [intOf]; omega
    · have dc : decide ((q : Int) < 9007199254740992) = false := decide_eq_false (by omega)
      have C := Lib.hid c
      have HLT := Lib.hid hlt
      have HRR := Lib.hid hr
      clear c hlt hr
      generalize decide (n < -9007199254740992) = bb1
      generalize decide (9007199254740992 < n) = bb2
      have hN := rne_last (S * 2 ^ (j - 1))
      have e2a : 2 * (S * 2 ^ (j - 1)) = S * 2 ^ j := by rw [pow_half S j (HJ1.out (by rw [HQ.out]; exact Nat.le_of_not_lt C.out)), Nat.mul_comm 2]
      rw [e2a, HQ.out, HR.out] at hN
      obtain ⟨M, hM⟩ : ∃ M, q / 2 = M := ⟨_, rfl⟩
      have hMq : M ≤ 9007199254740991 := by have := HLT.out; omega
      have wM : IntKind.u64.wrap ((q : Int) / 2) = (M : Int) := by
        have e : ((q : Int) / 2) = ((M : Nat) : Int) := by omega
        rw [e]
        exact wrap_in M (by omega)
      have wM1 : IntKind.u64.wrap ((M : Int) + 1) = (M : Int) + 1 := wrap_in (M + 1) (by omega)
      rw [hM] at hN
      have HN := Lib.hid hN
      have HM := Lib.hid hM
      have hM0 : (0 : Int) ≤ M := by omega
      have hM1 : (M : Int) ≤ 9007199254740991 := by omega
      have HMQ := Lib.hid hMq
      clear hN hM e2a hMq
      go_upto_if 24 with (fail)
      clear dc
      go_wp2_with (go_at_call 21; refine (rmake_any _ _ (by first | omega | (simp only [wrap64]; omega)) (by first | omega | (simp only [wrap64]; omega)) _).mono ?_; rintro e w' ⟨rfl, d, rfl⟩)
      all_goals go_ret
      all_goals
        simp only [beq_iff_eq, beq_eq_false_iff_ne] at *
        have hlo : 9007199254740992 ≤ q := Nat.le_of_not_lt C.out
        refine ⟨j, _, by rw [HQ.out]; exact hlo, by rw [HQ.out]; exact HLT.out, ret_u ?_, rfl⟩
        refine congrArg (fun k : Nat => (k : Int)) (mic_fin n S j q r M HS.out h0 HH.out HQ.out hlo HLT.out HN.out _ ?_)
        clear HN hlo
        split <;> split <;> omega
end Go.Proofs.YtdnifilmckialaaDoor
