/- The law that a volume in microlitres is the quotient, and that it comes back. -/
import Derived.Test.YtdnifilmckialaaDoorWNb
namespace Go.Proofs.YtdnifilmckialaaDoor
open Go.RowKit

theorem has_power (S : Nat) (h0 : 1 ≤ S) (h : S ≤ 9007199254740992) : ∃ t, 9007199254740992 ≤ S * 2 ^ t / 1000 ∧ S * 2 ^ t / 1000 < 18014398509481984 := by
  have key : ∀ k : Nat, S * 2 ^ k / 1000 < 9007199254740992 ∨ ∃ t, 9007199254740992 ≤ S * 2 ^ t / 1000 ∧ S * 2 ^ t / 1000 < 18014398509481984 := by
    intro k
    induction k with
    | zero => left; rw [Nat.pow_zero]; omega
    | succ k ih =>
      rcases ih with ih | ih
      · by_cases c : S * 2 ^ (k + 1) / 1000 < 9007199254740992
        · exact Or.inl c
        · refine Or.inr ⟨k + 1, by omega, ?_⟩
          rw [pow_step] at *
          omega
      · exact Or.inr ih
  rcases key 64 with h1 | h1
  · exfalso
    have := Nat.mul_le_mul_right (2 ^ 64) h0
    omega
  · exact h1
theorem micB_cls (n : Int) (t : Nat) (h0 : n ≠ 0) (h1 : -9007199254740992 ≤ n) (h2 : n ≤ 9007199254740992) (t1 : 9007199254740992 ≤ n.natAbs * 2 ^ t / 1000) (t2 : n.natAbs * 2 ^ t / 1000 < 18014398509481984) : cls (micB n t) = 5 ∧ micB n t < 18446744073709551616 := by
  obtain ⟨b1, b2, b3⟩ := qbits_cls n.natAbs t (by omega) (by omega) t1 t2
  rw [cls_5] at b2
  unfold micB Ieee.Format.word
  rw [sw, cls_5]
  split <;> omega
theorem nan_order : FloatKind.f64.format.order 9221120237041090561 9221120237041090561 = none := by decide +kernel
theorem rclass_nan (w : World) : Calls Tryd.prog 16 #[.int .u64 9221120237041090561] w fun e w' => e = .returned (.int .i64 1) ∧ w = w' := by
  have h := rclass_any 9221120237041090561 w
  rw [show cls 9221120237041090561 = 1 by decide +kernel] at h
  exact h
theorem rclass_0 (w : World) : Calls Tryd.prog 16 #[.int .u64 0] w fun e w' => e = .returned (.int .i64 3) ∧ w = w' := by
  have h := rclass_any 0 w
  rw [show cls 0 = 3 by decide +kernel] at h
  exact h
theorem of_0 (w : World) (hT : Tab w) : Calls Tryd.prog 30 #[.float .f64 0] w fun e w' => e = .returned (.tuple #[.int .i64 0, .int .i64 0]) ∧ ∃ d, w' = w.drewN d := by
  have h := of_any 0 (by decide) w hT
  rw [show ofV 0 = 0 by decide +kernel, show ofE 0 = 0 by decide +kernel] at h
  exact h

set_option maxHeartbeats 1000000 in
theorem nm_out (n : Int) (h : n < -9007199254740992 ∨ 9007199254740992 < n) (w : World) (hT : Tab w) : Calls Tryd.prog 8 #[.int .i64 n] w fun e w' => e = .returned (.bool true) ∧ ∃ d, w' = w.drewN d := by
  have ho := nan_order
  have A := Lib.hid (micro_out n h)
  have B := Lib.hid (rmicro_out n h)
  have hc : n < 0 ∨ (0 ≤ n ∧ 1099511627776 < n) := by omega
  have HC := Lib.hid hc
  clear h hc
  go_enter Tryd.func8, Tryd.ntmps8
  go_wp2_with fail
  refine (A.out _).mono ?_
  rintro e w' ⟨rfl, rfl⟩
  go_wp2_with fail
  refine (B.out _).mono ?_
  rintro e w' ⟨rfl, rfl⟩
  go_wp2_with fail
  refine (lives2 _ hT).mono ?_
  rintro e w' ⟨rfl, d, rfl⟩
  rcases HC.out with z | ⟨z, z2⟩
  · go_wp2_with (go_at_call 16; refine (rclass_nan _).mono ?_; rintro e w' ⟨rfl, rfl⟩)
    go_ret
    exact ⟨rfl, _, rfl⟩
  · go_wp2_with (go_at_call 16; refine (rclass_nan _).mono ?_; rintro e w' ⟨rfl, rfl⟩)
    go_ret
    exact ⟨rfl, _, rfl⟩
set_option maxHeartbeats 1000000 in
theorem nm_0 (w : World) (hT : Tab w) : Calls Tryd.prog 8 #[.int .i64 0] w fun e w' => e = .returned (.bool true) ∧ ∃ d, w' = w.drewN d := by
  have A := Lib.hid (micro_q 0 0 (by omega) (by omega) quo_0)
  have hT' := Lib.hid hT
  clear hT
  go_enter Tryd.func8, Tryd.ntmps8
  go_wp2_with fail
  refine (A.out _).mono ?_
  rintro e w' ⟨rfl, rfl⟩
  go_wp2_with fail
  refine (rmicro_0 _).mono ?_
  rintro e w' ⟨rfl, rfl⟩
  go_wp2_with fail
  refine (lives2 _ hT'.out).mono ?_
  rintro e w' ⟨rfl, d, rfl⟩
  go_wp2_with (first | (go_at_call 16; refine (rclass_0 _).mono ?_; rintro e w' ⟨rfl, rfl⟩) | (go_at_call 11; refine (bits_any _ _).mono ?_; rintro e w' ⟨rfl, rfl⟩) | (go_at_call 30; refine (of_0 _ (hT'.out.drewN _)).mono ?_; rintro e w' ⟨rfl, d2, rfl⟩))
  go_ret
  exact ⟨rfl, _, rfl⟩
set_option maxHeartbeats 1000000 in
theorem nm_go (n : Int) (S t : Nat) (hS : n.natAbs = S) (h0 : n ≠ 0) (h1 : -9007199254740992 ≤ n) (h2 : n ≤ 9007199254740992) (t1 : 9007199254740992 ≤ S * 2 ^ t / 1000) (t2 : S * 2 ^ t / 1000 < 18014398509481984) (w : World) (hT : Tab w) : Calls Tryd.prog 8 #[.int .i64 n] w fun e w' => e = .returned (.bool true) ∧ ∃ d, w' = w.drewN d := by
  subst hS
  have hA := micro_q n (micB n t) h1 h2 (quo_any n t h0 h1 h2 t1 t2)
  have hB : ∀ w : World, Calls Tryd.prog 34 #[.int .i64 n] w fun e w' => e = .returned (.int .u64 (micB n t)) ∧ ∃ d, w' = w.drewN d := fun w =>
    (rmicro_mid n n.natAbs rfl (by omega) (by omega) w).mono fun _ _ ⟨u, d, u1, u2, he, hw⟩ => by
      rw [one_power n.natAbs u t u1 u2 t1 t2] at he
      exact ⟨he, d, hw⟩
  obtain ⟨c5, clt⟩ := micB_cls n t h0 h1 h2 t1 t2
  have hC : ∀ w : World, Calls Tryd.prog 16 #[.int .u64 (micB n t)] w fun e w' => e = .returned (.int .i64 5) ∧ w = w' := fun w => by
    have h := rclass_any (micB n t) w
    rw [c5] at h
    exact h
  have hO : 0 ≤ n → n ≤ 1099511627776 → ∀ w : World, Tab w → Calls Tryd.prog 30 #[.float .f64 (micB n t)] w fun e w' => e = .returned (.tuple #[.int .i64 n, .int .i64 0]) ∧ ∃ d, w' = w.drewN d := fun g1 g2 w hT => by
    have h := of_any (micB n t) clt w hT
    have e : micB n t = qbits n.natAbs t := by
      unfold micB Ieee.Format.word
      rw [decide_eq_false (by omega), if_neg (by simp)]
    obtain ⟨k1, k2⟩ := back_q n.natAbs t (by omega) (by omega) t1 t2
    rw [← e] at k1 k2
    rw [k1, k2, show ((n.natAbs : Nat) : Int) = n by omega] at h
    exact h
  have A := Lib.hid hA
  have B := Lib.hid hB
  have C := Lib.hid hC
  have O := Lib.hid hO
  have hT' := Lib.hid hT
  clear hA hB hC hO hT c5 clt t1 t2 h1 h2 h0
  generalize micB n t = f at *
  go_enter Tryd.func8, Tryd.ntmps8
  go_wp2_with fail
  refine (A.out _).mono ?_
  rintro e w' ⟨rfl, rfl⟩
  go_wp2_with fail
  refine (B.out _).mono ?_
  rintro e w' ⟨rfl, d1, rfl⟩
  go_wp2_with fail
  refine (lives2 _ (hT'.out.drewN _)).mono ?_
  rintro e w' ⟨rfl, d, rfl⟩
  by_cases g : n < 0
  · go_wp2_with (first | (go_at_call 16; refine (C.out _).mono ?_; rintro e w' ⟨rfl, rfl⟩) | (go_at_call 11; refine (bits_any _ _).mono ?_; rintro e w' ⟨rfl, rfl⟩))
    go_ret
    exact ⟨rfl, _, rfl⟩
  · have g1 : 0 ≤ n := by omega
    clear g
    by_cases g2 : 1099511627776 < n
    · go_wp2_with (first | (go_at_call 16; refine (C.out _).mono ?_; rintro e w' ⟨rfl, rfl⟩) | (go_at_call 11; refine (bits_any _ _).mono ?_; rintro e w' ⟨rfl, rfl⟩))
      go_ret
      exact ⟨rfl, _, rfl⟩
    · have g3 : n ≤ 1099511627776 := by omega
      have O2 := Lib.hid (O.out g1 g3)
      clear g2
      go_wp2_with (first | (go_at_call 16; refine (C.out _).mono ?_; rintro e w' ⟨rfl, rfl⟩) | (go_at_call 11; refine (bits_any _ _).mono ?_; rintro e w' ⟨rfl, rfl⟩))
      refine (O2.out _ (hT'.out.drewN _)).mono ?_
      rintro e w' ⟨rfl, d2, rfl⟩
      go_wp2
      go_ret
      exact ⟨ret_b (by simp), _, rfl⟩
theorem nanoMicro_walk (n : Int) (_h1 : -9223372036854775808 ≤ n) (_h2 : n ≤ 9223372036854775807) (w : World) (hT : Tab w) : Calls Tryd.prog 8 #[.int .i64 n] w fun e w' => e = .returned (.bool true) ∧ ∃ d, w' = w.drewN d := by
  by_cases g : n < -9007199254740992 ∨ 9007199254740992 < n
  · exact nm_out n g w hT
  · by_cases z : n = 0
    · subst z
      exact nm_0 w hT
    · obtain ⟨t, t1, t2⟩ := has_power n.natAbs (by omega) (by omega)
      exact nm_go n n.natAbs t rfl z (by omega) (by omega) t1 t2 w hT
end Go.Proofs.YtdnifilmckialaaDoor
