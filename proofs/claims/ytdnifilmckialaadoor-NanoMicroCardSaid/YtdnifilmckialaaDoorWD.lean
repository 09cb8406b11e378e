/- Make: the program's and the reference's give one and the same bits. -/
import Derived.Test.YtdnifilmckialaaDoorWC
namespace Go.Proofs.YtdnifilmckialaaDoor
open Go.RowKit

theorem shl_fact (n k : Nat) (h : n * 2 ^ k < 18446744073709551616) : IntKind.u64.wrap ((n : Int) * 2 ^ k) = (n * 2 ^ k : Nat) := by
  have e : (n : Int) * 2 ^ k = ((n * 2 ^ k : Nat) : Int) := by rw [Int.natCast_mul, Int.natCast_pow]; rfl
  rw [e, IntKind.wrap_u64]
  generalize n * 2 ^ k = P at *
  clear e
  omega
set_option maxHeartbeats 400000 in
theorem shortl_any (n k : Nat) (hK : n * 2 ^ k < 18446744073709551616) (hk : k ≤ 63) (w : World) : Calls Tryd.prog 51 #[.int .u64 n, .int .i64 (-(k : Int))] w fun e w' => e = .returned (.int .u64 (n * 2 ^ k : Nat)) ∧ ∃ d, w' = w.drewN d := by
  have f := shl_fact n k hK
  have hc : decide (-(k : Int) ≤ 0) = true := by simp
  generalize n * 2 ^ k = P at *
  go_enter Tryd.func51, Tryd.ntmps51
  go_wp2
  go_ret
  exact ⟨rfl, 0, rfl⟩
/-- The program's rounding, for what Make asks of it. -/
theorem shortk_any (n : Nat) (e a : Int) (hn : n ≠ 0) (h : n < 18446744073709551616) (h1 : -1138 ≤ e) (h2 : e ≤ 1023) (ha : lastp n e = a) (w : World) : Calls Tryd.prog 51 #[.int .u64 n, .int .i64 (a - e)] w fun e' w' => e' = .returned (.int .u64 (kept n e)) ∧ ∃ d, w' = w.drewN d := by
  subst ha
  obtain ⟨l1, l2, l3, l4⟩ := bitLen_bd n hn h
  have hk := kept_le n e hn h
  unfold kept at hk ⊢
  by_cases hle : lastp n e ≤ e
  · rw [if_pos hle] at hk ⊢
    have e1 : lastp n e - e = -((e - lastp n e).toNat : Int) := by omega
    rw [e1]
    exact shortl_any n _ (by omega) (by unfold lastp; omega) w
  · rw [if_neg hle] at hk ⊢
    have e1 : lastp n e - e = ((lastp n e - e).toNat : Int) := by omega
    have e2 : (((lastp n e - e).toNat : Nat) : Int) = lastp n e - e := by omega
    have hs := short_any n (lastp n e - e).toNat h (by omega) (by unfold lastp; omega) w
    rw [e2] at hs
    exact hs

set_option maxHeartbeats 1000000 in
theorem sizeBits_mid (n : Nat) (e : Int) (h : n < 18446744073709551616) (h0 : n ≠ 0) (h1 : -1138 ≤ e) (h2 : e ≤ 1023) (w : World) : Calls Tryd.prog 42 #[.int .u64 n, .int .i64 e] w fun e' w' => e' = .returned (.int .u64 (mkBits n e)) ∧ ∃ d, w' = w.drewN d := by
  obtain ⟨l1, l2, l3, l4⟩ := bitLen_bd n h0 h
  have hz : ((n : Int) == 0) = false := by rw [beq_eq_false_iff_ne]; omega
  have hmid := mkBits_mid n e h0 h1 h2
  have hkl := kept_le n e h0 h
  have hA : max (e + (Lib.bitLen n : Int) - 1 - 52) (-1074) = lastp n e := by unfold lastp; omega
  have ha1 : -1074 ≤ lastp n e := by unfold lastp; omega
  have ha2 : lastp n e ≤ 1034 := by unfold lastp; omega
  obtain ⟨A, hA'⟩ : ∃ A, lastp n e = A := ⟨_, rfl⟩
  rw [hA'] at hA ha1 ha2 hmid
  have HM := Lib.hid hmid
  have HA := Lib.hid hA'
  have HK := Lib.hid hkl
  have H0 := Lib.hid h0
  clear l3 l4 hmid hkl hA' h0
  go_enter Tryd.func42, Tryd.ntmps42
  go_wp2_with (go_at_call 50; refine (len64_any n h _).mono ?_; rintro e w' ⟨rfl, rfl⟩)
  refine (shortk_any n e A H0.out h h1 h2 HA.out _).mono ?_
  rintro e' w' ⟨rfl, d, rfl⟩
  have hkl := HK.out
  obtain ⟨K, hK⟩ : ∃ K, kept n e = K := ⟨_, rfl⟩
  rw [hK] at hkl ⊢
  have HK' := Lib.hid hK
  clear hK
  go_wp2
  go_ret
  refine ⟨ret_u ?_, _, rfl⟩
  rw [HM.out, HK'.out]
  omega
set_option maxHeartbeats 400000 in
theorem sizeBits_0 (e : Int) (w : World) : Calls Tryd.prog 42 #[.int .u64 0, .int .i64 e] w fun e' w' => e' = .returned (.int .u64 (mkBits 0 e)) ∧ ∃ d, w' = w.drewN d := by
  have hm := mkBits_none 0 e (by omega)
  rw [hm]
  clear hm
  go_enter Tryd.func42, Tryd.ntmps42
  go_wp2
  go_ret
  exact ⟨rfl, 0, rfl⟩
set_option maxHeartbeats 400000 in
theorem sizeBits_low (n : Nat) (e : Int) (h0 : n ≠ 0) (h1 : e < -1138) (w : World) : Calls Tryd.prog 42 #[.int .u64 n, .int .i64 e] w fun e' w' => e' = .returned (.int .u64 (mkBits n e)) ∧ ∃ d, w' = w.drewN d := by
  have hz : ((n : Int) == 0) = false := by rw [beq_eq_false_iff_ne]; omega
  have hm := mkBits_none n e (by omega)
  rw [hm]
  clear hm h0
  go_enter Tryd.func42, Tryd.ntmps42
  go_wp2
  go_ret
  exact ⟨rfl, 0, rfl⟩
set_option maxHeartbeats 400000 in
theorem sizeBits_far (n : Nat) (e : Int) (h0 : n ≠ 0) (h1 : 1023 < e) (w : World) : Calls Tryd.prog 42 #[.int .u64 n, .int .i64 e] w fun e' w' => e' = .returned (.int .u64 (mkBits n e)) ∧ ∃ d, w' = w.drewN d := by
  have hz : ((n : Int) == 0) = false := by rw [beq_eq_false_iff_ne]; omega
  have hm := mkBits_far n e h0 h1
  rw [hm]
  clear hm h0
  go_enter Tryd.func42, Tryd.ntmps42
  go_wp2
  go_ret
  exact ⟨rfl, 0, rfl⟩
theorem sizeBits_any (n : Nat) (e : Int) (h : n < 18446744073709551616) (w : World) : Calls Tryd.prog 42 #[.int .u64 n, .int .i64 e] w fun e' w' => e' = .returned (.int .u64 (mkBits n e)) ∧ ∃ d, w' = w.drewN d := by
  by_cases h0 : n = 0
  · subst h0; exact sizeBits_0 e w
  · by_cases h1 : e < -1138
    · exact sizeBits_low n e h0 h1 w
    · by_cases h2 : 1023 < e
      · exact sizeBits_far n e h0 h2 w
      · exact sizeBits_mid n e h h0 (by omega) (by omega) w

/-- The bits that Make gives. -/
def mk (m e : Int) : Nat := sgn m (mkBits m.natAbs e)
theorem mk_lt (m e : Int) : mk m e < 18446744073709551616 := by
  have := mkBits_le m.natAbs e
  unfold mk sgn
  split <;> omega
set_option maxHeartbeats 1000000 in
theorem make_any (m e : Int) (h1 : -9223372036854775808 ≤ m) (h2 : m ≤ 9223372036854775807) (w : World) : Calls Tryd.prog 20 #[.int .i64 m, .int .i64 e] w fun e' w' => e' = .returned (.float .f64 (mk m e)) ∧ ∃ d, w' = w.drewN d := by
  have hb := fun b => run_frombits b
  have hs : ∀ x : Int, x = m.natAbs → ∀ w : World, Calls Tryd.prog 42 #[.int .u64 x, .int .i64 e] w fun e' w' => e' = .returned (.int .u64 (mkBits m.natAbs e)) ∧ ∃ d, w' = w.drewN d := fun x hx w => by
    rw [hx]
    exact sizeBits_any m.natAbs e (by omega) w
  have HS := Lib.hid hs
  clear hs
  by_cases hm : m < 0
  · go_enter Tryd.func20, Tryd.ntmps20
    go_wp2_with (fail)
    refine (HS.out _ (by simp only [IntKind.wrap_u64, wrap64]; omega) _).mono ?_
    rintro e' w' ⟨rfl, d, rfl⟩
    have hl := mkBits_le m.natAbs e
    have ht := top_or (mkBits m.natAbs e) (by omega)
    have hk : mk m e = mkBits m.natAbs e + 9223372036854775808 := by unfold mk sgn; rw [if_pos hm]
    have HT := Lib.hid ht
    have HK := Lib.hid hk
    clear ht hk
    go_wp2
    go_ret
    refine ⟨ret_f ?_, _, rfl⟩
    rw [HT.out, HK.out, Int.toNat_natCast]
  · go_enter Tryd.func20, Tryd.ntmps20
    go_wp2_with (fail)
    refine (HS.out _ (by try simp only [IntKind.wrap_u64]
                         omega) _).mono ?_
    rintro e' w' ⟨rfl, d, rfl⟩
    have hk : mk m e = mkBits m.natAbs e := by unfold mk sgn; rw [if_neg (by omega)]
    have HK := Lib.hid hk
    clear hk
    go_wp2
    go_ret
    refine ⟨ret_f ?_, _, rfl⟩
    rw [HK.out]
    try rfl

set_option maxHeartbeats 400000 in
theorem rmake_none (m e : Int) (h1 : -9223372036854775808 ≤ m) (h2 : m ≤ 9223372036854775807) (hc : m.natAbs = 0 ∨ e < -2000) (w : World) : Calls Tryd.prog 21 #[.int .i64 m, .int .i64 e] w fun e' w' => e' = .returned (.int .u64 (mk m e)) ∧ ∃ d, w' = w.drewN d := by
  have hk : mk m e = sgn m 0 := by unfold mk; rw [mkBits_none _ _ (by omega)]
  rw [hk]
  have HC := Lib.hid hc
  clear hk hc
  by_cases hz : ((m.natAbs : Int) == 0) = true
  · go_enter Tryd.func21, Tryd.ntmps21
    go_wp2_with (first | (go_at_call 43; refine (size_any m h1 h2 _).mono ?_; rintro e w' ⟨rfl, rfl⟩) | (go_at_call 44; refine (sign_any m 0 (by decide) _).mono ?_; rintro e w' ⟨rfl, rfl⟩))
    go_ret
    exact ⟨rfl, 0, rfl⟩
  · have hz' : ((m.natAbs : Int) == 0) = false := by simpa using hz
    have hle : e < -2000 := by
      have := HC.out
      rw [beq_eq_false_iff_ne] at hz'
      omega
    clear hz
    go_enter Tryd.func21, Tryd.ntmps21
    go_wp2_with (first | (go_at_call 43; refine (size_any m h1 h2 _).mono ?_; rintro e w' ⟨rfl, rfl⟩) | (go_at_call 44; refine (sign_any m 0 (by decide) _).mono ?_; rintro e w' ⟨rfl, rfl⟩))
    go_ret
    exact ⟨rfl, 0, rfl⟩
set_option maxHeartbeats 400000 in
theorem rmake_inf (m e : Int) (h1 : -9223372036854775808 ≤ m) (h2 : m ≤ 9223372036854775807) (h0 : m.natAbs ≠ 0) (h3 : -2000 ≤ e) (hc : 1024 < e + Lib.bitLen m.natAbs) (w : World) : Calls Tryd.prog 21 #[.int .i64 m, .int .i64 e] w fun e' w' => e' = .returned (.int .u64 (mk m e)) ∧ ∃ d, w' = w.drewN d := by
  have hk : mk m e = sgn m 9218868437227405312 := by unfold mk; rw [mkBits_inf _ _ h0 (by omega) hc]
  rw [hk]
  have hz : ((m.natAbs : Int) == 0) = false := by rw [beq_eq_false_iff_ne]; omega
  have hl := Lib.bitLen_le m.natAbs 64 (by omega) (by omega)
  clear hk h0
  by_cases hf : 2000 < e
  all_goals
    go_enter Tryd.func21, Tryd.ntmps21
    go_wp2_with (first | (go_at_call 43; refine (size_any m h1 h2 _).mono ?_; rintro e w' ⟨rfl, rfl⟩) | (go_at_call 45; refine (length_any m.natAbs (by omega) _).mono ?_; rintro e w' ⟨rfl, rfl⟩) | (go_at_call 44; refine (sign_any m 9218868437227405312 (by decide) _).mono ?_; rintro e w' ⟨rfl, rfl⟩))
    go_ret
    exact ⟨rfl, 0, rfl⟩
end Go.Proofs.YtdnifilmckialaaDoor
