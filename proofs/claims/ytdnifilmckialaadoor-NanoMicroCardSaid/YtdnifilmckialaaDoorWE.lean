/- Make by the reference, between the bounds: the float's bits are those that the program gives. -/
import Derived.Test.YtdnifilmckialaaDoorWD
import Derived.Deep.Cut
namespace Go.Proofs.YtdnifilmckialaaDoor
open Go.RowKit

/-- A sign on bits, as the reference adds it. -/
def sgnI (m b : Int) : Int := if m < 0 then b + 9223372036854775808 else b
theorem sign_int (m b : Int) (h0 : 0 ≤ b) (h : b < 9223372036854775808) (w : World) : Calls Tryd.prog 44 #[.int .i64 m, .int .u64 b] w fun e w' => e = .returned (.int .u64 (sgnI m b)) ∧ w = w' := by
  go_enter Tryd.func44, Tryd.ntmps44
  go_wp2
  all_goals
    go_ret
    refine ⟨ret_u ?_, rfl⟩
    unfold sgnI
    try simp only [IntKind.wrap_u64]
    split <;> omega
theorem sgnI_of (m x e : Int) (b : Nat) (hb : mkBits m.natAbs e = b) (h : x = b) : sgnI m x = mk m e := by
  unfold mk sgn sgnI
  rw [hb, h]
  split <;> omega
theorem kept_cases (K : Nat) (h : K ≤ 9007199254740992) : (decide ((K : Int) < 4503599627370496) = true ∧ K < 4503599627370496) ∨ (decide ((K : Int) < 4503599627370496) = false ∧ ((K : Int) == 9007199254740992) = true ∧ 9007199254740992 ≤ K) ∨ (decide ((K : Int) < 4503599627370496) = false ∧ ((K : Int) == 9007199254740992) = false ∧ 4503599627370496 ≤ K ∧ K < 9007199254740992) := by
  simp only [decide_eq_true_eq, decide_eq_false_iff_not, beq_iff_eq, beq_eq_false_iff_ne]
  omega
set_option maxHeartbeats 2000000 in
theorem rmake_a1 (m e : Int) (h1 : -9223372036854775808 ≤ m) (h2 : m ≤ 9223372036854775807) (h0 : m.natAbs ≠ 0) (h3 : -1074 ≤ e) (hc : e + Lib.bitLen m.natAbs ≤ 1024) (hA : e + Lib.bitLen m.natAbs - 53 < -1074) (w : World) : Calls Tryd.prog 21 #[.int .i64 m, .int .i64 e] w fun e' w' => e' = .returned (.int .u64 (mk m e)) ∧ ∃ d, w' = w.drewN d := by
  have hz : ((m.natAbs : Int) == 0) = false := by rw [beq_eq_false_iff_ne]; omega
  have hn : m.natAbs < 18446744073709551616 := by omega
  have hl := bitLen_bd m.natAbs h0 hn
  have l1 := hl.1
  have l2 := hl.2.1
  have hla : lastp m.natAbs e = -1074 := by unfold lastp; omega
  have hkl := kept_le m.natAbs e h0 hn
  have hlow := mkBits_low m.natAbs e h0 hn (by omega) hc
  have hfull := (mkBits_full m.natAbs e h0 hn (by omega) hc).2.2
  rw [hla] at hfull
  have hsl : IntKind.u64.wrap ((m.natAbs : Int) * 2 ^ (e + 1074).toNat) = (kept m.natAbs e : Nat) := by
    have hkk : kept m.natAbs e = m.natAbs * 2 ^ (e + 1074).toNat := by
      unfold kept
      rw [if_pos (by omega), hla]
      rfl
    rw [hkk] at hkl ⊢
    exact shl_fact _ _ (by omega)
  obtain ⟨K, hK⟩ : ∃ K, kept m.natAbs e = K := ⟨_, rfl⟩
  rw [hK] at hkl hlow hfull hsl
  have HL := Lib.hid hlow
  have HF := Lib.hid hfull
  clear hl hla hlow hfull h0 hn hK
  have HKL := Lib.hid hkl
  clear hkl
  go_enter Tryd.func21, Tryd.ntmps21
  go_upto_if 54 with (first | (go_at_call 43; refine (size_any m h1 h2 _).mono ?_; rintro e w' ⟨rfl, rfl⟩) | (go_at_call 45; refine (length_any m.natAbs (by omega) _).mono ?_; rintro e w' ⟨rfl, rfl⟩) | (go_at_call 44; refine (sign_int m _ (by omega) (by omega) _).mono ?_; rintro e w' ⟨rfl, rfl⟩))
  rcases kept_cases K HKL.out with ⟨d1, k1⟩ | ⟨d1, d2, k1⟩ | ⟨d1, d2, k1, k2⟩
  · rw [d1]
    clear d1
    go_wp2_with (first | (go_at_call 43; refine (size_any m h1 h2 _).mono ?_; rintro e w' ⟨rfl, rfl⟩) | (go_at_call 45; refine (length_any m.natAbs (by omega) _).mono ?_; rintro e w' ⟨rfl, rfl⟩) | (go_at_call 44; refine (sign_int m _ (by omega) (by omega) _).mono ?_; rintro e w' ⟨rfl, rfl⟩))
    go_ret
    exact ⟨ret_u (sgnI_of m _ e K (HL.out (by omega)) rfl), 0, rfl⟩
  · rw [d1]
    clear d1
    have D2 := Lib.hid d2
    have hkl := HKL.out
    clear d2
    go_upto_if 59 with (first | (go_at_call 43; refine (size_any m h1 h2 _).mono ?_; rintro e w' ⟨rfl, rfl⟩) | (go_at_call 45; refine (length_any m.natAbs (by omega) _).mono ?_; rintro e w' ⟨rfl, rfl⟩) | (go_at_call 44; refine (sign_int m _ (by omega) (by omega) _).mono ?_; rintro e w' ⟨rfl, rfl⟩))
    rw [D2.out]
    go_wp2_with (first | (go_at_call 43; refine (size_any m h1 h2 _).mono ?_; rintro e w' ⟨rfl, rfl⟩) | (go_at_call 45; refine (length_any m.natAbs (by omega) _).mono ?_; rintro e w' ⟨rfl, rfl⟩) | (go_at_call 44; refine (sign_int m _ (by omega) (by omega) _).mono ?_; rintro e w' ⟨rfl, rfl⟩))
    all_goals go_ret
    all_goals exact ⟨ret_u (sgnI_of m _ e _ HF.out (by omega)), 0, rfl⟩
  · rw [d1]
    clear d1
    have D2 := Lib.hid d2
    clear d2
    go_upto_if 59 with (first | (go_at_call 43; refine (size_any m h1 h2 _).mono ?_; rintro e w' ⟨rfl, rfl⟩) | (go_at_call 45; refine (length_any m.natAbs (by omega) _).mono ?_; rintro e w' ⟨rfl, rfl⟩) | (go_at_call 44; refine (sign_int m _ (by omega) (by omega) _).mono ?_; rintro e w' ⟨rfl, rfl⟩))
    rw [D2.out]
    go_wp2_with (first | (go_at_call 43; refine (size_any m h1 h2 _).mono ?_; rintro e w' ⟨rfl, rfl⟩) | (go_at_call 45; refine (length_any m.natAbs (by omega) _).mono ?_; rintro e w' ⟨rfl, rfl⟩) | (go_at_call 44; refine (sign_int m _ (by omega) (by omega) _).mono ?_; rintro e w' ⟨rfl, rfl⟩))
    all_goals go_ret
    all_goals exact ⟨ret_u (sgnI_of m _ e _ HF.out (by omega)), 0, rfl⟩
set_option maxHeartbeats 2000000 in
theorem rmake_a3 (m e : Int) (h1 : -9223372036854775808 ≤ m) (h2 : m ≤ 9223372036854775807) (h0 : m.natAbs ≠ 0) (h3 : -1138 ≤ e) (h4 : e < -1074) (hc : e + Lib.bitLen m.natAbs ≤ 1024) (hA : e + Lib.bitLen m.natAbs - 53 < -1074) (w : World) : Calls Tryd.prog 21 #[.int .i64 m, .int .i64 e] w fun e' w' => e' = .returned (.int .u64 (mk m e)) ∧ ∃ d, w' = w.drewN d := by
  have hz : ((m.natAbs : Int) == 0) = false := by rw [beq_eq_false_iff_ne]; omega
  have hn : m.natAbs < 18446744073709551616 := by omega
  have hl := bitLen_bd m.natAbs h0 hn
  have l1 := hl.1
  have l2 := hl.2.1
  have hla : lastp m.natAbs e = -1074 := by unfold lastp; omega
  have hkl := kept_le m.natAbs e h0 hn
  have hlow := mkBits_low m.natAbs e h0 hn (by omega) hc
  have hfull := (mkBits_full m.natAbs e h0 hn (by omega) hc).2.2
  rw [hla] at hfull
  have hsl : ∀ w : World, Calls Tryd.prog 46 #[.int .u64 m.natAbs, .int .i64 (-1074 - e)] w fun e' w' => e' = .returned (.int .u64 (kept m.natAbs e)) ∧ ∃ d, w' = w.drewN d := fun w => by
    have hkk : kept m.natAbs e = rnd m.natAbs (-1074 - e).toNat := by
      unfold kept
      rw [if_neg (by omega), hla]
    have hs := round_any m.natAbs (-1074 - e).toNat hn (by omega) (by omega) w
    rw [show (((-1074 - e).toNat : Nat) : Int) = -1074 - e from by omega, ← hkk] at hs
    exact hs
  obtain ⟨K, hK⟩ : ∃ K, kept m.natAbs e = K := ⟨_, rfl⟩
  rw [hK] at hkl hlow hfull hsl
  have HL := Lib.hid hlow
  have HF := Lib.hid hfull
  clear hl hla hlow hfull h0 hn hK
  have HR := Lib.hid hsl
  clear hsl
  have HKL := Lib.hid hkl
  clear hkl
  go_enter Tryd.func21, Tryd.ntmps21
  go_upto_if 54 with (first | (go_at_call 43; refine (size_any m h1 h2 _).mono ?_; rintro e w' ⟨rfl, rfl⟩) | (go_at_call 45; refine (length_any m.natAbs (by omega) _).mono ?_; rintro e w' ⟨rfl, rfl⟩) | (go_at_call 46; refine (HR.out _).mono ?_; rintro e' w' ⟨rfl, d, rfl⟩) | (go_at_call 44; refine (sign_int m _ (by omega) (by omega) _).mono ?_; rintro e w' ⟨rfl, rfl⟩))
  rcases kept_cases K HKL.out with ⟨d1, k1⟩ | ⟨d1, d2, k1⟩ | ⟨d1, d2, k1, k2⟩
  · rw [d1]
    clear d1
    go_wp2_with (first | (go_at_call 43; refine (size_any m h1 h2 _).mono ?_; rintro e w' ⟨rfl, rfl⟩) | (go_at_call 45; refine (length_any m.natAbs (by omega) _).mono ?_; rintro e w' ⟨rfl, rfl⟩) | (go_at_call 46; refine (HR.out _).mono ?_; rintro e' w' ⟨rfl, d, rfl⟩) | (go_at_call 44; refine (sign_int m _ (by omega) (by omega) _).mono ?_; rintro e w' ⟨rfl, rfl⟩))
    go_ret
    exact ⟨ret_u (sgnI_of m _ e K (HL.out (by omega)) rfl), _, rfl⟩
  · rw [d1]
    clear d1
    have D2 := Lib.hid d2
    have hkl := HKL.out
    clear d2
    go_upto_if 59 with (first | (go_at_call 43; refine (size_any m h1 h2 _).mono ?_; rintro e w' ⟨rfl, rfl⟩) | (go_at_call 45; refine (length_any m.natAbs (by omega) _).mono ?_; rintro e w' ⟨rfl, rfl⟩) | (go_at_call 46; refine (HR.out _).mono ?_; rintro e' w' ⟨rfl, d, rfl⟩) | (go_at_call 44; refine (sign_int m _ (by omega) (by omega) _).mono ?_; rintro e w' ⟨rfl, rfl⟩))
    rw [D2.out]
    go_wp2_with (first | (go_at_call 43; refine (size_any m h1 h2 _).mono ?_; rintro e w' ⟨rfl, rfl⟩) | (go_at_call 45; refine (length_any m.natAbs (by omega) _).mono ?_; rintro e w' ⟨rfl, rfl⟩) | (go_at_call 46; refine (HR.out _).mono ?_; rintro e' w' ⟨rfl, d, rfl⟩) | (go_at_call 44; refine (sign_int m _ (by omega) (by omega) _).mono ?_; rintro e w' ⟨rfl, rfl⟩))
    all_goals go_ret
    all_goals exact ⟨ret_u (sgnI_of m _ e _ HF.out (by omega)), _, rfl⟩
  · rw [d1]
    clear d1
    have D2 := Lib.hid d2
    clear d2
    go_upto_if 59 with (first | (go_at_call 43; refine (size_any m h1 h2 _).mono ?_; rintro e w' ⟨rfl, rfl⟩) | (go_at_call 45; refine (length_any m.natAbs (by omega) _).mono ?_; rintro e w' ⟨rfl, rfl⟩) | (go_at_call 46; refine (HR.out _).mono ?_; rintro e' w' ⟨rfl, d, rfl⟩) | (go_at_call 44; refine (sign_int m _ (by omega) (by omega) _).mono ?_; rintro e w' ⟨rfl, rfl⟩))
    rw [D2.out]
    go_wp2_with (first | (go_at_call 43; refine (size_any m h1 h2 _).mono ?_; rintro e w' ⟨rfl, rfl⟩) | (go_at_call 45; refine (length_any m.natAbs (by omega) _).mono ?_; rintro e w' ⟨rfl, rfl⟩) | (go_at_call 46; refine (HR.out _).mono ?_; rintro e' w' ⟨rfl, d, rfl⟩) | (go_at_call 44; refine (sign_int m _ (by omega) (by omega) _).mono ?_; rintro e w' ⟨rfl, rfl⟩))
    all_goals go_ret
    all_goals exact ⟨ret_u (sgnI_of m _ e _ HF.out (by omega)), _, rfl⟩
set_option maxHeartbeats 2000000 in
theorem rmake_b1 (m e : Int) (h1 : -9223372036854775808 ≤ m) (h2 : m ≤ 9223372036854775807) (h0 : m.natAbs ≠ 0) (h3 : Lib.bitLen m.natAbs ≤ 53) (hc : e + Lib.bitLen m.natAbs ≤ 1024) (hA : -1074 ≤ e + Lib.bitLen m.natAbs - 53) (w : World) : Calls Tryd.prog 21 #[.int .i64 m, .int .i64 e] w fun e' w' => e' = .returned (.int .u64 (mk m e)) ∧ ∃ d, w' = w.drewN d := by
  have hz : ((m.natAbs : Int) == 0) = false := by rw [beq_eq_false_iff_ne]; omega
  have hn : m.natAbs < 18446744073709551616 := by omega
  have hl := bitLen_bd m.natAbs h0 hn
  have l1 := hl.1
  have l2 := hl.2.1
  have hla : lastp m.natAbs e = e + Lib.bitLen m.natAbs - 53 := by unfold lastp; omega
  have hkl := kept_le m.natAbs e h0 hn
  have hlow := mkBits_low m.natAbs e h0 hn (by omega) hc
  have hfull := (mkBits_full m.natAbs e h0 hn (by omega) hc).2.2
  rw [hla] at hfull
  have hsl : IntKind.u64.wrap ((m.natAbs : Int) * 2 ^ (e - (e + Lib.bitLen m.natAbs - 53)).toNat) = (kept m.natAbs e : Nat) := by
    have hkk : kept m.natAbs e = m.natAbs * 2 ^ (e - (e + Lib.bitLen m.natAbs - 53)).toNat := by
      unfold kept
      rw [if_pos (by omega), hla]
    rw [hkk] at hkl ⊢
    exact shl_fact _ _ (by omega)
  obtain ⟨K, hK⟩ : ∃ K, kept m.natAbs e = K := ⟨_, rfl⟩
  rw [hK] at hkl hlow hfull hsl
  have HL := Lib.hid hlow
  have HF := Lib.hid hfull
  clear hl hla hlow hfull h0 hn hK
  have HKL := Lib.hid hkl
  clear hkl
  go_enter Tryd.func21, Tryd.ntmps21
  go_upto_if 54 with (first | (go_at_call 43; refine (size_any m h1 h2 _).mono ?_; rintro e w' ⟨rfl, rfl⟩) | (go_at_call 45; refine (length_any m.natAbs (by omega) _).mono ?_; rintro e w' ⟨rfl, rfl⟩) | (go_at_call 44; refine (sign_int m _ (by omega) (by omega) _).mono ?_; rintro e w' ⟨rfl, rfl⟩))
  rcases kept_cases K HKL.out with ⟨d1, k1⟩ | ⟨d1, d2, k1⟩ | ⟨d1, d2, k1, k2⟩
  · rw [d1]
    clear d1
    go_wp2_with (first | (go_at_call 43; refine (size_any m h1 h2 _).mono ?_; rintro e w' ⟨rfl, rfl⟩) | (go_at_call 45; refine (length_any m.natAbs (by omega) _).mono ?_; rintro e w' ⟨rfl, rfl⟩) | (go_at_call 44; refine (sign_int m _ (by omega) (by omega) _).mono ?_; rintro e w' ⟨rfl, rfl⟩))
    go_ret
    exact ⟨ret_u (sgnI_of m _ e K (HL.out (by omega)) rfl), 0, rfl⟩
  · rw [d1]
    clear d1
    have D2 := Lib.hid d2
    have hkl := HKL.out
    clear d2
    go_upto_if 59 with (first | (go_at_call 43; refine (size_any m h1 h2 _).mono ?_; rintro e w' ⟨rfl, rfl⟩) | (go_at_call 45; refine (length_any m.natAbs (by omega) _).mono ?_; rintro e w' ⟨rfl, rfl⟩) | (go_at_call 44; refine (sign_int m _ (by omega) (by omega) _).mono ?_; rintro e w' ⟨rfl, rfl⟩))
    rw [D2.out]
    go_wp2_with (first | (go_at_call 43; refine (size_any m h1 h2 _).mono ?_; rintro e w' ⟨rfl, rfl⟩) | (go_at_call 45; refine (length_any m.natAbs (by omega) _).mono ?_; rintro e w' ⟨rfl, rfl⟩) | (go_at_call 44; refine (sign_int m _ (by omega) (by omega) _).mono ?_; rintro e w' ⟨rfl, rfl⟩))
    all_goals go_ret
    all_goals exact ⟨ret_u (sgnI_of m _ e _ HF.out (by omega)), 0, rfl⟩
  · rw [d1]
    clear d1
    have D2 := Lib.hid d2
    clear d2
    go_upto_if 59 with (first | (go_at_call 43; refine (size_any m h1 h2 _).mono ?_; rintro e w' ⟨rfl, rfl⟩) | (go_at_call 45; refine (length_any m.natAbs (by omega) _).mono ?_; rintro e w' ⟨rfl, rfl⟩) | (go_at_call 44; refine (sign_int m _ (by omega) (by omega) _).mono ?_; rintro e w' ⟨rfl, rfl⟩))
    rw [D2.out]
    go_wp2_with (first | (go_at_call 43; refine (size_any m h1 h2 _).mono ?_; rintro e w' ⟨rfl, rfl⟩) | (go_at_call 45; refine (length_any m.natAbs (by omega) _).mono ?_; rintro e w' ⟨rfl, rfl⟩) | (go_at_call 44; refine (sign_int m _ (by omega) (by omega) _).mono ?_; rintro e w' ⟨rfl, rfl⟩))
    all_goals go_ret
    all_goals exact ⟨ret_u (sgnI_of m _ e _ HF.out (by omega)), 0, rfl⟩
set_option maxHeartbeats 2000000 in
theorem rmake_b2 (m e : Int) (h1 : -9223372036854775808 ≤ m) (h2 : m ≤ 9223372036854775807) (h0 : m.natAbs ≠ 0) (h3 : 53 < Lib.bitLen m.natAbs) (hc : e + Lib.bitLen m.natAbs ≤ 1024) (hA : -1074 ≤ e + Lib.bitLen m.natAbs - 53) (w : World) : Calls Tryd.prog 21 #[.int .i64 m, .int .i64 e] w fun e' w' => e' = .returned (.int .u64 (mk m e)) ∧ ∃ d, w' = w.drewN d := by
  have hz : ((m.natAbs : Int) == 0) = false := by rw [beq_eq_false_iff_ne]; omega
  have hn : m.natAbs < 18446744073709551616 := by omega
  have hl := bitLen_bd m.natAbs h0 hn
  have l1 := hl.1
  have l2 := hl.2.1
  have hla : lastp m.natAbs e = e + Lib.bitLen m.natAbs - 53 := by unfold lastp; omega
  have hkl := kept_le m.natAbs e h0 hn
  have hlow := mkBits_low m.natAbs e h0 hn (by omega) hc
  have hfull := (mkBits_full m.natAbs e h0 hn (by omega) hc).2.2
  rw [hla] at hfull
  have hsl : ∀ w : World, Calls Tryd.prog 46 #[.int .u64 m.natAbs, .int .i64 ((e + Lib.bitLen m.natAbs - 53) - e)] w fun e' w' => e' = .returned (.int .u64 (kept m.natAbs e)) ∧ ∃ d, w' = w.drewN d := fun w => by
    have hkk : kept m.natAbs e = rnd m.natAbs ((e + Lib.bitLen m.natAbs - 53) - e).toNat := by
      unfold kept
      rw [if_neg (by omega), hla]
    have hs := round_any m.natAbs ((e + Lib.bitLen m.natAbs - 53) - e).toNat hn (by omega) (by omega) w
    rw [show ((((e + Lib.bitLen m.natAbs - 53) - e).toNat : Nat) : Int) = (e + Lib.bitLen m.natAbs - 53) - e from by omega, ← hkk] at hs
    exact hs
  obtain ⟨K, hK⟩ : ∃ K, kept m.natAbs e = K := ⟨_, rfl⟩
  rw [hK] at hkl hlow hfull hsl
  have HL := Lib.hid hlow
  have HF := Lib.hid hfull
  clear hl hla hlow hfull h0 hn hK
  have HR := Lib.hid hsl
  clear hsl
  have HKL := Lib.hid hkl
  clear hkl
  go_enter Tryd.func21, Tryd.ntmps21
  go_upto_if 54 with (first | (go_at_call 43; refine (size_any m h1 h2 _).mono ?_; rintro e w' ⟨rfl, rfl⟩) | (go_at_call 45; refine (length_any m.natAbs (by omega) _).mono ?_; rintro e w' ⟨rfl, rfl⟩) | (go_at_call 46; refine (HR.out _).mono ?_; rintro e' w' ⟨rfl, d, rfl⟩) | (go_at_call 44; refine (sign_int m _ (by omega) (by omega) _).mono ?_; rintro e w' ⟨rfl, rfl⟩))
  rcases kept_cases K HKL.out with ⟨d1, k1⟩ | ⟨d1, d2, k1⟩ | ⟨d1, d2, k1, k2⟩
  · rw [d1]
    clear d1
    go_wp2_with (first | (go_at_call 43; refine (size_any m h1 h2 _).mono ?_; rintro e w' ⟨rfl, rfl⟩) | (go_at_call 45; refine (length_any m.natAbs (by omega) _).mono ?_; rintro e w' ⟨rfl, rfl⟩) | (go_at_call 46; refine (HR.out _).mono ?_; rintro e' w' ⟨rfl, d, rfl⟩) | (go_at_call 44; refine (sign_int m _ (by omega) (by omega) _).mono ?_; rintro e w' ⟨rfl, rfl⟩))
    go_ret
    exact ⟨ret_u (sgnI_of m _ e K (HL.out (by omega)) rfl), _, rfl⟩
  · rw [d1]
    clear d1
    have D2 := Lib.hid d2
    have hkl := HKL.out
    clear d2
    go_upto_if 59 with (first | (go_at_call 43; refine (size_any m h1 h2 _).mono ?_; rintro e w' ⟨rfl, rfl⟩) | (go_at_call 45; refine (length_any m.natAbs (by omega) _).mono ?_; rintro e w' ⟨rfl, rfl⟩) | (go_at_call 46; refine (HR.out _).mono ?_; rintro e' w' ⟨rfl, d, rfl⟩) | (go_at_call 44; refine (sign_int m _ (by omega) (by omega) _).mono ?_; rintro e w' ⟨rfl, rfl⟩))
    rw [D2.out]
    go_wp2_with (first | (go_at_call 43; refine (size_any m h1 h2 _).mono ?_; rintro e w' ⟨rfl, rfl⟩) | (go_at_call 45; refine (length_any m.natAbs (by omega) _).mono ?_; rintro e w' ⟨rfl, rfl⟩) | (go_at_call 46; refine (HR.out _).mono ?_; rintro e' w' ⟨rfl, d, rfl⟩) | (go_at_call 44; refine (sign_int m _ (by omega) (by omega) _).mono ?_; rintro e w' ⟨rfl, rfl⟩))
    all_goals go_ret
    all_goals exact ⟨ret_u (sgnI_of m _ e _ HF.out (by omega)), _, rfl⟩
  · rw [d1]
    clear d1
    have D2 := Lib.hid d2
    clear d2
    go_upto_if 59 with (first | (go_at_call 43; refine (size_any m h1 h2 _).mono ?_; rintro e w' ⟨rfl, rfl⟩) | (go_at_call 45; refine (length_any m.natAbs (by omega) _).mono ?_; rintro e w' ⟨rfl, rfl⟩) | (go_at_call 46; refine (HR.out _).mono ?_; rintro e' w' ⟨rfl, d, rfl⟩) | (go_at_call 44; refine (sign_int m _ (by omega) (by omega) _).mono ?_; rintro e w' ⟨rfl, rfl⟩))
    rw [D2.out]
    go_wp2_with (first | (go_at_call 43; refine (size_any m h1 h2 _).mono ?_; rintro e w' ⟨rfl, rfl⟩) | (go_at_call 45; refine (length_any m.natAbs (by omega) _).mono ?_; rintro e w' ⟨rfl, rfl⟩) | (go_at_call 46; refine (HR.out _).mono ?_; rintro e' w' ⟨rfl, d, rfl⟩) | (go_at_call 44; refine (sign_int m _ (by omega) (by omega) _).mono ?_; rintro e w' ⟨rfl, rfl⟩))
    all_goals go_ret
    all_goals exact ⟨ret_u (sgnI_of m _ e _ HF.out (by omega)), _, rfl⟩
set_option maxHeartbeats 1000000 in
theorem rmake_a2 (m e : Int) (h1 : -9223372036854775808 ≤ m) (h2 : m ≤ 9223372036854775807) (h0 : m.natAbs ≠ 0) (h3 : -2000 ≤ e) (h4 : e < -1138) (w : World) : Calls Tryd.prog 21 #[.int .i64 m, .int .i64 e] w fun e' w' => e' = .returned (.int .u64 (mk m e)) ∧ ∃ d, w' = w.drewN d := by
  have hz : ((m.natAbs : Int) == 0) = false := by rw [beq_eq_false_iff_ne]; omega
  have hn : m.natAbs < 18446744073709551616 := by omega
  have hl := bitLen_bd m.natAbs h0 hn
  have l1 := hl.1
  have l2 := hl.2.1
  have hm := Lib.hid (mkBits_none m.natAbs e (by omega))
  clear hl h0 hn
  go_enter Tryd.func21, Tryd.ntmps21
  go_wp2_with (first | (go_at_call 43; refine (size_any m h1 h2 _).mono ?_; rintro e w' ⟨rfl, rfl⟩) | (go_at_call 45; refine (length_any m.natAbs (by omega) _).mono ?_; rintro e w' ⟨rfl, rfl⟩) | (go_at_call 44; refine (sign_int m _ (by omega) (by omega) _).mono ?_; rintro e w' ⟨rfl, rfl⟩))
  go_ret
  exact ⟨ret_u (sgnI_of m _ e 0 hm.out rfl), 0, rfl⟩
theorem rmake_any (m e : Int) (h1 : -9223372036854775808 ≤ m) (h2 : m ≤ 9223372036854775807) (w : World) : Calls Tryd.prog 21 #[.int .i64 m, .int .i64 e] w fun e' w' => e' = .returned (.int .u64 (mk m e)) ∧ ∃ d, w' = w.drewN d := by
  by_cases h0 : m.natAbs = 0 ∨ e < -2000
  · exact rmake_none m e h1 h2 h0 w
  · have h0' : m.natAbs ≠ 0 := by omega
    have hb := (bitLen_bd m.natAbs h0' (by omega)).2.1
    by_cases hc : 1024 < e + Lib.bitLen m.natAbs
    · exact rmake_inf m e h1 h2 h0' (by omega) hc w
    · by_cases h4 : e < -1138
      · exact rmake_a2 m e h1 h2 h0' (by omega) h4 w
      · by_cases hA : e + Lib.bitLen m.natAbs - 53 < -1074
        · by_cases h5 : -1074 ≤ e
          · exact rmake_a1 m e h1 h2 h0' h5 (by omega) hA w
          · exact rmake_a3 m e h1 h2 h0' (by omega) (by omega) (by omega) hA w
        · by_cases h6 : Lib.bitLen m.natAbs ≤ 53
          · exact rmake_b1 m e h1 h2 h0' h6 (by omega) (by omega) w
          · exact rmake_b2 m e h1 h2 h0' (by omega) (by omega) (by omega) w
end Go.Proofs.YtdnifilmckialaaDoor
