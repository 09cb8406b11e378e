/- Plain mathematics: the quotient's bits; what the reference makes of them; the way back. -/
import Derived.Test.YtdnifilmckialaaDoorMathX
namespace Go.Proofs.YtdnifilmckialaaDoor
open Ieee

theorem pow_half (S k : Nat) (hk : 1 ≤ k) : S * 2 ^ k = S * 2 ^ (k - 1) * 2 := by
  obtain ⟨j, rfl⟩ : ∃ j, k = j + 1 := ⟨k - 1, by omega⟩
  rw [Nat.pow_succ, Nat.add_sub_cancel, Nat.mul_assoc]
/-- There is one power only. -/
theorem one_power (S t u : Nat) (t1 : 9007199254740992 ≤ S * 2 ^ t / 1000) (t2 : S * 2 ^ t / 1000 < 18014398509481984) (u1 : 9007199254740992 ≤ S * 2 ^ u / 1000) (u2 : S * 2 ^ u / 1000 < 18014398509481984) : t = u := by
  have key : ∀ a b : Nat, a < b → 9007199254740992 ≤ S * 2 ^ a / 1000 → S * 2 ^ b / 1000 < 18014398509481984 → False := by
    intro a b hab h1 h2
    have e : S * 2 ^ b = S * 2 ^ a * 2 ^ (b - a) := by rw [Nat.mul_assoc, ← Nat.pow_add, show a + (b - a) = b by omega]
    have g : 2 ^ 1 ≤ 2 ^ (b - a) := pow_mono (by omega)
    have g2 := Nat.mul_le_mul_left (S * 2 ^ a) g
    rw [← e] at g2
    omega
  rcases Nat.lt_trichotomy t u with h | h | h
  · exact absurd (key t u h t1 u2) id
  · exact h
  · exact absurd (key u t h u1 t2) id
theorem power_bd (S t : Nat) (h0 : 1 ≤ S) (h : S ≤ 9007199254740992) (t1 : 9007199254740992 ≤ S * 2 ^ t / 1000) (t2 : S * 2 ^ t / 1000 < 18014398509481984) : 1 ≤ t ∧ t ≤ 63 := by
  constructor
  · rcases Nat.eq_zero_or_pos t with rfl | hp
    · rw [Nat.pow_zero] at t1; omega
    · exact hp
  · apply Nat.le_of_not_lt
    intro hh
    have := pow_mono (a := 64) (b := t) (by omega)
    have := Nat.mul_le_mul h0 this
    omega
/-- The bits' size. -/
def qbits (S t : Nat) : Nat := (1075 - t) * 4503599627370496 + rne (S * 2 ^ (t - 1)) 1000
theorem rne_rng (S t : Nat) (ht : 1 ≤ t) (t1 : 9007199254740992 ≤ S * 2 ^ t / 1000) (t2 : S * 2 ^ t / 1000 < 18014398509481984) : 4503599627370496 ≤ rne (S * 2 ^ (t - 1)) 1000 ∧ rne (S * 2 ^ (t - 1)) 1000 ≤ 9007199254740992 := by
  have e : S * 2 ^ t = 2 * (S * 2 ^ (t - 1)) := by
    obtain ⟨j, rfl⟩ : ∃ j, t = j + 1 := ⟨t - 1, by omega⟩
    rw [Nat.pow_succ, Nat.add_sub_cancel, Nat.mul_comm (2 ^ j) 2, Nat.mul_left_comm]
  rw [e] at t1 t2
  generalize S * 2 ^ (t - 1) = a at *
  unfold rne
  split <;> omega
theorem near_q (neg : Bool) (mag d t : Nat) (place : Int) (L : Nat) (hL : mag.log2 = L) (hm : mag ≠ 0) (hp : place + L - 52 = 1 - t) (hd : (1 - (t : Int) - place).toNat = d) (hd0 : (place - (1 - (t : Int))).toNat = 0) (ht : t ≤ 63) (k : Nat) (hk : Toward.even.cut neg mag d = k) (hk2 : k ≤ 9007199254740992) :
    double.nearest neg mag place = double.word neg ((1075 - t) * 4503599627370496 + k) := by
  unfold Format.nearest
  rw [if_neg hm]
  simp only [hL, fb, lp, bn, ir]
  have l1 : max (place + (L : Int) - ((52 : Nat) : Int)) (-1074) = 1 - (t : Int) := by omega
  rw [l1, hd, hd0, Nat.shiftLeft_eq, Nat.pow_zero, Nat.mul_one, hk]
  have l4 : (1 - (t : Int) - -1074).toNat = 1075 - t := by omega
  rw [l4, Nat.min_eq_left (by omega)]
theorem quo_bits (neg : Bool) (S t : Nat) (h0 : 1 ≤ S) (h : S ≤ 9007199254740992) (t1 : 9007199254740992 ≤ S * 2 ^ t / 1000) (t2 : S * 2 ^ t / 1000 < 18014398509481984) :
    double.div (double.nearest neg S 0) 4652007308841189376 = some (double.word neg (qbits S t)) := by
  obtain ⟨M, K, hread, m1, m2, k1, k2, hMK⟩ := read_whole S h0 h neg
  obtain ⟨q1, q2⟩ := power_bd S t h0 h t1 t2
  have hr := rne_rng S t q1 t1 t2
  have r1000 : double.read 4652007308841189376 = .number false 8796093022208000 (-43) := by decide +kernel
  have lM : M.log2 = 52 := log2_eq M 52 m1 m2
  have lN : (8796093022208000 : Nat).log2 = 52 := by decide +kernel
  unfold Format.div
  rw [hread, r1000]
  simp only [Datum.quotient, fb, lM, lN]
  rw [if_neg (by decide)]
  simp only [Option.map_some, Format.write, Bool.xor_false, Nat.shiftLeft_eq]
  congr 1
  have e1 : M * 2 ^ (52 + 2 + 52 - 52) = M * 2 ^ 11 * 8796093022208 := by
    rw [Nat.mul_assoc]
  have e2 : (8796093022208000 : Nat) = 1000 * 8796093022208 := by decide
  have e3 : M * 2 ^ (52 + 2 + 52 - 52) / 8796093022208000 = M * 2 ^ 11 / 1000 := by rw [e1, e2]; exact Nat.mul_div_mul_right _ _ (by decide)
  have e4 : (M * 2 ^ (52 + 2 + 52 - 52) % 8796093022208000 != 0) = (M * 2 ^ 11 % 1000 != 0) := by
    rw [e1, e2, Nat.mul_mod_mul_right]
    rw [Bool.eq_iff_iff, bne_iff_ne, bne_iff_ne]
    constructor
    · intro hh hz
      rw [hz] at hh
      exact hh (Nat.zero_mul _)
    · intro hh hz
      rcases Nat.mul_eq_zero.1 hz with hz | hz
      · exact hh hz
      · exact absurd hz (by decide)
  rw [e3, e4]
  have x1 : 9223372036854775808 ≤ M * 2 ^ 11 := by omega
  have x2 : M * 2 ^ 11 < 18446744073709551616 := by omega
  clear e1 e2 e3 e4 hread
  generalize M * 2 ^ 11 = X at *
  obtain ⟨s, hs⟩ : ∃ s, (X % 1000 != 0).toNat = s := ⟨_, rfl⟩
  have hs' : (X % 1000 = 0 ∧ s = 0) ∨ (X % 1000 ≠ 0 ∧ s = 1) := by
    by_cases c : X % 1000 = 0
    · left; rw [c] at hs; exact ⟨c, hs.symm⟩
    · right
      have : (X % 1000 != 0) = true := by simpa using c
      rw [this] at hs
      exact ⟨c, hs.symm⟩
  rw [hs]
  clear hs
  unfold qbits
  by_cases c : X / 1000 < 18014398509481984
  · have ht : K = t := one_power S K t (by rw [← hMK]; omega) (by rw [← hMK]; exact c) t1 t2
    subst ht
    have hlog : (2 * (X / 1000) + s).log2 = 54 := log2_eq _ 54 (by omega) (by omega)
    refine near_q neg _ 2 K _ 54 hlog (by omega) (by omega) (by omega) (by omega) q2 _ ?_ hr.2
    rw [cut_2 X _ s neg rfl hs', hMK]
    have : S * 2 ^ K = S * 2 ^ (K - 1) * 2 := pow_half S K (by omega)
    rw [this]
    exact rne_mul _ 1000 2 (by decide)
  · have e5 : S * 2 ^ K = S * 2 ^ (K - 1) * 2 := pow_half S K (by omega)
    have ht : K - 1 = t := one_power S (K - 1) t (by omega) (by omega) t1 t2
    have hlog : (2 * (X / 1000) + s).log2 = 55 := log2_eq _ 55 (by omega) (by omega)
    refine near_q neg _ 3 t _ 55 hlog (by omega) (by omega) (by omega) (by omega) q2 _ ?_ hr.2
    rw [cut_3 X _ s neg (by omega) rfl hs', hMK]
    have : S * 2 ^ K = S * 2 ^ (t - 1) * 4 := by rw [Nat.mul_assoc, show (4 : Nat) = 2 ^ 2 from rfl, ← Nat.pow_add, show t - 1 + 2 = K by omega]
    rw [this]
    exact rne_mul _ 1000 4 (by decide)
/-- What the reference makes of its digits. -/
theorem mk_q (m t : Nat) (h1 : 4503599627370496 ≤ m) (h2 : m ≤ 9007199254740992) (t1 : 1 ≤ t) (t2 : t ≤ 63) : mkBits m (1 - t) = (1075 - t) * 4503599627370496 + m := by
  obtain ⟨b1, b2, b3, b4⟩ := bitLen_bd m (by omega) (by omega)
  rw [mkBits_mid m _ (by omega) (by omega) (by omega)]
  by_cases c : m = 9007199254740992
  · have hb : Lib.bitLen m = 54 := by rw [c]; decide +kernel
    have hl : lastp m (1 - t) = 2 - t := by unfold lastp; rw [hb]; omega
    have hk : kept m (1 - t) = 4503599627370496 := by
      unfold kept
      rw [hl, if_neg (by omega), show ((2 : Int) - t - (1 - t)).toNat = 1 by omega, c]
      decide +kernel
    rw [hl, hk, show ((2 : Int) - t + 1074).toNat = 1076 - t by omega, c, Nat.min_eq_left (by omega)]
    omega
  · have hb : Lib.bitLen m = 53 := by
      have g1 : Lib.bitLen m < 54 := by
        apply Nat.lt_of_not_le
        intro hh
        have := pow_mono (a := 53) (b := Lib.bitLen m - 1) (by omega)
        omega
      have g2 : 52 < Lib.bitLen m := by
        apply Nat.lt_of_not_le
        intro hh
        have := pow_mono hh
        omega
      omega
    have hl : lastp m (1 - t) = 1 - t := by unfold lastp; rw [hb]; omega
    have hk : kept m (1 - t) = m := by
      unfold kept
      rw [hl, if_pos (by omega), show ((1 : Int) - t - (1 - t)).toNat = 0 by omega, Nat.pow_zero, Nat.mul_one]
    rw [hl, hk, show ((1 : Int) - t + 1074).toNat = 1075 - t by omega, Nat.min_eq_left (by omega)]
theorem mk_word (n : Int) (S t : Nat) (h0 : 1 ≤ S) (h : S ≤ 9007199254740992) (t1 : 9007199254740992 ≤ S * 2 ^ t / 1000) (t2 : S * 2 ^ t / 1000 < 18014398509481984) :
    mk (if n < 0 then -(rne (S * 2 ^ (t - 1)) 1000 : Int) else (rne (S * 2 ^ (t - 1)) 1000 : Nat)) (1 - t) = double.word (decide (n < 0)) (qbits S t) := by
  obtain ⟨q1, q2⟩ := power_bd S t h0 h t1 t2
  obtain ⟨r1, r2⟩ := rne_rng S t q1 t1 t2
  have e := mk_q _ t r1 r2 q1 q2
  unfold mk
  have ha : (if n < 0 then -(rne (S * 2 ^ (t - 1)) 1000 : Int) else (rne (S * 2 ^ (t - 1)) 1000 : Nat)).natAbs = rne (S * 2 ^ (t - 1)) 1000 := by split <;> omega
  rw [ha, e]
  unfold sgn Format.word qbits
  rw [sw]
  by_cases c : n < 0
  · rw [if_pos c, if_pos (by omega), decide_eq_true c, if_pos rfl, Nat.add_comm]
  · rw [if_neg c, if_neg (by omega), decide_eq_false c, if_neg (by simp)]
theorem qbits_cls (S t : Nat) (h0 : 1 ≤ S) (h : S ≤ 9007199254740992) (t1 : 9007199254740992 ≤ S * 2 ^ t / 1000) (t2 : S * 2 ^ t / 1000 < 18014398509481984) : qbits S t < 9218868437227405312 ∧ cls (qbits S t) = 5 ∧ val (qbits S t) = rne (S * 2 ^ (t - 1)) 1000 * 2 ^ (1075 - t) := by
  obtain ⟨q1, q2⟩ := power_bd S t h0 h t1 t2
  obtain ⟨r1, r2⟩ := rne_rng S t q1 t1 t2
  unfold qbits
  generalize rne (S * 2 ^ (t - 1)) 1000 = m at *
  have b1 : (1075 - t) * 4503599627370496 + m < 9218868437227405312 := by omega
  have b2 : cls ((1075 - t) * 4503599627370496 + m) = 5 := by
    rw [cls_5]
    omega
  refine ⟨b1, b2, ?_⟩
  unfold val man exq
  rw [if_pos b2, if_pos b2]
  clear t1 t2 h h0 b2
  by_cases c : m = 9007199254740992
  · subst c
    have e1 : ((1075 - t) * 4503599627370496 + 9007199254740992) % 4503599627370496 = 0 := by omega
    have e2 : ((((1075 - t) * 4503599627370496 + 9007199254740992 : Nat) : Int) / 4503599627370496 % 2048 - 1075 + 1074).toNat = 1076 - t := by omega
    rw [e1, e2]
    have : 1076 - t = (1075 - t) + 1 := by omega
    rw [this, Nat.pow_succ]
    generalize 2 ^ (1075 - t) = P
    omega
  · have e1 : ((1075 - t) * 4503599627370496 + m) % 4503599627370496 = m - 4503599627370496 := by omega
    have e2 : ((((1075 - t) * 4503599627370496 + m : Nat) : Int) / 4503599627370496 % 2048 - 1075 + 1074).toNat = 1075 - t := by omega
    rw [e1, e2]
    congr 1
    omega
end Go.Proofs.YtdnifilmckialaaDoor
