/- Products, ranges, remainders and shares: what the program and the reference answer. -/
import Derived.Test.YtjpojidpmmodnaaNA
import Derived.Deep.QuietTactic
import Derived.BigQuiet
namespace Go.Proofs.Ytjpojidpmmodnaa
open Go.RowKit

/-- A number brought into a range. -/
def btw (n lo hi : Int) : Int := if n < lo then lo else if hi < n then hi else n
/-- What is left of a number. -/
def modV (n m : Int) : Int := if m < 1 then 0 else if n.tmod m < 0 then n.tmod m + m else n.tmod m
theorem tmod_lt' (n m : Int) (h : 1 ≤ m) : n.tmod m < m ∧ -m < n.tmod m := by
  have h1 := Int.tmod_lt_of_pos n (show 0 < m by omega)
  have h2 := Int.tmod_lt_of_pos (-n) (show 0 < m by omega)
  rw [Int.neg_tmod] at h2
  omega
/-- A part of a number. -/
def shr (n p i : Int) : Int := if 0 ≤ n ∧ n ≤ 1099511627776 ∧ 1 ≤ p ∧ p ≤ 65536 ∧ 0 ≤ i ∧ i < p then (i + 1) * n / p - i * n / p else 0

theorem share_wraps (n p i : Int) (h1 : 0 ≤ n) (h2 : n ≤ 1099511627776) (h3 : 1 ≤ p) (h4 : p ≤ 65536) (h5 : 0 ≤ i) (h6 : i < p) :
    wrap64 (wrap64 ((wrap64 ((i + 1) * n)).tdiv p) - wrap64 ((wrap64 (i * n)).tdiv p)) = shr n p i := by
  have a1 : (i + 1) * n ≤ 65536 * 1099511627776 := Int.mul_le_mul (by omega) h2 h1 (by omega)
  have a2 : 0 ≤ (i + 1) * n := Int.mul_nonneg (by omega) h1
  have b1 : i * n ≤ 65536 * 1099511627776 := Int.mul_le_mul (by omega) h2 h1 (by omega)
  have b2 : 0 ≤ i * n := Int.mul_nonneg h5 h1
  rw [shr, if_pos ⟨h1, h2, h3, h4, h5, h6⟩, wrap64_fits ((i + 1) * n) (by constructor <;> omega), wrap64_fits (i * n) (by constructor <;> omega),
    Int.tdiv_eq_ediv_of_nonneg a2, Int.tdiv_eq_ediv_of_nonneg b2]
  have c1 := Int.ediv_nonneg a2 (show 0 ≤ p by omega)
  have c2 := Int.ediv_le_self p a2
  have d1 := Int.ediv_nonneg b2 (show 0 ≤ p by omega)
  have d2 := Int.ediv_le_self p b2
  rw [wrap64_fits ((i + 1) * n / p) (by constructor <;> omega), wrap64_fits (i * n / p) (by constructor <;> omega), wrap64_fits _ (by constructor <;> omega)]
/-- A product that has gone round shows in the quotient. -/
theorem mul_shows (a b : Int) (ha : fits a) (h0 : a ≠ 0) (h1 : a ≠ -1) : (wrap64 ((wrap64 (a * b)).tdiv a) = b) ↔ fits (a * b) := by
  obtain ⟨p, hp⟩ : ∃ p, p = wrap64 (a * b) := ⟨_, rfl⟩
  rw [← hp]
  have hpf : fits p := by subst hp; unfold wrap64; constructor <;> omega
  have hq : fits (p.tdiv a) := by
    have e := Int.natAbs_tdiv p a
    have : p.natAbs.div a.natAbs ≤ p.natAbs := Nat.div_le_self _ _
    unfold fits at *
    by_cases ha1 : a = 1
    · subst ha1; rw [Int.tdiv_one]; exact hpf
    · have h2 : p.natAbs / a.natAbs ≤ 9223372036854775808 / 2 := by
        refine Nat.le_trans (Nat.div_le_div_left (show 2 ≤ a.natAbs by omega) (by omega)) (Nat.div_le_div_right (by omega))
      have e' : (p.tdiv a).natAbs = p.natAbs / a.natAbs := e
      omega
  rw [wrap64_fits _ hq]
  constructor
  · intro h
    have e1 := Int.tmod_add_mul_tdiv p a
    have e2 := Int.natAbs_tmod p a
    have e3 : p.natAbs % a.natAbs < a.natAbs := Nat.mod_lt _ (by omega)
    rw [h] at e1
    have e4 : p = (a * b + 9223372036854775808) % 18446744073709551616 - 9223372036854775808 := by rw [hp, wrap64]
    unfold fits at *
    generalize a * b = m at *
    omega
  · intro h
    rw [hp, wrap64_fits _ h]
    exact Int.mul_tdiv_cancel_left b h0
theorem mul_size' (a b : Int) (hb : b ≠ 0) (m : Nat) : ((a.natAbs : Int) ≤ (m : Int) / (b.natAbs : Int)) ↔ (a * b).natAbs ≤ m := by
  rw [← natAbs_mul_le a b m (by omega), ← Int.natCast_ediv, Int.ofNat_le]
theorem mul_size (a b : Int) (hb : b ≠ 0) (m : Nat) : ((m : Int) / (b.natAbs : Int) < (a.natAbs : Int)) ↔ m < (a * b).natAbs := by
  have := mul_size' a b hb m
  omega
theorem mul_neg' (a b : Int) (ha : a ≠ 0) (hb : b ≠ 0) (h : (!decide (a < 0) == decide (b < 0)) = true) : a * b < 0 := by
  by_cases h1 : a < 0 <;> by_cases h2 : b < 0 <;> simp [h1, h2] at h
  · exact Int.mul_neg_of_neg_of_pos h1 (by omega)
  · exact Int.mul_neg_of_pos_of_neg (by omega) h2
theorem mul_pos' (a b : Int) (ha : a ≠ 0) (hb : b ≠ 0) (h : (!decide (a < 0) == decide (b < 0)) = false) : 0 < a * b := by
  by_cases h1 : a < 0 <;> by_cases h2 : b < 0 <;> simp [h1, h2] at h
  · exact Int.mul_pos_of_neg_of_neg h1 h2
  · exact Int.mul_pos (by omega) (by omega)
set_option maxHeartbeats 400000 in
theorem between_any (n lo hi : Int) (w : World) : Calls Try.prog 20 #[.int .i64 n, .int .i64 lo, .int .i64 hi] w fun e w' => e = .returned (.int .i64 (btw n lo hi)) ∧ w = w' := by
  go_enter Try.func20, Try.ntmps20
  go_wp2
  all_goals
    go_ret
    refine ⟨ret_i ?_, rfl⟩
    unfold btw
    (repeat' split) <;> omega
set_option maxHeartbeats 400000 in
theorem rbetween_any (n lo hi : Int) (w : World) : Calls Try.prog 21 #[.int .i64 n, .int .i64 lo, .int .i64 hi] w fun e w' => e = .returned (.int .i64 (btw n lo hi)) ∧ w = w' := by
  go_enter Try.func21, Try.ntmps21
  go_wp2
  all_goals
    go_ret
    refine ⟨ret_i ?_, rfl⟩
    unfold btw
    (repeat' split) <;> omega
set_option maxHeartbeats 400000 in
theorem mod_any (n m : Int) (hn : fits n) (hm : fits m) (w : World) : Calls Try.prog 22 #[.int .i64 n, .int .i64 m] w fun e w' => e = .returned (.int .i64 (modV n m)) ∧ w = w' := by
  have HN := Lib.hid hn
  have HM := Lib.hid hm
  clear hn hm
  by_cases h : m < 1
  · go_enter Try.func22, Try.ntmps22
    go_wp2
    go_ret
    exact ⟨ret_i (if_pos h).symm, rfl⟩
  · have hd := Lib.hid h
    go_enter Try.func22, Try.ntmps22
    go_wp2
    all_goals
      go_ret
      refine ⟨ret_i ?_, rfl⟩
      rw [modV, if_neg (by have := hd.out; omega)]
      have hb := tmod_lt' n m (by have := hd.out; omega)
      have hm := HM.out
      have hn := HN.out
      unfold fits at hm
      (try simp only [wrap64])
      split <;> omega
set_option maxHeartbeats 400000 in
theorem share_any (n p i : Int) (w : World) : Calls Try.prog 24 #[.int .i64 n, .int .i64 p, .int .i64 i] w fun e w' => e = .returned (.int .i64 (shr n p i)) ∧ ∃ d, w' = w.drewN d := by
  by_cases h : 0 ≤ n ∧ n ≤ 1099511627776 ∧ 1 ≤ p ∧ p ≤ 65536 ∧ 0 ≤ i ∧ i < p
  · obtain ⟨h1, h2, h3, h4, h5, h6⟩ := h
    have hp0 : (p == 0) = false := by rw [beq_eq_false_iff_ne]; omega
    go_enter Try.func24, Try.ntmps24
    go_wp2
    go_quiet (fail)
    go_wp2
    go_ret
    exact ⟨ret_i (share_wraps n p i h1 h2 h3 h4 h5 h6), _, rfl⟩
  · have hd := Lib.hid h
    clear h
    go_enter Try.func24, Try.ntmps24
    go_wp2
    all_goals first
      | (exfalso; have := hd.out; omega)
      | (go_ret; refine ⟨ret_i ?_, 0, by trivial⟩; exact (if_neg hd.out).symm)
set_option maxHeartbeats 400000 in
theorem rshare_any (n p i : Int) (w : World) : Calls Try.prog 25 #[.int .i64 n, .int .i64 p, .int .i64 i] w fun e w' => e = .returned (.int .i64 (shr n p i)) ∧ ∃ d, w' = w.drewN d := by
  by_cases h : 0 ≤ n ∧ n ≤ 1099511627776 ∧ 1 ≤ p ∧ p ≤ 65536 ∧ 0 ≤ i ∧ i < p
  · obtain ⟨h1, h2, h3, h4, h5, h6⟩ := h
    have hp0 : (p == 0) = false := by rw [beq_eq_false_iff_ne]; omega
    go_enter Try.func25, Try.ntmps25
    go_wp2
    go_quiet (fail)
    go_wp2
    go_ret
    exact ⟨ret_i (share_wraps n p i h1 h2 h3 h4 h5 h6), _, rfl⟩
  · have hd := Lib.hid h
    clear h
    go_enter Try.func25, Try.ntmps25
    go_wp2
    all_goals first
      | (exfalso; have := hd.out; omega)
      | (go_ret; refine ⟨ret_i ?_, 0, by trivial⟩; exact (if_neg hd.out).symm)
set_option maxHeartbeats 400000 in
theorem rmod_any (n m : Int) (hn : fits n) (hm : fits m) (w : World) : Calls Try.prog 23 #[.int .i64 n, .int .i64 m] w fun e w' => e = .returned (.int .i64 (modV n m)) ∧ w = w' := by
  have HN := Lib.hid hn
  have HM := Lib.hid hm
  clear hn hm
  by_cases h : m < 1
  · go_enter Try.func23, Try.ntmps23
    go_wp2
    go_ret
    exact ⟨ret_i (if_pos h).symm, rfl⟩
  · have hd := Lib.hid h
    go_enter Try.func23, Try.ntmps23
    go_wp2
    all_goals
      go_ret
      refine ⟨ret_i ?_, rfl⟩
      rw [modV, if_neg (by have := hd.out; omega)]
      have hb := tmod_lt' n m (by have := hd.out; omega)
      have hm := HM.out
      have hn := HN.out
      unfold fits at hm
      (try simp only [wrap64])
      split <;> omega
set_option maxHeartbeats 400000 in
theorem mul_any (a b : Int) (ha : fits a) (hb : fits b) (w : World) : Calls Try.prog 13 #[.int .i64 a, .int .i64 b] w fun e w' => e = .returned (.tuple #[.int .i64 (fitV (a * b)), .int .i64 (fitE (a * b))]) ∧ w = w' := by
  have hs := fun h0 h1 => mul_shows a b ha h0 h1
  have HS := Lib.hid hs
  have HA := Lib.hid ha
  have HB := Lib.hid hb
  clear ha hb hs
  by_cases h0 : a = 0
  · subst h0
    go_enter Try.func13, Try.ntmps13
    go_wp2
    go_ret2
    exact ⟨ret_ii (by rw [Int.zero_mul]; rfl) (by rw [Int.zero_mul]; rfl), rfl⟩
  · by_cases h1 : a = -1
    · subst h1
      go_enter Try.func13, Try.ntmps13
      go_wp2_with (go_at_call 12; refine (sub_any _ _ (by decide) HB.out _).mono ?_; rintro e w' ⟨rfl, rfl⟩)
      go_ret2
      exact ⟨ret_ii (by rw [Int.neg_mul, Int.one_mul]) (by rw [Int.neg_mul, Int.one_mul]), rfl⟩
    · have e0 : (a == 0) = false := by rw [beq_eq_false_iff_ne]; exact h0
      have e1 : (a == -1) = false := by rw [beq_eq_false_iff_ne]; exact h1
      have hs := HS.out h0 h1
      clear HS h1
      have HS := Lib.hid hs
      clear hs
      go_enter Try.func13, Try.ntmps13
      go_wp2
      · go_ret2
        have hn : ¬ fits (a * b) := fun k => (bne_iff_ne.1 ‹_›) (HS.out.2 k)
        exact ⟨ret_ii (if_neg hn).symm (if_neg hn).symm, rfl⟩
      · go_ret2
        have hn : fits (a * b) := HS.out.1 (bne_eq_false_iff_eq.1 ‹_›)
        exact ⟨ret_ii (by rw [fitV, if_pos hn, wrap64_fits _ hn]) (if_pos hn).symm, rfl⟩
set_option maxHeartbeats 400000 in
theorem rmul_any (a b : Int) (ha : fits a) (hb : fits b) (w : World) : Calls Try.prog 16 #[.int .i64 a, .int .i64 b] w fun e w' => e = .returned (.tuple #[.int .i64 (fitV (a * b)), .int .i64 (fitE (a * b))]) ∧ w = w' := by
  have HA := Lib.hid ha
  have HB := Lib.hid hb
  clear ha hb
  by_cases h0 : a = 0
  · subst h0
    go_enter Try.func16, Try.ntmps16
    go_wp2_with (go_at_call 47; first | (with_reducible refine (rsize_any 0 HA.out _).mono ?_; rintro e w' ⟨rfl, rfl⟩) | (with_reducible refine (rsize_any b HB.out _).mono ?_; rintro e w' ⟨rfl, rfl⟩))
    go_ret2
    exact ⟨ret_ii (by rw [Int.zero_mul]; rfl) (by rw [Int.zero_mul]; rfl), rfl⟩
  · by_cases h1 : b = 0
    · subst h1
      go_enter Try.func16, Try.ntmps16
      go_wp2_with (go_at_call 47; first | (with_reducible refine (rsize_any a HA.out _).mono ?_; rintro e w' ⟨rfl, rfl⟩) | (with_reducible refine (rsize_any 0 HB.out _).mono ?_; rintro e w' ⟨rfl, rfl⟩))
      go_ret2
      exact ⟨ret_ii (by rw [Int.mul_zero]; rfl) (by rw [Int.mul_zero]; rfl), rfl⟩
    · have e0 : ((a.natAbs : Int) == 0) = false := by rw [beq_eq_false_iff_ne]; omega
      have e1 : ((b.natAbs : Int) == 0) = false := by rw [beq_eq_false_iff_ne]; omega
      go_enter Try.func16, Try.ntmps16
      go_wp2_with (go_at_call 47; first | (with_reducible refine (rsize_any a HA.out _).mono ?_; rintro e w' ⟨rfl, rfl⟩) | (with_reducible refine (rsize_any b HB.out _).mono ?_; rintro e w' ⟨rfl, rfl⟩))
      · go_ret2
        have hs := mul_neg' a b h0 h1 ‹_›
        have hz := (mul_size a b h1 9223372036854775808).1 ‹_›
        have hn : ¬ fits (a * b) := by unfold fits; omega
        exact ⟨ret_ii (if_neg hn).symm (if_neg hn).symm, rfl⟩
      · go_ret2
        have hs := mul_neg' a b h0 h1 ‹_›
        have hz := (mul_size' a b h1 9223372036854775808).1 ‹_›
        have hn : fits (a * b) := by unfold fits; omega
        refine ⟨ret_ii ?_ (if_pos hn).symm, rfl⟩
        rw [fitV, if_pos hn, ← Int.natCast_mul, ← Int.natAbs_mul, wrap64, wrap64, wrap64, IntKind.wrap_u64, IntKind.wrap_u64]
        omega
      · go_ret2
        have hs := mul_pos' a b h0 h1 ‹_›
        have hz := (mul_size a b h1 9223372036854775807).1 ‹_›
        have hn : ¬ fits (a * b) := by unfold fits; omega
        exact ⟨ret_ii (if_neg hn).symm (if_neg hn).symm, rfl⟩
      · go_ret2
        have hs := mul_pos' a b h0 h1 ‹_›
        have hz := (mul_size' a b h1 9223372036854775807).1 ‹_›
        have hn : fits (a * b) := by unfold fits; omega
        refine ⟨ret_ii ?_ (if_pos hn).symm, rfl⟩
        rw [fitV, if_pos hn, ← Int.natCast_mul, ← Int.natAbs_mul, wrap64, IntKind.wrap_u64]
        omega
end Go.Proofs.Ytjpojidpmmodnaa
