/- Plain mathematics of floats: their place in the order as a whole number, and that the model's order is that order. -/
import Ieee.Arith
import GoSem.Core.Float
import Derived.Laws.FloatArith
namespace Go.Proofs.Ytlgpnjbhmoomfaa
open Ieee

theorem sw : double.signWeight = 9223372036854775808 := by decide +kernel
theorem bn : double.binade = 4503599627370496 := by decide +kernel
theorem ir : double.infRung = 9218868437227405312 := by decide +kernel
theorem lp : double.leastPlace = -1074 := by decide +kernel
theorem fb : double.fractionBits = 52 := rfl
theorem pow_mono {a b : Nat} (h : a ≤ b) : 2 ^ a ≤ 2 ^ b := Nat.pow_le_pow_right (by decide) h

/-- Is it a no-number? -/
def nan (b : Nat) : Prop := 9218868437227405312 < b % 9223372036854775808
instance (b : Nat) : Decidable (nan b) := Nat.decLt _ _
def nanb (b : Nat) : Bool := decide (nan b)
/-- Its sign; its rung. -/
def sg (s : Bool) (n : Nat) : Int := if s = true then -(n : Int) else n
def sb (b : Nat) : Bool := b / 9223372036854775808 % 2 == 1
def rg (b : Nat) : Nat := b % 9223372036854775808
/-- The place in the order. -/
def vf (b : Nat) : Int := sg (sb b) (rg b)
/-- A rung's value, in units of 2^-1074. -/
def rv (r : Nat) : Nat := if r < 4503599627370496 then r else (4503599627370496 + r % 4503599627370496) * 2 ^ (r / 4503599627370496 - 1)

theorem rv_succ (r : Nat) : rv r < rv (r + 1) := by
  unfold rv
  by_cases h : r + 1 < 4503599627370496
  · rw [if_pos (by omega), if_pos h]; omega
  · by_cases h2 : r + 1 = 4503599627370496
    · rw [if_pos (by omega), if_neg h, h2]
      simp only [Nat.reduceMod, Nat.reduceDiv, Nat.reduceSub, Nat.pow_zero]
      omega
    · rw [if_neg (by omega), if_neg h]
      by_cases h3 : r % 4503599627370496 + 1 < 4503599627370496
      · have e1 : (r + 1) % 4503599627370496 = r % 4503599627370496 + 1 := by omega
        have e2 : (r + 1) / 4503599627370496 = r / 4503599627370496 := by omega
        rw [e1, e2]
        exact Nat.mul_lt_mul_of_pos_right (by omega) (Nat.two_pow_pos _)
      · have e1 : (r + 1) % 4503599627370496 = 0 := by omega
        have e2 : (r + 1) / 4503599627370496 - 1 = (r / 4503599627370496 - 1) + 1 := by omega
        have e3 : r % 4503599627370496 = 4503599627370495 := by omega
        rw [e1, e2, e3, Nat.pow_succ]
        have := Nat.two_pow_pos (r / 4503599627370496 - 1)
        generalize 2 ^ (r / 4503599627370496 - 1) = p at *
        omega
theorem rv_lt {r s : Nat} (h : r < s) : rv r < rv s := by
  induction s with
  | zero => omega
  | succ s ih =>
    by_cases e : r = s
    · subst e; exact rv_succ r
    · exact Nat.lt_trans (ih (by omega)) (rv_succ s)
theorem rv_iff (r s : Nat) : rv r < rv s ↔ r < s := by
  constructor
  · intro h
    apply Nat.lt_of_not_le
    intro hh
    rcases Nat.lt_or_eq_of_le hh with h2 | h2
    · have := rv_lt h2; omega
    · rw [h2] at h; omega
  · exact rv_lt
theorem rv_eq (r s : Nat) : rv r = rv s ↔ r = s := by
  constructor
  · intro h
    rcases Nat.lt_trichotomy r s with h1 | h1 | h1
    · have := rv_lt h1; omega
    · exact h1
    · have := rv_lt h1; omega
  · intro h; rw [h]
theorem rv_0 : rv 0 = 0 := by unfold rv; rw [if_pos (by omega)]

/-- How the model reads a float that is a number. -/
theorem read_fin (b : Nat) (h : rg b < 9218868437227405312) : ∃ (m : Nat) (p : Int), double.read b = .number (sb b) m p ∧ -1074 ≤ p ∧ m * 2 ^ (p + 1074).toNat = rv (rg b) := by
  unfold Format.read
  simp only [sw, bn, ir, lp]
  unfold rg at h ⊢
  by_cases h1 : b % 9223372036854775808 < 4503599627370496
  · rw [if_pos h1]
    refine ⟨_, _, rfl, by omega, ?_⟩
    unfold rv
    rw [if_pos h1]
    simp
  · rw [if_neg h1, if_pos h]
    refine ⟨_, _, rfl, by omega, ?_⟩
    unfold rv
    rw [if_neg h1]
    congr 2
    omega
theorem read_inf (b : Nat) (h : rg b = 9218868437227405312) : double.read b = .infinity (sb b) := by
  unfold Format.read
  simp only [sw, bn, ir, lp]
  unfold rg at h
  rw [h, if_neg (by omega), if_neg (by omega), if_pos rfl]
  rfl
theorem read_nan (b : Nat) (h : nan b) : ∃ s t, double.read b = .nan s t := by
  unfold Format.read
  simp only [sw, bn, ir, lp]
  unfold nan at h
  rw [if_neg (by omega), if_neg (by omega), if_neg (by omega)]
  exact ⟨_, _, rfl⟩

theorem signed_sg (s : Bool) (m k : Nat) : signed s m k = sg s (m * 2 ^ k) := by
  unfold signed sg
  rw [Nat.shiftLeft_eq]
theorem sg_mul (s : Bool) (n k : Nat) : sg s (n * k) = sg s n * (k : Int) := by
  unfold sg
  split
  · rw [Int.natCast_mul, Int.neg_mul]
  · rw [Int.natCast_mul]
theorem sg_lt (f : Nat → Nat) (hf : ∀ x y, f x < f y ↔ x < y) (he : ∀ x y, f x = f y ↔ x = y) (h0 : f 0 = 0) (s t : Bool) (x y : Nat) : (sg s (f x) < sg t (f y) ↔ sg s x < sg t y) ∧ (sg s (f x) = sg t (f y) ↔ sg s x = sg t y) := by
  have a := hf x y
  have b := hf y x
  have c := he x y
  have d := hf 0 x
  have e := hf 0 y
  rw [h0] at d e
  unfold sg
  cases s <;> cases t <;> simp only [Bool.false_eq_true, if_true, if_false] <;> constructor <;> omega
theorem cmp_congr {a b c d : Int} (h1 : a < b ↔ c < d) (h2 : a = b ↔ c = d) : compare a b = compare c d := by
  simp only [compare, compareOfLessAndEq, h1, h2]
theorem cmp_mul (a b : Int) (k : Nat) (hk : 0 < k) : compare (a * (k : Int)) (b * (k : Int)) = compare a b := by
  have hk' : (0 : Int) < k := by omega
  refine cmp_congr ⟨fun h => Int.lt_of_mul_lt_mul_right h (Int.le_of_lt hk'), fun h => Int.mul_lt_mul_of_pos_right h hk'⟩ ⟨fun h => Int.eq_of_mul_eq_mul_right (by omega) h, fun h => by rw [h]⟩
/-- The model's order of two floats is that of their places. -/
theorem order_num (a b : Nat) (ha : ¬ nan a) (hb : ¬ nan b) : double.order a b = some (compare (vf a) (vf b)) := by
  have e := sg_lt rv rv_iff rv_eq rv_0 (sb a) (sb b) (rg a) (rg b)
  have ha' : rg a ≤ 9218868437227405312 := by unfold nan at ha; unfold rg; omega
  have hb' : rg b ≤ 9218868437227405312 := by unfold nan at hb; unfold rg; omega
  unfold Format.order vf
  by_cases h1 : rg a = 9218868437227405312
  · rw [read_inf a h1]
    by_cases h2 : rg b = 9218868437227405312
    · rw [read_inf b h2, h1, h2]
      unfold Datum.order sg
      cases sb a <;> cases sb b <;> rfl
    · obtain ⟨m, p, hr, _, _⟩ := read_fin b (by omega)
      rw [hr, h1]
      unfold Datum.order sg
      congr 1
      cases sb a <;> cases sb b <;> simp only [Bool.false_eq_true, if_true, if_false, compare, compareOfLessAndEq] <;> (repeat' split) <;> first | rfl | omega
  · obtain ⟨m, p, hr, hp, hv⟩ := read_fin a (by omega)
    rw [hr]
    by_cases h2 : rg b = 9218868437227405312
    · rw [read_inf b h2, h2]
      unfold Datum.order sg
      congr 1
      cases sb a <;> cases sb b <;> simp only [Bool.false_eq_true, if_true, if_false, compare, compareOfLessAndEq] <;> (repeat' split) <;> first | rfl | omega
    · obtain ⟨n, q, hr2, hq, hv2⟩ := read_fin b (by omega)
      rw [hr2]
      unfold Datum.order
      congr 1
      simp only [signed_sg]
      rw [← cmp_mul _ _ (2 ^ (min p q + 1074).toNat) (Nat.two_pow_pos _), ← sg_mul, ← sg_mul, Nat.mul_assoc, Nat.mul_assoc, ← Nat.pow_add, ← Nat.pow_add]
      rw [show (p - min p q).toNat + (min p q + 1074).toNat = (p + 1074).toNat by omega, show (q - min p q).toNat + (min p q + 1074).toNat = (q + 1074).toNat by omega, hv, hv2]
      exact congrArg some (cmp_congr e.1 e.2)
theorem order_nan (a b : Nat) (h : nan a ∨ nan b) : double.order a b = none := by
  unfold Format.order
  rcases h with h | h
  · obtain ⟨s, t, e⟩ := read_nan a h
    rw [e]; rfl
  · obtain ⟨s, t, e⟩ := read_nan b h
    rw [e]
    cases double.read a <;> rfl
/-- The comparisons as the program makes them. -/
def ltb (a b : Nat) : Bool := FloatKind.f64.format.order a b == some .lt
def gtb (a b : Nat) : Bool := FloatKind.f64.format.order a b == some .gt
def leb (a b : Nat) : Bool := FloatKind.f64.format.order a b == some .lt || FloatKind.f64.format.order a b == some .eq
def geb (a b : Nat) : Bool := FloatKind.f64.format.order a b == some .gt || FloatKind.f64.format.order a b == some .eq
theorem ltb_iff (a b : Nat) : ltb a b = true ↔ ¬ nan a ∧ ¬ nan b ∧ vf a < vf b := by
  unfold ltb
  by_cases h : nan a ∨ nan b
  · rw [show FloatKind.f64.format.order a b = none from order_nan a b h]
    simp; intro h1 h2; exact absurd h (by simp [h1, h2])
  · have h1 : ¬ nan a := fun x => h (.inl x)
    have h2 : ¬ nan b := fun x => h (.inr x)
    rw [show FloatKind.f64.format.order a b = _ from order_num a b h1 h2]
    simp only [h1, h2, not_false_eq_true, true_and, compare, compareOfLessAndEq]
    (repeat' split) <;> simp <;> omega
theorem gtb_iff (a b : Nat) : gtb a b = true ↔ ¬ nan a ∧ ¬ nan b ∧ vf b < vf a := by
  unfold gtb
  by_cases h : nan a ∨ nan b
  · rw [show FloatKind.f64.format.order a b = none from order_nan a b h]
    simp; intro h1 h2; exact absurd h (by simp [h1, h2])
  · have h1 : ¬ nan a := fun x => h (.inl x)
    have h2 : ¬ nan b := fun x => h (.inr x)
    rw [show FloatKind.f64.format.order a b = _ from order_num a b h1 h2]
    simp only [h1, h2, not_false_eq_true, true_and, compare, compareOfLessAndEq]
    (repeat' split) <;> simp <;> omega
theorem leb_iff (a b : Nat) : leb a b = true ↔ ¬ nan a ∧ ¬ nan b ∧ vf a ≤ vf b := by
  unfold leb
  by_cases h : nan a ∨ nan b
  · rw [show FloatKind.f64.format.order a b = none from order_nan a b h]
    simp; intro h1 h2; exact absurd h (by simp [h1, h2])
  · have h1 : ¬ nan a := fun x => h (.inl x)
    have h2 : ¬ nan b := fun x => h (.inr x)
    rw [show FloatKind.f64.format.order a b = _ from order_num a b h1 h2]
    simp only [h1, h2, not_false_eq_true, true_and, compare, compareOfLessAndEq]
    (repeat' split) <;> simp <;> omega
theorem geb_iff (a b : Nat) : geb a b = true ↔ ¬ nan a ∧ ¬ nan b ∧ vf b ≤ vf a := by
  unfold geb
  by_cases h : nan a ∨ nan b
  · rw [show FloatKind.f64.format.order a b = none from order_nan a b h]
    simp; intro h1 h2; exact absurd h (by simp [h1, h2])
  · have h1 : ¬ nan a := fun x => h (.inl x)
    have h2 : ¬ nan b := fun x => h (.inr x)
    rw [show FloatKind.f64.format.order a b = _ from order_num a b h1 h2]
    simp only [h1, h2, not_false_eq_true, true_and, compare, compareOfLessAndEq]
    (repeat' split) <;> simp <;> omega
theorem self_eq (a : Nat) : (FloatKind.f64.format.order a a != some .eq) = nanb a := by
  unfold nanb
  by_cases h : nan a
  · rw [show FloatKind.f64.format.order a a = none from order_nan a a (.inl h), decide_eq_true h]; rfl
  · rw [show FloatKind.f64.format.order a a = _ from order_num a a h h, decide_eq_false h]
    simp [compare, compareOfLessAndEq]
end Go.Proofs.Ytlgpnjbhmoomfaa
