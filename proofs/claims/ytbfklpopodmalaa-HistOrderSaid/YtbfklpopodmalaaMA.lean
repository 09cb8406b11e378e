/- Plain mathematics of whole numbers of 64 bits, with no program in it: signs of words, sums that fit. -/
import Derived.Laws.BitsAllLaws
import Derived.Laws.Bits64
import Derived.IntWalk
import Derived.RowKit
namespace Go.Proofs.Ytbfklpopodmalaa

theorem ret_u {a b : Int} (h : a = b) : Ending.returned (.int .u64 a) = .returned (.int .u64 b) := by rw [h]
theorem ret_i {a b : Int} (h : a = b) : Ending.returned (.int .i64 a) = .returned (.int .i64 b) := by rw [h]
theorem ret_b {a b : Bool} (h : a = b) : Ending.returned (.bool a) = .returned (.bool b) := by rw [h]
theorem ret_ii {a b c d : Int} (h : a = c) (k : b = d) : Ending.returned (.tuple #[.int .i64 a, .int .i64 b]) = .returned (.tuple #[.int .i64 c, .int .i64 d]) := by rw [h, k]
theorem num_i {a b : Int} (h : a = b) : Value.int .i64 a = .int .i64 b := by rw [h]
theorem num_u {a b : Int} (h : a = b) : Value.int .u64 a = .int .u64 b := by rw [h]

/-- Goes a whole number into 64 bits with a sign? -/
def fits (x : Int) : Prop := -9223372036854775808 ≤ x ∧ x ≤ 9223372036854775807
instance (x : Int) : Decidable (fits x) := inferInstanceAs (Decidable (_ ∧ _))
/-- What is answered for it, and with which error. -/
def fitV (x : Int) : Int := if fits x then x else 0
def fitE (x : Int) : Int := if fits x then 0 else 4

theorem wrap_toNat (v : BitVec 64) : IntKind.i64.wrap (v.toNat : Int) = v.toInt := by
  rw [IntKind.wrap_i64, BitVec.toInt_eq_toNat_cond]
  have := v.isLt
  split <;> omega
theorem ofInt_neg (x : Int) (h : fits x) : (BitVec.ofInt 64 x).msb = decide (x < 0) := by
  obtain ⟨h0, h1⟩ := h
  have e : (BitVec.ofInt 64 x).toInt = x := by
    rw [BitVec.toInt_ofInt]
    exact Int.bmod_eq_of_le (by omega) (by omega)
  rw [BitVec.msb_eq_toInt, e]
theorem and_neg (x y : Int) (hx : fits x) (hy : fits y) : (bits .and .i64 x y < 0) ↔ (x < 0 ∧ y < 0) := by
  show IntKind.i64.wrap ((BitVec.ofInt 64 x &&& BitVec.ofInt 64 y).toNat : Int) < 0 ↔ _
  rw [wrap_toNat]
  have e := BitVec.msb_eq_toInt (x := BitVec.ofInt 64 x &&& BitVec.ofInt 64 y)
  rw [BitVec.msb_and, ofInt_neg x hx, ofInt_neg y hy] at e
  by_cases h : (BitVec.ofInt 64 x &&& BitVec.ofInt 64 y).toInt < 0
  · rw [decide_eq_true h, Bool.and_eq_true, decide_eq_true_eq, decide_eq_true_eq] at e
    exact ⟨fun _ => e, fun _ => h⟩
  · rw [decide_eq_false h] at e
    refine ⟨fun k => absurd k h, fun k => ?_⟩
    rw [decide_eq_true k.1, decide_eq_true k.2] at e
    cases e
theorem xor_neg (x y : Int) (hx : fits x) (hy : fits y) : (bits .xor .i64 x y < 0) ↔ ¬ (x < 0 ↔ y < 0) := by
  show IntKind.i64.wrap ((BitVec.ofInt 64 x ^^^ BitVec.ofInt 64 y).toNat : Int) < 0 ↔ _
  rw [wrap_toNat]
  have e := BitVec.msb_eq_toInt (x := BitVec.ofInt 64 x ^^^ BitVec.ofInt 64 y)
  rw [BitVec.msb_xor, ofInt_neg x hx, ofInt_neg y hy] at e
  generalize (BitVec.ofInt 64 x ^^^ BitVec.ofInt 64 y).toInt = t at *
  by_cases hx0 : x < 0 <;> by_cases hy0 : y < 0 <;> by_cases h : t < 0 <;> simp [hx0, hy0, h] at e ⊢ <;> omega
theorem xor_fits (x y : Int) : fits (bits .xor .i64 x y) := by
  show fits (IntKind.i64.wrap ((BitVec.ofInt 64 x ^^^ BitVec.ofInt 64 y).toNat : Int))
  rw [IntKind.wrap_i64]
  constructor <;> omega
/-- Have the signs gone astray in a sum? -/
theorem add_signs (a b : Int) (ha : fits a) (hb : fits b) : (bits .and .i64 (bits .xor .i64 a (IntKind.i64.wrap (a + b))) (bits .xor .i64 b (IntKind.i64.wrap (a + b))) < 0) ↔ ¬ fits (a + b) := by
  have hs : fits (IntKind.i64.wrap (a + b)) := by rw [IntKind.wrap_i64]; constructor <;> omega
  rw [and_neg _ _ (xor_fits _ _) (xor_fits _ _), xor_neg a _ ha hs, xor_neg b _ hb hs, IntKind.wrap_i64]
  unfold fits at *
  omega
theorem sub_signs (a b : Int) (ha : fits a) (hb : fits b) : (bits .and .i64 (bits .xor .i64 a b) (bits .xor .i64 a (IntKind.i64.wrap (a - b))) < 0) ↔ ¬ fits (a - b) := by
  have hs : fits (IntKind.i64.wrap (a - b)) := by rw [IntKind.wrap_i64]; constructor <;> omega
  rw [and_neg _ _ (xor_fits _ _) (xor_fits _ _), xor_neg a b ha hb, xor_neg a _ ha hs, IntKind.wrap_i64]
  unfold fits at *
  omega
theorem wrap_fits (x : Int) (h : fits x) : IntKind.i64.wrap x = x := by
  obtain ⟨h0, h1⟩ := h
  rw [IntKind.wrap_i64]
  omega

theorem w64 (x : Int) : IntKind.i64.wrap x = Go.RowKit.wrap64 x := by rw [IntKind.wrap_i64, Go.RowKit.wrap64]
theorem wrap64_fits (x : Int) (h : fits x) : Go.RowKit.wrap64 x = x := by rw [← w64, wrap_fits x h]
/-- The size of a number. -/
theorem size_pos (x : Int) (h : fits x) (h0 : 0 ≤ x) : IntKind.u64.wrap x = (x.natAbs : Int) := by
  obtain ⟨h1, h2⟩ := h
  rw [IntKind.wrap_u64]
  omega
theorem natAbs_mul_le (a b : Int) (m : Nat) (hb : b.natAbs ≠ 0) : (a.natAbs ≤ m / b.natAbs) ↔ (a * b).natAbs ≤ m := by
  rw [Int.natAbs_mul, Nat.le_div_iff_mul_le (by omega)]
end Go.Proofs.Ytbfklpopodmalaa
