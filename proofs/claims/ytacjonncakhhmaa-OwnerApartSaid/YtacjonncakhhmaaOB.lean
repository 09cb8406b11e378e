/- Owners: the functions that are handed on, and whether owners are right. -/
import Derived.Test.YtacjonncakhhmaaOA
import Derived.Laws.EntriesVeiled
import Derived.Shelf.Abstract
namespace Go.Proofs.Ytacjonncakhhmaa
open Go.RowKit

def armO (x : Int) : Bool := decide (1 ≤ x) && decide (x ≤ 8)
theorem armO_any (x : Int) (w : World) : Calls Try.prog 74 #[.int .i64 x] w fun e w' => e = .returned (.bool (armO x)) ∧ w = w' := by
  have e : armO x = (decide (1 ≤ x) && decide (x ≤ 8)) := rfl
  by_cases h : 1 ≤ x <;> by_cases h2 : x ≤ 8 <;> simp [h, h2] at e <;> rw [e] <;> go_enter Try.func74, Try.ntmps74 <;> go_wp2 <;> go_ret <;> exact ⟨rfl, rfl⟩
def whoB (x : Int) : Bool := decide (x ≠ 0) && !armO x
theorem right1_any (x : Int) (w : World) : Calls Try.prog 73 #[.int .i64 x] w fun e w' => e = .returned (.bool (whoB x)) ∧ w = w' := by
  have HA := Lib.hid (fun w => armO_any x w)
  have e : whoB x = (decide (x ≠ 0) && !armO x) := rfl
  generalize armO x = q at *
  generalize whoB x = z at *
  by_cases h : x = 0
  · rw [show decide (x ≠ 0) = false from decide_eq_false (by omega), Bool.false_and] at e
    subst h; subst e
    go_enter Try.func73, Try.ntmps73
    go_wp2
    go_ret
    exact ⟨rfl, rfl⟩
  · rw [show decide (x ≠ 0) = true from decide_eq_true (by omega), Bool.true_and] at e
    subst e
    go_enter Try.func73, Try.ntmps73
    go_wp2_with fail
    refine (HA.out _).mono ?_
    rintro e w2 ⟨rfl, rfl⟩
    go_wp2
    go_ret
    exact ⟨ret_b (by simp [h]), rfl⟩
/-- Owners are right, if nobody is wrong. -/
def rgO (o : List Int) : Bool := !o.any whoB
theorem whoB_iff (x : Int) : whoB x = false ↔ 0 ≤ x ∧ x ≤ 8 := by
  unfold whoB armO
  rw [Bool.and_eq_false_iff, Bool.not_eq_false', Bool.and_eq_true, decide_eq_false_iff_not, decide_eq_true_eq, decide_eq_true_eq]
  omega
theorem right_o (v : Value) (o : List Int) (w : World) (hv : KI.IsL w w.heap.size v o) : Calls Try.prog 31 #[v] w fun e w' => e = .returned (.bool (rgO o)) ∧ Below w.heap.size w w' := by
  have e : rgO o = !(fstN whoB o).2 := by rw [fstN_snd]; rfl
  have HF := Lib.hid (first_any v o 73 #[] whoB w hv (enters_of Try.func73 (by kernel_rfl) rfl) (fun w' _ x _ => (right1_any x w').mono fun _ _ q => ⟨q.1, by rw [← q.2]; exact Below.refl _ _⟩))
  clear hv
  rw [e]
  generalize fstN whoB o = z at *
  obtain ⟨z1, z2⟩ := z
  go_enter Try.func31, Try.ntmps31
  go_wp2_with fail
  refine HF.out.mono ?_
  rintro e w2 ⟨rfl, hb⟩
  go_wp2
  go_ret
  exact ⟨rfl, hb⟩
def hasB (n : Nat) (x : Int) : Bool := decide (0 ≤ x) && decide (x < n)
theorem has_o (A : Option Addr) (n c : Nat) (x : Int) (w : World) : Calls Try.prog 77 #[.slice A n c, .int .i64 x] w fun e w' => e = .returned (.bool (hasB n x)) ∧ w = w' := by
  have e : hasB n x = (decide (0 ≤ x) && decide (x < n)) := rfl
  by_cases h : 0 ≤ x <;> by_cases h2 : x < n <;> simp [h, h2] at e <;> rw [e] <;> go_enter Try.func77, Try.ntmps77 <;> go_wp2 <;> go_ret <;> exact ⟨rfl, rfl⟩
theorem take1_any (x who : Int) (b : Nat) (w : World) (h : w.cell? ⟨b, 0, none⟩ = some (.int .i64 who)) : Calls Try.prog 68 #[.int .i64 x, .pointer (some ⟨b, 0, none⟩)] w fun e w' => e = .returned (.bool (decide (x = 0) || decide (x = who))) ∧ w = w' := by
  by_cases h1 : x = 0 <;> by_cases h2 : x = who
  all_goals
    simp only [h1, h2, decide_true, decide_false, Bool.or_false, Bool.or_true]
    go_enter Try.func68, Try.ntmps68
    go_wp2
    go_ret
    exact ⟨by simp_all, rfl⟩
theorem give1_any (x who : Int) (b : Nat) (w : World) (h : w.cell? ⟨b, 0, none⟩ = some (.int .i64 who)) : Calls Try.prog 75 #[.int .i64 x, .pointer (some ⟨b, 0, none⟩)] w fun e w' => e = .returned (.bool (decide (x = who))) ∧ w = w' := by
  go_enter Try.func75, Try.ntmps75
  go_wp2
  go_ret
  exact ⟨ret_b (by rw [Bool.eq_iff_iff]; simp), rfl⟩
theorem pass1_any (x : Int) (b : Nat) (A : Option Addr) (n c : Nat) (w : World) (h : w.cell? ⟨b, 0, none⟩ = some (.slice A n c)) : Calls Try.prog 115 #[.int .i64 x, .pointer (some ⟨b, 0, none⟩)] w fun e w' => e = .returned (.bool (!hasB n x)) ∧ w = w' := by
  have HA := Lib.hid (fun w => has_o A n c x w)
  generalize hasB n x = q at *
  go_enter Try.func115, Try.ntmps115
  go_wp2_with fail
  refine (HA.out _).mono ?_
  rintro e w2 ⟨rfl, rfl⟩
  go_wp2
  go_ret
  exact ⟨rfl, rfl⟩
end Go.Proofs.Ytacjonncakhhmaa
