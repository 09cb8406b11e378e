/- Places: whether a pair is one, its letters. -/
import Derived.Test.YtegghoniboebkaaNF
import Derived.Test.YtegghoniboebkaaBA
import Derived.Laws.RangeAny
import Derived.WalkSmall
namespace Go.Proofs.Ytegghoniboebkaa
open Go.RowKit
/-- Is a pair a place? -/
def rightB (p : Int × Int) : Bool := decide (0 ≤ p.1 ∧ p.1 ≤ 31 ∧ 0 ≤ p.2 ∧ p.2 ≤ 47)
/-- A row's letters. -/
def ltr (k : Nat) : UInt8 := UInt8.ofNat (65 + k)
def nm (r : Nat) : List UInt8 := if r < 26 then [ltr r] else [65, ltr (r - 26)]
def nameL (p : Int × Int) : List UInt8 := if rightB p then nm p.1.toNat ++ txt (p.2 + 1) else []
set_option maxHeartbeats 1000000 in
theorem right_any (p : Int × Int) (w : World) : Calls Try.prog 62 #[.agg #[.int .i64 p.1, .int .i64 p.2]] w fun e w' => e = .returned (.bool (rightB p)) ∧ Below w.heap.size w w' := by
  obtain ⟨a, b⟩ := p
  by_cases h1 : 0 ≤ a <;> by_cases h2 : a < 32 <;> by_cases h3 : 0 ≤ b
  all_goals (try (exfalso; omega; done))
  all_goals
    go_enter Try.func62, Try.ntmps62
    go_wp2
    go_ret
    exact ⟨ret_b (by first | exact (decide_eq_false (by simp only; omega)).symm | exact (decide_eq_true (by simp only; omega)).symm | (rw [rightB, Bool.eq_iff_iff]; simp only [decide_eq_true_eq]; omega)), Below.al (Below.refl _ _) _⟩
set_option maxHeartbeats 1000000 in
theorem rright_any (p : Int × Int) (w : World) : Calls Try.prog 72 #[.agg #[.int .i64 p.1, .int .i64 p.2]] w fun e w' => e = .returned (.bool (rightB p)) ∧ Below w.heap.size w w' := by
  obtain ⟨a, b⟩ := p
  by_cases h1 : 0 ≤ a <;> by_cases h2 : a < 32 <;> by_cases h3 : 0 ≤ b
  all_goals (try (exfalso; omega; done))
  all_goals
    go_enter Try.func72, Try.ntmps72
    go_wp2
    go_ret
    exact ⟨ret_b (by first | exact (decide_eq_false (by simp only; omega)).symm | exact (decide_eq_true (by simp only; omega)).symm | (rw [rightB, Bool.eq_iff_iff]; simp only [decide_eq_true_eq]; omega)), Below.al (Below.refl _ _) _⟩

theorem enc_ltr (k : Nat) (h : k < 26) : Utf8.encode (65 + (k : Int)) = ⟨[ltr k].toArray⟩ := by
  have : k = 0 ∨ k = 1 ∨ k = 2 ∨ k = 3 ∨ k = 4 ∨ k = 5 ∨ k = 6 ∨ k = 7 ∨ k = 8 ∨ k = 9 ∨ k = 10 ∨ k = 11 ∨ k = 12 ∨ k = 13 ∨ k = 14 ∨ k = 15 ∨ k = 16 ∨ k = 17 ∨ k = 18 ∨ k = 19 ∨ k = 20 ∨ k = 21 ∨ k = 22 ∨ k = 23 ∨ k = 24 ∨ k = 25 := by omega
  rcases this with rfl | rfl | rfl | rfl | rfl | rfl | rfl | rfl | rfl | rfl | rfl | rfl | rfl | rfl | rfl | rfl | rfl | rfl | rfl | rfl | rfl | rfl | rfl | rfl | rfl | rfl <;> rfl
theorem nm_lo (r : Nat) (h : r < 26) : nm r = [ltr r] := if_pos h
theorem nm_hi (r : Nat) (h : ¬ r < 26) : nm r = [65] ++ [ltr (r - 26)] := if_neg h
set_option maxHeartbeats 1000000 in
theorem rowName_lo (r : Nat) (h : r < 26) (w : World) : Calls Try.prog 63 #[.int .i64 (r : Int)] w fun e w' => e = .returned (.string ⟨(nm r).toArray⟩) ∧ w = w' := by
  have HR := Lib.hid (show Utf8.encode (65 + (r : Int) % 26) = ⟨(nm r).toArray⟩ by rw [show (r : Int) % 26 = (r : Int) by omega, nm_lo r h]; exact enc_ltr r h)
  have hb1 : (0 : Int) ≤ (r : Int) := by omega
  have hb2 : (r : Int) < 26 := by omega
  generalize (r : Int) = R at *
  generalize nm r = L at *
  clear h
  go_enter Try.func63, Try.ntmps63
  go_wp2
  go_ret
  exact ⟨ret_s HR.out, rfl⟩
set_option maxHeartbeats 1000000 in
theorem rowName_hi (r : Nat) (h : 26 ≤ r) (h2 : r < 32) (w : World) : Calls Try.prog 63 #[.int .i64 (r : Int)] w fun e w' => e = .returned (.string ⟨(nm r).toArray⟩) ∧ w = w' := by
  obtain ⟨k, rfl⟩ : ∃ k, r = 26 + k := ⟨r - 26, by omega⟩
  have hk : k < 26 := by omega
  have HN := Lib.hid (show nm (26 + k) = [65] ++ [ltr k] by rw [nm_hi _ (by omega), show 26 + k - 26 = k by omega])
  have he : Utf8.encode (65 + ((26 + k : Nat) : Int) % 26) = ⟨[ltr k].toArray⟩ := by
    rw [show ((26 + k : Nat) : Int) % 26 = (k : Int) by omega]
    exact enc_ltr k hk
  have HL := Lib.hid (show ∀ w, Calls Try.prog 63 #[.int .i64 (((26 + k : Nat) : Int) / 26 - 1)] w fun e w' => e = .returned (.string ⟨[65].toArray⟩) ∧ w = w' from fun w => by
    rw [show ((26 + k : Nat) : Int) / 26 - 1 = ((0 : Nat) : Int) by omega]
    exact rowName_lo 0 (by omega) w)
  have hadd := add_text w [65] [ltr k] (by simp) (by simp)
  have hb1 : (26 : Int) ≤ ((26 + k : Nat) : Int) := by omega
  have hb2 : ((26 + k : Nat) : Int) < 32 := by omega
  have hb3 : 1 ≤ ((26 + k : Nat) : Int) / 26 := by omega
  have hb4 : ((26 + k : Nat) : Int) / 26 ≤ 1 := by omega
  have hd : decide (((26 + k : Nat) : Int) < 26) = false := by (rw [decide_eq_false_iff_not]; omega)
  generalize ((26 + k : Nat) : Int) = R at *
  generalize ltr k = L at *
  clear h h2
  go_enter Try.func63, Try.ntmps63
  go_wp2_with fail
  refine (HL.out _).mono ?_
  rintro e w' ⟨rfl, rfl⟩
  go_wp2
  go_ret
  exact ⟨by rw [HN.out]; rfl, rfl⟩
theorem rowName_any (r : Nat) (h : r < 32) (w : World) : Calls Try.prog 63 #[.int .i64 (r : Int)] w fun e w' => e = .returned (.string ⟨(nm r).toArray⟩) ∧ w = w' := by
  by_cases h1 : r < 26
  · exact rowName_lo r h1 w
  · exact rowName_hi r (by omega) h w
end Go.Proofs.Ytegghoniboebkaa
