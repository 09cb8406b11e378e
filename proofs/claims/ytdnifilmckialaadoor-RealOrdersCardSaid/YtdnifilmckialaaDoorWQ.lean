/- The law on the order of all floats. -/
import Derived.Test.YtdnifilmckialaaDoorWP
namespace Go.Proofs.YtdnifilmckialaaDoor
open Go.RowKit

set_option maxHeartbeats 2000000 in
theorem ro_go (a b c x y : Nat) (q r : Bool) (h1 : (x : Int) = y → r = q) (h2 : (x : Int) < y → q = true → r = true)
    (R1 : Hid (∀ w : World, Calls Tryd.prog 22 #[.int .u64 a] w fun e w' => e = .returned (.int .u64 x) ∧ w = w'))
    (R2 : Hid (∀ w : World, Calls Tryd.prog 22 #[.int .u64 b] w fun e w' => e = .returned (.int .u64 y) ∧ w = w'))
    (A1 : Hid (∀ w : World, Calls Tryd.prog 23 #[.float .f64 a, .float .f64 b] w fun e w' => e = .returned (.bool (decide ((x : Int) < y))) ∧ w = w'))
    (A2 : Hid (∀ w : World, Calls Tryd.prog 23 #[.float .f64 b, .float .f64 c] w fun e w' => e = .returned (.bool q) ∧ w = w'))
    (A3 : Hid (∀ w : World, Calls Tryd.prog 23 #[.float .f64 a, .float .f64 c] w fun e w' => e = .returned (.bool r) ∧ w = w'))
    (A4 : Hid (∀ w : World, Calls Tryd.prog 23 #[.float .f64 a, .float .f64 a] w fun e w' => e = .returned (.bool false) ∧ w = w'))
    (S1 : Hid (∀ w : World, Calls Tryd.prog 24 #[.float .f64 a, .float .f64 b] w fun e w' => e = .returned (.bool (decide ((x : Int) = y))) ∧ w = w'))
    (S2 : Hid (∀ w : World, Calls Tryd.prog 24 #[.float .f64 c, .float .f64 c] w fun e w' => e = .returned (.bool true) ∧ w = w'))
    (w : World) (hT : Tab w) :
    Calls Tryd.prog 5 #[.float .f64 a, .float .f64 b, .float .f64 c] w fun e w' => e = .returned (.bool true) ∧ Below w.heap.size w w' := by
  have H1 := Lib.hid h1
  have H2 := Lib.hid h2
  clear h1 h2
  go_enter Tryd.func5, Tryd.ntmps5
  go_wp2_with fail
  refine (bits_any _ _).mono ?_
  rintro e w' ⟨rfl, rfl⟩
  go_wp2_with fail
  refine (R1.out _).mono ?_
  rintro e w' ⟨rfl, rfl⟩
  go_wp2_with fail
  refine (bits_any _ _).mono ?_
  rintro e w' ⟨rfl, rfl⟩
  go_wp2_with fail
  refine (R2.out _).mono ?_
  rintro e w' ⟨rfl, rfl⟩
  go_wp2_with fail
  refine (lives1 _ hT).mono ?_
  rintro e w1 ⟨rfl, HB⟩
  have HBh := Lib.hid HB
  clear HB
  go_wp2_with fail
  refine (A1.out _).mono ?_
  rintro e w' ⟨rfl, rfl⟩
  go_wp2_with fail
  refine (S1.out _).mono ?_
  rintro e w' ⟨rfl, rfl⟩
  go_wp2_with fail
  refine (A4.out _).mono ?_
  rintro e w' ⟨rfl, rfl⟩
  go_wp2_with fail
  refine (S2.out _).mono ?_
  rintro e w' ⟨rfl, rfl⟩
  go_wp2_with (first | (go_at_call 23; (first | with_reducible refine (A1.out _).mono ?_ | with_reducible refine (A2.out _).mono ?_ | with_reducible refine (A3.out _).mono ?_); rintro e w' ⟨rfl, rfl⟩) | (go_at_call 24; refine (S1.out _).mono ?_; rintro e w' ⟨rfl, rfl⟩))
  all_goals go_ret
  all_goals
    refine ⟨ret_b ?_, HBh.out⟩
    have h1 := H1.out
    have h2 := H2.out
    first
    | rfl
    | (cases q <;> cases r <;> simp_all)
    | (cases q <;> cases r <;> simp_all <;> omega)
theorem realOrders_walk (a b c : Nat) (ha : a < 18446744073709551616) (hb : b < 18446744073709551616) (hc : c < 18446744073709551616) (w : World) (hT : Tab w) :
    Calls Tryd.prog 5 #[.float .f64 a, .float .f64 b, .float .f64 c] w fun e w' => e = .returned (.bool true) ∧ Below w.heap.size w w' := by
  have e1 : ahd a b = decide ((rnk a : Int) < rnk b) := by simp [ahd]
  have e2 : sam a b = decide ((rnk a : Int) = rnk b) := by
    simp only [sam]
    exact decide_eq_decide.2 (by omega)
  have e3 : ahd a a = false := by simp [ahd]
  have e4 : sam c c = true := by simp [sam]
  have A1 := ahead_any a b ha hb
  have A4 := ahead_any a a ha ha
  have S1 := same_any a b ha hb
  have S2 := same_any c c hc hc
  rw [e1] at A1
  rw [e3] at A4
  rw [e2] at S1
  rw [e4] at S2
  refine ro_go a b c (rnk a) (rnk b) (ahd b c) (ahd a c) ?_ ?_ (Lib.hid (rrank_any a ha)) (Lib.hid (rrank_any b hb)) (Lib.hid A1) (Lib.hid (ahead_any b c hb hc)) (Lib.hid (ahead_any a c ha hc)) (Lib.hid A4) (Lib.hid S1) (Lib.hid S2) w hT
  · intro h
    have : rnk a = rnk b := by omega
    simp [ahd, this]
  · simp only [ahd, decide_eq_true_eq]
    omega
end Go.Proofs.YtdnifilmckialaaDoor
