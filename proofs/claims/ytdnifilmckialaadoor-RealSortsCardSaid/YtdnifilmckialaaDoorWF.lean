/- The ends of a list of floats: what the program's Ends answers. -/
import Derived.Test.YtdnifilmckialaaDoorWB
import Derived.Deep.QuietTactic
import Derived.BigQuiet
namespace Go.Proofs.YtdnifilmckialaaDoor
open Go.RowKit

theorem ret_ffi {a b c d : Nat} {m n : Int} (h : a = c) (k : b = d) (l : m = n) : Ending.returned (.tuple #[.float .f64 a, .float .f64 b, .int .i64 m]) = .returned (.tuple #[.float .f64 c, .float .f64 d, .int .i64 n]) := by rw [h, k, l]
theorem fl_eq {a b : Nat} (h : a = b) : Value.float .f64 a = .float .f64 b := by rw [h]

/-- A slice's cells are these floats. -/
def Cells (w : World) (b off : Nat) (xs : List Nat) : Prop := ∀ i, i < xs.length → w.cell? ⟨b, off + i, none⟩ = some (.float .f64 (xs.getD i 0))

set_option maxHeartbeats 2000000 in
theorem ends_any (b off len cap : Nat) (xs : List Nat) (hx : xs.length = len) (hm : len ≤ 9223372036854775807) (hlt : ∀ x ∈ xs, x < 18446744073709551616) (w : World) (hc : Cells w b off xs) :
    Calls Tryd.prog 28 #[.slice (some ⟨b, off, none⟩) len cap] w fun e w' => e = .returned (.tuple #[.float .f64 (ends xs).1, .float .f64 (ends xs).2.1, .int .i64 (ends xs).2.2]) ∧ w = w' := by
  have HX := Lib.hid hx
  have HLT := Lib.hid hlt
  clear hx hlt
  go_enter Tryd.func28, Tryd.ntmps28
  go_wp2
  go_loop [5, 6, 7, 12] (fun f l n i => ∃ k : Nat, k ≤ len ∧ f = .float .f64 (ends (xs.take k)).1 ∧ l = .float .f64 (ends (xs.take k)).2.1 ∧ n = .int .i64 (ends (xs.take k)).2.2 ∧ i = .int .i64 k) (fun _ _ _ i => len - (intOf i).toNat)
  case atStart => exact ⟨0, by omega, rfl, rfl, rfl, rfl⟩
  case round =>
    obtain ⟨k, hk, rfl, rfl, rfl, rfl⟩ := hrel
    have hcount := ends_count (xs.take k)
    rw [List.length_take] at hcount
    obtain ⟨q1, q2⟩ := ends_lt (xs.take k) (fun x hxx => HLT.out x (List.mem_of_mem_take hxx))
    have hcell : k < len → w.cell? ⟨b, off + k, none⟩ = some (.float .f64 (xs.getD k 0)) := fun hh => hc k (by rw [HX.out]; exact hh)
    have hfl : k < len → xs.getD k 0 < 18446744073709551616 := fun hh => HLT.out _ (by have := HX.out; rw [List.getD_eq_getElem?_getD, List.getElem?_eq_getElem (by omega)]; exact List.getElem_mem _)
    have hstep : k < len → ends (xs.take (k + 1)) = endStep (ends (xs.take k)) (xs.getD k 0) := fun hh => by
      have := HX.out
      rw [take_snoc_getD xs k (by omega), ends_snoc]
    have hend : len ≤ k → ends (xs.take k) = ends xs := fun hh => by rw [List.take_of_length_le (by rw [HX.out]; exact hh)]
    have HS := Lib.hid hstep
    have HE := Lib.hid hend
    have HF := Lib.hid hfl
    clear hstep hend hfl
    generalize ends (xs.take k) = s at *
    obtain ⟨s1, s2, s3⟩ := s
    dsimp only at *
    by_cases hlt : k < len
    · have hcell' := hcell hlt
      have hf := HF.out hlt
      have HS' := Lib.hid (HS.out hlt)
      clear hcell HS HF
      generalize xs.getD k 0 = f at *
      by_cases h1 : (cls f == 1) = true
      · go_wp2_with (go_at_call 15; refine (class_any _ hf _).mono ?_; rintro e w' ⟨rfl, rfl⟩)
        go_round
        case rel =>
          have h1n : cls f = 1 := by simpa using h1
          have e : ends (xs.take (k + 1)) = (s1, s2, s3) := by rw [HS'.out]; simp [endStep, h1n]
          exact ⟨k + 1, by omega, fl_eq (by rw [e]), fl_eq (by rw [e]), num_i (by rw [e]), num_i (by omega)⟩
        case measure => simp [intOf]; omega
      · have h1' : (cls f == 1) = false := by simpa using h1
        have h1n : ¬ cls f = 1 := by simpa using h1
        have H1 := Lib.hid h1n
        clear h1 h1n
        by_cases z : s3 = 0
        · subst z
          go_wp2_with (first | (go_at_call 15; refine (class_any _ hf _).mono ?_; rintro e w' ⟨rfl, rfl⟩) | (go_at_call 23; refine (ahead_any _ _ (by omega) (by omega) _).mono ?_; rintro e w' ⟨rfl, rfl⟩))
          go_round
          case rel =>
            have e : ends (xs.take (k + 1)) = (f, f, 1) := by rw [HS'.out]; simp [endStep, H1.out]
            exact ⟨k + 1, by omega, fl_eq (by rw [e]), fl_eq (by rw [e]), num_i (by rw [e]; rfl), num_i (by omega)⟩
          case measure => simp [intOf]; omega
        · have z' : ((s3 : Int) == 0) = false := by rw [beq_eq_false_iff_ne]; omega
          have Z := Lib.hid z
          clear z
          rcases Bool.eq_false_or_eq_true (ahd f s1) with a1 | a1
          all_goals rcases Bool.eq_false_or_eq_true (ahd s2 f) with a2 | a2
          all_goals
            go_wp2_with (first | (go_at_call 15; refine (class_any _ hf _).mono ?_; rintro e w' ⟨rfl, rfl⟩) | (go_at_call 23; refine (ahead_any _ _ (by omega) (by omega) _).mono ?_; rintro e w' ⟨rfl, rfl⟩))
            go_round
            case rel =>
              have e := HS'.out
              simp [endStep, H1.out, Z.out, a1, a2] at e
              exact ⟨k + 1, by omega, fl_eq (by rw [e]), fl_eq (by rw [e]), num_i (by rw [e]; simp), num_i (by omega)⟩
            case measure => simp [intOf]; omega
    · obtain rfl : k = len := by omega
      clear hcell HF HS
      go_wp2
      have e := HE.out (Nat.le_refl _)
      exact bodyPost_ret (v := .tuple #[.float .f64 s1, .float .f64 s2, .int .i64 s3]) (by simp [results, Tryd.results28, go_sem]) rfl ⟨ret_ffi (by rw [← e]) (by rw [← e]) (by rw [← e]), by trivial⟩
end Go.Proofs.YtdnifilmckialaaDoor
