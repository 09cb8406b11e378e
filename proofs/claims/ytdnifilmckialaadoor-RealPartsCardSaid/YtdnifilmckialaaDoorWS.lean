/- The law on a float's parts. -/
import Derived.Test.YtdnifilmckialaaDoorWP
import Derived.Test.YtdnifilmckialaaDoorMathU
namespace Go.Proofs.YtdnifilmckialaaDoor
open Go.RowKit

theorem pm_in (b : Nat) : -9223372036854775808 ≤ pm b ∧ pm b ≤ 9223372036854775807 := by
  unfold pm
  by_cases h : cls b < 4
  · rw [if_pos h]; omega
  · rw [if_neg h]
    obtain ⟨h1, h2, h3, h4, h5⟩ := man_odd b (by omega)
    split <;> omega
set_option maxHeartbeats 1000000 in
theorem realParts_walk (b : Nat) (h : b < 18446744073709551616) (w : World) (hT : Tab w) :
    Calls Tryd.prog 3 #[.float .f64 b] w fun e' w' => e' = .returned (.bool true) ∧ Below w.heap.size w w' := by
  have A := Lib.hid (parts_any b h)
  have B := Lib.hid (rparts_any b h)
  have C := Lib.hid (class_any b h)
  have D := Lib.hid (rclass_any b)
  have E := Lib.hid (minus_any b h)
  have F := Lib.hid (rminus_any b h)
  have G := Lib.hid (make_any (pm b) (pe b) (pm_in b).1 (pm_in b).2)
  have M := Lib.hid (mk_parts b h)
  have hb := fun b => run_bits b
  have hT' := Lib.hid hT
  clear h
  go_enter Tryd.func3, Tryd.ntmps3
  go_wp2_with fail
  refine (bits_any _ _).mono ?_
  rintro e w' ⟨rfl, rfl⟩
  go_wp2_with fail
  refine (A.out _ hT'.out).mono ?_
  rintro e w' ⟨rfl, rfl⟩
  go_wp2_with fail
  refine (B.out _).mono ?_
  rintro e w' ⟨rfl, rfl⟩
  go_wp2_with fail
  refine (lives1 _ hT'.out).mono ?_
  rintro e w1 ⟨rfl, HB⟩
  have HBh := Lib.hid HB
  clear HB
  go_wp2_with (first | (go_at_call 15; refine (C.out _).mono ?_; rintro e w' ⟨rfl, rfl⟩) | (go_at_call 16; refine (D.out _).mono ?_; rintro e w' ⟨rfl, rfl⟩) | (go_at_call 17; refine (E.out _).mono ?_; rintro e w' ⟨rfl, rfl⟩) | (go_at_call 18; refine (F.out _).mono ?_; rintro e w' ⟨rfl, rfl⟩) | (go_at_call 20; refine (G.out _).mono ?_; rintro e w' ⟨rfl, d, rfl⟩))
  all_goals go_ret
  all_goals
    first
    | exact ⟨rfl, HBh.out⟩
    | (refine ⟨ret_b ?_, below_drewN HBh.out _⟩
       rename_i h4
       have := M.out (by omega)
       simp [this])
    | (refine ⟨ret_b ?_, below_drewN HBh.out _⟩
       rename_i h4 _
       have := M.out (by omega)
       simp [this])
end Go.Proofs.YtdnifilmckialaaDoor
