/- Units: how many parts lie on one, and whether a part does. -/
import Derived.Test.YtegghoniboebkaaDF
namespace Go.Proofs.Ytegghoniboebkaa
open Go.RowKit

/-- Four numbers' value. -/
abbrev Q4.v (u : Q4) : Value := .agg #[.int .i64 u.a, .int .i64 u.b, .int .i64 u.c, .int .i64 u.d]
set_option maxHeartbeats 1000000 in
theorem parts_any (u : Q4) (hu : okU u) (w : World) : Calls Try.prog 52 #[u.v] w fun e w' => e = .returned (.int .i64 (u.c * u.d)) ∧ Below w.heap.size w w' := by
  obtain ⟨m1, m2⟩ := size_mul hu.2.2.2
  clear hu
  go_enter Try.func52, Try.ntmps52
  go_wp2
  go_ret
  exact ⟨ret_i (by first | rfl | omega), Below.al (Below.refl _ _) _⟩
set_option maxHeartbeats 2000000 in
theorem has_any (u p : Q4) (w : World) : Calls Try.prog 53 #[u.v, p.v] w fun e w' => e = .returned (.bool (hasU u p)) ∧ Below w.heap.size w w' := by
  obtain ⟨a, b, c, d⟩ := u
  obtain ⟨k, n, r, s⟩ := p
  have HH := Lib.hid (show hasU ⟨a, b, c, d⟩ ⟨k, n, r, s⟩ = decide (k = a ∧ n = b ∧ 0 ≤ r ∧ r < c ∧ 0 ≤ s ∧ s < d) from rfl)
  by_cases h1 : k = a
  · by_cases h2 : n = b
    · by_cases h3 : 0 ≤ r
      · by_cases h4 : r < c
        · by_cases h5 : 0 ≤ s
          · subst h1 h2
            go_enter Try.func53, Try.ntmps53
            go_wp2
            go_ret
            exact ⟨ret_b (by rw [HH.out]; exact decide_eq_decide.2 ⟨fun h => ⟨trivial, trivial, h3, h4, h5, h⟩, fun h => h.2.2.2.2.2⟩), Below.al (Below.al (Below.refl _ _) _) _⟩
          · subst h1 h2
            go_enter Try.func53, Try.ntmps53
            go_wp2
            go_ret
            exact ⟨ret_b (by rw [HH.out]; exact (decide_eq_false (by omega)).symm), Below.al (Below.al (Below.refl _ _) _) _⟩
        · subst h1 h2
          go_enter Try.func53, Try.ntmps53
          go_wp2
          go_ret
          exact ⟨ret_b (by rw [HH.out]; exact (decide_eq_false (by omega)).symm), Below.al (Below.al (Below.refl _ _) _) _⟩
      · subst h1 h2
        go_enter Try.func53, Try.ntmps53
        go_wp2
        go_ret
        exact ⟨ret_b (by rw [HH.out]; exact (decide_eq_false (by omega)).symm), Below.al (Below.al (Below.refl _ _) _) _⟩
    · subst h1
      have hb : (n == b) = false := by rw [beq_eq_false_iff_ne]; exact h2
      go_enter Try.func53, Try.ntmps53
      go_wp2
      go_ret
      exact ⟨ret_b (by rw [HH.out]; exact (decide_eq_false (by omega)).symm), Below.al (Below.al (Below.refl _ _) _) _⟩
  · have hb : (k == a) = false := by rw [beq_eq_false_iff_ne]; exact h1
    go_enter Try.func53, Try.ntmps53
    go_wp2
    go_ret
    exact ⟨ret_b (by rw [HH.out]; exact (decide_eq_false (by omega)).symm), Below.al (Below.al (Below.refl _ _) _) _⟩
end Go.Proofs.Ytegghoniboebkaa
