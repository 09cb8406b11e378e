/- Histories: courses in lists, and compared. -/
import Derived.Test.YtbfklpopodmalaaHO
namespace Go.Proofs.Ytbfklpopodmalaa
open Go.RowKit Go.Maps
/-- Lists of courses. -/
noncomputable def KX : Lk Try.prog (Int × Int) where
  S := 54
  E := 46
  n := 2
  zero := .agg #[.int .i64 0, .int .i64 0]
  bytes := 16
  cells := clCells
  dflt := (0, 0)
  ok := fun q => fits q.1 ∧ fits q.2
  und := Try.underlying54
  info := by kernel_rfl
  zs := rfl
  pos := by decide
  small := by decide
  len _ := rfl
  one x u hu := by
    simp only [clCells, List.mem_cons, List.not_mem_nil, or_false] at hu
    rcases hu with rfl | rfl <;> rfl
theorem cx_cells {w : World} {B : Nat} {A : Option Addr} {n c : Nat} {xs : List (Int × Int)} (h : KX.IsL w B (.slice A n c) xs) (h0 : 0 < xs.length) : ∃ b off, A = some ⟨b, off, none⟩ ∧ b < B ∧ xs.length ≤ c ∧
    ∀ i, i < xs.length → w.cell? ⟨b, off + i * 2, none⟩ = some (.int .i64 (xs.getD i (0, 0)).1) ∧ w.cell? ⟨b, off + i * 2 + 1, none⟩ = some (.int .i64 (xs.getD i (0, 0)).2) := by
  obtain ⟨b, off, e, hb, hc, hcell⟩ := h.elem h0
  refine ⟨b, off, e, hb, hc, fun i hi => ?_⟩
  have q := fun j u hu => hcell i hi j u hu
  have hn : KX.n = 2 := rfl
  simp only [hn, ← Nat.add_assoc] at q
  exact ⟨q 0 _ rfl, q 1 _ rfl⟩
theorem isnan_any (a : Int) (w : World) : Calls Try.prog 39 #[.int .i64 a] w fun e w' => e = .returned (.bool false) ∧ w = w' := by
  go_enter Try.func39, Try.ntmps39
  go_wp2
  go_ret
  exact ⟨rfl, rfl⟩
def cmI (a b : Int) : Int := if a < b then -1 else if b < a then 1 else 0
theorem compare_any (a b : Int) (w : World) : Calls Try.prog 36 #[.int .i64 a, .int .i64 b] w fun e w' => e = .returned (.int .i64 (cmI a b)) ∧ w = w' := by
  have HN := Lib.hid (fun a w => isnan_any a w)
  have k1 : decide (a < b) = true ∨ decide (a < b) = false := by cases decide (a < b) <;> simp
  unfold cmI
  by_cases h1 : a < b
  · rw [if_pos h1]
    have x1 : decide (a < b) = true := decide_eq_true h1
    clear k1
    go_enter Try.func36, Try.ntmps36
    go_wp2_with fail
    refine (HN.out _ _).mono ?_
    rintro e w1 ⟨rfl, rfl⟩
    go_wp2_with fail
    refine (HN.out _ _).mono ?_
    rintro e w1 ⟨rfl, rfl⟩
    go_wp2
    go_ret
    exact ⟨rfl, rfl⟩
  · rw [if_neg h1]
    have x1 : decide (a < b) = false := decide_eq_false h1
    clear k1
    by_cases h2 : b < a
    · rw [if_pos h2]
      have x2 : decide (b < a) = true := decide_eq_true h2
      go_enter Try.func36, Try.ntmps36
      go_wp2_with fail
      refine (HN.out _ _).mono ?_
      rintro e w1 ⟨rfl, rfl⟩
      go_wp2_with fail
      refine (HN.out _ _).mono ?_
      rintro e w1 ⟨rfl, rfl⟩
      go_wp2
      go_ret
      exact ⟨rfl, rfl⟩
    · rw [if_neg h2]
      have x2 : decide (b < a) = false := decide_eq_false h2
      go_enter Try.func36, Try.ntmps36
      go_wp2_with fail
      refine (HN.out _ _).mono ?_
      rintro e w1 ⟨rfl, rfl⟩
      go_wp2_with fail
      refine (HN.out _ _).mono ?_
      rintro e w1 ⟨rfl, rfl⟩
      go_wp2
      go_ret
      exact ⟨rfl, rfl⟩
theorem tcmp_any (a b c d : Int) (w : World) : Calls Try.prog 35 #[.agg #[.int .i64 a, .int .i64 b], .agg #[.int .i64 c, .int .i64 d]] w fun e w' => e = .returned (.int .i64 (cmI a c)) ∧ Below w.heap.size w w' := by
  have HB0 := Lib.hid (fun o1 o2 => show Below w.heap.size w ((w.alloc o1).alloc o2) from Below.al (Below.al (Below.refl _ _) _) _)
  have HC := Lib.hid (fun w => compare_any a c w)
  generalize cmI a c = z at *
  go_enter Try.func35, Try.ntmps35
  go_wp2_with fail
  refine (HC.out _).mono ?_
  rintro e w1 ⟨rfl, rfl⟩
  go_wp2
  go_ret
  exact ⟨rfl, HB0.out _ _⟩
set_option maxRecDepth 100000 in
set_option maxHeartbeats 4000000 in
theorem len64_2 (w : World) : Calls Try.prog 49 #[.int .u64 2] w fun e w' => (∃ l : Int, e = .returned (.int .i64 l)) ∧ w = w' := by
  go_enter Try.func49, Try.ntmps49
  go_wp2
  go_ret
  exact ⟨⟨_, rfl⟩, rfl⟩
theorem len_2 (w : World) : Calls Try.prog 38 #[.int .u64 2] w fun e w' => (∃ l : Int, e = .returned (.int .i64 l)) ∧ w = w' := by
  have H := Lib.hid (fun w => len64_2 w)
  go_enter Try.func38, Try.ntmps38
  go_wp2_with fail
  refine (H.out _).mono ?_
  rintro e w1 ⟨⟨l, rfl⟩, rfl⟩
  go_wp2
  go_ret
  exact ⟨⟨_, rfl⟩, rfl⟩
end Go.Proofs.Ytbfklpopodmalaa
