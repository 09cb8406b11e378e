/- A lane's width; is a lane touched: what the program and the reference answer. -/
import Derived.Test.YtlgpnjbhmoomfaaFH
namespace Go.Proofs.Ytlgpnjbhmoomfaa
open Go.RowKit

def widV (l : List Nat) (k : Int) : Nat := if chkE l = 0 ∧ 0 ≤ k ∧ k + 1 < l.length then (Ieee.double.sub (l.getD (k.toNat + 1) 0) (l.getD k.toNat 0)).getD 0 else 0
theorem wid_some (l : List Nat) (h : Rise l) (j : Nat) (hj : j + 1 < l.length) (h64 : l.getD j 0 < 18446744073709551616) : ∃ p, Ieee.double.sub (l.getD (j + 1) 0) (l.getD j 0) = some p := by
  have hn : ¬ clashS (l.getD (j + 1) 0) (l.getD j 0) := by
    rintro ⟨h1, h2, h3⟩
    have := h.lt j (j + 1) (by omega) hj
    unfold vf at this
    rw [h1, h2, h3] at this
    omega
  obtain ⟨p, hp, _⟩ := sub_some _ _ h64 (h.num _ hj) (h.num _ (by omega)) hn
  exact ⟨p, hp⟩
set_option maxHeartbeats 2000000 in
theorem touches_any (b off cap n : Nat) (xs : List Nat) (hn : xs.length = n + 2) (hm : n ≤ 23) (w : World) (hcell : ∀ i, i < xs.length → w.cell? ⟨b, off + i, none⟩ = some (.float .f64 (xs.getD i 0))) (k : Nat) (hk : k ≤ n) (p q : Nat) :
    Calls Try.prog 90 #[.slice (some ⟨b, off, none⟩) xs.length cap, .int .i64 k, .float .f64 p, .float .f64 q] w fun e w' => e = .returned (.bool (tchB xs p q k)) ∧ w = w' := by
  have olt : ∀ a b, (FloatKind.f64.format.order a b == some .lt) = ltb a b := fun _ _ => rfl
  have ogt : ∀ a b, (FloatKind.f64.format.order a b == some .gt) = gtb a b := fun _ _ => rfl
  have oge : ∀ a b, (gtb a b || FloatKind.f64.format.order a b == some .eq) = geb a b := fun _ _ => rfl
  have ole : ∀ a b, (ltb a b || FloatKind.f64.format.order a b == some .eq) = leb a b := fun _ _ => rfl
  have c0 := hcell k (by omega)
  have c1 := hcell (k + 1) (by omega)
  have HT := Lib.hid (show tchB xs p q k = ((if k + 2 = xs.length then leb p (xs.getD (k + 1) 0) else ltb p (xs.getD (k + 1) 0)) && geb q (xs.getD k 0)) from rfl)
  clear hcell
  by_cases he : k = n
  · subst he
    rw [HT.out, if_pos hn.symm]
    clear HT
    rw [hn]
    clear hn
    generalize xs.getD (k + 1) 0 = f1 at *
    generalize xs.getD k 0 = f0 at *
    rcases Bool.eq_false_or_eq_true (leb p f1) with g | g
    all_goals
      rw [g]
      go_enter Try.func90, Try.ntmps90
      go_wp2
      go_ret
      exact ⟨ret_b (by simp), rfl⟩
  · rw [HT.out, if_neg (by omega)]
    clear HT
    rw [hn]
    clear hn
    generalize xs.getD (k + 1) 0 = f1 at *
    generalize xs.getD k 0 = f0 at *
    rcases Bool.eq_false_or_eq_true (ltb p f1) with g | g
    all_goals
      rw [g]
      go_enter Try.func90, Try.ntmps90
      go_wp2
      go_ret
      exact ⟨ret_b (by simp), rfl⟩
end Go.Proofs.Ytlgpnjbhmoomfaa
