/- Logs that are noted into: the volumes that there were, told back: plain words. -/
import Derived.Test.YtdghekhkjkkgfaaVO
namespace Go.Proofs.Ytdghekhkjkkgfaa
open Go.RowKit

/-- A log that was noted into, and the volumes that there were. -/
structure Bk (r : Int) (k j : Nat) (L : List Ch) (o : Int) (had : List Int) : Prop where
  right : rgB r j L = true
  le : j ≤ k
  len : had.length = j + 1
  small : L.length = min j r.toNat
  lo : -(1099511627776 * (k : Int)) ≤ o
  hi : o ≤ 1099511627776 * ((k : Int) + 1)
  ok : ∀ x ∈ had, fits x
  back : ∀ v : Nat, v ≤ j → j - v ≤ L.length → had.getD v 0 = o - gS Ch.c (L.drop (L.length - (j - v)))
theorem gS_append (f : Ch → Int) (xs ys : List Ch) : gS f (xs ++ ys) = gS f xs + gS f ys := by
  unfold gS
  rw [List.map_append, List.sum_append]
theorem Bk.start (r o : Int) (h1 : 1 ≤ r) (h2 : r ≤ 64) (h3 : 0 ≤ o) (h4 : o ≤ 1099511627776) : Bk r 0 0 [] o [o] where
  right := by
    rw [rg_yes (show rgC r ((0 : Nat) : Int) ([] : List Ch).length by unfold rgC; simp only [List.length_nil]; omega)]
    rfl
  le := Nat.le_refl _
  len := rfl
  small := by simp
  lo := by omega
  hi := by omega
  ok x hx := by
    rw [List.mem_singleton] at hx
    subst hx
    unfold fits
    omega
  back v hv _ := by
    obtain rfl : v = 0 := by omega
    simp [gS]
theorem Bk.skip {r : Int} {k j : Nat} {L : List Ch} {o : Int} {had : List Int} (h : Bk r k j L o had) : Bk r (k + 1) j L o had :=
  ⟨h.right, Nat.le_succ_of_le h.le, h.len, h.small, by have := h.lo; omega, by have := h.hi; omega, h.ok, h.back⟩
/-- May a change be noted into such a log? -/
theorem Bk.nt {r : Int} {k j : Nat} {L : List Ch} {o : Int} {had : List Int} (h : Bk r k j L o had) (hk : k ≤ 300) (b n : Int) : ntE r j L b n = if mayB b n = true then 0 else 1 := by
  unfold ntE
  rw [h.right, if_neg (by decide)]
  cases hm : mayB b n
  · rfl
  · rw [if_neg (by decide), if_neg (by have := h.le; omega)]
    rfl
theorem Bk.step {r : Int} {k j : Nat} {L : List Ch} {o : Int} {had : List Int} (h : Bk r k j L o had) (hk : k ≤ 300) (b n : Int) (hm : mayB b n = true) : Bk r (k + 1) (j + 1) (ntL r j L b n) (o + n) (had ++ [o + n]) := by
  have hE : ntE r j L b n = 0 := by rw [h.nt hk, if_pos hm]
  have hn := of_decide_eq_true hm
  obtain ⟨⟨g0, g1, g2, g3, g4, g5⟩, _⟩ := rg_parts h.right
  have hsm := h.small
  have hle := h.le
  have hlo := h.lo
  have hhi := h.hi
  obtain ⟨m, hmm⟩ : ∃ m, m = min L.length (r - 1).toNat := ⟨_, rfl⟩
  have hlen : (ntL r j L b n).length = m + 1 := by
    unfold ntL
    rw [List.length_append, List.length_drop, ← hmm]
    simp only [List.length_cons, List.length_nil]
    omega
  refine ⟨?_, by omega, by rw [List.length_append, h.len]; rfl, by rw [hlen]; omega, by omega, by omega, fun x hx => ?_, fun v hv hv2 => ?_⟩
  · have q := nt_right hE
    rw [show ((j + 1 : Nat) : Int) = (j : Int) + 1 by omega]
    exact q
  · rcases List.mem_append.1 hx with hx | hx
    · exact h.ok x hx
    · rw [List.mem_singleton] at hx
      subst hx
      unfold fits
      omega
  · rw [hlen] at hv2 ⊢
    by_cases hvj : v = j + 1
    · subst hvj
      have e : (had ++ [o + n]).getD (j + 1) 0 = o + n := by
        rw [← h.len]
        simp [List.getD_eq_getElem?_getD]
      rw [e, Nat.sub_self, Nat.sub_zero, ← hlen, List.drop_length]
      simp [gS]
    · have e : (had ++ [o + n]).getD v 0 = had.getD v 0 := by
        rw [List.getD_eq_getElem?_getD, List.getElem?_append_left (by rw [h.len]; omega), ← List.getD_eq_getElem?_getD]
      rw [e, h.back v (by omega) (by omega)]
      have d : (ntL r j L b n).drop (m + 1 - (j + 1 - v)) = L.drop (L.length - (j - v)) ++ [⟨(j : Int) + 1, b, n⟩] := by
        unfold ntL
        rw [← hmm, List.drop_append_of_le_length (by rw [List.length_drop]; omega), List.drop_drop]
        congr 2
        omega
      rw [d, gS_append]
      simp [gS]
      omega
theorem Bk.vol {r : Int} {k j : Nat} {L : List Ch} {o : Int} {had : List Int} (h : Bk r k j L o had) (hk : k ≤ 300) : fits o := by
  have := h.lo
  have := h.hi
  unfold fits
  omega
/-- A version that is kept. -/
theorem Bk.kept {r : Int} {k j : Nat} {L : List Ch} {o : Int} {had : List Int} (h : Bk r k j L o had) (v : Nat) (hv : v ≤ j) (hr : (j : Int) - v ≤ r) : atV r j L o v = had.getD v 0 ∧ atE r j L o v = 0 := by
  obtain ⟨⟨g0, g1, g2, g3, g4, g5⟩, _⟩ := rg_parts h.right
  have hsm := h.small
  have hE : snE r j L v = 0 := by
    unfold snE
    rw [h.right, if_neg (by decide), if_neg (by omega), if_neg (by omega)]
  have e : o - gS Ch.c (snL j L v) = had.getD v 0 := by
    rw [h.back v hv (by omega)]
    unfold snL
    rw [show ((j : Int) - (v : Int)).toNat = j - v by omega]
  have hf : fits (had.getD v 0) := h.ok _ (getD_mem' had v 0 (by rw [h.len]; omega))
  unfold atV atE
  rw [if_pos hE, if_pos hE, e, fitV, fitE, if_pos hf, if_pos hf]
  exact ⟨rfl, rfl⟩
/-- A version that is gone. -/
theorem Bk.gone {r : Int} {k j : Nat} {L : List Ch} {o : Int} {had : List Int} (h : Bk r k j L o had) (v : Nat) (hv : v ≤ j) (hr : r < (j : Int) - v) : atV r j L o v = 0 ∧ atE r j L o v = 111 := by
  obtain ⟨⟨g0, g1, g2, g3, g4, g5⟩, _⟩ := rg_parts h.right
  have hsm := h.small
  have hle := h.le
  have hE : snE r j L v = 111 := by
    unfold snE
    rw [h.right, if_neg (by decide), if_neg (by omega), if_pos (by omega)]
  unfold atV atE
  rw [if_neg (by rw [hE]; decide), if_neg (by rw [hE]; decide), hE]
  exact ⟨rfl, rfl⟩
end Go.Proofs.Ytdghekhkjkkgfaa
