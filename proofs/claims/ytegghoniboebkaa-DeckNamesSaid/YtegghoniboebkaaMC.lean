/- Digits read, as plain mathematics: what a text stands for; a text has one form only. -/
import Derived.Test.YtegghoniboebkaaMB
namespace Go.Proofs.Ytegghoniboebkaa

/-- Is a sign a digit? -/
def isd (c : UInt8) : Bool := decide (48 ≤ c.toNat) && decide (c.toNat ≤ 57)
/-- What digits stand for. -/
def val (l : List UInt8) : Nat := l.foldl (fun a c => 10 * a + (c.toNat - 48)) 0
/-- Up to 19 digits read. -/
def rd (l : List UInt8) : Option Nat := if 1 ≤ l.length ∧ l.length ≤ 19 ∧ l.all isd = true then some (val l) else none

theorem snoc_ind {α : Type} {p : List α → Prop} (h0 : p []) (h1 : ∀ l c, p l → p (l ++ [c])) (l : List α) : p l := by
  suffices h : ∀ r : List α, p r.reverse by
    have := h l.reverse
    rwa [List.reverse_reverse] at this
  intro r
  induction r with
  | nil => exact h0
  | cons c r ih => rw [List.reverse_cons]; exact h1 _ _ ih
theorem val_snoc (l : List UInt8) (c : UInt8) : val (l ++ [c]) = 10 * val l + (c.toNat - 48) := by
  unfold val; rw [List.foldl_append]; rfl
theorem isd_iff (c : UInt8) : isd c = true ↔ 48 ≤ c.toNat ∧ c.toNat ≤ 57 := by unfold isd; simp
theorem isd_dg (k : Nat) (h : k < 10) : isd (dg k) = true := by rw [isd_iff, dg_toNat k h]; omega
theorem dg_of (c : UInt8) (h : isd c = true) : dg (c.toNat - 48) = c := by
  obtain ⟨h0, h1⟩ := (isd_iff c).1 h
  apply UInt8.toNat_inj.1
  rw [dg_toNat _ (by omega)]
  omega
theorem val_dig : ∀ b n : Nat, n ≤ b → val (dig n) = n := by
  intro b
  induction b with
  | zero => intro n h; obtain rfl : n = 0 := by omega
            rw [dig_small 0 (by decide)]; rfl
  | succ b ih =>
    intro n h
    by_cases h10 : n < 10
    · rw [dig_small n h10]
      have e := val_snoc [] (dg n)
      rw [List.nil_append, dg_toNat n h10] at e
      rw [e]
      simp [val]
    · rw [dig_great n h10, val_snoc, ih (n / 10) (by omega), dg_toNat _ (by omega)]
      omega
theorem dig_all : ∀ b n : Nat, n ≤ b → (dig n).all isd = true := by
  intro b
  induction b with
  | zero => intro n h; obtain rfl : n = 0 := by omega
            rw [dig_small 0 (by decide)]; rfl
  | succ b ih =>
    intro n h
    by_cases h10 : n < 10
    · rw [dig_small n h10, List.all_cons, isd_dg n h10]; rfl
    · rw [dig_great n h10, List.all_append, ih (n / 10) (by omega), List.all_cons, isd_dg _ (by omega)]; rfl
theorem dig_head : ∀ b n : Nat, n ≤ b → (dig n).head? = some 48 → n = 0 := by
  intro b
  induction b with
  | zero => intro n h _; omega
  | succ b ih =>
    intro n h hh
    by_cases h10 : n < 10
    · rw [dig_small n h10] at hh
      have e : dg n = 48 := by simpa using hh
      have e2 := dg_toNat n h10
      rw [e] at e2
      have : (48 : UInt8).toNat = 48 := rfl
      omega
    · rw [dig_great n h10, List.head?_append] at hh
      have hp := dig_pos (n / 10)
      obtain ⟨x, r, hx⟩ : ∃ x r, dig (n / 10) = x :: r := by
        match hd : dig (n / 10) with
        | [] => rw [hd] at hp; simp at hp
        | x :: r => exact ⟨x, r, rfl⟩
      have := ih (n / 10) (by omega) (by rw [hx] at hh ⊢; simpa using hh)
      omega
theorem val_lt (l : List UInt8) (h : l.all isd = true) : val l < 10 ^ l.length := by
  revert h
  refine snoc_ind (p := fun l => l.all isd = true → val l < 10 ^ l.length) ?_ ?_ l
  · intro _; simp [val]
  · intro l c ih h
    rw [List.all_append, Bool.and_eq_true] at h
    have := ih h.1
    have hc := (isd_iff c).1 (by simpa using h.2)
    rw [val_snoc, List.length_append, List.length_cons, List.length_nil, Nat.pow_succ]
    omega
theorem dig_val (l : List UInt8) (h : l.all isd = true) (h1 : 1 ≤ l.length) (h0 : l.head? ≠ some 48 ∨ l.length = 1) : dig (val l) = l := by
  revert h h1 h0
  refine snoc_ind (p := fun l => l.all isd = true → 1 ≤ l.length → (l.head? ≠ some 48 ∨ l.length = 1) → dig (val l) = l) ?_ ?_ l
  · intro _ h1 _; simp at h1
  · intro l c ih h h1 h0
    rw [List.all_append, Bool.and_eq_true] at h
    have hci : isd c = true := by simpa using h.2
    have hc := (isd_iff c).1 hci
    rw [val_snoc]
    by_cases hl : l = []
    · subst hl
      have : val [] = 0 := rfl
      rw [this, dig_small _ (by omega), List.nil_append, Nat.mul_zero, Nat.zero_add, dg_of c hci]
    · have hlen : 1 ≤ l.length := by
        rcases Nat.eq_zero_or_pos l.length with h | h
        · exact absurd (List.eq_nil_of_length_eq_zero h) hl
        · exact h
      have hh : l.head? ≠ some 48 := by
        rcases h0 with h0 | h0
        · intro hx
          apply h0
          rw [List.head?_append, hx]; rfl
        · rw [List.length_append, List.length_cons, List.length_nil] at h0; omega
      have e := ih h.1 hlen (Or.inl hh)
      have hv : val l ≠ 0 := by
        intro hv
        rw [hv, dig_small 0 (by decide)] at e
        rw [← e] at hh
        exact hh rfl
      rw [dig_great _ (by omega), show (10 * val l + (c.toNat - 48)) / 10 = val l by omega, e, show (10 * val l + (c.toNat - 48)) % 10 = c.toNat - 48 by omega, dg_of c hci]
theorem rd_dig (n : Nat) (h : n ≤ 9223372036854775808) : rd (dig n) = some n := by
  rw [rd, if_pos ⟨dig_pos n, dig_19 n h, dig_all n n (Nat.le_refl _)⟩, val_dig n n (Nat.le_refl _)]
end Go.Proofs.Ytegghoniboebkaa
