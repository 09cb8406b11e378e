/- Owners: the first number of a list of which something holds, whatever is asked of it. -/
import Derived.Test.YtacjonncakhhmaaKJ
namespace Go.Proofs.Ytacjonncakhhmaa
open Go.RowKit

/-- The first number of a list of which something holds. -/
def fstN (p : Int → Bool) : List Int → Int × Bool
  | [] => (0, false)
  | x :: r => if p x then (x, true) else fstN p r
theorem fstN_hit (p : Int → Bool) (xs : List Int) (k : Nat) (hk : k < xs.length) (hp : p (xs.getD k 0) = true) (h : ∀ j, j < k → p (xs.getD j 0) = false) : fstN p xs = (xs.getD k 0, true) := by
  induction xs generalizing k with
  | nil => simp at hk
  | cons x r ih =>
    cases k with
    | zero => simp only [List.getD_cons_zero] at hp ⊢; simp [fstN, hp]
    | succ k =>
      have h0 := h 0 (by omega)
      simp only [List.getD_cons_zero] at h0
      simp only [List.getD_cons_succ] at hp ⊢
      have := ih k (by simpa using hk) hp (fun j hj => by have := h (j + 1) (by omega); simpa using this)
      simp [fstN, h0, this]
theorem fstN_none (p : Int → Bool) (xs : List Int) (h : ∀ j, j < xs.length → p (xs.getD j 0) = false) : fstN p xs = (0, false) := by
  induction xs with
  | nil => rfl
  | cons x r ih =>
    have h0 := h 0 (by simp)
    simp only [List.getD_cons_zero] at h0
    have := ih (fun j hj => by have := h (j + 1) (by simpa using hj); simpa using this)
    simp [fstN, h0, this]
theorem fstN_snd (p : Int → Bool) (xs : List Int) : (fstN p xs).2 = xs.any p := by
  induction xs with
  | nil => rfl
  | cons x r ih => by_cases h : p x = true <;> simp [fstN, h, ih]
abbrev fsV (x : Int × Bool) : Value := .tuple #[.int .i64 x.1, .bool x.2]
/-- What a function that is handed on is asked: an answer, and memory as it was. -/
def Tells (P : Program) (w : World) (k : Nat) (cap : Array Value) (xs : List Int) (p : Int → Bool) : Prop :=
  ∀ w', Below w.heap.size w w' → ∀ x ∈ xs, Calls P k (#[.int .i64 x] ++ cap) w' fun e w'' => e = .returned (.bool (p x)) ∧ Below w'.heap.size w' w''

set_option maxRecDepth 100000 in
set_option maxHeartbeats 2000000 in
theorem first_any (v : Value) (xs : List Int) (k : Nat) (cap : Array Value) (p : Int → Bool) (w : World) (hv : KI.IsL w w.heap.size v xs) (hen : ∀ args w, (callFunc k args).run Try.prog w = .ok (.enter k args) w) (hp : Tells Try.prog w k cap xs p) : Calls Try.prog 72 #[v, .func (.func k) #[] cap] w fun e w' => e = .returned (fsV (fstN p xs)) ∧ Below w.heap.size w w' := by
  have HV := Lib.hid hv
  have HP := Lib.hid hp
  obtain ⟨⟨A, c, rfl, hc, _⟩, _, hl⟩ := hv
  clear hp
  go_enter Try.func72, Try.ntmps72
  go_wp2
  go_loopw [10] (fun i wr => ∃ k : Nat, i = .int .i64 k ∧ k ≤ xs.length ∧ (∀ j, j < k → p (xs.getD j 0) = false) ∧ Below w.heap.size w wr) (fun i _ => xs.length - (intOf i).toNat)
  case atStart => exact ⟨0, rfl, Nat.zero_le _, fun j hj => absurd hj (Nat.not_lt_zero _), Below.refl _ _⟩
  case round =>
    obtain ⟨i, rfl, hk, hkp, hbl⟩ := hrel
    have HB := Lib.hid hbl
    have HK := Lib.hid hkp
    clear hkp hbl
    by_cases hlt : i < xs.length
    · obtain ⟨b, off, cap', hs, _, hb, _, hcell, _⟩ := KI.cells (HV.out.below HB.out) (by omega)
      simp only [Value.slice.injEq] at hs
      obtain ⟨rfl, _, rfl⟩ := hs
      have e1 := hcell i hlt
      clear hcell
      have HA := Lib.hid (HP.out wr HB.out _ (getD_mem' xs i 0 hlt))
      obtain ⟨x, hx⟩ : ∃ x, xs.getD i 0 = x := ⟨_, rfl⟩
      rw [hx] at HA e1
      have HX := Lib.hid hx
      clear hx
      obtain ⟨q, hq⟩ : ∃ q, p x = q := ⟨_, rfl⟩
      rw [hq] at HA
      have HQ := Lib.hid hq
      clear hq
      have hbw : b < wr.heap.size := Nat.lt_of_lt_of_le hb HB.out.size
      go_wp2_with fail
      refine HA.out.mono ?_
      rintro e w2 ⟨rfl, hb2⟩
      have HB2 := Lib.hid (Below.call HB.out hb2)
      clear hb2 e1
      cases q
      · go_wp2
        go_roundw
        case rel => exact ⟨i + 1, num_i (by omega), by omega, fun j hj => by
          by_cases h : j = i
          · subst h; rw [HX.out]; exact HQ.out
          · exact HK.out j (by omega), HB2.out⟩
        case measure => simp [intOf]; omega
      · go_wp2
        go_ret2
        refine ⟨?_, HB2.out⟩
        rw [fstN_hit p xs i hlt (by rw [HX.out]; exact HQ.out) HK.out, HX.out]
        try rfl
    · go_wp2
      go_ret2
      refine ⟨?_, HB.out⟩
      rw [fstN_none p xs fun j hj => HK.out j (by omega)]
      rfl
end Go.Proofs.Ytacjonncakhhmaa
