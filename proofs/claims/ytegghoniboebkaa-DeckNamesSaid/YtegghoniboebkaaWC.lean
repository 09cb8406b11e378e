/- The row that the letters at a text's beginning name. -/
import Derived.Test.YtegghoniboebkaaWB
namespace Go.Proofs.Ytegghoniboebkaa
open Go.RowKit
theorem ret_it {a c : Int} {b d : ByteArray} (h : a = c) (k : b = d) : Ending.returned (.tuple #[.int .i64 a, .string b]) = .returned (.tuple #[.int .i64 c, .string d]) := by rw [h, k]
theorem IsT.dropk {s : ByteArray} {l : List UInt8} (h : IsT s l) (k : Nat) : IsT (s.extract k l.length) (l.drop k) := by
  constructor
  rw [h.eq, ByteArray.extract_mk, List.take_of_length_le (by rw [List.length_drop]; omega)]
def isLt (c : UInt8) : Bool := decide (65 ≤ c.toNat ∧ c.toNat ≤ 90)
/-- How many letters a text begins with, two at most. -/
def rowK (l : List UInt8) : Nat := if 0 < l.length then (if isLt (l.getD 0 0) then (if 1 < l.length then (if isLt (l.getD 1 0) then 2 else 1) else 1) else 0) else 0
/-- The row that the first k letters name. -/
def rowP (l : List UInt8) : Nat → Int
  | 0 => -1
  | k + 1 => (rowP l k + 1) * 26 + ((l.getD k 0).toNat - 65)
def rowV (l : List UInt8) : Int := rowP l (rowK l)
theorem rowK_le (l : List UInt8) : rowK l ≤ 2 ∧ rowK l ≤ l.length := by
  unfold rowK
  split
  · split
    · split
      · split <;> omega
      · omega
    · omega
  · omega
theorem rowK_stop (l : List UInt8) (k : Nat) (hk : k ≤ 2) (hl : k ≤ l.length) (hall : ∀ i, i < k → isLt (l.getD i 0) = true) (hst : k = 2 ∨ k = l.length ∨ isLt (l.getD k 0) = false) : rowK l = k := by
  have h0 := hall 0
  have h1 := hall 1
  unfold rowK
  have : k = 0 ∨ k = 1 ∨ k = 2 := by omega
  rcases this with rfl | rfl | rfl
  · rcases hst with h | h | h
    · omega
    · rw [if_neg (by omega)]
    · split
      · rw [h]; rfl
      · rfl
  · rw [if_pos (by omega), h0 (by omega), if_pos rfl]
    rcases hst with h | h | h
    · omega
    · rw [if_neg (by omega)]
    · split
      · rw [h]; rfl
      · rfl
  · rw [if_pos (by omega), h0 (by omega), if_pos rfl, if_pos (by omega), h1 (by omega), if_pos rfl]
theorem rowP_bd (l : List UInt8) (k : Nat) (hk : k ≤ 2) (hall : ∀ i, i < k → isLt (l.getD i 0) = true) : -1 ≤ rowP l k ∧ rowP l k ≤ 701 := by
  have h0 := hall 0
  have h1 := hall 1
  unfold isLt at h0 h1
  simp only [decide_eq_true_eq] at h0 h1
  have : k = 0 ∨ k = 1 ∨ k = 2 := by omega
  rcases this with rfl | rfl | rfl
  · simp [rowP]
  · have := h0 (by omega); simp only [rowP]; omega
  · have := h0 (by omega); have := h1 (by omega); simp only [rowP]; omega
set_option maxRecDepth 100000 in
set_option maxHeartbeats 2000000 in
theorem rowOf_any (s : ByteArray) (l : List UInt8) (hs : IsT s l) (hsz : l.length ≤ 9223372036854775807) (w : World) : Calls Try.prog 76 #[.string s] w fun e w' => e = .returned (.tuple #[.int .i64 (rowV l), .string ⟨(l.drop (rowK l)).toArray⟩]) ∧ Below w.heap.size w w' := by
  have HS := Lib.hid hs
  have hz := hs.size
  have HZ := Lib.hid hz
  have hat : ∀ k (h : k < s.size), (s[k]'h) = l.getD k 0 := fun k h => by
    have e := hs.eq
    subst e
    rw [List.getD_eq_getElem?_getD, List.getElem?_eq_getElem (by rw [← hz]; exact h)]
    rfl
  have HAT := Lib.hid hat
  clear hs hz hat
  go_enter Try.func76, Try.ntmps76
  go_wp2
  go_loopw [4] (fun r wr => ∃ k : Nat, k ≤ 2 ∧ k ≤ l.length ∧ (∀ i, i < k → isLt (l.getD i 0) = true) ∧ r = .int .i64 (rowP l k) ∧ wr = w.iter s k) (fun _ wr => s.size - wr.iterPos w.heap.size)
  case atStart => exact ⟨0, by omega, by omega, fun i hi => absurd hi (by omega), rfl, rfl⟩
  case round =>
    obtain ⟨k, hk2, hkl, hall, rfl, rfl⟩ := hrel
    have HALL := Lib.hid hall
    have hbd := rowP_bd l k hk2 hall
    clear hall
    by_cases hlt : k < s.size
    · have hx := HAT.out k hlt
      have hkl2 : k < l.length := by have := HZ.out; omega
      by_cases ha : (s[k]'hlt).toNat < 128
      · have hn := fun ty => run_next_ascii (P := Try.prog) w s k ty hlt ha
        rw [hx] at hn ha
        have HN := Lib.hid (fun (h : isLt (l.getD k 0) = true) (i : Nat) (hi : i < k + 1) => show isLt (l.getD i 0) = true by
          rcases Nat.lt_or_ge i k with h2 | h2
          · exact HALL.out i h2
          · obtain rfl : i = k := by omega
            exact h)
        have HST := Lib.hid (fun (h : k = 2 ∨ k = l.length ∨ isLt (l.getD k 0) = false) => rowK_stop l k hk2 hkl HALL.out h)
        have HP := Lib.hid (show rowP l (k + 1) = (rowP l k + 1) * 26 + (((l.getD k 0).toNat : Int) - 65) from rfl)
        have HIL := Lib.hid (show isLt (l.getD k 0) = decide (65 ≤ (l.getD k 0).toNat ∧ (l.getD k 0).toNat ≤ 90) from rfl)
        have HRV := Lib.hid (show rowK l = k → rowV l = rowP l k from fun e => by rw [rowV, e])
        have HDR := Lib.hid (show s.extract k s.size = ⟨(l.drop k).toArray⟩ by rw [HZ.out]; exact (HS.out.dropk k).eq)
        clear hx
        generalize l.getD k 0 = c at *
        generalize rowP l k = r at *
        have hk0 : (0 : Int) ≤ (k : Int) := by omega
        have hks : (k : Int) ≤ (s.size : Int) := by omega
        go_wp2
        · have hst : k = 2 := by
            have h1 := ‹((c.toNat : Int) < 65 ∨ 90 < (c.toNat : Int)) ∨ ((k : Int) == 2) = true›
            rcases h1 with h1 | h1
            · omega
            · have := beq_iff_eq.1 h1; omega
          have HKE := Lib.hid (HST.out (.inl hst))
          clear hst
          go_quiet (fail)
          go_wp2
          go_ret2
          exact ⟨ret_it (HRV.out HKE.out).symm (by rw [HKE.out, HDR.out]), below_drewN (Below.al (Below.refl _ _) _) nq⟩
        · have hk3 : ¬ k = 2 := by
            have h1 := ‹(65 ≤ (c.toNat : Int) ∧ (c.toNat : Int) ≤ 90) ∧ ((k : Int) == 2) = false›
            intro e
            subst e
            exact absurd h1.2 (by decide)
          go_roundw
          case rel => exact ⟨k + 1, by omega, by omega, HN.out (by rw [HIL.out]; simp; omega), by rw [HP.out], rfl⟩
          case measure => simp; omega
        · have hst : decide (65 ≤ c.toNat ∧ c.toNat ≤ 90) = false := by (rw [decide_eq_false_iff_not]; omega)
          have HKE := Lib.hid (HST.out (.inr (.inr (HIL.out.trans hst))))
          clear hst
          go_quiet (fail)
          go_wp2
          go_ret2
          exact ⟨ret_it (HRV.out HKE.out).symm (by rw [HKE.out, HDR.out]), below_drewN (Below.al (Below.refl _ _) _) nq⟩
        · have hst : decide (65 ≤ c.toNat ∧ c.toNat ≤ 90) = false := by (rw [decide_eq_false_iff_not]; omega)
          have HKE := Lib.hid (HST.out (.inr (.inr (HIL.out.trans hst))))
          clear hst
          go_quiet (fail)
          go_wp2
          go_ret2
          exact ⟨ret_it (HRV.out HKE.out).symm (by rw [HKE.out, HDR.out]), below_drewN (Below.al (Below.refl _ _) _) nq⟩
      · obtain ⟨hr1, _⟩ := decode_high s k hlt (by omega)
        have hr2 := decode_le s k
        have hn := fun ty => run_next_any (P := Try.prog) w s k ty hlt
        rw [hx] at ha
        have HST := Lib.hid (rowK_stop l k hk2 hkl HALL.out (.inr (.inr (by rw [isLt, decide_eq_false_iff_not]; omega))))
        have HRV := Lib.hid (show rowK l = k → rowV l = rowP l k from fun e => by rw [rowV, e])
        have HDR := Lib.hid (show s.extract k s.size = ⟨(l.drop k).toArray⟩ by rw [HZ.out]; exact (HS.out.dropk k).eq)
        have hk0 : (0 : Int) ≤ (k : Int) := by omega
        have hks : (k : Int) ≤ (s.size : Int) := by omega
        have hd1 : decide (((Utf8.decode s k).1 : Int) < 65) = false := by (rw [decide_eq_false_iff_not]; omega)
        have hd2 : decide ((90 : Int) < ((Utf8.decode s k).1 : Int)) = true := by (rw [decide_eq_true_eq]; omega)
        generalize (Utf8.decode s k).1 = c at *
        generalize (Utf8.decode s k).2 = wd at *
        generalize rowP l k = r at *
        clear ha hx
        go_wp2
        go_quiet (fail)
        go_wp2
        go_ret2
        exact ⟨ret_it (HRV.out HST.out).symm (by rw [HST.out, HDR.out]), below_drewN (Below.al (Below.refl _ _) _) nq⟩
    · have hkl2 : k = l.length := by have := HZ.out; omega
      have hn := fun ty => run_next_end (P := Try.prog) w s k ty hlt
      have HST := Lib.hid (rowK_stop l k hk2 hkl HALL.out (.inr (.inl hkl2)))
      have HRV := Lib.hid (show rowK l = k → rowV l = rowP l k from fun e => by rw [rowV, e])
      have HDR := Lib.hid (show l.drop k = [] by rw [hkl2, List.drop_length])
      generalize rowP l k = r at *
      clear hkl2
      go_wp2
      go_ret2
      exact ⟨ret_it (HRV.out HST.out).symm (by rw [HST.out, HDR.out]), Below.al (Below.refl _ _) _⟩
end Go.Proofs.Ytegghoniboebkaa
