/- The lanes that a tool touches: what the reference answers. -/
import Derived.Test.YtlgpnjbhmoomfaaFJ
import Derived.Test.YtlgpnjbhmoomfaaKJ
namespace Go.Proofs.Ytlgpnjbhmoomfaa
open Go.RowKit

def ints (l : List Nat) : List Int := l.map Int.ofNat
theorem tchs_next (l : List Nat) (a b k : Nat) : ints (tchs l a b (k + 1)) = ints (tchs l a b k) ++ (if tchB l a b k = true then [(k : Int)] else []) := by
  unfold tchs ints
  rw [List.range_succ, List.filter_append, List.map_append]
  congr 1
  by_cases h : tchB l a b k = true
  · rw [if_pos h]; simp [h]
  · rw [if_neg h]; simp [h]
theorem tchs_len (l : List Nat) (a b k : Nat) : (ints (tchs l a b k)).length ≤ k := by
  unfold tchs ints
  rw [List.length_map]
  have := List.length_filter_le (tchB l a b) (List.range k)
  rw [List.length_range] at this
  exact this
theorem sub_le_add (x r a q : Nat) (h64 : r < 18446744073709551616) (hx : ¬ nan x) (hr : ¬ nan r) (h0 : 0 ≤ vf r) (es : Ieee.double.sub x r = some a) (ea : Ieee.double.add x r = some q) : ¬ nan a ∧ ¬ nan q ∧ vf a ≤ vf x ∧ vf x ≤ vf q := by
  have h1 : ¬ clashS x r := fun h => by rw [sub_none x r h64 (.inr (.inr h))] at es; cases es
  have h2 : ¬ clash x r := fun h => by rw [add_none x r (.inr (.inr h))] at ea; cases ea
  obtain ⟨p, e1, n1, _, v1⟩ := sub_some x r h64 hx hr h1
  obtain ⟨p2, e2, n2, _, v2⟩ := add_some x r hx hr h2
  rw [es] at e1
  rw [ea] at e2
  cases e1
  cases e2
  have hz : xv 0 = 0 := by
    unfold xv
    have : rg 0 = 0 := rfl
    rw [this, rw_0]
    unfold sg
    split <;> rfl
  have n0 : ¬ nan 0 := by unfold nan; omega
  have v0 : vf 0 = 0 := by
    have := RI_xv 0 n0
    rw [hz] at this
    rw [← this]
    unfold RI sg
    rw [if_neg (by decide)]
    exact congrArg _ R_0
  have hp : 0 ≤ xv r := by
    have := xv_mono n0 hr (by rw [v0]; exact h0)
    rw [hz] at this
    exact this
  have hxx := RI_xv x hx
  refine ⟨n1, n2, ?_, ?_⟩
  · rw [v1, ← hxx]; exact RI_mono (by omega)
  · rw [v2, ← hxx]; exact RI_mono (by omega)
theorem vf_0 : vf 0 = 0 := by
  unfold vf sg rg sb
  rfl
theorem ltb_0 (r : Nat) (hr : ¬ nan r) (h : ltb r 0 = false) : 0 ≤ vf r := by
  have n0 : ¬ nan 0 := by unfold nan; omega
  rw [ltb_num hr n0, vf_0, decide_eq_false_iff_not] at h
  omega
theorem rch_bad (l : List Nat) (x r : Nat) (hz : chkE l ≠ 0) : rch l x r = (0, 0, chkE l) := by unfold rch; rw [if_neg hz]
theorem rch_nan (l : List Nat) (x r : Nat) (hz : chkE l = 0) (h : nanb x = true ∨ nanb r = true) : rch l x r = (0, 0, 20) := by unfold rch; rw [if_pos hz, if_pos h]
theorem rch_neg (l : List Nat) (x r : Nat) (hz : chkE l = 0) (hx : nanb x = false) (hy : nanb r = false) (hl : ltb r 0 = true) : rch l x r = (0, 0, 22) := by unfold rch; rw [if_pos hz, if_neg (by rw [hx, hy]; simp), if_pos hl]
theorem rch_none (l : List Nat) (x r : Nat) (hz : chkE l = 0) (hx : nanb x = false) (hy : nanb r = false) (hl : ltb r 0 = false) (h : Ieee.double.sub x r = none ∨ Ieee.double.add x r = none) : rch l x r = (0, 0, 20) := by
  unfold rch
  rw [if_pos hz, if_neg (by rw [hx, hy]; simp), if_neg (by rw [hl]; simp)]
  rcases h with h | h
  · rw [h]
  · rw [h]
    cases Ieee.double.sub x r <;> rfl
theorem rch_some (l : List Nat) (x r a b : Nat) (hz : chkE l = 0) (hx : nanb x = false) (hy : nanb r = false) (hl : ltb r 0 = false) (h1 : Ieee.double.sub x r = some a) (h2 : Ieee.double.add x r = some b) : rch l x r = (tLo l a b, tHi l a b, tEr l a b) := by
  unfold rch
  rw [if_pos hz, if_neg (by rw [hx, hy]; simp), if_neg (by rw [hl]; simp), h1, h2]
end Go.Proofs.Ytlgpnjbhmoomfaa
